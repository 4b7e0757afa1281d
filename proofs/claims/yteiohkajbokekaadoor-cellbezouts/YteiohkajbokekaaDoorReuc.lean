/-
  What the reference tells of two numbers' greatest common divisor, and of a power: both call themselves.
-/
import Derived.Test.YteiohkajbokekaaDoorEuc
import Derived.Test.YteiohkajbokekaaDoorRet
namespace Go.Proofs.YteiohkajbokekaaDoor
open Go.RowKit
set_option linter.unusedVariables false

theorem ret3i {a b c a' b' c' : Int} (h1 : a = a') (h2 : b = b') (h3 : c = c') : Ending.returned (.tuple #[.int .i64 a, .int .i64 b, .int .i64 c]) = .returned (.tuple #[.int .i64 a', .int .i64 b', .int .i64 c']) := by rw [h1, h2, h3]
set_option maxRecDepth 100000 in
set_option maxHeartbeats 1000000 in
theorem reuc_any (a b : Int) (ha : In63 a) (hb : In63 b) (w : World) : Calls Tryd.prog 8 #[.int .i64 a, .int .i64 b] w fun e w' => e = .returned (.tuple #[.int .i64 (euc a b).1, .int .i64 (euc a b).2.1, .int .i64 (euc a b).2.2]) ∧ w' = w := by
  induction a, b using euc_ind with
  | h0 a =>
    have HE : Hid (euc a 0 = (a, 1, 0)) := euc_zero a
    clear ha hb
    go_enter Tryd.func8, Tryd.ntmps8
    go_wp2_with fail
    go_ret3
    exact ⟨ret3i (by rw [HE.out]) (by rw [HE.out]) (by rw [HE.out]), rfl⟩
  | h1 a b h ih =>
    have HI : Hid (Calls Tryd.prog 8 #[.int .i64 b, .int .i64 (a.tmod b)] w fun e w' => e = .returned (.tuple #[.int .i64 (euc b (a.tmod b)).1, .int .i64 (euc b (a.tmod b)).2.1, .int .i64 (euc b (a.tmod b)).2.2]) ∧ w' = w) := ih hb (In63.tmod hb h)
    have HE : Hid (euc a b = _) := euc_step a h
    have HQ : Hid (wrap64 (a.tdiv b) = a.tdiv b) := (In63.tdiv ha b).in64.same
    have HT : Hid (wrap64 (a - wrap64 (a.tdiv b * b)) = a.tmod b) := by
      show _ = _
      rw [w_subr, tmod_is]
      exact (In63.tmod hb h).in64.same
    have hz : (b == 0) = false := by simp [h]
    clear ih ha hb
    go_enter Tryd.func8, Tryd.ntmps8
    go_wp2_with fail
    rw [HQ.out, HT.out]
    refine HI.out.mono ?_
    rintro e w1 ⟨rfl, hw⟩
    subst hw
    go_wp2_with fail
    go_ret3
    exact ⟨ret3i (by rw [HE.out]) (by rw [HE.out]) (by rw [HE.out]; rfl), rfl⟩
set_option maxRecDepth 100000 in
set_option maxHeartbeats 1000000 in
theorem raised_any (a b : Int) (h0 : 0 ≤ b) (hm : b ≤ 9223372036854775807) (w : World) : Calls Tryd.prog 11 #[.int .i64 a, .int .i64 b] w fun e w' => e = .returned (.int .i64 (powV a b)) ∧ w' = w := by
  generalize hn : b.toNat = n
  induction n using Nat.strongRecOn generalizing b with
  | _ n ih =>
    by_cases hz : b = 0
    · subst hz
      go_enter Tryd.func11, Tryd.ntmps11
      go_wp2_with fail
      go_ret
      exact ⟨ret1 (by unfold powV; rw [show (0 : Int).toNat = 0 from rfl, Int.pow_zero]; exact (w_small (by decide) (by decide)).symm), rfl⟩
    · have HI : Hid (Calls Tryd.prog 11 #[.int .i64 a, .int .i64 (b / 2)] w fun e w' => e = .returned (.int .i64 (powV a (b / 2))) ∧ w' = w) := ih (b / 2).toNat (by omega) (b / 2) (by omega) (by omega) rfl
      have tz : (b == 0) = false := by simp [hz]
      have hs : ∀ x : Int, x ^ 2 = x * x := fun x => by rw [Int.pow_succ, Int.pow_succ, Int.pow_zero, Int.one_mul]
      by_cases ho : b % 2 = 1
      · have to : (b % 2 == 1) = true := by simp [ho]
        have HP : Hid (wrap64 (wrap64 (powV a (b / 2) * powV a (b / 2)) * a) = powV a b) := by
          show _ = _
          unfold powV
          rw [w_mull, Int.mul_assoc, w_mull, ← w_mulr, w_mull, w_mulr, show b.toNat = (b / 2).toNat + (b / 2).toNat + 1 from by omega, Int.pow_succ, Int.pow_add]
          congr 1
          grind
        clear ih hn ho hs
        go_enter Tryd.func11, Tryd.ntmps11
        go_wp2_with fail
        refine HI.out.mono ?_
        rintro e w1 ⟨rfl, hw⟩
        subst hw
        go_wp2_with fail
        go_ret
        exact ⟨ret1 HP.out, rfl⟩
      · have to : (b % 2 == 1) = false := by simp [ho]
        have HP : Hid (wrap64 (powV a (b / 2) * powV a (b / 2)) = powV a b) := by
          show _ = _
          unfold powV
          rw [w_mull, w_mulr, show b.toNat = (b / 2).toNat + (b / 2).toNat from by omega, Int.pow_add]
        clear ih hn ho hs
        go_enter Tryd.func11, Tryd.ntmps11
        go_wp2_with fail
        refine HI.out.mono ?_
        rintro e w1 ⟨rfl, hw⟩
        subst hw
        go_wp2_with fail
        go_ret
        exact ⟨ret1 HP.out, rfl⟩
end Go.Proofs.YteiohkajbokekaaDoor
