/-
  What the reference tells of two numbers' greatest common divisor, and of a power: both call themselves.
-/
import Derived.Test.YtmbgomljofngnaaDoorEuc
import Derived.Test.YtmbgomljofngnaaDoorRet
namespace Go.Proofs.YtmbgomljofngnaaDoor
open Go.RowKit
set_option linter.unusedVariables false

theorem ret3i {a b c a' b' c' : Int} (h1 : a = a') (h2 : b = b') (h3 : c = c') : Ending.returned (.tuple #[.int .i64 a, .int .i64 b, .int .i64 c]) = .returned (.tuple #[.int .i64 a', .int .i64 b', .int .i64 c']) := by rw [h1, h2, h3]
set_option maxRecDepth 100000 in
set_option maxHeartbeats 1000000 in
theorem raised_any (a b : Int) (h0 : 0 ≤ b) (hm : b ≤ 9223372036854775807) (w : World) : Calls Tryd.prog 43 #[.int .i64 a, .int .i64 b] w fun e w' => e = .returned (.int .i64 (powV a b)) ∧ w' = w := by
  generalize hn : b.toNat = n
  induction n using Nat.strongRecOn generalizing b with
  | _ n ih =>
    by_cases hz : b = 0
    · subst hz
      go_enter Tryd.func43, Tryd.ntmps43
      go_wp2_with fail
      go_ret
      exact ⟨ret1 (by unfold powV; rw [show (0 : Int).toNat = 0 from rfl, Int.pow_zero]; exact (w_small (by decide) (by decide)).symm), rfl⟩
    · have HI : Hid (Calls Tryd.prog 43 #[.int .i64 a, .int .i64 (b / 2)] w fun e w' => e = .returned (.int .i64 (powV a (b / 2))) ∧ w' = w) := ih (b / 2).toNat (by omega) (b / 2) (by omega) (by omega) rfl
      have tz : (b == 0) = false := by simp [hz]
      have hs : ∀ x : Int, x ^ 2 = x * x := fun x => by rw [Int.pow_succ, Int.pow_succ, Int.pow_zero, Int.one_mul]
      by_cases ho : b % 2 = 1
      · have to : (b % 2 == 1) = true := by simp [ho]
        have HP : Hid (wrap64 (wrap64 (powV a (b / 2) * powV a (b / 2)) * a) = powV a b) := by
          show _ = _
          unfold powV
          rw [w_mull, Int.mul_assoc, w_mull, ← w_mulr, w_mull, w_mulr, show b.toNat = (b / 2).toNat + (b / 2).toNat + 1 from by omega, Int.pow_succ, Int.pow_add]
          congr 1
          grind
        clear ih hn ho hs
        go_enter Tryd.func43, Tryd.ntmps43
        go_wp2_with fail
        refine HI.out.mono ?_
        rintro e w1 ⟨rfl, hw⟩
        subst hw
        go_wp2_with fail
        go_ret
        exact ⟨ret1 HP.out, rfl⟩
      · have to : (b % 2 == 1) = false := by simp [ho]
        have HP : Hid (wrap64 (powV a (b / 2) * powV a (b / 2)) = powV a b) := by
          show _ = _
          unfold powV
          rw [w_mull, w_mulr, show b.toNat = (b / 2).toNat + (b / 2).toNat from by omega, Int.pow_add]
        clear ih hn ho hs
        go_enter Tryd.func43, Tryd.ntmps43
        go_wp2_with fail
        refine HI.out.mono ?_
        rintro e w1 ⟨rfl, hw⟩
        subst hw
        go_wp2_with fail
        go_ret
        exact ⟨ret1 HP.out, rfl⟩
end Go.Proofs.YtmbgomljofngnaaDoor
