/-
  Rows held against each other by the program: the library's Compare, and the closures over it.
-/
import Derived.Deep.QuietTactic
import Derived.BigQuiet
import Derived.WalkSmall
import Derived.Test.YtmbgomljofngnabRcmp
import Derived.Test.YtmbgomljofngnabChecked
namespace Go.Proofs.Ytmbgomljofngnab
open Go.RowKit
set_option linter.unusedVariables false

def cm3 (x y : Int) : Int := if x < y then -1 else if y < x then 1 else 0
set_option maxRecDepth 100000 in
set_option maxHeartbeats 1000000 in
theorem nan_any (x : Int) (w : World) : Calls Try.prog 78 #[.int .i64 x] w fun e w' => e = .returned (.bool false) ∧ w' = w := by
  go_enter Try.func78, Try.ntmps78
  go_wp2_with fail
  go_ret
  exact ⟨rfl, rfl⟩
set_option maxRecDepth 100000 in
set_option maxHeartbeats 1000000 in
theorem cmpi_any (x y : Int) (w : World) : Calls Try.prog 66 #[.int .i64 x, .int .i64 y] w fun e w' => e = .returned (.int .i64 (cm3 x y)) ∧ w' = w := by
  have H : Hid (∀ z, Calls Try.prog 78 #[.int .i64 z] w fun e w' => e = .returned (.bool false) ∧ w' = w) := fun z => nan_any z w
  by_cases h1 : x < y
  · have HE : Hid (cm3 x y = -1) := by show _ = _; unfold cm3; rw [if_pos h1]
    go_enter Try.func66, Try.ntmps66
    go_wp2_with fail
    refine (H.out x).mono ?_
    rintro e w1 ⟨rfl, rfl⟩
    go_wp2_with fail
    refine (H.out y).mono ?_
    rintro e w2 ⟨rfl, rfl⟩
    go_wp2_with fail
    go_ret
    exact ⟨by rw [HE.out]; rfl, rfl⟩
  · by_cases h2 : y < x
    · have HE : Hid (cm3 x y = 1) := by show _ = _; unfold cm3; rw [if_neg h1, if_pos h2]
      go_enter Try.func66, Try.ntmps66
      go_wp2_with fail
      refine (H.out x).mono ?_
      rintro e w1 ⟨rfl, rfl⟩
      go_wp2_with fail
      refine (H.out y).mono ?_
      rintro e w2 ⟨rfl, rfl⟩
      go_wp2_with fail
      go_ret
      exact ⟨by rw [HE.out]; rfl, rfl⟩
    · have HE : Hid (cm3 x y = 0) := by show _ = _; unfold cm3; rw [if_neg h1, if_neg h2]
      go_enter Try.func66, Try.ntmps66
      go_wp2_with fail
      refine (H.out x).mono ?_
      rintro e w1 ⟨rfl, rfl⟩
      go_wp2_with fail
      refine (H.out y).mono ?_
      rintro e w2 ⟨rfl, rfl⟩
      go_wp2_with fail
      go_ret
      exact ⟨by rw [HE.out]; rfl, rfl⟩
theorem cm3_cut {k : Nat} {p q : List Int} (h : ∀ j, j < k → nth p j = nth q j) (hp : k < p.length) (hq : k < q.length) (hne : cm3 (nth p k) (nth q k) ≠ 0) : cmpL p q = cm3 (nth p k) (nth q k) := by
  rw [cmp_cut k h hp hq]
  unfold cm3 at *
  by_cases h1 : nth p k < nth q k
  · rw [if_pos h1, if_pos h1]
  · rw [if_neg h1] at hne ⊢
    rw [if_neg h1]
    by_cases h2 : nth q k < nth p k
    · rw [if_pos h2, if_pos h2]
    · rw [if_neg h2] at hne; exact absurd rfl hne
theorem cm3_zero {x y : Int} (h : cm3 x y = 0) : x = y := by
  unfold cm3 at h
  by_cases h1 : x < y
  · rw [if_pos h1] at h; exact absurd h (by decide)
  · rw [if_neg h1] at h
    by_cases h2 : y < x
    · rw [if_pos h2] at h; exact absurd h (by decide)
    · omega
set_option maxRecDepth 100000 in
set_option maxHeartbeats 1000000 in
theorem scmp_any (a : Option Addr) (cap : Nat) (p : List Int) (b : Option Addr) (bap : Nat) (q : List Int) (hl : p.length = q.length) (hreach : p.length ≤ 9223372036854775807) (n₀ : Nat) (w : World) (hI : IsInts n₀ w a p) (hI' : IsInts n₀ w b q) :
    Calls Try.prog 38 #[.slice a p.length cap, .slice b q.length bap] w fun e w' => e = .returned (.int .i64 (cmpL p q)) ∧ w' = w := by
  obtain ⟨C, hC⟩ : ∃ C, C = cmpL p q := ⟨_, rfl⟩
  rw [← hC]
  have HC : Hid (C = cmpL p q) := hC
  have H : Hid (p.length = q.length) := hl
  have HM : Hid (∀ x y, Calls Try.prog 66 #[.int .i64 x, .int .i64 y] w fun e w' => e = .returned (.int .i64 (cm3 x y)) ∧ w' = w) := fun x y => cmpi_any x y w
  have l1 : p.length ≤ q.length := by omega
  have l2 : q.length ≤ p.length := by omega
  clear hl hC
  go_enter Try.func38, Try.ntmps38
  go_wp2_with fail
  go_loopw [11] (fun i wr => ∃ k : Nat, k ≤ p.length ∧ i = .int .i64 k ∧ (∀ j, j < k → nth p j = nth q j) ∧ wr = w) (fun i _ => p.length - (intOf i).toNat)
  case atStart => exact ⟨0, Nat.zero_le _, rfl, fun j hj => by omega, rfl⟩
  case round =>
    obtain ⟨k, hk, rfl, hsame, rfl⟩ := hrel
    have HS : Hid (∀ j, j < k → nth p j = nth q j) := hsame
    clear hsame
    by_cases hlt : k < p.length
    · have hlt' : k < q.length := by omega
      obtain ⟨bb, off, rfl, hb, hcell⟩ := hI.at hlt
      obtain ⟨b', off', rfl, hb', hcell'⟩ := hI'.at hlt'
      have hc := hcell k hlt
      have hc' := hcell' k hlt'
      clear hcell hcell'
      by_cases h1 : cm3 (nth p k) (nth q k) = 0
      · have HE : Hid (nth p k = nth q k) := cm3_zero h1
        have hb0 : (cm3 (nth p k) (nth q k) == 0) = true := by rw [h1]; rfl
        go_wp2_with fail
        refine (HM.out _ _).mono ?_
        rintro e w1 ⟨rfl, rfl⟩
        go_wp2_with fail
        have HS2 : ∀ j, j < k + 1 → nth p j = nth q j := fun j hj => by
          by_cases e : j = k
          · rw [e]; exact HE.out
          · exact HS.out j (by omega)
        exact ⟨⟨k + 1, by omega, by go_num, HS2, by first | rfl | trivial⟩, by simp [intOf]; omega⟩
      · have HF : Hid (C = cm3 (nth p k) (nth q k)) := by show _ = _; rw [HC.out]; exact cm3_cut HS.out hlt hlt' h1
        have hb0 : (cm3 (nth p k) (nth q k) == 0) = false := beq_eq_false_iff_ne.2 h1
        go_wp2_with fail
        refine (HM.out _ _).mono ?_
        rintro e w1 ⟨rfl, rfl⟩
        go_wp2_with fail
        go_ret
        exact ⟨ret_int9 HF.out.symm, rfl⟩
    · obtain rfl : k = p.length := by omega
      have hfin : Hid (C = 0) := by show _ = _; rw [HC.out, ← nth_ext H.out HS.out, cmp_same]
      go_wp2_with fail
      go_ret
      exact ⟨ret_int9 hfin.out.symm, rfl⟩
/-- A closure that tells how two rows stand. -/
def RwF (f : Nat) (cmp : List Int → List Int → Int) : Prop := ∀ (a : Option Addr) (cap : Nat) (p : List Int) (b : Option Addr) (bap : Nat) (q : List Int), p.length = q.length → p.length ≤ 9223372036854775807 → ∀ (n₀ : Nat) (w : World), IsInts n₀ w a p → IsInts n₀ w b q →
  Calls Try.prog f #[.slice a p.length cap, .slice b q.length bap] w fun e w' => e = .returned (.int .i64 (cmp p q)) ∧ w' = w
set_option maxRecDepth 100000 in
set_option maxHeartbeats 1000000 in
theorem up1_any : RwF 39 cmpL := by
  intro a cap p b bap q hl hr n₀ w hI hI'
  have H : Hid (Calls Try.prog 38 #[.slice a p.length cap, .slice b q.length bap] w fun e w' => e = .returned (.int .i64 (cmpL p q)) ∧ w' = w) := scmp_any a cap p b bap q hl hr n₀ w hI hI'
  clear hI hI' hl
  go_enter Try.func39, Try.ntmps39
  go_wp2_with fail
  refine H.out.mono ?_
  rintro e w1 ⟨rfl, rfl⟩
  go_wp2_with fail
  go_ret
  exact ⟨rfl, rfl⟩
set_option maxRecDepth 100000 in
set_option maxHeartbeats 1000000 in
theorem down1_any : RwF 37 (fun p q => cmpL q p) := by
  intro a cap p b bap q hl hr n₀ w hI hI'
  have H : Hid (Calls Try.prog 38 #[.slice b q.length bap, .slice a p.length cap] w fun e w' => e = .returned (.int .i64 (cmpL q p)) ∧ w' = w) := scmp_any b bap q a cap p hl.symm (by omega) n₀ w hI' hI
  clear hI hI' hl
  go_enter Try.func37, Try.ntmps37
  go_wp2_with fail
  refine H.out.mono ?_
  rintro e w1 ⟨rfl, rfl⟩
  go_wp2_with fail
  go_ret
  exact ⟨rfl, rfl⟩
end Go.Proofs.Ytmbgomljofngnab
