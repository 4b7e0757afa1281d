/-
  Are all cells characters? What the program tells of it.
-/
import Derived.Deep.QuietTactic
import Derived.BigQuiet
import Derived.Test.YthmiaiephkcdfaaIsin
import Derived.Test.YthmiaiephkcdfaaErrv
import Derived.Test.YthmiaiephkcdfaaArrm
namespace Go.Proofs.Ythmiaiephkcdfaa
open Go.RowKit
set_option linter.unusedVariables false

theorem chOk_mk {x : Int} {b : Bool} (h : (b = true ∧ ((0 ≤ x ∧ x < 55296) ∨ (57343 < x ∧ x ≤ 1114111))) ∨ (b = false ∧ (x < 0 ∨ (55296 ≤ x ∧ x ≤ 57343) ∨ 1114111 < x))) : chOk x = b := by
  unfold chOk
  rcases h with ⟨rfl, h⟩ | ⟨rfl, h⟩
  · rw [Bool.or_eq_true, decide_eq_true_iff, decide_eq_true_iff]; omega
  · rw [Bool.or_eq_false_iff, decide_eq_false_iff_not, decide_eq_false_iff_not]; omega
set_option maxRecDepth 100000 in
set_option maxHeartbeats 1000000 in
theorem chars_any (a : Option Addr) (cap : Nat) (zs : List Int) (hreach : zs.length ≤ 9223372036854775807) (n₀ : Nat) (w : World) (hI : IsInts n₀ w a zs) :
    Calls Try.prog 18 #[.slice a zs.length cap] w fun e w' => e = .returned (.bool (chAll zs)) ∧ w' = w := by
  go_enter Try.func18, Try.ntmps18
  go_wp2_with fail
  go_loop [7] (fun i => ∃ k : Nat, k ≤ zs.length ∧ i = .int .i64 k ∧ Hid (chAll (zs.take k) = true)) (fun i => zs.length - (intOf i).toNat)
  case atStart => exact ⟨0, Nat.zero_le _, rfl, rfl⟩
  case round =>
    obtain ⟨k, hk, rfl, HA⟩ := hrel
    by_cases hlt : k < zs.length
    · obtain ⟨b, off, rfl, hb, hcell⟩ := hI.at hlt
      have hc := hcell k hlt
      clear hcell
      rcases (by omega : (nth zs k < 0 ∨ (55296 ≤ nth zs k ∧ nth zs k ≤ 57343) ∨ 1114111 < nth zs k) ∨ ((0 ≤ nth zs k ∧ nth zs k < 55296) ∨ (57343 < nth zs k ∧ nth zs k ≤ 1114111))) with hx | hx
      · have hfin : Hid (chAll zs = false) := chAll_bad hlt (chOk_mk (.inr ⟨rfl, hx⟩))
        rcases hx with hx | hx | hx
        all_goals
          go_wp2_with fail
          go_ret
          exact ⟨ret_bool hfin.out.symm, rfl⟩
      · have hst : Hid (chAll (zs.take (k + 1)) = true) := chAll_snoc hlt HA.out (chOk_mk (.inl ⟨rfl, hx⟩))
        rcases hx with hx | hx
        all_goals
          go_wp2_with fail
          go_round
          case rel => exact ⟨k + 1, by omega, by go_num, hst⟩
          case measure => simp [intOf]; omega
    · obtain rfl : k = zs.length := by omega
      have hfin : Hid (chAll zs = true) := by have := HA.out; rwa [List.take_length] at this
      go_wp2_with fail
      go_ret
      exact ⟨ret_bool hfin.out.symm, rfl⟩
end Go.Proofs.Ythmiaiephkcdfaa
