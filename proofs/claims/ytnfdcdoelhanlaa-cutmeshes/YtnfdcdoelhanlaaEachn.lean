/-
  Plain mathematics of what is done to two arrays, cell by cell: where nothing is wrong.
-/
import Derived.Test.YtnfdcdoelhanlaaEachm
namespace Go.Proofs.Ytnfdcdoelhanlaa
open Go.RowKit
set_option linter.unusedVariables false

theorem e2E_sub {f : Int} {c : Bool} {sz dz : List Int} {c' : Bool} {sz' dz' : List Int} (h : e2E f c sz dz c' sz' dz' = 0) : e2F f c sz dz c' sz' dz' = 0 ∧ ∀ i, i < e2N sz sz' → tcE f (c == c') (e2C dz i) (e2C dz' i) = 0 := by
  have h0 : e2F f c sz dz c' sz' dz' = 0 := by
    unfold e2E at h
    split at h
    · rename_i q; exact absurd h q
    · rename_i q; simpa using q
  refine ⟨h0, fun i hi => ?_⟩
  unfold e2E at h
  rw [h0, if_neg (by decide)] at h
  split at h
  · rename_i q
    unfold e2O at q
    have := List.all_eq_true.1 q i (List.mem_range.2 hi)
    simpa using this
  · cases h
theorem e2E_mk {f : Int} {c : Bool} {sz dz : List Int} {c' : Bool} {sz' dz' : List Int} (h : e2F f c sz dz c' sz' dz' = 0) (ha : ∀ i, i < e2N sz sz' → tcE f (c == c') (e2C dz i) (e2C dz' i) = 0) : e2E f c sz dz c' sz' dz' = 0 := by
  unfold e2E
  rw [h, if_neg (by decide), if_pos]
  unfold e2O
  rw [List.all_eq_true]
  intro i hi
  rw [ha i (List.mem_range.1 hi)]; rfl
end Go.Proofs.Ytnfdcdoelhanlaa
