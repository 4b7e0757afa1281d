/-
  Helpers of the statements' walks on folds.
-/
import Derived.Test.YtcpmendkocnlhabFldw
import Derived.Test.YtcpmendkocnlhabFldv
import Derived.Test.YtcpmendkocnlhabTurnw
namespace Go.Proofs.Ytcpmendkocnlhab
open Go.RowKit
set_option linter.unusedVariables false

theorem lit12 {xs : List Int} (h : xs.all (fun x => decide (-9223372036854775808 ≤ x ∧ x ≤ 9223372036854775807)) = true) : ∀ j, In64 (nth xs j) := fun j => by
  by_cases hj : j < xs.length
  · have := (List.all_eq_true.1 h) _ (nth_mem xs j hj)
    simpa [In64] using this
  · have : nth xs j = 0 := by simp [nth, List.getElem?_eq_none (show xs.length ≤ j by omega)]
    rw [this]; unfold In64; decide
theorem one_axis {c : Bool} {sz dz : List Int} (h : flawE c sz dz = 0) (h1 : sz.length = 1) : ∃ M : Nat, sz = [(M : Int)] ∧ M = dz.length := by
  cases sz with
  | nil => simp at h1
  | cons a r =>
    obtain rfl : r = [] := List.eq_nil_of_length_eq_zero (by simpa using h1)
    have hp := (flawE_zero h).2.1
    have e : prod [a] = a := by simp [prod]
    rw [e] at hp
    exact ⟨dz.length, by rw [hp], rfl⟩
end Go.Proofs.Ytcpmendkocnlhab
