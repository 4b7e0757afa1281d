/-
  The statements' own questions: is it a matrix that is not too long; do two functions go together like sums and products?
-/
import Derived.BigQuiet
import Derived.Test.YtjaabemlpiafaaaDoorPrdn
import Derived.Test.YtjaabemlpiafaaaDoorBase
namespace Go.Proofs.YtjaabemlpiafaaaDoor
open Go.RowKit
set_option linter.unusedVariables false

/-- A matrix of numbers, no longer than so much. -/
def GrdP (F : Int) (c : Bool) (sz dz : List Int) : Prop := c = false ∧ sz.length = 2 ∧ (0 ≤ nth sz 0 ∧ nth sz 0 ≤ F) ∧ (0 ≤ nth sz 1 ∧ nth sz 1 ≤ F) ∧ (dz.length : Int) = nth sz 0 * nth sz 1
theorem GrdP.two {F : Int} {c : Bool} {sz dz : List Int} (h : GrdP F c sz dz) : c = false ∧ sz = [nth sz 0, nth sz 1] := by
  refine ⟨h.1, ?_⟩
  match sz, h.2.1 with
  | [a, b], _ => rfl
theorem GrdP.flaw {F : Int} {c : Bool} {sz dz : List Int} (h : GrdP F c sz dz) (hF : F ≤ 64) : errOf sz = 0 ∧ flawE false sz dz = 0 := by
  have he : errOf sz = 0 := by
    rw [h.two.2]
    exact err_two (by have := h.2.2.1; omega) (by have := h.2.2.2.1; omega)
  refine ⟨he, flawE_okn he ?_⟩
  rw [h.2.2.2.2, h.two.2]
  simp [prod, nth]
/-- Do the two go together like sums and products, as a test. -/
def srB (f g : Int) : Bool := if f = 1 then g == 3 else if f = 6 then g == 7 else if f = 7 then g == 6 else if f = 15 then g == 14 else f == 14 && g == 15
theorem srB_yes {f g : Int} (h : Srg f g) : srB f g = true := by
  rcases h with ⟨rfl, rfl⟩ | ⟨rfl, rfl⟩ | ⟨rfl, rfl⟩ | ⟨rfl, rfl⟩ | ⟨rfl, rfl⟩ <;> decide
theorem srB_no {f g : Int} (h : ¬ Srg f g) : srB f g = false := by
  unfold Srg at h
  unfold srB
  split
  · simp; omega
  · split
    · simp; omega
    · split
      · simp; omega
      · split
        · simp; omega
        · simp; omega
end Go.Proofs.YtjaabemlpiafaaaDoor
