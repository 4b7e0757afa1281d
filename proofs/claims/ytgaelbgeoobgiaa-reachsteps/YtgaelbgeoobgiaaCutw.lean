/-
  What Take, Drop, Join, Keep and Spread tell, where nothing is wrong and where something is.
-/
import Derived.Test.YtgaelbgeoobgiaaTurnw
import Derived.Test.YtgaelbgeoobgiaaCutq
namespace Go.Proofs.Ytgaelbgeoobgiaa
open Go.RowKit
set_option linter.unusedVariables false

/-- An array, where nothing is wrong; both lists have room. -/
def OkB (c : Bool) (S D : List Int) (w : World) (r : Ending) (w' : World) : Prop :=
  ∃ xa xc ya yc, r = .returned (.tuple #[.agg #[.bool c, .slice xa S.length xc, .slice ya D.length yc], .nilIface]) ∧ NewC w.heap.size w' xa S xc ∧ NewC w.heap.size w' ya D yc ∧ Below w.heap.size w w'
theorem UB.ok {e : Int} {c : Bool} {S D S' D' : List Int} {w w' : World} {r : Ending} (h0 : e = 0 ∧ S = S' ∧ D = D') (h : UB e (onc e c) (onl e S) (onl e D) w r w') : OkB c S' D' w r w' := by
  obtain ⟨rfl, rfl, rfl⟩ := h0
  exact h
theorem UB.no {e : Int} {c : Bool} {S D : List Int} {w w' : World} {r : Ending} (h0 : e ≠ 0) (h : UB e (onc e c) (onl e S) (onl e D) w r w') : NoA e w r w' := UA.no h0 h.ua
end Go.Proofs.Ytgaelbgeoobgiaa
