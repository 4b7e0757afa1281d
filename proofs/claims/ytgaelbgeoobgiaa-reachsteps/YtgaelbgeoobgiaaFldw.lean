/-
  The program's Reduce, Scan and Windows, told in two cases: as the statements' walks use them.
-/
import Derived.Test.YtgaelbgeoobgiaaFldq
import Derived.Test.YtgaelbgeoobgiaaCutw
namespace Go.Proofs.Ytgaelbgeoobgiaa
open Go.RowKit
set_option linter.unusedVariables false

theorem onc_false (e : Int) : onc e false = false := by unfold onc; split <;> rfl
theorem ub_ok12 {e : Int} {S D S' D' : List Int} {w w' : World} {r : Ending} (h0 : e = 0 ∧ S = S' ∧ D = D') (h : UB e false (onl e S) (onl e D) w r w') : OkB false S' D' w r w' := UB.ok (c := false) h0 (by rw [onc_false]; exact h)
theorem ub_no12 {e : Int} {S D : List Int} {w w' : World} {r : Ending} {E : Int} (he : e = E) (h0 : E ≠ 0) (h : UB e false (onl e S) (onl e D) w r w') : NoA E w r w' := by subst he; exact UB.no (c := false) h0 (by rw [onc_false]; exact h)
end Go.Proofs.Ytgaelbgeoobgiaa
