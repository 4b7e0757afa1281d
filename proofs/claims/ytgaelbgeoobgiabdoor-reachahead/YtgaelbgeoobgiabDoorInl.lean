/-
  Plain numbers as a list of the program's numbers.
-/
import Derived.Test.YtgaelbgeoobgiabDoorBase
namespace Go.Proofs.YtgaelbgeoobgiabDoor
open Go.RowKit
set_option linter.unusedVariables false

/-- The numbers, as they lie. -/
def inL (l : List Nat) : List Int := l.map fun x => ((x : Nat) : Int)
theorem inL_len (l : List Nat) : (inL l).length = l.length := by simp [inL]
theorem inL_nth {l : List Nat} {k : Nat} (h : k < l.length) : nth (inL l) k = ((l.getD k 0 : Nat) : Int) := by
  rw [nth_get _ _ (by rw [inL_len]; exact h)]
  simp [inL, h]
theorem inL_app (l : List Nat) (x : Nat) : inL (l ++ [x]) = inL l ++ [((x : Nat) : Int)] := by simp [inL]
end Go.Proofs.YtgaelbgeoobgiabDoor
