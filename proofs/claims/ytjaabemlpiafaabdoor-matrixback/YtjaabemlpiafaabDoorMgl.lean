/-
  The program's adjugate of arrays.
-/
import Derived.Test.YtjaabemlpiafaabDoorMgc
import Derived.Test.YtjaabemlpiafaabDoorMgk
namespace Go.Proofs.YtjaabemlpiafaabDoor
open Go.RowKit
set_option linter.unusedVariables false

end Go.Proofs.YtjaabemlpiafaabDoor
