/-
  The walk, and what the program tells, together.
-/
import Derived.Test.YthmiaiephkcdfaaSpreadsWalk
import Derived.Test.YthmiaiephkcdfaaEach2
namespace Go.Proofs.Ythmiaiephkcdfaa
theorem c2_holds : C2 := each_two
end Go.Proofs.Ythmiaiephkcdfaa
