/-
  The walk, and what the program tells, together.
-/
import Derived.Test.YtmbgomljofngnaaERingWalk
import Derived.Test.YtmbgomljofngnaaEach2
namespace Go.Proofs.Ytmbgomljofngnaa
theorem c2_holds : C2 := each_two
end Go.Proofs.Ytmbgomljofngnaa
