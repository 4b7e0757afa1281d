/-
  The walk, and what the program tells, together.
-/
import Derived.Test.YtmbgomljofngnaaSwapsWalk
import Derived.Test.YtmbgomljofngnaaEach1
import Derived.Test.YtmbgomljofngnaaEach2
namespace Go.Proofs.Ytmbgomljofngnaa
theorem c1_holds : C1 := each_one
theorem c2_holds : C2 := each_two
end Go.Proofs.Ytmbgomljofngnaa
