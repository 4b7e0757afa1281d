/-
  The walk, and what the program tells, together.
-/
import Derived.Test.YtmbgomljofngnaaDoorETwosWalk
import Derived.Test.YtmbgomljofngnaaDoorEach2
namespace Go.Proofs.YtmbgomljofngnaaDoor
theorem c2_holds : C2 := each_two
end Go.Proofs.YtmbgomljofngnaaDoor
