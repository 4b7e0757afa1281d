/-
  The walk, and what the program tells, together.
-/
import Derived.Test.YtpecdlkdogmoeaaSwapsWalk
import Derived.Test.YtpecdlkdogmoeaaEach1
import Derived.Test.YtpecdlkdogmoeaaEach2
namespace Go.Proofs.Ytpecdlkdogmoeaa
theorem c1_holds : C1 := each_one
theorem c2_holds : C2 := each_two
end Go.Proofs.Ytpecdlkdogmoeaa
