/-
  The walk, and what the program tells, together.
-/
import Derived.Test.YtpecdlkdogmoeaaERingWalk
import Derived.Test.YtpecdlkdogmoeaaEach2
namespace Go.Proofs.Ytpecdlkdogmoeaa
theorem c2_holds : C2 := each_two
end Go.Proofs.Ytpecdlkdogmoeaa
