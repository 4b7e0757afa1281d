/-
  The walk, and what the program tells, together.
-/
import Derived.Test.YtpecdlkdogmoeaaDoorEOnesWalk
import Derived.Test.YtpecdlkdogmoeaaDoorEach1
namespace Go.Proofs.YtpecdlkdogmoeaaDoor
theorem c1_holds : C1 := each_one
end Go.Proofs.YtpecdlkdogmoeaaDoor
