/-
  The walk, and what the program tells, together.
-/
import Derived.Test.YtpecdlkdogmoeaaDoorETwosWalk
import Derived.Test.YtpecdlkdogmoeaaDoorEach2
namespace Go.Proofs.YtpecdlkdogmoeaaDoor
theorem c2_holds : C2 := each_two
end Go.Proofs.YtpecdlkdogmoeaaDoor
