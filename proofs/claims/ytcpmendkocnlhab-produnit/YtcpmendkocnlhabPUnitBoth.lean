/-
  The walk and what it rests on, together.
-/
import Derived.Test.YtcpmendkocnlhabPUnitWalk
import Derived.Test.YtcpmendkocnlhabPin
import Derived.Test.YtcpmendkocnlhabPot
