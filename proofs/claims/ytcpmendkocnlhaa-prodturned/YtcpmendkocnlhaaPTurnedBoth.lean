/-
  The walk and what it rests on, together.
-/
import Derived.Test.YtcpmendkocnlhaaPTurnedWalk
import Derived.Test.YtcpmendkocnlhaaPin
import Derived.Test.YtcpmendkocnlhaaFlp
