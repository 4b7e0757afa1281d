/-
  The walk and what it rests on, together.
-/
import Derived.Test.YtcpmendkocnlhaaPChainWalk
import Derived.Test.YtcpmendkocnlhaaPin
