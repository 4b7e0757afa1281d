/-
  The walk and what it rests on, together.
-/
import Derived.Test.YtcpmendkocnlhaaPSumsWalk
import Derived.Test.YtcpmendkocnlhaaPin
import Derived.Test.YtcpmendkocnlhaaEach2
