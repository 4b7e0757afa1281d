/-
  The walk and what it rests on, together.
-/
import Derived.Test.YtcpmendkocnlhaaPLinesWalk
import Derived.Test.YtcpmendkocnlhaaPin
import Derived.Test.YtcpmendkocnlhaaFdd
import Derived.Test.YtcpmendkocnlhaaEach2
