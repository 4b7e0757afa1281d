/-
  The walk and what it rests on, together.
-/
import Derived.Test.YtcpmendkocnlhabPPartsWalk
import Derived.Test.YtcpmendkocnlhabPot
import Derived.Test.YtcpmendkocnlhabCut5
import Derived.Test.YtcpmendkocnlhabFdd
import Derived.Test.YtcpmendkocnlhabEach2
