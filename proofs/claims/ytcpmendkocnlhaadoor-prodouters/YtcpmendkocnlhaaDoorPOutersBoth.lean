/-
  The walk and what it rests on, together.
-/
import Derived.Test.YtcpmendkocnlhaaDoorPOutersWalk
import Derived.Test.YtcpmendkocnlhaaDoorPot
