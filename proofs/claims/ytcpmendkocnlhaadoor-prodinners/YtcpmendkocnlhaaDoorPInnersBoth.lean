/-
  The walk and what it rests on, together.
-/
import Derived.Test.YtcpmendkocnlhaaDoorPInnersWalk
import Derived.Test.YtcpmendkocnlhaaDoorPin
