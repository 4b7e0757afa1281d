/-
  The walk and what it rests on, together.
-/
import Derived.Test.YtcblakcaoecgpaaDoorPPowersWalk
import Derived.Test.YtcblakcaoecgpaaDoorPmc2
