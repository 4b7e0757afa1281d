/-
  The walk and what it rests on, together.
-/
import Derived.Test.YtcblakcaoecgpaaDoorPRanksWalk
import Derived.Test.YtcblakcaoecgpaaDoorPmc5
