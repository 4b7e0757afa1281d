/-
  The walk and what it rests on, together.
-/
import Derived.Test.YtcblakcaoecgpaaDoorPCyclesWalk
import Derived.Test.YtcblakcaoecgpaaDoorPmc3
