/-
  The walk and what it rests on, together.
-/
import Derived.Test.YtcblakcaoecgpaaDoorPTurnsWalk
import Derived.Test.YtcblakcaoecgpaaDoorPmc1
