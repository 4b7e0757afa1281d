/-
  The walk and what it rests on, together.
-/
import Derived.Test.YtmbgomljofngnacDoorFAxesWalk
import Derived.Test.YtmbgomljofngnacDoorFdd
