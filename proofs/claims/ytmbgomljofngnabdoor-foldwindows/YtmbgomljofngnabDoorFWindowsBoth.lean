/-
  The walk and what it rests on, together.
-/
import Derived.Test.YtmbgomljofngnabDoorFWindowsWalk
import Derived.Test.YtmbgomljofngnabDoorFdh
