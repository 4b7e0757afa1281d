/-
  The walk and what it rests on, together.
-/
import Derived.Test.YtmbgomljofngnabDoorFScansWalk
import Derived.Test.YtmbgomljofngnabDoorFdh
