/-
  The walk and what it rests on, together.
-/
import Derived.Test.YtmbgomljofngnacDoorFSumsWalk
import Derived.Test.YtmbgomljofngnacDoorFdh
