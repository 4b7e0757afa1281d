/-
  The walk and what it rests on, together.
-/
import Derived.Test.YtmbgomljofngnabDoorFReducesWalk
import Derived.Test.YtmbgomljofngnabDoorFdd
