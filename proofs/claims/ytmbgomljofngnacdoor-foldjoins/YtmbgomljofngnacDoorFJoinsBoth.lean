/-
  The walk and what it rests on, together.
-/
import Derived.Test.YtmbgomljofngnacDoorFJoinsWalk
import Derived.Test.YtmbgomljofngnacDoorFdd
import Derived.Test.YtmbgomljofngnacDoorCut5
import Derived.Test.YtmbgomljofngnacDoorEach2
