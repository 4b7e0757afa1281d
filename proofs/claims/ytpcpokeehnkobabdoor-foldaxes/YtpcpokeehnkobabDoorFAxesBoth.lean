/-
  The walk and what it rests on, together.
-/
import Derived.Test.YtpcpokeehnkobabDoorFAxesWalk
import Derived.Test.YtpcpokeehnkobabDoorFdd
