/-
  The walk and what it rests on, together.
-/
import Derived.Test.YtpcpokeehnkobabFClimbsWalk
import Derived.Test.YtpcpokeehnkobabFdh
