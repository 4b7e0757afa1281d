/-
  The walk and what it rests on, together.
-/
import Derived.Test.YtpcpokeehnkobabFTurnsWalk
import Derived.Test.YtpcpokeehnkobabFdd
