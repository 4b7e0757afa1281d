/-
  The walk and what it rests on, together.
-/
import Derived.Test.YtpcpokeehnkobabFSwingsWalk
import Derived.Test.YtpcpokeehnkobabFdd
