/-
  The walk and what it rests on, together.
-/
import Derived.Test.YtpcpokeehnkobaaFLastWalk
import Derived.Test.YtpcpokeehnkobaaFdd
import Derived.Test.YtpcpokeehnkobaaCut2
