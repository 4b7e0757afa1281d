/-
  The walk and what it rests on, together.
-/
import Derived.Test.YtpcpokeehnkobaaDoorFScansWalk
import Derived.Test.YtpcpokeehnkobaaDoorFdh
