/-
  The walk and what it rests on, together.
-/
import Derived.Test.YtpcpokeehnkobaaDoorFWindowsWalk
import Derived.Test.YtpcpokeehnkobaaDoorFdh
