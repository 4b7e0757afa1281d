/-
  The walk and what it rests on, together.
-/
import Derived.Test.YtpcpokeehnkobaaDoorFSumsWalk
import Derived.Test.YtpcpokeehnkobaaDoorFdh
