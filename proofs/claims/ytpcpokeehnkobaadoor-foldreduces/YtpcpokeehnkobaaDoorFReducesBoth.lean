/-
  The walk and what it rests on, together.
-/
import Derived.Test.YtpcpokeehnkobaaDoorFReducesWalk
import Derived.Test.YtpcpokeehnkobaaDoorFdd
