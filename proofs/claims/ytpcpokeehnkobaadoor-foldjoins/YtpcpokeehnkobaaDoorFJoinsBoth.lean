/-
  The walk and what it rests on, together.
-/
import Derived.Test.YtpcpokeehnkobaaDoorFJoinsWalk
import Derived.Test.YtpcpokeehnkobaaDoorFdd
import Derived.Test.YtpcpokeehnkobaaDoorCut5
import Derived.Test.YtpcpokeehnkobaaDoorEach2
