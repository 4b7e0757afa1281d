/-
  The walk and what it rests on, together.
-/
import Derived.Test.YtjaabemlpiafaabDoorMBackWalk
import Derived.Test.YtjaabemlpiafaabDoorPin
