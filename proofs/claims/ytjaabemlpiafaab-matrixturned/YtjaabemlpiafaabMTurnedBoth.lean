/-
  The walk and what it rests on, together.
-/
import Derived.Test.YtjaabemlpiafaabMTurnedWalk
import Derived.Test.YtjaabemlpiafaabFlp
