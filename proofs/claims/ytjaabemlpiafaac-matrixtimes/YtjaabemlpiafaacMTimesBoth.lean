/-
  The walk and what it rests on, together.
-/
import Derived.Test.YtjaabemlpiafaacMTimesWalk
import Derived.Test.YtjaabemlpiafaacPin
