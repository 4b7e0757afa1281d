/-
  The walk and what it rests on, together.
-/
import Derived.Test.YtjaabemlpiafaaaMAdjointWalk
import Derived.Test.YtjaabemlpiafaaaPin
