/-
  The walk and what it rests on, together.
-/
import Derived.Test.YtjaabemlpiafaaaMManyWalk
import Derived.Test.YtjaabemlpiafaaaPin
