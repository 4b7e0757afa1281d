/-
  The walk and what it rests on, together.
-/
import Derived.Test.YtjaabemlpiafaabMSylvesterWalk
import Derived.Test.YtjaabemlpiafaabPin
