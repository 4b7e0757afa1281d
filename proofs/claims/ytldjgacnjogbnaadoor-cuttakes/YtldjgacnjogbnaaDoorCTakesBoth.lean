/-
  The walk and what it rests on, together.
-/
import Derived.Test.YtldjgacnjogbnaaDoorCTakesWalk
import Derived.Test.YtldjgacnjogbnaaDoorCut1
