/-
  The walk and what it rests on, together.
-/
import Derived.Test.YtldjgacnjogbnaaDoorCJoinsWalk
import Derived.Test.YtldjgacnjogbnaaDoorCut5
