/-
  The walk and what it rests on, together.
-/
import Derived.Test.YtldjgacnjogbnaaDoorCDropsWalk
import Derived.Test.YtldjgacnjogbnaaDoorCut2
