/-
  The walk and what it rests on, together.
-/
import Derived.Test.YtldjgacnjogbnaaDoorCSpreadsWalk
import Derived.Test.YtldjgacnjogbnaaDoorCut4
