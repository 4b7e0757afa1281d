/-
  The walk and what it rests on, together.
-/
import Derived.Test.YtldjgacnjogbnaaDoorCKeepsWalk
import Derived.Test.YtldjgacnjogbnaaDoorCut3
