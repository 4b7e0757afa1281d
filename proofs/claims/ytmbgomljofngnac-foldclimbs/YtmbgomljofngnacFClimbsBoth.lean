/-
  The walk and what it rests on, together.
-/
import Derived.Test.YtmbgomljofngnacFClimbsWalk
import Derived.Test.YtmbgomljofngnacFdh
