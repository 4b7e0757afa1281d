/-
  The walk and what it rests on, together.
-/
import Derived.Test.YtmbgomljofngnacFSwingsWalk
import Derived.Test.YtmbgomljofngnacFdd
