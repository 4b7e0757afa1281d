/-
  The walk and what it rests on, together.
-/
import Derived.Test.YtmbgomljofngnacFTurnsWalk
import Derived.Test.YtmbgomljofngnacFdd
