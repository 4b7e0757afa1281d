/-
  The walk and what it rests on, together.
-/
import Derived.Test.YtmbgomljofngnabFLastWalk
import Derived.Test.YtmbgomljofngnabFdd
import Derived.Test.YtmbgomljofngnabCut2
