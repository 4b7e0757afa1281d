/-
  The walk and what it rests on, together.
-/
import Derived.Test.YtmbgomljofngnabGDownsWalk
import Derived.Test.YtmbgomljofngnabGrdu
import Derived.Test.YtmbgomljofngnabEach2
