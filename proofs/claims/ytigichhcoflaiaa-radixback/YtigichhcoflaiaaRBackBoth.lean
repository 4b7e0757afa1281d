/-
  The walk and what it rests on, together.
-/
import Derived.Test.YtigichhcoflaiaaRBackWalk
import Derived.Test.YtigichhcoflaiaaRdp
