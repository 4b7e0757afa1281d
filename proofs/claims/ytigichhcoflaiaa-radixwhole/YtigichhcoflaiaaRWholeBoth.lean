/-
  The walk and what it rests on, together.
-/
import Derived.Test.YtigichhcoflaiaaRWholeWalk
import Derived.Test.YtigichhcoflaiaaRdp
