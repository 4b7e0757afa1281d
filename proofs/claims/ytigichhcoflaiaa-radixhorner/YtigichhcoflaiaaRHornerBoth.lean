/-
  The walk and what it rests on, together.
-/
import Derived.Test.YtigichhcoflaiaaRHornerWalk
import Derived.Test.YtigichhcoflaiaaRdp
