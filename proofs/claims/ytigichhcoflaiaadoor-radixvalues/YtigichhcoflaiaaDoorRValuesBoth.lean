/-
  The walk and what it rests on, together.
-/
import Derived.Test.YtigichhcoflaiaaDoorRValuesWalk
import Derived.Test.YtigichhcoflaiaaDoorRdp
