/-
  The walk and what it rests on, together.
-/
import Derived.Test.YteieliajdfbipaaDoorSInsWalk
import Derived.Test.YteieliajdfbipaaDoorSkin
