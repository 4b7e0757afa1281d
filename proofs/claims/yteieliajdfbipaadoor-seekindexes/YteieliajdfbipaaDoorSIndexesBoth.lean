/-
  The walk and what it rests on, together.
-/
import Derived.Test.YteieliajdfbipaaDoorSIndexesWalk
import Derived.Test.YteieliajdfbipaaDoorSkix
