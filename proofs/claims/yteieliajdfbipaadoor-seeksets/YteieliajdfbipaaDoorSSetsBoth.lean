/-
  The walk and what it rests on, together.
-/
import Derived.Test.YteieliajdfbipaaDoorSSetsWalk
import Derived.Test.YteieliajdfbipaaDoorSknb
import Derived.Test.YteieliajdfbipaaDoorSksh
import Derived.Test.YteieliajdfbipaaDoorSkun
