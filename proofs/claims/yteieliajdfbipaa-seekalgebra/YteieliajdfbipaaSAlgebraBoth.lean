/-
  The walk and what it rests on, together.
-/
import Derived.Test.YteieliajdfbipaaSAlgebraWalk
import Derived.Test.YteieliajdfbipaaSksh
import Derived.Test.YteieliajdfbipaaSkun
