/-
  The walk and what it rests on, together.
-/
import Derived.Test.YteieliajdfbipaaSOnceWalk
import Derived.Test.YteieliajdfbipaaSknb
import Derived.Test.YteieliajdfbipaaSkix
import Derived.Test.YteieliajdfbipaaSkin
