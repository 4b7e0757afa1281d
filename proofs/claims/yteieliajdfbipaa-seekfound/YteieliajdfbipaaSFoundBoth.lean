/-
  The walk and what it rests on, together.
-/
import Derived.Test.YteieliajdfbipaaSFoundWalk
import Derived.Test.YteieliajdfbipaaSkix
import Derived.Test.YteieliajdfbipaaSkin
