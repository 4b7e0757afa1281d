/-
  The walk and what it rests on, together.
-/
import Derived.Test.YteieliajdfbipabSMasksWalk
import Derived.Test.YteieliajdfbipabSkin
import Derived.Test.YteieliajdfbipabSksh
import Derived.Test.YteieliajdfbipabCut3
import Derived.Test.YteieliajdfbipabEach1
