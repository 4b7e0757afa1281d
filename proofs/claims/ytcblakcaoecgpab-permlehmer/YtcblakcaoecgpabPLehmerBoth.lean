/-
  The walk and what it rests on, together.
-/
import Derived.Test.YtcblakcaoecgpabPLehmerWalk
import Derived.Test.YtcblakcaoecgpabPmc5
