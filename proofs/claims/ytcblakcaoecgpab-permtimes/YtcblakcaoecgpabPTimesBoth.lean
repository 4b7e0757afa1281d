/-
  The walk and what it rests on, together.
-/
import Derived.Test.YtcblakcaoecgpabPTimesWalk
import Derived.Test.YtcblakcaoecgpabPmc1
import Derived.Test.YtcblakcaoecgpabPmc2
import Derived.Test.YtcblakcaoecgpabPmc3
