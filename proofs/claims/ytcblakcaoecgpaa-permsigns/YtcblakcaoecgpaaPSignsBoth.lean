/-
  The walk and what it rests on, together.
-/
import Derived.Test.YtcblakcaoecgpaaPSignsWalk
import Derived.Test.YtcblakcaoecgpaaPmc1
import Derived.Test.YtcblakcaoecgpaaPmc3
