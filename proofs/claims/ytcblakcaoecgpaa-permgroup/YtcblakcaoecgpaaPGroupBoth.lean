/-
  The walk and what it rests on, together.
-/
import Derived.Test.YtcblakcaoecgpaaPGroupWalk
import Derived.Test.YtcblakcaoecgpaaPmc1
