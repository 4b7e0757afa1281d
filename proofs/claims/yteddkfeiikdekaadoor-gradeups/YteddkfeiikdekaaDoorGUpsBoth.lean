/-
  The walk and what it rests on, together.
-/
import Derived.Test.YteddkfeiikdekaaDoorGUpsWalk
import Derived.Test.YteddkfeiikdekaaDoorGrdu
