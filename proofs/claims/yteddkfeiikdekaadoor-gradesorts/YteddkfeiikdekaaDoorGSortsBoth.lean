/-
  The walk and what it rests on, together.
-/
import Derived.Test.YteddkfeiikdekaaDoorGSortsWalk
import Derived.Test.YteddkfeiikdekaaDoorGrds
