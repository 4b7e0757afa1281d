/-
  The walk and what it rests on, together.
-/
import Derived.Test.YteddkfeiikdekaaGRisesWalk
import Derived.Test.YteddkfeiikdekaaGrdu
