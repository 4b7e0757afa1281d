/-
  The walk and what it rests on, together.
-/
import Derived.Test.YteddkfeiikdekaaGMixedWalk
import Derived.Test.YteddkfeiikdekaaGrds
import Derived.Test.YteddkfeiikdekaaPat
