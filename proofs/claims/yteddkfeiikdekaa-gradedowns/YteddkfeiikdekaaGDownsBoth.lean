/-
  The walk and what it rests on, together.
-/
import Derived.Test.YteddkfeiikdekaaGDownsWalk
import Derived.Test.YteddkfeiikdekaaGrdu
import Derived.Test.YteddkfeiikdekaaEach2
