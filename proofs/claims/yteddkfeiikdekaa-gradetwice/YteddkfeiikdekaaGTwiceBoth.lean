/-
  The walk and what it rests on, together.
-/
import Derived.Test.YteddkfeiikdekaaGTwiceWalk
import Derived.Test.YteddkfeiikdekaaGrdu
import Derived.Test.YteddkfeiikdekaaPmc1
