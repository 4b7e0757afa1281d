/-
  The walk and what it rests on, together.
-/
import Derived.Test.YtlflacoiidhgoaaPLensWalk
import Derived.Test.YtlflacoiidhgoaaPat
import Derived.Test.YtlflacoiidhgoaaPput
