/-
  The walk and what it rests on, together.
-/
import Derived.Test.YtlflacoiidhgoaaPOthersWalk
import Derived.Test.YtlflacoiidhgoaaPat
import Derived.Test.YtlflacoiidhgoaaPput
