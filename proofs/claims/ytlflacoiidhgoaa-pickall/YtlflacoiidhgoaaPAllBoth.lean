/-
  The walk and what it rests on, together.
-/
import Derived.Test.YtlflacoiidhgoaaPAllWalk
import Derived.Test.YtlflacoiidhgoaaPat
