/-
  The walk and what it rests on, together.
-/
import Derived.Test.YtlflacoiidhgoaaPChainsWalk
import Derived.Test.YtlflacoiidhgoaaPat
