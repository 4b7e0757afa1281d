/-
  The walk and what it rests on, together.
-/
import Derived.Test.YtlflacoiidhgoaaDoorPPutsWalk
import Derived.Test.YtlflacoiidhgoaaDoorPput
