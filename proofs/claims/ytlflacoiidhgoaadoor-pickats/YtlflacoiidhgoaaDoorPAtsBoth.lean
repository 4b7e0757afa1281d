/-
  The walk and what it rests on, together.
-/
import Derived.Test.YtlflacoiidhgoaaDoorPAtsWalk
import Derived.Test.YtlflacoiidhgoaaDoorPat
