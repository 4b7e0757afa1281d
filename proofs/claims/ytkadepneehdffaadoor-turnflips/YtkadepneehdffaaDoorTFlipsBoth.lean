/-
  The walk of TurnFlips, and what it rests on.
-/
import Derived.Test.YtkadepneehdffaaDoorTFlipsWalk
import Derived.Test.YtkadepneehdffaaDoorFlp
