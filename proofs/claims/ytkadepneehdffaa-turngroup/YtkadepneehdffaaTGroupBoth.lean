/-
  The walk of TurnGroup, and what it rests on.
-/
import Derived.Test.YtkadepneehdffaaTGroupWalk
import Derived.Test.YtkadepneehdffaaFlp
