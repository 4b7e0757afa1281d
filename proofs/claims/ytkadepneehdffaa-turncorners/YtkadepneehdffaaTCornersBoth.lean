/-
  The walk of TurnCorners, and what it rests on.
-/
import Derived.Test.YtkadepneehdffaaTCornersWalk
import Derived.Test.YtkadepneehdffaaRev
import Derived.Test.YtkadepneehdffaaFlp
