/-
  The walk of TurnCells, and what it rests on.
-/
import Derived.Test.YtkadepneehdffaaTCellsWalk
import Derived.Test.YtkadepneehdffaaRev
import Derived.Test.YtkadepneehdffaaRot
import Derived.Test.YtkadepneehdffaaFlp
import Derived.Test.YtkadepneehdffaaEach2
