/-
  The walk of TurnCells, and what it rests on.
-/
import Derived.Test.YtnfdcdoelhanlaaTCellsWalk
import Derived.Test.YtnfdcdoelhanlaaRev
import Derived.Test.YtnfdcdoelhanlaaRot
import Derived.Test.YtnfdcdoelhanlaaFlp
import Derived.Test.YtnfdcdoelhanlaaEach2
