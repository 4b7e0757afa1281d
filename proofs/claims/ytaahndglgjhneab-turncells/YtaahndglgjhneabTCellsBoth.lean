/-
  The walk of TurnCells, and what it rests on.
-/
import Derived.Test.YtaahndglgjhneabTCellsWalk
import Derived.Test.YtaahndglgjhneabRev
import Derived.Test.YtaahndglgjhneabRot
import Derived.Test.YtaahndglgjhneabFlp
import Derived.Test.YtaahndglgjhneabEach2
