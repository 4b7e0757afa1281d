/-
  The walk of TurnReverses, and what it rests on.
-/
import Derived.Test.YtaahndglgjhneaaDoorTReversesWalk
import Derived.Test.YtaahndglgjhneaaDoorRev
