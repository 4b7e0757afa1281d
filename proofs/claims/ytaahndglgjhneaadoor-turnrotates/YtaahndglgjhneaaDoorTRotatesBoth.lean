/-
  The walk of TurnRotates, and what it rests on.
-/
import Derived.Test.YtaahndglgjhneaaDoorTRotatesWalk
import Derived.Test.YtaahndglgjhneaaDoorRot
