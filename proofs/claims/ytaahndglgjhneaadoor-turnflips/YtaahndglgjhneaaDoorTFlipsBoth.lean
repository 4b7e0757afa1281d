/-
  The walk of TurnFlips, and what it rests on.
-/
import Derived.Test.YtaahndglgjhneaaDoorTFlipsWalk
import Derived.Test.YtaahndglgjhneaaDoorFlp
