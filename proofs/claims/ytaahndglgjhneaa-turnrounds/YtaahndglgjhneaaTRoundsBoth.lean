/-
  The walk of TurnRounds, and what it rests on.
-/
import Derived.Test.YtaahndglgjhneaaTRoundsWalk
import Derived.Test.YtaahndglgjhneaaRot
