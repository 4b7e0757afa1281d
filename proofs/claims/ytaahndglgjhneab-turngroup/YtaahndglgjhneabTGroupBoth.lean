/-
  The walk of TurnGroup, and what it rests on.
-/
import Derived.Test.YtaahndglgjhneabTGroupWalk
import Derived.Test.YtaahndglgjhneabFlp
