/-
  The walk of TurnCorners, and what it rests on.
-/
import Derived.Test.YtaahndglgjhneabTCornersWalk
import Derived.Test.YtaahndglgjhneabRev
import Derived.Test.YtaahndglgjhneabFlp
