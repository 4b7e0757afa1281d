/-
  The walk of TurnMirrors, and what it rests on.
-/
import Derived.Test.YtaahndglgjhneaaTMirrorsWalk
import Derived.Test.YtaahndglgjhneaaRev
import Derived.Test.YtaahndglgjhneaaRot
