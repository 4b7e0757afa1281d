/-
  The walk of TurnTwice, and what it rests on.
-/
import Derived.Test.YtaahndglgjhneaaTTwiceWalk
import Derived.Test.YtaahndglgjhneaaRev
