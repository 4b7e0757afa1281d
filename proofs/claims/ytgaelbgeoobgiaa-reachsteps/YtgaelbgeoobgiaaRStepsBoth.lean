/-
  The walk and what it rests on, together.
-/
import Derived.Test.YtgaelbgeoobgiaaRStepsWalk
import Derived.Test.YtgaelbgeoobgiaaPin
import Derived.Test.YtgaelbgeoobgiaaEach2
import Derived.Test.YtgaelbgeoobgiaaFlp
