/-
  The contracts of the program's Post, LoseAt, TwiceAt, as the laws ask them, beside the specification's.
-/
import Derived.Test.YtjieklilojmifauGreatRSteps15
import Derived.Test.YtjieklilojmifauGreatRClusO
import Derived.Test.YtjieklilojmifauGreatRClusN
