/-
  The contracts of the program's methods on blocks behind pointers, and of standingOf.
-/
import Derived.Test.YtjieklilojmifatStandI
import Derived.Test.YtjieklilojmifatJ2
namespace Go.Proofs.Ytjieklilojmifat
open Go.RowKit Num





end Go.Proofs.Ytjieklilojmifat
