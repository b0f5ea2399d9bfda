/-
  The contracts of the laws' own helpers over a command.
-/
import Derived.Test.YtjieklilojmifatJ2
namespace Go.Proofs.Ytjieklilojmifat
open Go.RowKit Num



end Go.Proofs.Ytjieklilojmifat
