/-
  The contracts of the specification's functions on accounts: keys, commands, lists, places.
-/
import Derived.Test.YtdhfoeaofiknjamCellN
import Derived.BigQuiet
namespace Go.Proofs.Ytdhfoeaofiknjam
open Go.RowKit Num


end Go.Proofs.Ytdhfoeaofiknjam
