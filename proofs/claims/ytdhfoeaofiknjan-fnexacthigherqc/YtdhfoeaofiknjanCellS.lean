/-
  The contracts of the specification's functions on accounts: keys, commands, lists, places.
-/
import Derived.Test.YtdhfoeaofiknjanCellN
import Derived.BigQuiet
namespace Go.Proofs.Ytdhfoeaofiknjan
open Go.RowKit Num


end Go.Proofs.Ytdhfoeaofiknjan
