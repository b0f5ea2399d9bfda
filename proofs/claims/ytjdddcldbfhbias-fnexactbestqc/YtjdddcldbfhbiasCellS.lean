/-
  The contracts of the specification's functions on accounts: keys, commands, lists, places.
-/
import Derived.Test.YtjdddcldbfhbiasJ0
import Derived.BigQuiet
namespace Go.Proofs.Ytjdddcldbfhbias
open Go.RowKit Num


end Go.Proofs.Ytjdddcldbfhbias
