/-
  The contracts of the laws' own helpers over rows of commands: marked, and looked at again.
-/
import Derived.Test.YtcfgfhodbjakoavCmdsM
namespace Go.Proofs.Ytcfgfhodbjakoav
open Go.RowKit Num


end Go.Proofs.Ytcfgfhodbjakoav
