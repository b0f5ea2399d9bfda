/-
  A cluster marked, and looked at again. (Made by gcl15.py.)
-/
import Derived.Test.YtcfgfhodbjakoavClusL
namespace Go.Proofs.Ytcfgfhodbjakoav
open Go.RowKit Num



end Go.Proofs.Ytcfgfhodbjakoav
