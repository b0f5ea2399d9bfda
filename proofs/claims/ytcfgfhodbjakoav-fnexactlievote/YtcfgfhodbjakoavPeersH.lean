/-
  Rows of replicas looked at again. (Made by gpm15.py.)
-/
import Derived.Test.YtcfgfhodbjakoavPeersM
namespace Go.Proofs.Ytcfgfhodbjakoav
open Go.RowKit Num


end Go.Proofs.Ytcfgfhodbjakoav
