/-
  Commands marked with greater numbers than in CmdsM and CmdsH. (Made by gtm15.py.)
-/
import Derived.Test.YtcfgfhodbjakoavCmdsH
namespace Go.Proofs.Ytcfgfhodbjakoav
open Go.RowKit Num




end Go.Proofs.Ytcfgfhodbjakoav
