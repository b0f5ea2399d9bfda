/-
  A text of ours: AnyP.
-/
import Derived.Test.YtfnneillakdopacGreatRSomeDZ
import Derived.Test.YtfnneillakdopacGreatRK10
import Derived.Test.YtfnneillakdopacGreatRPeerCZ
import Derived.Test.YtfnneillakdopacGreatRThrSZ
import Derived.Test.YtfnneillakdopacGreatREarSZ
set_option maxRecDepth 100000
set_option maxHeartbeats 32000000
namespace Go.Proofs.YtfnneillakdopacGreatR
open Go.World.ownsRow renaming kept->Aa
open Go.RowKit Num
theorem zO.st {lo hi B:Nat} {w w':World} {p:PE} {s:PV} (h:zO lo hi w p s) (hg:w.grownBy w' (some B)) (hB:B < lo):zO lo hi w' p s:=by
 have k:∀ {e:TypeId} {m n:Nat} {v:Value} {xs:List Value},w.ownsRow lo e m v n xs->v.ownBlock=none∨v.ownBlock ≠ some B:=fun ho=>Or.inr fun e=>by have:=(ho.lt _ e).1;omega
 exact ⟨⟨Aa h.1.row hg (k h.1.row),Aa h.1.cells hg (k h.1.cells),Aa h.1.early hg (k h.1.early),Aa h.1.undos hg (k h.1.undos),Aa h.1.votes hg (k h.1.votes),Aa h.1.news hg (k h.1.news)⟩,h.2.1,Nat.le_trans h.2.2 hg.size⟩
section
variable {w y x:World} {B N lo:Nat} {ao:Option Addr} {len cap b off:Nat} {p p':PE} {t t':PV} {v:Value} {ps:TL}
end
end Go.Proofs.YtfnneillakdopacGreatR
