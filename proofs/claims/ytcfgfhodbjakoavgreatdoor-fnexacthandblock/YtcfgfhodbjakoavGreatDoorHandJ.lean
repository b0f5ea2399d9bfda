/-
  The contracts of HandBlock, of the specification's and the program's, as the law asks them; what is answered is not too great.
-/
import Derived.Test.YtcfgfhodbjakoavGreatDoorWFnExactHandBlock
import Derived.Test.YtcfgfhodbjakoavGreatDoorHandB2
import Derived.Test.YtcfgfhodbjakoavGreatDoorHandS
namespace Go.Proofs.YtcfgfhodbjakoavGreatDoor
open Go.RowKit Num

theorem handBlock_con : ConHB 17 handBlockF := fun c b cb w hB hk hg hkb hq s lo hi hO _ => handBlock_s c b cb w hB hk hg hkb hq s lo hi hO
theorem handBlock_coni : ConHB 19 handBlockF := fun c b cb w hB hk hg hkb hq s lo hi hO hv => handBlock_i c b cb w hB hk hg hkb hq s lo hi hO hv
theorem handBlock_fit : FitHB handBlockF := fun c b hk hkb hw => by
  rcases handCode_cases c b with ⟨_, h, _⟩ | ⟨_, _, _, h, _⟩
  · rw [h]
    exact ⟨hk, by show wtCl c ≤ 1200000; omega⟩
  · rw [h]
    refine ⟨⟨okT_put hk.tree hkb, hk.lpeers, hk.peers, hk.net, hk.said, hk.pend⟩, ?_⟩
    have h1 := putT_wt c.tree b
    unfold wtCl at hw ⊢
    show wtB (putT c.tree b) + c.peers.length + lenPs c.peers + c.net.length + c.said.length + c.pend.length ≤ 1200000
    omega

end Go.Proofs.YtcfgfhodbjakoavGreatDoor
