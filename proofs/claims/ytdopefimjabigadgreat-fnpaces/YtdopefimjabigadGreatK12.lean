/-
  Texts of ours that later ones lean on, in one: VotedI, AnsI, BitN, VoteI, TimeI, FarI, SameI, SameP, CodeOf.
-/
import Derived.Test.YtdopefimjabigadGreatK1
import Derived.Test.YtdopefimjabigadGreatPeerCI
import Derived.Test.YtdopefimjabigadGreatK4
import Derived.Test.YtdopefimjabigadGreatK3
import Derived.Laws.Bits64b
import Derived.BigQuiet
import Derived.OpenShut
import Derived.Test.YtdopefimjabigadGreatTimeS
import Derived.Test.YtdopefimjabigadGreatK6
import Derived.Laws.StructEq
import Derived.Test.YtdopefimjabigadGreatK10
import Derived.ProofKit
import Derived.ChangeOld
set_option maxRecDepth 100000
set_option maxHeartbeats 32000000
namespace Go.Proofs.YtdopefimjabigadGreat
open Go.RowKit Num
theorem enteredR_i (p:PE) (s:PV) (view:Int) (w:World) (hR:jS w p s) (hs:yC p) :
  Calls Tryz.prog 60 #[yZ p s,.int .i64 view] w fun e w'=>∃ s',e=.returned (yZ (yI p view) s')/\zO w.heap.size w'.heap.size w' (yI p view) s'/\Below w.heap.size w w':=by
 have HR:=hid hR;have HS:=hid hs;clear hR hs;obtain ⟨W,hW⟩:∃ W,W=(w.alloc (.cells (zA p s) 35)).alloc (.cells zF 35):=⟨_,rfl⟩;have HW:Hid (Bx2 w W (zA p s) zF):=hid (by rw [hW];exact two_boxes w _ _);unfold zF at hW;go_enter Tryz.func60,Tryz.ntmps60;go_wp2_with (rw [<- hW];clear hW;(refine w_ld w.heap.size HW.out.box Tryz.underlying35 ?_))
 refine (copyPeer_i p s W (HR.out.below HW.out.below) HS.out).mono ?_;rintro e x1 ⟨s1,rfl,ho,hb⟩;have HO1:Hid (zO w.heap.size x1.heap.size x1 p s1):=ho.low HW.out.below.size;have HX1:Hid (Bx2 w x1 (zA p s) zF):=HW.out.more hb;clear ho hb HW
 by_cases hin:view > p.view/\view<=900
 ·have h1:view > p.view:=hin.1;have h1':p.view < view:=hin.1;have h2:view<=900:=hin.2;obtain ⟨q,hq⟩:∃ q:PE,q={ p with view:=view,votes:=[],news:=[] }:=⟨_,rfl⟩;have HE:Hid (yI p view=q):=(by unfold yI;rw [if_pos hin,hq]:yI p view=_);obtain ⟨s2,hs2⟩:∃ s2:PV,s2={ s1 with votes:=.slice none 0 0,news:=.slice none 0 0 }:=⟨_,rfl⟩;clear hin
  go_wp2_with (first
   | (refine w_st w.heap.size (zA p s1) HX1.out.box (zJ HO1.out.1) ?_;intro y1 hg hk hz;have HY1:Hid (Bx2 w y1 (zA p s1) zF):=HX1.out.put hg hk;have HD1:Hid (zO w.heap.size y1.heap.size y1 p s1):=(HO1.out.boxed HX1.out.box hg).wide hg.size (nl _);clear hg hk hz HX1 HO1;have c1:=zB HY1.out.box 1 (.int .i64 p.view) rfl)
   | (refine zU rfl _ _ _ rfl w.heap.size 1 (.int .i64 view) rfl rfl _ _ HY1.out.box (by kernel_rfl) (by simp [zA]) rfl (zA { p with view:=view } s1) rfl ?_;intro y2 hg hk;have HY2:Hid (Bx2 w y2 (zA { p with view:=view } s1) zF):=HY1.out.put hg hk;have HD2:Hid (zO w.heap.size y2.heap.size y2 p s1):=(HD1.out.boxed HY1.out.box hg).wide hg.size (nl _);clear hg hk HY1 HD1 c1)
   | (refine zU rfl _ _ _ rfl w.heap.size 18 (.slice none 0 0) rfl rfl _ _ HY2.out.box (by kernel_rfl) (by simp [zA]) rfl (zA { p with view:=view } { s1 with votes:=.slice none 0 0 }) rfl ?_;intro y3 hg hk;have HY3:Hid (Bx2 w y3 (zA { p with view:=view } { s1 with votes:=.slice none 0 0 }) zF):=HY2.out.put hg hk;have HD3:Hid (zO w.heap.size y3.heap.size y3 p s1):=(HD2.out.boxed HY2.out.box hg).wide hg.size (nl _);clear hg hk HY2 HD2)
   | (refine zU rfl _ _ _ rfl w.heap.size 19 (.slice none 0 0) rfl rfl _ _ HY3.out.box (by kernel_rfl) (by simp [zA]) rfl (zA q s2) (by rw [hq,hs2];rfl) ?_;intro y4 hg hk;have HY4:Hid (Bx2 w y4 (zA q s2) zF):=HY3.out.put hg hk;have HD4:Hid (zO w.heap.size y4.heap.size y4 q s2):=hid (by rw [hq,hs2];exact (zO.setNews (l:=[]) (zO.setVotes (l:=[]) (((HD3.out.boxed HY3.out.box hg).wide hg.size (nl _)).other (q:={ p with view:=view }) rfl rfl rfl rfl rfl rfl) (nl _) (nl _) (World.ownsRow_nil _ _ _ _) (fun g e=>by cases e) (fun g e=>by cases e)) (nl _) (nl _) (World.ownsRow_nil _ _ _ _) (fun g e=>by cases e) (fun g e=>by cases e)));clear hg hk HY3 HD3 hq hs2)
   | (refine w_ld w.heap.size HY4.out.box Tryz.underlying35 ?_)
   | (refine w_st (w.heap.size+1) (zA q s2) HY4.out.zero (zJ HD4.out.1) ?_;intro z hg hk hz;have HBz:Hid (Below w.heap.size w z):=HY4.out.below.grown hg HY4.out.below.size (fun k hk=>by cases hk;omega);have HKz:Hid (Bx z (w.heap.size+1) (zA q s2) 35):=hk;have HFz:Hid (zO w.heap.size z.heap.size z q s2):=(HD4.out.boxed HY4.out.zero hg).wide hg.size (nl _);clear hg hk hz HD4 HY4))
  refine bodyPost_ret (v:=.agg (zA q s2)) (results_cell_row Tryz.results60 _ _ (w.heap.size+1) 35 _ (0,0) _ rfl HKz.out Tryz.underlying35 rfl (by kernel_rfl)) rfl ?_;rw [HE.out];exact ⟨_,rfl,HFz.out,HBz.out⟩
 ·have HE:Hid (yI p view=p):=hid (by unfold yI;rw [if_neg hin])
  by_cases h1:p.view < view
  ·have h2:¬ view<=900:=fun h=>hin ⟨h1,h⟩
   clear hin
   go_wp2_with (first
    | (refine w_st w.heap.size (zA p s1) HX1.out.box (zJ HO1.out.1) ?_;intro y1 hg hk hz;have HY1:Hid (Bx2 w y1 (zA p s1) zF):=HX1.out.put hg hk;have HD1:Hid (zO w.heap.size y1.heap.size y1 p s1):=(HO1.out.boxed HX1.out.box hg).wide hg.size (nl _);clear hg hk hz HX1 HO1;have c1:=zB HY1.out.box 1 (.int .i64 p.view) rfl)
    | (refine w_ld w.heap.size HY1.out.box Tryz.underlying35 ?_)
    | (refine w_st (w.heap.size+1) (zA p s1) HY1.out.zero (zJ HD1.out.1) ?_;intro z hg hk hz;have HBz:Hid (Below w.heap.size w z):=HY1.out.below.grown hg HY1.out.below.size (fun k hk=>by cases hk;omega);have HKz:Hid (Bx z (w.heap.size+1) (zA p s1) 35):=hk;have HFz:Hid (zO w.heap.size z.heap.size z p s1):=(HD1.out.boxed HY1.out.zero hg).wide hg.size (nl _);clear hg hk hz HD1 HY1))
   refine bodyPost_ret (v:=.agg (zA p s1)) (results_cell_row Tryz.results60 _ _ (w.heap.size+1) 35 _ (0,0) _ rfl HKz.out Tryz.underlying35 rfl (by kernel_rfl)) rfl ?_;rw [HE.out];exact ⟨_,rfl,HFz.out,HBz.out⟩
  ·clear hin
   go_wp2_with (first
    | (refine w_st w.heap.size (zA p s1) HX1.out.box (zJ HO1.out.1) ?_;intro y1 hg hk hz;have HY1:Hid (Bx2 w y1 (zA p s1) zF):=HX1.out.put hg hk;have HD1:Hid (zO w.heap.size y1.heap.size y1 p s1):=(HO1.out.boxed HX1.out.box hg).wide hg.size (nl _);clear hg hk hz HX1 HO1;have c1:=zB HY1.out.box 1 (.int .i64 p.view) rfl)
    | (refine w_ld w.heap.size HY1.out.box Tryz.underlying35 ?_)
    | (refine w_st (w.heap.size+1) (zA p s1) HY1.out.zero (zJ HD1.out.1) ?_;intro z hg hk hz;have HBz:Hid (Below w.heap.size w z):=HY1.out.below.grown hg HY1.out.below.size (fun k hk=>by cases hk;omega);have HKz:Hid (Bx z (w.heap.size+1) (zA p s1) 35):=hk;have HFz:Hid (zO w.heap.size z.heap.size z p s1):=(HD1.out.boxed HY1.out.zero hg).wide hg.size (nl _);clear hg hk hz HD1 HY1))
   refine bodyPost_ret (v:=.agg (zA p s1)) (results_cell_row Tryz.results60 _ _ (w.heap.size+1) 35 _ (0,0) _ rfl HKz.out Tryz.underlying35 rfl (by kernel_rfl)) rfl ?_;rw [HE.out];exact ⟨_,rfl,HFz.out,HBz.out⟩
theorem answeredR_i (p:PE) (s:PV) (kind tw:Int) (q:QC) (v:VT) (w:World) :
  Calls Tryz.prog 61 #[yZ p s,.int .i64 kind,.int .i64 tw,.agg #[.int .i64 q.1,.int .i64 q.2.1,.int .i64 q.2.2.1,.int .i64 q.2.2.2],.agg #[.int .i64 v.1,.int .i64 v.2.1,.int .i64 v.2.2.1,.int .i64 v.2.2.2]] w fun e w'=>e=.returned (letV (kX p kind tw q v))/\Below w.heap.size w w':=by
 obtain ⟨q0,q1,q2,q3⟩:=q;obtain ⟨v0,v1,v2,v3⟩:=v;simp only;obtain ⟨W,hW⟩:∃ W,W=(((w.alloc (.cells (zA p s) 35)).alloc (.cells #[.int .i64 q0,.int .i64 q1,.int .i64 q2,.int .i64 q3] 26)).alloc (.cells #[.int .i64 v0,.int .i64 v1,.int .i64 v2,.int .i64 v3] 28)).alloc (.cells (zQ ((0,0,0,0,0),(0,0,0,0),(0,0,0,0))) 37):=⟨_,rfl⟩
 have HC:Hid (Below w.heap.size w W/\Bx W w.heap.size (zA p s) 35/\Bx W (w.heap.size+1) #[.int .i64 q0,.int .i64 q1,.int .i64 q2,.int .i64 q3] 26/\Bx W (w.heap.size+1+1) #[.int .i64 v0,.int .i64 v1,.int .i64 v2,.int .i64 v3] 28/\Bx W (w.heap.size+1+1+1) (zQ ((0,0,0,0,0),(0,0,0,0),(0,0,0,0))) 37):=by
  rw [hW];exact ⟨ba (ba (ba (ba (br _ _) _) _) _) _,alloc4 w _ _ _ _⟩
 have c0:=zB HC.out.2.1 0 (.int .i64 p.id) rfl;have c1:=zB HC.out.2.1 1 (.int .i64 p.view) rfl;have c2:=zB HC.out.2.2.2.1 1 (.int .i64 v1) rfl;unfold zQ at hW;simp only at hW
 by_cases hk:kind=2
 ·have HE:Hid (kX p kind tw (q0,q1,q2,q3) (v0,v1,v2,v3)=((kind,p.id,tw,v1,0),(0,0,0,0),(v0,v1,v2,v3))):=(by unfold kX;rw [if_pos hk]:kX p kind tw (q0,q1,q2,q3) (v0,v1,v2,v3)=_);have b2:(kind == 2)=true:=by simpa using hk
  clear hk;go_enter Tryz.func61,Tryz.ntmps61
  go_wp2_with (first
   | (rw [<- hW];clear hW)
   | (refine w_ld (w.heap.size+1+1) HC.out.2.2.2.1 Tryz.underlying28 ?_)
   | (refine w_st (w.heap.size+1+1+1) (zQ (((kind,p.id,tw,v1,0),(0,0,0,0),(v0,v1,v2,v3)))) HC.out.2.2.2.2 (kD _) ?_;intro z hg hk hz;have HZ:Hid (Below w.heap.size w z/\Bx z (w.heap.size+1+1+1) (zQ (((kind,p.id,tw,v1,0),(0,0,0,0),(v0,v1,v2,v3)))) 37):=⟨HC.out.1.grown hg HC.out.1.size (fun k hk=>by cases hk;omega),hk⟩;clear hg hk hz HC c0 c1 c2))
  refine bodyPost_ret (v:=.agg (zQ (((kind,p.id,tw,v1,0),(0,0,0,0),(v0,v1,v2,v3))))) (results_cell_row Tryz.results61 _ _ (w.heap.size+1+1+1) 37 _ (0,0) _ rfl HZ.out.2 Tryz.underlying37 rfl (by kernel_rfl)) rfl ?_;exact ⟨by rw [HE.out];rfl,HZ.out.1⟩
 ·have HE:Hid (kX p kind tw (q0,q1,q2,q3) (v0,v1,v2,v3)=((kind,p.id,tw,p.view,0),(q0,q1,q2,q3),(0,0,0,0))):=(by unfold kX;rw [if_neg hk]:kX p kind tw (q0,q1,q2,q3) (v0,v1,v2,v3)=_);have b2:(kind == 2)=false:=by simpa using hk
  clear hk;go_enter Tryz.func61,Tryz.ntmps61
  go_wp2_with (first
   | (rw [<- hW];clear hW)
   | (refine w_ld (w.heap.size+1) HC.out.2.2.1 Tryz.underlying26 ?_)
   | (refine w_st (w.heap.size+1+1+1) (zQ (((kind,p.id,tw,p.view,0),(q0,q1,q2,q3),(0,0,0,0)))) HC.out.2.2.2.2 (kD _) ?_;intro z hg hk hz;have HZ:Hid (Below w.heap.size w z/\Bx z (w.heap.size+1+1+1) (zQ (((kind,p.id,tw,p.view,0),(q0,q1,q2,q3),(0,0,0,0)))) 37):=⟨HC.out.1.grown hg HC.out.1.size (fun k hk=>by cases hk;omega),hk⟩;clear hg hk hz HC c0 c1 c2))
  refine bodyPost_ret (v:=.agg (zQ (((kind,p.id,tw,p.view,0),(q0,q1,q2,q3),(0,0,0,0))))) (results_cell_row Tryz.results61 _ _ (w.heap.size+1+1+1) 37 _ (0,0) _ rfl HZ.out.2 Tryz.underlying37 rfl (by kernel_rfl)) rfl ?_;exact ⟨by rw [HE.out];rfl,HZ.out.1⟩
def b2 (b:Bool) (k:Nat):Int:=if b=true then (2:Int) ^ k else 0
theorem leader_i0 (view n:Int) (w:World) (_:-9223372036854775808<=n) (h1:n<=9223372036854775807) (_:-9223372036854775808<=view) (h3:view<=9223372036854775807) :
  Calls Tryz.prog 62 #[.int .i64 view,.int .i64 n] w fun e w'=>e=.returned (.int .i64 (xQ view n))/\w'=w:=by
 by_cases h:n < 1
 ·have HF:Hid (xQ view n=0):=if_pos (Or.inl h);go_enter Tryz.func62,Tryz.ntmps62;go_wp2;go_ret;exact ⟨jD HF.out.symm,rfl⟩
 ·by_cases hv:view < 0
  ·have HF:Hid (xQ view n=0):=if_pos (Or.inr hv);go_enter Tryz.func62,Tryz.ntmps62;go_wp2;go_ret;exact ⟨jD HF.out.symm,rfl⟩
  ·have HF:Hid (xQ view n=view / 4 % n):=if_neg (by omega);have q0:0<=view / 4:=by omega
   go_enter Tryz.func62,Tryz.ntmps62;go_wp2;go_ret;exact ⟨jD HF.out.symm,rfl⟩
structure TB (w y:World) (A Z L:Array Value):Prop where
 below:Below w.heap.size w y
 box:Bx y w.heap.size A 35
 zero:Bx y (w.heap.size+1) Z 35
 last:Bx y (w.heap.size+1+1) L 37
theorem TB.lt {w y:World} {A Z L:Array Value} (h:TB w y A Z L):w.heap.size+1+1 < y.heap.size:=(gl h.last)
theorem TB.more {w y x:World} {A Z L:Array Value} (h:TB w y A Z L) (hb:Below y.heap.size y x):TB w x A Z L:=by
 have:=h.lt;exact ⟨bt h.below hb,(hb.block _ (by omega)).trans h.box,(hb.block _ (by omega)).trans h.zero,(hb.block _ (by omega)).trans h.last⟩
theorem TB.put {w y x:World} {A A' Z L:Array Value} (h:TB w y A Z L) (hg:y.grownBy x (some w.heap.size)) (hk:Bx x w.heap.size A' 35):TB w x A' Z L:=by
 have:=h.lt;exact ⟨h.below.grown hg h.below.size (fun k hk=>by cases hk;omega),hk,(hg.block _ (by omega) (fun e=>by have:=Option.some.inj e;omega)).trans h.zero,(hg.block _ (by omega) (fun e=>by have:=Option.some.inj e;omega)).trans h.last⟩
theorem TB.put1 {w y x:World} {A Z Z' L:Array Value} (h:TB w y A Z L) (hg:y.grownBy x (some (w.heap.size+1))) (hk:Bx x (w.heap.size+1) Z' 35):TB w x A Z' L:=by
 have:=h.lt;exact ⟨h.below.grown hg h.below.size (fun k hk=>by cases hk;omega),(hg.block _ (by omega) (fun e=>by have:=Option.some.inj e;omega)).trans h.box,hk,(hg.block _ (by omega) (fun e=>by have:=Option.some.inj e;omega)).trans h.last⟩
theorem TB.put2 {w y x:World} {A Z L L':Array Value} (h:TB w y A Z L) (hg:y.grownBy x (some (w.heap.size+1+1))) (hk:Bx x (w.heap.size+1+1) L' 37):TB w x A Z L':=by
 have:=h.lt;exact ⟨h.below.grown hg h.below.size (fun k hk=>by cases hk;omega),(hg.block _ (by omega) (fun e=>by have:=Option.some.inj e;omega)).trans h.box,(hg.block _ (by omega) (fun e=>by have:=Option.some.inj e;omega)).trans h.zero,hk⟩
theorem leader_ii {view n r:Int} (h:xQ view n=r) (hn0:-9223372036854775808<=n) (hn1:n<=9223372036854775807) (hv0:-9223372036854775808<=view) (hv1:view<=9223372036854775807) (w:World) :
  Calls Tryz.prog 62 #[.int .i64 view,.int .i64 n] w fun e w'=>e=.returned (.int .i64 r)/\w'=w:=by rw [<- h];exact leader_i0 view n w hn0 hn1 hv0 hv1
theorem timedR_i (p:PE) (s:PV) (n:Int) (w:World) (hg:yDG p) (hwn:(Lit.int .i64 n).wf=true) (hR:jS w p s) (hs:yC p) :
  Calls Tryz.prog 19 #[yZ p s,.int .i64 n] w fun e w'=>∃ s',e=.returned (.tuple #[yZ (zGH p n) s',.agg (zQ (yEB p n)),.bool (jT p n)])/\zO w.heap.size w'.heap.size w' (zGH p n) s'/\Below w.heap.size w w':=by
 have HR:=hid hR;have HS:=hid hs;obtain ⟨hn0,hn1⟩:=bounds_i64 hwn;obtain ⟨hv0,hv1⟩:=bounds_i64 hg.gview;clear hR hs hg hwn;obtain ⟨W,hW⟩:∃ W,W=((w.alloc (.cells (zA p s) 35)).alloc (.cells zF 35)).alloc (.cells (zQ ((0,0,0,0,0),(0,0,0,0),(0,0,0,0))) 37):=⟨_,rfl⟩
 have HC:Hid (TB w W (zA p s) zF (zQ ((0,0,0,0,0),(0,0,0,0),(0,0,0,0)))):=by
  have a3:=zJH w (.cells (zA p s) 35) (.cells zF 35) (.cells (zQ ((0,0,0,0,0),(0,0,0,0),(0,0,0,0))) 37);rw [hW];exact ⟨ba (ba (ba (br _ _) _) _) _,a3.1,a3.2.1,a3.2.2⟩
 have HWS:Hid (W.heap.size=w.heap.size+1+1+1):=hid (by rw [hW];simp);have c1:=zB HC.out.box 1 (.int .i64 p.view) rfl;unfold zF zQ at hW;simp only at hW
 cases hgo:jT p n with
 | true=>
  have hg2:=hgo;unfold jT inB at hg2;simp only [Bool.and_eq_true,decide_eq_true_eq] at hg2;obtain ⟨h1,h2,h3⟩:=hg2;have b1:¬ p.view ≥ 900:=by omega
  have b1':¬ (900:Int)<=p.view:=by omega
  have d1:decide ((900:Int)<=p.view)=false:=decide_eq_false b1';have b2:¬ n < 1:=by omega
  have b3:¬ n > 7:=by omega
  have b3':¬ (7:Int) < n:=by omega
  have hwv:IntKind.wrap .i64 (p.view+1)=p.view+1:=by rw [IntKind.wrap_i64];omega
  have HT:Hid (zGH p n=yI p (p.view+1)/\yEB p n=kX (yI p (p.view+1)) 4 (xQ (yI p (p.view+1)).view n) (yI p (p.view+1)).high (0,0,0,0)):=hid (by unfold zGH yEB;rw [hgo];exact ⟨rfl,rfl⟩);have hvv:(yI p (p.view+1)).view=p.view+1:=by unfold yI;rw [if_pos ⟨by omega,by omega⟩]
  go_enter Tryz.func19,Tryz.ntmps19;go_wp2_with (first | (rw [<- hW];clear hW) | (refine w_ld w.heap.size HC.out.box Tryz.underlying35 ?_))
  refine (enteredR_i p s (p.view+1) W (HR.out.below HC.out.below) HS.out).mono ?_;obtain ⟨q,hq⟩:∃ q,q=yI p (p.view+1):=⟨_,rfl⟩;rw [<- hq] at hvv HT ⊢;have HQV:Hid (q.view=p.view+1):=hvv;clear hq hvv;rintro e x1 ⟨s1,rfl,ho,hb⟩;have HO1:Hid (zO W.heap.size x1.heap.size x1 q s1):=ho;have HX1:=hid (HC.out.more hb);clear ho hb HC c1;go_wp2_with (refine w_st w.heap.size (zA q s1) HX1.out.box (zJ HO1.out.1) ?_;intro y1 hg hk hz;have HY1:=hid (HX1.out.put hg hk);have HD1:Hid (zO W.heap.size y1.heap.size y1 q s1):=(HO1.out.boxed HX1.out.box hg).wide hg.size (nl _);clear hg hk hz HX1 HO1)
  obtain ⟨ld,e1⟩:∃ ld,xQ q.view n=ld:=⟨_,rfl⟩;rw [e1] at HT;refine xA (fun x=>Bx x w.heap.size (zA q s1) 35) (by kernel_rfl) ?_;show wpAnyH Tryz.prog _ _ _ _ (12+1) (Array.replicate 13 false) _ _;have hS:Bx y1.drew w.heap.size (zA q s1) 35:=HY1.out.box;refine yJ 0 26 (.agg (zA q s1)) hS ?_ (hy:=fun x hx=>zM _ _ rfl w.heap.size rfl _ _ _ _ hx Tryz.underlying35 rfl (by kernel_rfl));refine yJ 1 27 (.agg (zA q s1)) hS ?_ (hy:=fun x hx=>zM _ _ rfl w.heap.size rfl _ _ _ _ hx Tryz.underlying35 rfl (by kernel_rfl));refine yJ 2 28 (.pointer (some ⟨w.heap.size,1,none⟩)) hS ?_;refine yJ 3 29 (.int .i64 q.view) hS ?_ (hy:=by intro x hx;have c:=zB hx 1 (.int .i64 q.view) rfl;go_simp;try with_reducible rfl);refine yJ 4 30 (.int .i64 n) hS ?_;refine yJ 6 32 (.pointer (some ⟨w.heap.size,2,none⟩)) hS ?_;refine yJ 7 33 (.agg #[.int .i64 q.high.1,.int .i64 q.high.2.1,.int .i64 q.high.2.2.1,.int .i64 q.high.2.2.2]) hS ?_ (hy:=by intro x hx;have c0:=zB hx 2 (.int .i64 q.high.1) rfl;have c1:=zB hx 3 (.int .i64 q.high.2.1) rfl;have c2:=zB hx 4 (.int .i64 q.high.2.2.1) rfl;have c3:=zB hx 5 (.int .i64 q.high.2.2.2) rfl;go_simp;try with_reducible rfl);refine yJ 8 34 (.agg #[.int .i64 0,.int .i64 0,.int .i64 0,.int .i64 0]) hS ?_;refine h_cl 5 31 62 #[.int .i64 q.view,.int .i64 n] ((leader_ii e1 hn0 hn1 (by have:=HQV.out;omega) (by have:=HQV.out;omega) y1.drew).mono ?_);rintro e x2 ⟨rfl,hw⟩;obtain rfl:=hw.symm;clear hw;refine ⟨_,rfl,hS,?_⟩;simp only [pz];refine h_cl 9 35 61 #[.agg (zA q s1),.int .i64 4,.int .i64 ld,.agg #[.int .i64 q.high.1,.int .i64 q.high.2.1,.int .i64 q.high.2.2.1,.int .i64 q.high.2.2.2],.agg #[.int .i64 0,.int .i64 0,.int .i64 0,.int .i64 0]] ((answeredR_i q s1 4 ld q.high (0,0,0,0) y1.drew).mono ?_);obtain ⟨LL,hLL⟩:∃ LL,LL=kX q 4 ld q.high (0,0,0,0):=⟨_,rfl⟩;rw [<- hLL] at HT ⊢;clear hLL;rintro e x3 ⟨rfl,hb0⟩;have hb:Below y1.heap.size y1 x3:=((br _ _).drew).trans hb0;have HY3:=hid (HY1.out.more hb);have HD3:Hid (zO W.heap.size x3.heap.size x3 q s1):=(HD1.out.below hb).wide hb.size (nl _);clear hb hb0 hS HY1 HD1;refine ⟨_,rfl,HY3.out.box,?_⟩;simp only [pz];refine h_st 10 (w.heap.size+1) (zA q s1) HY3.out.zero (zJ HD3.out.1) ?_;intro y4 hg hk;have HY4:=hid (HY3.out.put1 hg hk);have HD4:Hid (zO W.heap.size y4.heap.size y4 q s1):=(HD3.out.boxed HY3.out.zero hg).wide hg.size (nl _);clear hg hk HY3 HD3;refine ⟨HY4.out.box,?_⟩;refine h_st 11 (w.heap.size+1+1) (zQ LL) HY4.out.last (kD _) ?_;intro z hg hk;have HZ:=hid (HY4.out.put2 hg hk);have HFz:Hid (zO W.heap.size z.heap.size z q s1):=(HD4.out.far hg (Or.inl (by have:=HWS.out;omega))).wide hg.size (nl _);clear hg hk HY4 HD4;refine ⟨HZ.out.box,?_⟩;refine yJ 12 6 (.bool true) HZ.out.box ?_;refine h_dn ?_;go_wp2;refine bodyPost_ret (v:=.tuple #[.agg (zA q s1),.agg (zQ LL),.bool true]) (zIB Tryz.results19 _ _ (w.heap.size+1) 35 _ (0,0) _ (w.heap.size+1+1) 37 _ (0,0) _ _ rfl HZ.out.zero Tryz.underlying35 rfl (by kernel_rfl) rfl HZ.out.last Tryz.underlying37 rfl (by kernel_rfl) rfl) rfl ?_;rw [HT.out.1,HT.out.2];exact ⟨_,rfl,HFz.out.low (by have:=HWS.out;omega),HZ.out.below⟩
 | false=>
  have HT:Hid (zGH p n=p/\yEB p n=((0,0,0,0,0),(0,0,0,0),(0,0,0,0))):=(by unfold zGH yEB;rw [hgo];exact ⟨rfl,rfl⟩:zGH p n=p/\_)
  have hc:decide ((900:Int)<=p.view)=true∨(decide ((900:Int)<=p.view)=false/\decide (n < 1)=true)∨(decide ((900:Int)<=p.view)=false/\decide (n < 1)=false/\decide ((7:Int) < n)=true):=by
   unfold jT inB at hgo;simp only [decide_eq_true_eq,decide_eq_false_iff_not]
   by_cases a1:(900:Int)<=p.view
   ·exact Or.inl a1
   ·by_cases a2:n < 1
    ·exact Or.inr (Or.inl ⟨a1,a2⟩)
    ·refine Or.inr (Or.inr ⟨a1,a2,?_⟩);have e1:decide (p.view < 900)=true:=decide_eq_true (by omega);rw [e1,Bool.true_and] at hgo;have:=of_decide_eq_false hgo;omega
  rcases hc with d1 | ⟨d1,d2⟩ | ⟨d1,d2,d3⟩
  all_goals
   go_enter Tryz.func19,Tryz.ntmps19;go_wp2_with (first | (rw [<- hW];clear hW) | (refine w_ld w.heap.size HC.out.box Tryz.underlying35 ?_))
   refine (copyPeer_i p s W (HR.out.below HC.out.below) HS.out).mono ?_;rintro e x1 ⟨s1,rfl,ho,hb⟩;have HO1:Hid (zO W.heap.size x1.heap.size x1 p s1):=ho;have HX1:=hid (HC.out.more hb);clear ho hb HC c1
   go_wp2_with (first
    | (refine w_st (w.heap.size+1) (zA p s1) HX1.out.zero (zJ HO1.out.1) ?_;intro y1 hg hk hz;have HY1:=hid (HX1.out.put1 hg hk);have HD1:Hid (zO W.heap.size y1.heap.size y1 p s1):=(HO1.out.boxed HX1.out.zero hg).wide hg.size (nl _);clear hg hk hz HX1 HO1)
    | (refine w_st (w.heap.size+1+1) (zQ ((0,0,0,0,0),(0,0,0,0),(0,0,0,0))) HY1.out.last (kD _) ?_;intro z hg hk hz;have HZ:=hid (HY1.out.put2 hg hk);have HFz:Hid (zO W.heap.size z.heap.size z p s1):=(HD1.out.far hg (Or.inl (by have:=HWS.out;omega))).wide hg.size (nl _);clear hg hk hz HY1 HD1))
   refine bodyPost_ret (v:=.tuple #[.agg (zA p s1),.agg (zQ ((0,0,0,0,0),(0,0,0,0),(0,0,0,0))),.bool false]) (zIB Tryz.results19 _ _ (w.heap.size+1) 35 _ (0,0) _ (w.heap.size+1+1) 37 _ (0,0) _ _ rfl HZ.out.zero Tryz.underlying35 rfl (by kernel_rfl) rfl HZ.out.last Tryz.underlying37 rfl (by kernel_rfl) rfl) rfl ?_;rw [HT.out.1,HT.out.2];exact ⟨_,rfl,HFz.out.low (by have:=HWS.out;omega),HZ.out.below⟩
theorem far_i (ps:PL) (v:Value) (w:World) (hT:PeersR w v ps) (hl:(ps.length:Int)<=1048576) (h0:∀ x∈ps,0<=x.1.view) :
  Calls Tryz.prog 22 #[v] w fun e w'=>e=.returned (.int .i64 (yEH (pes ps) 0))/\Below w.heap.size w w':=by
 have hbl:=yCI ps;obtain ⟨a,cap,rfl,hr⟩:=hT.row;have HR:=hid hr;clear hr hT
 by_cases hz:ps.length=0
 ·have HE:Hid (yEH (pes ps) 0=0):=hid (by rw [List.eq_nil_of_length_eq_zero hz];rfl);have b0:((ps.length:Int) == 0)=true:=by simpa using hz
  go_enter Tryz.func22,Tryz.ntmps22;go_wp2;go_ret;exact ⟨jD HE.out.symm,br _ _⟩
 have b0:((ps.length:Int) == 0)=false:=beq_eq_false_iff_ne.2 (by omega);have hp0:0 < ps.length:=by omega
 have q1:(0:Int) < (ps.length:Int):=by omega
 obtain ⟨z0,hz0⟩:∃ z,z=ps[0].1.view:=⟨_,rfl⟩;have hf0:0<=z0:=by rw [hz0];exact h0 _ (List.getElem_mem hp0)
 have H0:=hid h0
 have HS:Hid (yEH (pes ps) 0=yEH ((pes ps).drop 0) z0):=(by
  have k0:0 < (pes ps).length:=by rw [hbl];exact hp0
  have e1:=farT_drop (pes ps) 0 k0 0;have e2:=farT_drop (pes ps) 0 k0 z0;rw [pes_at hp0,<- hz0] at e1 e2;rw [e2];rw [List.drop_zero] at e1;rw [e1]
  congr 1
  split <;> split <;> omega:yEH (pes ps) 0=yEH ((pes ps).drop 0) z0)
 obtain ⟨g0,off0,rfl,hg0,hc0⟩:=HR.out hp0;have c0:w.cell? ⟨g0,off0+1,none⟩=some (.int .i64 z0):=by rw [hz0];have:=hc0 0 hp0 1 (by omega);rw [Nat.zero_mul,Nat.add_zero] at this;exact this
 clear hz0 hc0 h0;go_enter Tryz.func22,Tryz.ntmps22;go_wp2
 go_loopw [3,14] (fun n i wr=>∃ (k:Nat) (q:Int),k<=ps.length/\i=.int .i64 (k:Int)/\n=.int .i64 q/\Hid (yEH (pes ps) 0=yEH ((pes ps).drop k) q)/\Below w.heap.size w wr) (fun _ i _=>ps.length - (intOf i).toNat)
 case atStart=>exact ⟨0,z0,Nat.zero_le _,rfl,rfl,HS,br _ _⟩
 case round=>
  obtain ⟨k,q,hk,rfl,rfl,HL,hbel⟩:=hrel
  by_cases hlt:(k:Int) < ps.length
  ·have hkn:k < ps.length:=by omega
   have q0:(0:Int)<=(k:Int):=by omega
   obtain ⟨g,off,he,hg,hc⟩:=HR.out (by omega);injection he with he
   injection he with e1 e2
   subst e1 e2;obtain ⟨z,hz⟩:∃ z,z=ps[k].1.view:=⟨_,rfl⟩;have c1:wr.cell? ⟨g0,off0+k * 21+1,none⟩=some (.int .i64 z):=by rw [hz,hbel.cell (by exact hg)];exact hc k hkn 1 (by omega)
   have HN:Hid (yEH (pes ps) 0=yEH ((pes ps).drop (k+1)) (if q < z then z else q)):=hid (by rw [HL.out,farT_drop _ k (by rw [hbl];exact hkn),pes_at hkn,<- hz]);clear hc hz
   by_cases hqz:q < z
   ·have HN2:Hid (yEH (pes ps) 0=yEH ((pes ps).drop (k+1)) z):=hid (by have:=HN.out;rw [if_pos hqz] at this;exact this);go_wp2
    go_roundw
    case rel=>exact ⟨k+1,z,by omega,by go_num,(by first | rfl | exact congrArg (Value.int IntKind.i64) (by omega)),HN2,hbel⟩
    case measure=>simp [intOf];omega
   ·have HN2:Hid (yEH (pes ps) 0=yEH ((pes ps).drop (k+1)) q):=hid (by have:=HN.out;rw [if_neg hqz] at this;exact this);go_wp2
    go_roundw
    case rel=>exact ⟨k+1,q,by omega,by go_num,(by first | rfl | exact congrArg (Value.int IntKind.i64) (by omega)),HN2,hbel⟩
    case measure=>simp [intOf];omega
  ·have hkl:k=ps.length:=by omega
   have HF:Hid (yEH (pes ps) 0=q):=hid (by rw [HL.out,hkl,List.drop_eq_nil_of_le (by rw [hbl];exact nl _)];rfl);clear hkl;go_wp2;go_ret;exact ⟨jD HF.out.symm,hbel⟩
theorem sameInts_yes (l:List Int) (a b:Value) (w:World) (ha:yM w a 1 xJ l) (hb:yM w b 1 xJ l) (hl:(l.length:Int)<=1048576) :
  Calls Tryz.prog 38 #[a,b] w fun e w'=>e=.returned (.bool true)/\Below w.heap.size w w':=by
 obtain ⟨a,ca,rfl,hra⟩:=ha;obtain ⟨b,cb,rfl,hrb⟩:=hb;have HA:=hid hra;have HB:=hid hrb;clear hra hrb;go_enter Tryz.func38,Tryz.ntmps38;go_wp2
 go_loopw [5] (fun i wr=>∃ m:Nat,m<=l.length/\i=.int .i64 m/\Below w.heap.size w wr) (fun i _=>l.length - (intOf i).toNat)
 case atStart=>exact ⟨0,Nat.zero_le _,rfl,br _ _⟩
 case round=>
  obtain ⟨m,hm,rfl,hbel⟩:=hrel
  by_cases hlt:(m:Int) < l.length
  ·have q0:(0:Int)<=(m:Int):=by omega
   have hmn:m < l.length:=by omega
   obtain ⟨ga,oa,rfl,hga,hca⟩:=HA.out (by omega);obtain ⟨gb,ob,rfl,hgb,hcb⟩:=HB.out (by omega);have hne:=yX wr;have c0:∀ x:Bw wr,x.to.cell? ⟨ga,oa+m,none⟩=some (.int .i64 l[m]):=fun x=>by rw [(bt hbel x.below).cell (by exact hga)];have:=hca m hmn 0 (by omega);simpa [xJ] using this
   have d0:∀ x:Bw wr,x.to.cell? ⟨gb,ob+m,none⟩=some (.int .i64 l[m]):=fun x=>by rw [(bt hbel x.below).cell (by exact hgb)];have:=hcb m hmn 0 (by omega);simpa [xJ] using this
   clear hca hcb;go_wp2;refine rb ?_;repeat (go_big_quiet_step (fail))
   refine wpQuiet_nil ?_;intro _ hw';obtain ⟨x,rfl⟩:=hw';go_wp2
   go_roundw
   case rel=>exact ⟨m+1,by omega,by go_num,bt hbel x.below⟩
   case measure=>simp [intOf];omega
  ·go_wp2;go_ret;exact ⟨rfl,hbel⟩
theorem sfV (a b c d:Int) (w:World):(Op.equalIn 10000 28 (.agg #[.int .i64 a,.int .i64 b,.int .i64 c,.int .i64 d]) (.agg #[.int .i64 a,.int .i64 b,.int .i64 c,.int .i64 d])).run Tryz.prog w=.ok true w:=by
 have u3:=Tryz.underlying3;have hS:Tryz.prog.underlying 28=some (.struct (Tryz.prog.fieldsOf 28)):=by kernel_rfl
 have hp:Tryz.prog.stoodInHeld 28=false:=by kernel_rfl
 rw [show (10000:Nat)=9999+1 from rfl,run_equalIn_agg w 9999 28 _ _ hS hp];simp only [Program.fieldsOf,Tryz.underlying28];go_simp
theorem sfVg:Tryz.prog.eqGuardType Tryz.prog.depth 28=false:=by kernel_rfl
theorem sfQ (a b c d:Int) (w:World):(Op.equalIn 10000 26 (.agg #[.int .i64 a,.int .i64 b,.int .i64 c,.int .i64 d]) (.agg #[.int .i64 a,.int .i64 b,.int .i64 c,.int .i64 d])).run Tryz.prog w=.ok true w:=by
 have u3:=Tryz.underlying3;have hS:Tryz.prog.underlying 26=some (.struct (Tryz.prog.fieldsOf 26)):=by kernel_rfl
 have hp:Tryz.prog.stoodInHeld 26=false:=by kernel_rfl
 rw [show (10000:Nat)=9999+1 from rfl,run_equalIn_agg w 9999 26 _ _ hS hp];simp only [Program.fieldsOf,Tryz.underlying26];go_simp
theorem sfQg:Tryz.prog.eqGuardType Tryz.prog.depth 26=false:=by kernel_rfl
theorem sfU (k:ByteArray) (o:Bool) (n:Int) (w:World):(Op.equalIn 10000 110 (.agg #[.string k,.bool o,.int .i64 n]) (.agg #[.string k,.bool o,.int .i64 n])).run Tryz.prog w=.ok true w:=by
 have u3:=Tryz.underlying3;have u9:=Tryz.underlying9;have u4:=Tryz.underlying4;have hS:Tryz.prog.underlying 110=some (.struct (Tryz.prog.fieldsOf 110)):=by kernel_rfl
 have hp:Tryz.prog.stoodInHeld 110=false:=by kernel_rfl
 rw [show (10000:Nat)=9999+1 from rfl,run_equalIn_agg w 9999 110 _ _ hS hp];simp only [Program.fieldsOf,Tryz.underlying110];go_simp
theorem sfUg:Tryz.prog.eqGuardType Tryz.prog.depth 110=false:=by kernel_rfl
theorem sfVd (a b c d:Int) (w:World):(Op.equalIn 9999 28 (.agg #[.int .i64 a,.int .i64 b,.int .i64 c,.int .i64 d]) (.agg #[.int .i64 a,.int .i64 b,.int .i64 c,.int .i64 d])).run Tryz.prog w=.ok true w:=by
 have u3:=Tryz.underlying3;have hS:Tryz.prog.underlying 28=some (.struct (Tryz.prog.fieldsOf 28)):=by kernel_rfl
 have hp:Tryz.prog.stoodInHeld 28=false:=by kernel_rfl
 rw [show (9999:Nat)=9998+1 from rfl,run_equalIn_agg w 9998 28 _ _ hS hp];simp only [Program.fieldsOf,Tryz.underlying28];go_simp
theorem sfQd (a b c d:Int) (w:World):(Op.equalIn 9999 26 (.agg #[.int .i64 a,.int .i64 b,.int .i64 c,.int .i64 d]) (.agg #[.int .i64 a,.int .i64 b,.int .i64 c,.int .i64 d])).run Tryz.prog w=.ok true w:=by
 have u3:=Tryz.underlying3;have hS:Tryz.prog.underlying 26=some (.struct (Tryz.prog.fieldsOf 26)):=by kernel_rfl
 have hp:Tryz.prog.stoodInHeld 26=false:=by kernel_rfl
 rw [show (9999:Nat)=9998+1 from rfl,run_equalIn_agg w 9998 26 _ _ hS hp];simp only [Program.fieldsOf,Tryz.underlying26];go_simp
theorem sfL (a b c d e f g h k n o p q:Int) (w:World):(Op.equalIn 10000 37 (.agg #[.int .i64 a,.int .i64 b,.int .i64 c,.int .i64 d,.int .i64 e,.int .i64 f,.int .i64 g,.int .i64 h,.int .i64 k,.int .i64 n,.int .i64 o,.int .i64 p,.int .i64 q]) (.agg #[.int .i64 a,.int .i64 b,.int .i64 c,.int .i64 d,.int .i64 e,.int .i64 f,.int .i64 g,.int .i64 h,.int .i64 k,.int .i64 n,.int .i64 o,.int .i64 p,.int .i64 q])).run Tryz.prog w=.ok true w:=by
 have u3:=Tryz.underlying3;have e1:=sfQd f g h k;have e2:=sfVd n o p q;have hS:Tryz.prog.underlying 37=some (.struct (Tryz.prog.fieldsOf 37)):=by kernel_rfl
 have hp:Tryz.prog.stoodInHeld 37=false:=by kernel_rfl
 rw [show (10000:Nat)=9999+1 from rfl,run_equalIn_agg w 9999 37 _ _ hS hp];simp only [Program.fieldsOf,Tryz.underlying37];go_simp
theorem sfLg:Tryz.prog.eqGuardType Tryz.prog.depth 37=false:=by kernel_rfl
theorem sfC (k:ByteArray) (n:Int) (w:World):(Op.equalIn 10000 108 (.agg #[.string k,.int .i64 n]) (.agg #[.string k,.int .i64 n])).run Tryz.prog w=.ok true w:=by
 have u3:=Tryz.underlying3;have u9:=Tryz.underlying9;have hS:Tryz.prog.underlying 108=some (.struct (Tryz.prog.fieldsOf 108)):=by kernel_rfl
 have hp:Tryz.prog.stoodInHeld 108=false:=by kernel_rfl
 rw [show (10000:Nat)=9999+1 from rfl,run_equalIn_agg w 9999 108 _ _ hS hp];simp only [Program.fieldsOf,Tryz.underlying108];go_simp
theorem sfCg:Tryz.prog.eqGuardType Tryz.prog.depth 108=false:=by kernel_rfl
theorem sameCells_yes (l:CL) (a b:Value) (w:World) (ha:qQ w a l) (hb:qQ w b l) (hl:(l.length:Int)<=1048576) :
  Calls Tryz.prog 39 #[a,b] w fun e w'=>e=.returned (.bool true)/\Below w.heap.size w w':=by
 obtain ⟨a,ca,rfl,hra⟩:=ha;obtain ⟨b,cb,rfl,hrb⟩:=hb;have HA:=hid hra;have HB:=hid hrb;clear hra hrb;go_enter Tryz.func39,Tryz.ntmps39;go_wp2
 go_loopw [5] (fun i wr=>∃ m:Nat,m<=l.length/\i=.int .i64 m/\Below w.heap.size w wr) (fun i _=>l.length - (intOf i).toNat)
 case atStart=>exact ⟨0,Nat.zero_le _,rfl,br _ _⟩
 case round=>
  obtain ⟨m,hm,rfl,hbel⟩:=hrel
  by_cases hlt:(m:Int) < l.length
  ·have q0:(0:Int)<=(m:Int):=by omega
   have hmn:m < l.length:=by omega
   obtain ⟨ga,oa,rfl,hga,hca⟩:=HA.out (by omega);obtain ⟨gb,ob,rfl,hgb,hcb⟩:=HB.out (by omega);have hne:=yX wr;have c0:∀ x:Bw wr,x.to.cell? ⟨ga,oa+m * 2,none⟩=some (.string l[m].1):=fun x=>by rw [(bt hbel x.below).cell (by exact hga)];exact (hca m hmn).1
   have c1:∀ x:Bw wr,x.to.cell? ⟨ga,oa+m * 2+1,none⟩=some (.int .i64 l[m].2):=fun x=>by rw [(bt hbel x.below).cell (by exact hga)];exact (hca m hmn).2
   have d0:∀ x:Bw wr,x.to.cell? ⟨gb,ob+m * 2,none⟩=some (.string l[m].1):=fun x=>by rw [(bt hbel x.below).cell (by exact hgb)];exact (hcb m hmn).1
   have d1:∀ x:Bw wr,x.to.cell? ⟨gb,ob+m * 2+1,none⟩=some (.int .i64 l[m].2):=fun x=>by rw [(bt hbel x.below).cell (by exact hgb)];exact (hcb m hmn).2
   have e0:=sfC l[m].1 l[m].2;have e1:=sfCg;clear hca hcb;go_wp2;refine rb ?_;repeat (go_big_quiet_step (fail))
   refine wpQuiet_nil ?_;intro _ hw';obtain ⟨x,rfl⟩:=hw';go_wp2
   go_roundw
   case rel=>exact ⟨m+1,by omega,by go_num,bt hbel x.below⟩
   case measure=>simp [intOf];omega
  ·go_wp2;go_ret;exact ⟨rfl,hbel⟩
theorem sameUndos_yes (l:List UN) (a b:Value) (w:World) (ha:yM w a 3 kK l) (hb:yM w b 3 kK l) (hl:(l.length:Int)<=1048576) :
  Calls Tryz.prog 40 #[a,b] w fun e w'=>e=.returned (.bool true)/\Below w.heap.size w w':=by
 obtain ⟨a,ca,rfl,hra⟩:=ha;obtain ⟨b,cb,rfl,hrb⟩:=hb;have HA:=hid hra;have HB:=hid hrb;clear hra hrb;go_enter Tryz.func40,Tryz.ntmps40;go_wp2
 go_loopw [5] (fun i wr=>∃ m:Nat,m<=l.length/\i=.int .i64 m/\Below w.heap.size w wr) (fun i _=>l.length - (intOf i).toNat)
 case atStart=>exact ⟨0,Nat.zero_le _,rfl,br _ _⟩
 case round=>
  obtain ⟨m,hm,rfl,hbel⟩:=hrel
  by_cases hlt:(m:Int) < l.length
  ·have q0:(0:Int)<=(m:Int):=by omega
   have hmn:m < l.length:=by omega
   obtain ⟨ga,oa,rfl,hga,hca⟩:=HA.out (by omega);obtain ⟨gb,ob,rfl,hgb,hcb⟩:=HB.out (by omega);have hne:=yX wr;have c0:∀ x:Bw wr,x.to.cell? ⟨ga,oa+m * 3,none⟩=some (.string l[m].1):=fun x=>by rw [(bt hbel x.below).cell (by exact hga)];exact hca m hmn 0 (by omega)
   have c1:∀ x:Bw wr,x.to.cell? ⟨ga,oa+m * 3+1,none⟩=some (.bool l[m].2.1):=fun x=>by rw [(bt hbel x.below).cell (by exact hga)];exact hca m hmn 1 (by omega)
   have c2:∀ x:Bw wr,x.to.cell? ⟨ga,oa+m * 3+2,none⟩=some (.int .i64 l[m].2.2):=fun x=>by rw [(bt hbel x.below).cell (by exact hga)];exact hca m hmn 2 (by omega)
   have d0:∀ x:Bw wr,x.to.cell? ⟨gb,ob+m * 3,none⟩=some (.string l[m].1):=fun x=>by rw [(bt hbel x.below).cell (by exact hgb)];exact hcb m hmn 0 (by omega)
   have d1:∀ x:Bw wr,x.to.cell? ⟨gb,ob+m * 3+1,none⟩=some (.bool l[m].2.1):=fun x=>by rw [(bt hbel x.below).cell (by exact hgb)];exact hcb m hmn 1 (by omega)
   have d2:∀ x:Bw wr,x.to.cell? ⟨gb,ob+m * 3+2,none⟩=some (.int .i64 l[m].2.2):=fun x=>by rw [(bt hbel x.below).cell (by exact hgb)];exact hcb m hmn 2 (by omega)
   have e0:=sfU l[m].1 l[m].2.1 l[m].2.2;have e1:=sfUg;clear hca hcb;go_wp2;refine rb ?_;repeat (go_big_quiet_step (fail))
   refine wpQuiet_nil ?_;intro _ hw';obtain ⟨x,rfl⟩:=hw';go_wp2
   go_roundw
   case rel=>exact ⟨m+1,by omega,by go_num,bt hbel x.below⟩
   case measure=>simp [intOf];omega
  ·go_wp2;go_ret;exact ⟨rfl,hbel⟩
theorem sameVotes_yes (l:List VT) (a b:Value) (w:World) (ha:yM w a 4 xD l) (hb:yM w b 4 xD l) (hl:(l.length:Int)<=1048576) :
  Calls Tryz.prog 41 #[a,b] w fun e w'=>e=.returned (.bool true)/\Below w.heap.size w w':=by
 obtain ⟨a,ca,rfl,hra⟩:=ha;obtain ⟨b,cb,rfl,hrb⟩:=hb;have HA:=hid hra;have HB:=hid hrb;clear hra hrb;go_enter Tryz.func41,Tryz.ntmps41;go_wp2
 go_loopw [5] (fun i wr=>∃ m:Nat,m<=l.length/\i=.int .i64 m/\Below w.heap.size w wr) (fun i _=>l.length - (intOf i).toNat)
 case atStart=>exact ⟨0,Nat.zero_le _,rfl,br _ _⟩
 case round=>
  obtain ⟨m,hm,rfl,hbel⟩:=hrel
  by_cases hlt:(m:Int) < l.length
  ·have q0:(0:Int)<=(m:Int):=by omega
   have hmn:m < l.length:=by omega
   obtain ⟨ga,oa,rfl,hga,hca⟩:=HA.out (by omega);obtain ⟨gb,ob,rfl,hgb,hcb⟩:=HB.out (by omega);have hne:=yX wr;have c0:∀ x:Bw wr,x.to.cell? ⟨ga,oa+m * 4,none⟩=some (.int .i64 l[m].1):=fun x=>by rw [(bt hbel x.below).cell (by exact hga)];exact hca m hmn 0 (by omega)
   have c1:∀ x:Bw wr,x.to.cell? ⟨ga,oa+m * 4+1,none⟩=some (.int .i64 l[m].2.1):=fun x=>by rw [(bt hbel x.below).cell (by exact hga)];exact hca m hmn 1 (by omega)
   have c2:∀ x:Bw wr,x.to.cell? ⟨ga,oa+m * 4+2,none⟩=some (.int .i64 l[m].2.2.1):=fun x=>by rw [(bt hbel x.below).cell (by exact hga)];exact hca m hmn 2 (by omega)
   have c3:∀ x:Bw wr,x.to.cell? ⟨ga,oa+m * 4+3,none⟩=some (.int .i64 l[m].2.2.2):=fun x=>by rw [(bt hbel x.below).cell (by exact hga)];exact hca m hmn 3 (by omega)
   have d0:∀ x:Bw wr,x.to.cell? ⟨gb,ob+m * 4,none⟩=some (.int .i64 l[m].1):=fun x=>by rw [(bt hbel x.below).cell (by exact hgb)];exact hcb m hmn 0 (by omega)
   have d1:∀ x:Bw wr,x.to.cell? ⟨gb,ob+m * 4+1,none⟩=some (.int .i64 l[m].2.1):=fun x=>by rw [(bt hbel x.below).cell (by exact hgb)];exact hcb m hmn 1 (by omega)
   have d2:∀ x:Bw wr,x.to.cell? ⟨gb,ob+m * 4+2,none⟩=some (.int .i64 l[m].2.2.1):=fun x=>by rw [(bt hbel x.below).cell (by exact hgb)];exact hcb m hmn 2 (by omega)
   have d3:∀ x:Bw wr,x.to.cell? ⟨gb,ob+m * 4+3,none⟩=some (.int .i64 l[m].2.2.2):=fun x=>by rw [(bt hbel x.below).cell (by exact hgb)];exact hcb m hmn 3 (by omega)
   have e0:=sfV l[m].1 l[m].2.1 l[m].2.2.1 l[m].2.2.2;have e1:=sfVg;clear hca hcb;go_wp2;refine rb ?_;repeat (go_big_quiet_step (fail))
   refine wpQuiet_nil ?_;intro _ hw';obtain ⟨x,rfl⟩:=hw';go_wp2
   go_roundw
   case rel=>exact ⟨m+1,by omega,by go_num,bt hbel x.below⟩
   case measure=>simp [intOf];omega
  ·go_wp2;go_ret;exact ⟨rfl,hbel⟩
theorem sameLetters_yes (l:List LT) (a b:Value) (w:World) (ha:yM w a 13 yE l) (hb:yM w b 13 yE l) (hl:(l.length:Int)<=1048576) :
  Calls Tryz.prog 11 #[a,b] w fun e w'=>e=.returned (.bool true)/\Below w.heap.size w w':=by
 obtain ⟨a,ca,rfl,hra⟩:=ha;obtain ⟨b,cb,rfl,hrb⟩:=hb;have HA:=hid hra;have HB:=hid hrb;clear hra hrb;go_enter Tryz.func11,Tryz.ntmps11;go_wp2
 go_loopw [5] (fun i wr=>∃ m:Nat,m<=l.length/\i=.int .i64 m/\Below w.heap.size w wr) (fun i _=>l.length - (intOf i).toNat)
 case atStart=>exact ⟨0,Nat.zero_le _,rfl,br _ _⟩
 case round=>
  obtain ⟨m,hm,rfl,hbel⟩:=hrel
  by_cases hlt:(m:Int) < l.length
  ·have q0:(0:Int)<=(m:Int):=by omega
   have hmn:m < l.length:=by omega
   obtain ⟨ga,oa,rfl,hga,hca⟩:=HA.out (by omega);obtain ⟨gb,ob,rfl,hgb,hcb⟩:=HB.out (by omega);have hne:=yX wr;have c0:∀ x:Bw wr,x.to.cell? ⟨ga,oa+m * 13,none⟩=some (.int .i64 l[m].1.1):=fun x=>by rw [(bt hbel x.below).cell (by exact hga)];exact hca m hmn 0 (by omega)
   have c1:∀ x:Bw wr,x.to.cell? ⟨ga,oa+m * 13+1,none⟩=some (.int .i64 l[m].1.2.1):=fun x=>by rw [(bt hbel x.below).cell (by exact hga)];exact hca m hmn 1 (by omega)
   have c2:∀ x:Bw wr,x.to.cell? ⟨ga,oa+m * 13+2,none⟩=some (.int .i64 l[m].1.2.2.1):=fun x=>by rw [(bt hbel x.below).cell (by exact hga)];exact hca m hmn 2 (by omega)
   have c3:∀ x:Bw wr,x.to.cell? ⟨ga,oa+m * 13+3,none⟩=some (.int .i64 l[m].1.2.2.2.1):=fun x=>by rw [(bt hbel x.below).cell (by exact hga)];exact hca m hmn 3 (by omega)
   have c4:∀ x:Bw wr,x.to.cell? ⟨ga,oa+m * 13+4,none⟩=some (.int .i64 l[m].1.2.2.2.2):=fun x=>by rw [(bt hbel x.below).cell (by exact hga)];exact hca m hmn 4 (by omega)
   have c5:∀ x:Bw wr,x.to.cell? ⟨ga,oa+m * 13+5,none⟩=some (.int .i64 l[m].2.1.1):=fun x=>by rw [(bt hbel x.below).cell (by exact hga)];exact hca m hmn 5 (by omega)
   have c6:∀ x:Bw wr,x.to.cell? ⟨ga,oa+m * 13+6,none⟩=some (.int .i64 l[m].2.1.2.1):=fun x=>by rw [(bt hbel x.below).cell (by exact hga)];exact hca m hmn 6 (by omega)
   have c7:∀ x:Bw wr,x.to.cell? ⟨ga,oa+m * 13+7,none⟩=some (.int .i64 l[m].2.1.2.2.1):=fun x=>by rw [(bt hbel x.below).cell (by exact hga)];exact hca m hmn 7 (by omega)
   have c8:∀ x:Bw wr,x.to.cell? ⟨ga,oa+m * 13+8,none⟩=some (.int .i64 l[m].2.1.2.2.2):=fun x=>by rw [(bt hbel x.below).cell (by exact hga)];exact hca m hmn 8 (by omega)
   have c9:∀ x:Bw wr,x.to.cell? ⟨ga,oa+m * 13+9,none⟩=some (.int .i64 l[m].2.2.1):=fun x=>by rw [(bt hbel x.below).cell (by exact hga)];exact hca m hmn 9 (by omega)
   have c10:∀ x:Bw wr,x.to.cell? ⟨ga,oa+m * 13+10,none⟩=some (.int .i64 l[m].2.2.2.1):=fun x=>by rw [(bt hbel x.below).cell (by exact hga)];exact hca m hmn 10 (by omega)
   have c11:∀ x:Bw wr,x.to.cell? ⟨ga,oa+m * 13+11,none⟩=some (.int .i64 l[m].2.2.2.2.1):=fun x=>by rw [(bt hbel x.below).cell (by exact hga)];exact hca m hmn 11 (by omega)
   have c12:∀ x:Bw wr,x.to.cell? ⟨ga,oa+m * 13+12,none⟩=some (.int .i64 l[m].2.2.2.2.2):=fun x=>by rw [(bt hbel x.below).cell (by exact hga)];exact hca m hmn 12 (by omega)
   have d0:∀ x:Bw wr,x.to.cell? ⟨gb,ob+m * 13,none⟩=some (.int .i64 l[m].1.1):=fun x=>by rw [(bt hbel x.below).cell (by exact hgb)];exact hcb m hmn 0 (by omega)
   have d1:∀ x:Bw wr,x.to.cell? ⟨gb,ob+m * 13+1,none⟩=some (.int .i64 l[m].1.2.1):=fun x=>by rw [(bt hbel x.below).cell (by exact hgb)];exact hcb m hmn 1 (by omega)
   have d2:∀ x:Bw wr,x.to.cell? ⟨gb,ob+m * 13+2,none⟩=some (.int .i64 l[m].1.2.2.1):=fun x=>by rw [(bt hbel x.below).cell (by exact hgb)];exact hcb m hmn 2 (by omega)
   have d3:∀ x:Bw wr,x.to.cell? ⟨gb,ob+m * 13+3,none⟩=some (.int .i64 l[m].1.2.2.2.1):=fun x=>by rw [(bt hbel x.below).cell (by exact hgb)];exact hcb m hmn 3 (by omega)
   have d4:∀ x:Bw wr,x.to.cell? ⟨gb,ob+m * 13+4,none⟩=some (.int .i64 l[m].1.2.2.2.2):=fun x=>by rw [(bt hbel x.below).cell (by exact hgb)];exact hcb m hmn 4 (by omega)
   have d5:∀ x:Bw wr,x.to.cell? ⟨gb,ob+m * 13+5,none⟩=some (.int .i64 l[m].2.1.1):=fun x=>by rw [(bt hbel x.below).cell (by exact hgb)];exact hcb m hmn 5 (by omega)
   have d6:∀ x:Bw wr,x.to.cell? ⟨gb,ob+m * 13+6,none⟩=some (.int .i64 l[m].2.1.2.1):=fun x=>by rw [(bt hbel x.below).cell (by exact hgb)];exact hcb m hmn 6 (by omega)
   have d7:∀ x:Bw wr,x.to.cell? ⟨gb,ob+m * 13+7,none⟩=some (.int .i64 l[m].2.1.2.2.1):=fun x=>by rw [(bt hbel x.below).cell (by exact hgb)];exact hcb m hmn 7 (by omega)
   have d8:∀ x:Bw wr,x.to.cell? ⟨gb,ob+m * 13+8,none⟩=some (.int .i64 l[m].2.1.2.2.2):=fun x=>by rw [(bt hbel x.below).cell (by exact hgb)];exact hcb m hmn 8 (by omega)
   have d9:∀ x:Bw wr,x.to.cell? ⟨gb,ob+m * 13+9,none⟩=some (.int .i64 l[m].2.2.1):=fun x=>by rw [(bt hbel x.below).cell (by exact hgb)];exact hcb m hmn 9 (by omega)
   have d10:∀ x:Bw wr,x.to.cell? ⟨gb,ob+m * 13+10,none⟩=some (.int .i64 l[m].2.2.2.1):=fun x=>by rw [(bt hbel x.below).cell (by exact hgb)];exact hcb m hmn 10 (by omega)
   have d11:∀ x:Bw wr,x.to.cell? ⟨gb,ob+m * 13+11,none⟩=some (.int .i64 l[m].2.2.2.2.1):=fun x=>by rw [(bt hbel x.below).cell (by exact hgb)];exact hcb m hmn 11 (by omega)
   have d12:∀ x:Bw wr,x.to.cell? ⟨gb,ob+m * 13+12,none⟩=some (.int .i64 l[m].2.2.2.2.2):=fun x=>by rw [(bt hbel x.below).cell (by exact hgb)];exact hcb m hmn 12 (by omega)
   have e0:=sfL l[m].1.1 l[m].1.2.1 l[m].1.2.2.1 l[m].1.2.2.2.1 l[m].1.2.2.2.2 l[m].2.1.1 l[m].2.1.2.1 l[m].2.1.2.2.1 l[m].2.1.2.2.2 l[m].2.2.1 l[m].2.2.2.1 l[m].2.2.2.2.1 l[m].2.2.2.2.2;have e1:=sfLg;clear hca hcb;go_wp2;refine rb ?_;repeat (go_big_quiet_step (fail))
   refine wpQuiet_nil ?_;intro _ hw';obtain ⟨x,rfl⟩:=hw';go_wp2
   go_roundw
   case rel=>exact ⟨m+1,by omega,by go_num,bt hbel x.below⟩
   case measure=>simp [intOf];omega
  ·go_wp2;go_ret;exact ⟨rfl,hbel⟩
theorem samePeer_yes (p:PE) (s t:PV) (w:World) (ha:jS w p s) (hb:jS w p t) (hs:yC p) :
  Calls Tryz.prog 10 #[yZ p s,yZ p t] w fun e w'=>e=.returned (.bool true)/\Below w.heap.size w w':=by
 have HA:=hid ha;have HB:=hid hb;have HS:=hid hs;clear ha hb hs;obtain ⟨W,hW⟩:∃ W,W=(w.alloc (.cells (zA p s) 35)).alloc (.cells (zA p t) 35):=⟨_,rfl⟩;have HW:Hid (Bx W w.heap.size (zA p s) 35/\Bx W (w.heap.size+1) (zA p t) 35/\Below w.heap.size w W):=hid (by rw [hW];exact ⟨(qK w _ _).1,(qK w _ _).2,ba (ba (br _ _) _) _⟩);have e0:=sfQ p.high.1 p.high.2.1 p.high.2.2.1 p.high.2.2.2;have e1:=sfQ p.lock.1 p.lock.2.1 p.lock.2.2.1 p.lock.2.2.2;have e2:=sfQg;have e3:=sfV p.last.1 p.last.2.1 p.last.2.2.1 p.last.2.2.2;have e4:=sfVg;have c0:=zB HW.out.1 0 (.int .i64 p.id) rfl;have c1:=zB HW.out.1 1 (.int .i64 p.view) rfl;have c2:=zB HW.out.1 2 (.int .i64 p.high.1) rfl;have c3:=zB HW.out.1 3 (.int .i64 p.high.2.1) rfl;have c4:=zB HW.out.1 4 (.int .i64 p.high.2.2.1) rfl;have c5:=zB HW.out.1 5 (.int .i64 p.high.2.2.2) rfl;have c6:=zB HW.out.1 6 (.int .i64 p.lock.1) rfl;have c7:=zB HW.out.1 7 (.int .i64 p.lock.2.1) rfl;have c8:=zB HW.out.1 8 (.int .i64 p.lock.2.2.1) rfl;have c9:=zB HW.out.1 9 (.int .i64 p.lock.2.2.2) rfl;have c10:=zB HW.out.1 10 (.int .i64 p.last.1) rfl;have c11:=zB HW.out.1 11 (.int .i64 p.last.2.1) rfl;have c12:=zB HW.out.1 12 (.int .i64 p.last.2.2.1) rfl;have c13:=zB HW.out.1 13 (.int .i64 p.last.2.2.2) rfl;have c14:=zB HW.out.1 14 (s.row) rfl;have d0:=zB HW.out.2.1 0 (.int .i64 p.id) rfl;have d1:=zB HW.out.2.1 1 (.int .i64 p.view) rfl;have d2:=zB HW.out.2.1 2 (.int .i64 p.high.1) rfl;have d3:=zB HW.out.2.1 3 (.int .i64 p.high.2.1) rfl;have d4:=zB HW.out.2.1 4 (.int .i64 p.high.2.2.1) rfl;have d5:=zB HW.out.2.1 5 (.int .i64 p.high.2.2.2) rfl;have d6:=zB HW.out.2.1 6 (.int .i64 p.lock.1) rfl;have d7:=zB HW.out.2.1 7 (.int .i64 p.lock.2.1) rfl;have d8:=zB HW.out.2.1 8 (.int .i64 p.lock.2.2.1) rfl;have d9:=zB HW.out.2.1 9 (.int .i64 p.lock.2.2.2) rfl;have d10:=zB HW.out.2.1 10 (.int .i64 p.last.1) rfl;have d11:=zB HW.out.2.1 11 (.int .i64 p.last.2.1) rfl;have d12:=zB HW.out.2.1 12 (.int .i64 p.last.2.2.1) rfl;have d13:=zB HW.out.2.1 13 (.int .i64 p.last.2.2.2) rfl;have d14:=zB HW.out.2.1 14 (t.row) rfl;rw [hW] at c0 c1 c2 c3 c4 c5 c6 c7 c8 c9 c10 c11 c12 c13 c14 d0 d1 d2 d3 d4 d5 d6 d7 d8 d9 d10 d11 d12 d13 d14;go_enter Tryz.func10,Tryz.ntmps10;go_wp2_with fail
 rw [<- hW];clear hW;refine (sameInts_yes p.row s.row t.row W (HA.out.row.below HW.out.2.2) (HB.out.row.below HW.out.2.2) HS.out.row).mono ?_;rintro e x0 ⟨rfl,hb⟩;have HX0:Hid (Bx x0 w.heap.size (zA p s) 35/\Bx x0 (w.heap.size+1) (zA p t) 35/\Below w.heap.size w x0):=⟨(hb.block _ (gl HW.out.1)).trans HW.out.1,(hb.block _ (gl HW.out.2.1)).trans HW.out.2.1,bt HW.out.2.2 hb⟩;clear hb HW c0 c1 c2 c3 c4 c5 c6 c7 c8 c9 c10 c11 c12 c13 c14 d0 d1 d2 d3 d4 d5 d6 d7 d8 d9 d10 d11 d12 d13 d14;have c15:=zB HX0.out.1 15 (s.cells) rfl;have d15:=zB HX0.out.2.1 15 (t.cells) rfl;clear e0 e1 e2 e3 e4;go_wp2_with fail
 refine (sameCells_yes p.cells s.cells t.cells x0 (HA.out.cells.below HX0.out.2.2) (HB.out.cells.below HX0.out.2.2) HS.out.cells).mono ?_;rintro e x1 ⟨rfl,hb⟩;have HX1:Hid (Bx x1 w.heap.size (zA p s) 35/\Bx x1 (w.heap.size+1) (zA p t) 35/\Below w.heap.size w x1):=⟨(hb.block _ (gl HX0.out.1)).trans HX0.out.1,(hb.block _ (gl HX0.out.2.1)).trans HX0.out.2.1,bt HX0.out.2.2 hb⟩;clear hb HX0 c15 d15;have c16:=zB HX1.out.1 16 (s.early) rfl;have d16:=zB HX1.out.2.1 16 (t.early) rfl;go_wp2_with fail
 refine (sameInts_yes p.early s.early t.early x1 (HA.out.early.below HX1.out.2.2) (HB.out.early.below HX1.out.2.2) HS.out.early).mono ?_;rintro e x2 ⟨rfl,hb⟩;have HX2:Hid (Bx x2 w.heap.size (zA p s) 35/\Bx x2 (w.heap.size+1) (zA p t) 35/\Below w.heap.size w x2):=⟨(hb.block _ (gl HX1.out.1)).trans HX1.out.1,(hb.block _ (gl HX1.out.2.1)).trans HX1.out.2.1,bt HX1.out.2.2 hb⟩;clear hb HX1 c16 d16;have c17:=zB HX2.out.1 17 (s.undos) rfl;have d17:=zB HX2.out.2.1 17 (t.undos) rfl;go_wp2_with fail
 refine (sameUndos_yes p.undos s.undos t.undos x2 (HA.out.undos.below HX2.out.2.2) (HB.out.undos.below HX2.out.2.2) HS.out.undos).mono ?_;rintro e x3 ⟨rfl,hb⟩;have HX3:Hid (Bx x3 w.heap.size (zA p s) 35/\Bx x3 (w.heap.size+1) (zA p t) 35/\Below w.heap.size w x3):=⟨(hb.block _ (gl HX2.out.1)).trans HX2.out.1,(hb.block _ (gl HX2.out.2.1)).trans HX2.out.2.1,bt HX2.out.2.2 hb⟩;clear hb HX2 c17 d17;have c18:=zB HX3.out.1 18 (s.votes) rfl;have d18:=zB HX3.out.2.1 18 (t.votes) rfl;go_wp2_with fail
 refine (sameVotes_yes p.votes s.votes t.votes x3 (HA.out.votes.below HX3.out.2.2) (HB.out.votes.below HX3.out.2.2) HS.out.votes).mono ?_;rintro e x4 ⟨rfl,hb⟩;have HX4:Hid (Bx x4 w.heap.size (zA p s) 35/\Bx x4 (w.heap.size+1) (zA p t) 35/\Below w.heap.size w x4):=⟨(hb.block _ (gl HX3.out.1)).trans HX3.out.1,(hb.block _ (gl HX3.out.2.1)).trans HX3.out.2.1,bt HX3.out.2.2 hb⟩;clear hb HX3 c18 d18;have c19:=zB HX4.out.1 19 (s.news) rfl;have d19:=zB HX4.out.2.1 19 (t.news) rfl;go_wp2_with fail
 refine (sameLetters_yes p.news s.news t.news x4 (HA.out.news.below HX4.out.2.2) (HB.out.news.below HX4.out.2.2) HS.out.news).mono ?_;rintro e x5 ⟨rfl,hb⟩;have HX5:Hid (Bx x5 w.heap.size (zA p s) 35/\Bx x5 (w.heap.size+1) (zA p t) 35/\Below w.heap.size w x5):=⟨(hb.block _ (gl HX4.out.1)).trans HX4.out.1,(hb.block _ (gl HX4.out.2.1)).trans HX4.out.2.1,bt HX4.out.2.2 hb⟩;clear hb HX4 c19 d19;have c20:=zB HX5.out.1 20 (.int .i64 p.shown) rfl;have d20:=zB HX5.out.2.1 20 (.int .i64 p.shown) rfl;go_wp2;go_ret;exact ⟨rfl,HX5.out.2.2⟩
end Go.Proofs.YtdopefimjabigadGreat
namespace Go.Proofs.YtdopefimjabigadGreat
open Go.ChangeShapes Go.WideShapes Go.ChangeAt Go.RowKit
theorem code_of {W:World} {a:Option Addr} {len cap:Nat} {zs:List Int} (hle:len<=1048576) (hz:len<=zs.length) (ha:a=none->len=0) (hcell:∀ x,a=some x->∀ i,i < zs.length->W.cell? (x.add i)=some (.int .u8 (zs.getD i 0))) (hwz:∀ n∈zs,(Lit.int .u8 n).wf=true) (_hc:len<=cap) :
  ∃ b off,Code W a len b off:=by
 by_cases h0:len=0
 ·subst h0;exact ⟨0,0,⟨by omega,fun h=>absurd h (by omega),fun k hk=>absurd hk (by omega),fun h=>absurd h (by omega)⟩⟩
 ·cases a with
  | none=>exact absurd (ha rfl) h0
  | some x=>
   obtain ⟨b,off,spot⟩:=x;have h1:=hcell _ rfl;have hspot:spot=none:=by simpa [Addr.add] using World.cell?_spot (h1 0 (by omega))
   subst hspot
   have h2:∀ k,k < len->W.cell? ⟨b,off+k,none⟩=some (.int .u8 (zs.getD k 0)):=fun k hk=>by
    have hp:(⟨b,off,none⟩:Addr).add k=⟨b,off+k,none⟩:=by unfold Addr.add;split <;> simp_all
    rw [<- hp];exact h1 k (by omega)
   refine ⟨b,off,⟨hle,fun _=>rfl,fun k hk=>⟨zs.getD k 0,?_,?_,h2 k hk⟩,fun _=>World.block_lt_of_cell? W _ (h2 0 (by omega))⟩⟩
   all_goals
    have hk':k < zs.length:=by omega
    have hm:zs.getD k 0∈zs:=by
     have e:zs.getD k 0=zs[k]:=by simp [List.getD,List.getElem?_eq_getElem hk']
     rw [e];exact List.getElem_mem hk'
    have:=bounds_u8 (hwz _ hm);omega
theorem code_open {H:Type} {enc:TypeId × Value->H} {W:World} {a:Option Addr} {len cap:Nat} {d:DataW H} {p:List MemPlace} (hlen:¬ (1048576:Int) < len) (h:DataW.Trod enc Tryz.prog W 0 (fun _=>true) true 22 (.slice a len cap) d p):∃ b off,Code W a len b off:=by
 obtain ⟨fuel,hf⟩:=h
 rcases open_ints Tryz.underlying22 Tryz.underlying5 (by kernel_rfl) hf with ⟨hcs,_⟩ | ⟨x,l,c,zs,hcs,_,hl,hm,hz,_,hcell,hwz⟩
 ·simp [Value.cells] at hcs;obtain ⟨rfl,rfl,rfl⟩:=hcs;exact code_of (zs:=[]) (cap:=0) (by omega) (Nat.zero_le _) (fun _=>rfl) (fun x h=>by cases h) (fun n h=>by cases h) (nl _)
 ·simp [Value.cells] at hcs;obtain ⟨rfl,rfl,rfl⟩:=hcs;exact code_of (zs:=zs) (by omega) (by have:zs.length=cap:=(by simpa using hz);omega) (fun h=>by cases h) (fun y h i hi=>by cases h;exact hcell i hi) hwz hl
end Go.Proofs.YtdopefimjabigadGreat
