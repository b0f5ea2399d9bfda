/-
  A text of ours: WaitC.
-/
import Derived.Test.YtdopefimjabigadGreatK1
import Derived.Test.YtdopefimjabigadGreatK7
import Derived.Test.YtdopefimjabigadGreatK8
set_option maxRecDepth 100000
set_option maxHeartbeats 32000000
namespace Go.Proofs.YtdopefimjabigadGreat
open Go.RowKit Num
theorem cell_same {w x:World} {g:Nat} (h:x.heap[g]?=w.heap[g]?) (o:Nat):x.cell? ⟨g,o,none⟩=w.cell? ⟨g,o,none⟩:=by
 unfold World.cell?;simp only [h]
theorem qW {w x:World} {g o:Nat} {cs:List Value} (h:x.heap[g]?=w.heap[g]?) (hr:w.rangeAt g o cs):x.rangeAt g o cs:=fun j v hj=>by rw [cell_same h];exact hr j v hj
theorem xG.peerAt {lo hi j:Nat} {w:World} {c:CU} {s:CW} (h:xG lo hi w c s) (hj:j < c.peers.length):∃ g cap p t,s.peersV=.slice (some ⟨g,0,none⟩) c.peers.length cap∧s.peers[j]?=some (p,t)∧zCJ c (j:Int)=p∧jS w p t∧w.rangeAt g (j * 21) (peerL p t)∧g < w.heap.size∧lo≤g∧(∃ cur,Bx w g cur 35∧j * 21+21≤cur.size)∧c.peers.length≤cap:=by
 have hpl:s.peers.length=c.peers.length:=by rw [← h.epeers,yCI]
 have hj2:j < s.peers.length:=by omega
 obtain ⟨a,cap,e,hfm⟩:=yL h.peers.row;obtain ⟨g,rfl⟩:=hfm (by omega);have hr:=h.peers.row;have hcap:=zJB h.peers.row _ _ _ e;rw [e] at hr;obtain ⟨hll,⟨hv2,_⟩ | ⟨g2,cap2,cur,hv2,hb2,hh2,hn2,hm2,hs2,ht2⟩⟩:=id hr
 ·cases hv2
 ·injection hv2 with hv1 _ hv3
  injection hv1 with hv1
  injection hv1 with hv1
  subst hv1 hv3;have hR:=zW peerF_len h.peers.row;obtain ⟨a',cap',er',hr'⟩:=hR;rw [e] at er';injection er' with ea _ ec
  subst ea;obtain ⟨g',off,hgo,hg,hc⟩:=hr' (by omega);injection hgo with hgo
  injection hgo with hg1 hg2 _
  subst hg1 hg2;refine ⟨g,cap,s.peers[j].1,s.peers[j].2,by rw [e,hpl],List.getElem?_eq_getElem hj2,?_,h.peers.reads.each _ (List.getElem_mem hj2),?_,hg,hb2,⟨cur,hh2,?_⟩,by omega⟩
  ·unfold zCJ;have:c.peers[j]?=some s.peers[j].1:=by rw [← h.epeers];simp [pes,hj2]
   rw [show ((j:Int)).toNat=j by omega,this]
   rfl
  ·intro k v hk;have hk2:k < 21:=(List.getElem?_eq_some_iff.1 hk).1;have:=hc j hj2 k hk2;rw [Nat.zero_add] at this;rw [this];exact hk
  ·rw [hs2];have:j * 21+21≤s.peers.length * 21:=by omega
   exact Nat.le_trans this (Nat.mul_le_mul_right 21 hn2)
structure TimB (w x:World) (g5 g6:Nat) (p:PE) (t:PV) (l:LT):Prop where
 b5:Bx x g5 (zA p t) 35
 b6:Bx x g6 (zQ l) 37
 below:Below w.heap.size w x
 own:zO w.heap.size x.heap.size x p t
theorem TimB.more {w x y:World} {g5 g6:Nat} {p:PE} {t:PV} {l:LT} (h:TimB w x g5 g6 p t l) (hb:Below x.heap.size x y):TimB w y g5 g6 p t l:=
 ⟨(hb.block _ (gl h.b5)).trans h.b5,(hb.block _ (gl h.b6)).trans h.b6,bt h.below hb,(h.own.below hb).wide hb.size (nl _)⟩
theorem put_peer {N lo g j g6 m:Nat} {cap:Nat} {w w1 x z:World} {c:CU} {s:CW} {cur A:Array Value} {T:TypeId} {p:PE} {t:PV} (hic:InB N lo w x c s) (h1:xG lo m w1 c s) (hb:Below w1.heap.size w1 x) (hlo:lo≤m)
  (hpv:s.peersV=.slice (some ⟨g,0,none⟩) c.peers.length cap) (hlg:lo≤g) (hj:j < c.peers.length) (hcur:Bx x g cur 35) (hg:x.grownBy z (some g)) (hk:Bx z g (yBB cur (j * 21) (zA p t)) 35) (hd:zO m x.heap.size x p t)
  (h6:x.heap[g6]?=some (.cells A T (0,0))) (hT:T ≠ 35):InW N lo w z (zCG c (j:Int) p) { s with peers:=s.peers.set j (p,t) }∧z.heap[g6]?=some (.cells A T (0,0)):=by
 have hpl:s.peers.length=c.peers.length:=by rw [← h1.epeers,yCI]
 have hox:xG lo m x c s:=h1.below hb
 have hrow:z.ownsRow lo 35 21 s.peersV s.peers.length (zE peerF (s.peers.set j (p,t))):=by
  have hr:=hox.peers.row;rw [hpv] at hr ⊢;rw [hpl] at hr ⊢;rw [← flat_setE peerF_len (p,t) s.peers j (by omega)];exact own_part hr hcur j hj (zA p t) rfl hk
 have hNg:N ≠ g:=fun e=>by
  have hn:=hic.box;rw [e] at hn;exact absurd (hn.symm.trans hcur) (by simp)
 have h6g:g6 ≠ g:=fun e=>by
  rw [e] at h6;have:=h6.symm.trans hcur;injection this with this
  injection this with _ this _
  exact hT this
 have hd2:zO m z.heap.size z p t:=(hd.boxed hcur hg).wide hg.size (nl _);refine ⟨⟨(hg.block _ (gl hic.box) (fun e=>hNg (Option.some.inj e))).trans hic.box,?_,(hic.fr.mono fun _ e=>Or.inl e).trans (FrS.of_grown hg (fun k e=>by cases e;exact Or.inr hlg))⟩,(hg.block _ (gl h6) (fun e=>h6g (Option.some.inj e))).trans h6⟩;exact hox.setPeer hpv hg hlo hrow hd2 (Nat.le_trans hox.size hg.size)
theorem wait_p (c:CU) (s:CW) (N lo hi:Nat) (i:Int) (w:World) (hbox:Bx w N (zR c s) 90) (hown:xG lo hi w c s) (hlo:lo≤hi) (hk:(c.net.length:Int)≤1048576) (hkp:(c.peers.length:Int)≤1048576) (hwi:(Lit.int .i64 i).wf=true) (hwn:(Lit.int .i64 c.n).wf=true) (hgp:∀ p∈c.peers,yDG p∧yC p) :
  Calls Tryz.prog 144 #[.pointer (some ⟨N,0,none⟩),.int .i64 i] w fun e w'=>e=.returned (.bool (waitC c i).2)∧∃ s',InW N lo w w' (waitC c i).1 s':=by
 have hNl:N < w.heap.size:=(gl hbox);have HB:=hid hbox;have HI:Hid (InB N lo w w c s):=InB.start hbox hown;have HO:Hid (xG lo w.heap.size w c s):=HI.out.own;have HLO:Hid (lo≤w.heap.size):=Nat.le_trans hlo hown.size;have HGP:=hid hgp;clear hbox hown hlo hgp;go_enter Tryz.func144,Tryz.ntmps144;go_wp2_with (refine w_ld N HB.out Tryz.underlying90 ?_)
 refine (zHB c s i w HO.out.reads hkp).mono ?_;rintro e w1 ⟨rfl,hb1⟩;have HB1:=hid hb1;clear hb1
 by_cases hh:xT c i=true
 ·rw [hh]
  have hin:0≤i∧i < c.peers.length:=by
   unfold xT at hh;have:=zDF (Bool.and_eq_true _ _ ▸ hh).1;omega
  obtain ⟨j,hj⟩:∃ j:Nat,i=(j:Int):=⟨i.toNat,by omega⟩;subst hj;have hjn:j < c.peers.length:=by omega
  have HI1:Hid (InB N lo w w1 c s):=HI.out.more HB1.out;obtain ⟨g,cap,p,t,hpv,hpt,hpa,hpr,hrg,hgl,hlg,⟨cur,hcur,hcs⟩,hcap⟩:=(HI1.out.own).peerAt hjn;have HPR:=hid hpr;have HRG:=hid hrg;have HCU:Hid (Bx w1 g cur 35∧j * 21+21≤cur.size):=⟨hcur,hcs⟩;have HPV:=hid hpv;have HPA:Hid (zCJ c (j:Int)=p∧s.peers[j]?=some (p,t)):=⟨hpa,hpt⟩;have HGL:Hid (g < w1.heap.size∧lo≤g∧c.peers.length≤cap):=⟨hgl,hlg,hcap⟩;have hsp:yDG p∧yC p:=HGP.out p (by rw [← hpa];unfold zCJ;rw [show ((j:Int)).toNat=j by omega,List.getElem?_eq_getElem hjn];exact List.getElem_mem hjn);have HSP:=hid hsp;have HLO1:Hid (lo≤w1.heap.size):=Nat.le_trans HLO.out HB1.out.size;have HHJ:=hid hh;have hb1:j < c.peers.length:=hjn;have q0:(0:Int)≤(j:Int):=by omega
  have q1:(j:Int) < (c.peers.length:Int):=by omega
  clear hh hin hpr hrg hcur hcs hpv hpa hpt hgl hlg hcap hsp;obtain ⟨P1,hP1⟩:∃ P1,P1=zGH p c.n:=⟨_,rfl⟩;obtain ⟨L1,hL1⟩:∃ L1,L1=yEB p c.n:=⟨_,rfl⟩;have HP1:Hid (zGH p c.n=P1∧yEB p c.n=L1):=⟨hP1.symm,hL1.symm⟩;clear hP1 hL1
  go_upto_region 3 with fail
  go_cut [5,6,7] (fun v5 v6 v7 wx=>∃ g5 g6 s1,v5=.pointer (some ⟨g5,0,none⟩)∧v6=.pointer (some ⟨g6,0,none⟩)∧v7=.bool (jT p c.n)∧TimB w1 wx g5 g6 P1 s1 L1)
  case first=>
   refine zT (fun i=>decide (i < 12) || (decide (i=16) || decide (i=17))) (fun x=>Bx x N (zR c s) 90∧x.heap[g]?=w1.heap[g]?) (by kernel_rfl) ?_;show zX Tryz.prog _ _ _ _ _ (20+1) (Array.replicate 21 false) _ _;have hS:Bx w1.drew N (zR c s) 90∧w1.drew.heap[g]?=w1.heap[g]?:=⟨HI1.out.box,rfl⟩;refine zD 0 15 (.pointer (some ⟨N,0,none⟩)) hS ?_;refine zD 1 16 (.pointer (some ⟨N,0,none⟩)) hS ?_;refine zD 2 17 (.pointer (some ⟨N,4,none⟩)) hS ?_;refine zD 3 18 (.slice (some ⟨g,0,none⟩) c.peers.length cap) hS ?_ (hy:=by intro x hx;have c4:=zB hx.1 4 s.peersV rfl;rw [HPV.out] at c4;go_simp;try with_reducible rfl);refine zD 4 19 (.int .i64 (j:Int)) hS ?_;refine zD 5 20 (.pointer (some ⟨g,j * 21,none⟩)) hS ?_;refine zD 6 21 (.agg (zA p t)) hS ?_ (hy:=fun x hx=>xB _ _ rfl g (j * 21) rfl (peerL p t) _ (qW hx.2 HRG.out) Tryz.underlying35 rfl (by kernel_rfl));refine zD 7 22 (.pointer (some ⟨N,0,none⟩)) hS ?_;refine zD 8 23 (.pointer (some ⟨N,0,none⟩)) hS ?_;refine zD 9 24 (.pointer (some ⟨N,0,none⟩)) hS ?_;refine zD 10 25 (.int .i64 c.n) hS ?_ (hy:=by intro x hx;have c0:=zB hx.1 0 (.int .i64 c.n) rfl;go_simp;try with_reducible rfl);have K:∀ x,Below w1.heap.size w1 x→Bx x N (zR c s) 90∧x.heap[g]?=w1.heap[g]?:=fun x hb=>⟨(HI1.out.more hb).box,hb.block g HGL.out.1⟩
   have hd0:Below w1.heap.size w1 w1.drew:=(br _ _).drew;refine p_three (i:=11) (j:=16) (k:=17) (by kernel_rfl) ?_ ?_ ?_
   ·have hbc:Below w1.heap.size w1 w1.drew:=hd0;refine zEA (s:=11) (e':=some 26) (fn:=20) (args:=#[.agg (zA p t),.int .i64 c.n]) rfl rfl (by kernel_rfl) ?_ ((yBE p t c.n w1.drew HSP.out.1 hwn (HPR.out.below hbc) HSP.out.2).mono ?_)
    ·go_simp
     try with_reducible rfl
    rintro e yc ⟨s1,rfl,hoc,hsyc⟩;have hbyc:Below w1.heap.size w1 yc:=bt hbc hsyc;rw [HP1.out.1] at hoc;rw [HP1.out.1,HP1.out.2];refine ⟨_,rfl,fun _=>K yc hbyc,?_⟩;simp only [pz];refine xM (j:=12) (e':=some 14) (v:=.tuple #[yZ P1 s1,.agg (zQ L1),.bool (jT p c.n)]) rfl rfl (by kernel_rfl) (by kernel_rfl) (by kernel_rfl) (by rfl) (fun _ _ _ h=>h) (Or.inl ⟨by rfl,?_⟩) ?_
    ·intro x hx;go_simp
     try with_reducible rfl
    simp only [pz];refine xM (j:=13) (e':=some 27) (v:=.agg (zA P1 s1)) rfl rfl (by kernel_rfl) (by kernel_rfl) (by kernel_rfl) (by rfl) (fun _ _ _ h=>h) (Or.inl ⟨by rfl,?_⟩) ?_
    ·intro x hx;go_simp
     try with_reducible rfl
    simp only [pz];refine xM (j:=14) (e':=some 28) (v:=.agg (zQ L1)) rfl rfl (by kernel_rfl) (by kernel_rfl) (by kernel_rfl) (by rfl) (fun _ _ _ h=>h) (Or.inl ⟨by rfl,?_⟩) ?_
    ·intro x hx;go_simp
     try with_reducible rfl
    simp only [pz];refine xM (j:=15) (e':=some 29) (v:=.bool (jT p c.n)) rfl rfl (by kernel_rfl) (by kernel_rfl) (by kernel_rfl) (by rfl) (fun _ _ _ h=>h) (Or.inl ⟨by rfl,?_⟩) ?_
    ·intro x hx;go_simp
     try with_reducible rfl
    simp only [pz];refine zFC (i:=16) (j:=17) (by kernel_rfl) ?_ ?_
    ·obtain ⟨y1,hy1⟩:∃ y1,y1=yc.alloc (.cells zF 35):=⟨_,rfl⟩;have hsy1:Below yc.heap.size yc y1:=by rw [hy1];exact (br _ _).alloc (nl _) _
     have hby1:Below w1.heap.size w1 y1:=bt hbyc hsy1;have b5y1:Bx y1 yc.heap.size zF 35:=by rw [hy1];exact heap_alloc_new yc _
     refine xU (s:=16) (e':=some 5) rfl rfl rfl (.pointer (some ⟨yc.heap.size,0,none⟩)) y1 ?_ ⟨fun _=>K y1 hby1,?_⟩
     ·rw [hy1];unfold zF;go_simp
      try with_reducible rfl
     simp only [pz];clear hy1;have ocy1:=hoc.below hsy1;refine kG (i:=17) (by kernel_rfl) ?_;obtain ⟨y2,hy2⟩:∃ y2,y2=y1.alloc (.cells (zQ ((0,0,0,0,0),(0,0,0,0),(0,0,0,0))) 37):=⟨_,rfl⟩;have hsy2:Below y1.heap.size y1 y2:=by rw [hy2];exact (br _ _).alloc (nl _) _
     have hby2:Below w1.heap.size w1 y2:=bt hby1 hsy2;have b6y2:Bx y2 y1.heap.size (zQ ((0,0,0,0,0),(0,0,0,0),(0,0,0,0))) 37:=by rw [hy2];exact heap_alloc_new y1 _
     refine xU (s:=17) (e':=some 6) rfl rfl rfl (.pointer (some ⟨y1.heap.size,0,none⟩)) y2 ?_ ⟨fun _=>K y2 hby2,?_⟩
     ·rw [hy2];unfold zQ;go_simp
      try with_reducible rfl
     simp only [pz];clear hy2;have ocy2:=ocy1.below hsy2;have b5y2:=(hsy2.block _ (gl b5y1)).trans b5y1
     have hne:(y1.heap.size:Nat) ≠ yc.heap.size:=fun e=>by
      have h6:=b6y2;rw [e] at h6;exact absurd ((b5y2).symm.trans h6) (by simp)
     refine xW (s:=18) (N:=yc.heap.size) (o:=0) (cells:=zA P1 s1) (old:=zF) (new:=zA P1 s1) rfl rfl rfl rfl (by kernel_rfl) rfl rfl b5y2 (by kernel_rfl) (by simp [zA,zF]) (zJ ocy2.1) rfl ?_;intro z2 hg hk5;have h5:w1.heap.size≤yc.heap.size:=hbyc.size;have h6:w1.heap.size≤y1.heap.size:=hby1.size;have hb2:Below w1.heap.size w1 z2:=hby2.grown hg hby2.size (fun k e=>by cases e;exact h5);have hk6:=(hg.block _ (gl b6y2) (fun e=>hne (Option.some.inj e))).trans b6y2;have ho2:=ocy2.boxed b5y2 hg;refine ⟨fun h=>absurd h (by decide),?_⟩;refine xW (s:=19) (N:=y1.heap.size) (o:=0) (cells:=zQ L1) (old:=(zQ ((0,0,0,0,0),(0,0,0,0),(0,0,0,0)))) (new:=zQ L1) rfl rfl rfl rfl (by kernel_rfl) rfl rfl hk6 (by kernel_rfl) (by simp [zQ]) (kD L1) rfl ?_;intro z3 hg3 hk63;have hb3:Below w1.heap.size w1 z3:=hb2.grown hg3 hb2.size (fun k e=>by cases e;exact h6);have hk53:=(hg3.block _ (gl hk5) (fun e=>hne (Option.some.inj e).symm)).trans hk5
     have ho3:=ho2.frs (FrS.of_grown hg3 (B:=fun k=>k=y1.heap.size) (fun k e=>by cases e;rfl)) (fun k hk e=>by
      obtain ⟨a,ha,ea⟩:=hk;have hlim:=zED ho2.2.1 a ha k ea;have hfar:=(Or.inr (by first | exact nl _ | exact hsy1.size):y1.heap.size < w1.drew.heap.size∨yc.heap.size≤y1.heap.size)
      omega)
     refine ⟨fun h=>absurd h (by decide),?_⟩;refine xM (j:=20) (e':=some 7) (v:=.bool (jT p c.n)) rfl rfl (by kernel_rfl) (by kernel_rfl) (by kernel_rfl) (by rfl) (fun _ _ _ h=>h) (Or.inl ⟨by rfl,?_⟩) ?_
     ·intro x hx;go_simp
      try with_reducible rfl
     simp only [pz];refine zK (by kernel_rfl) ?_ _;go_wp2
     go_meet
     case rel=>exact ⟨_,_,s1,rfl,rfl,rfl,hk53,hk63,hb3,(ho3.wide ho3.2.2 (nl _)).low hbc.size⟩
    ·obtain ⟨y3,hy3⟩:∃ y3,y3=yc.alloc (.cells (zQ ((0,0,0,0,0),(0,0,0,0),(0,0,0,0))) 37):=⟨_,rfl⟩;have hsy3:Below yc.heap.size yc y3:=by rw [hy3];exact (br _ _).alloc (nl _) _
     have hby3:Below w1.heap.size w1 y3:=bt hbyc hsy3;have b6y3:Bx y3 yc.heap.size (zQ ((0,0,0,0,0),(0,0,0,0),(0,0,0,0))) 37:=by rw [hy3];exact heap_alloc_new yc _
     refine xU (s:=17) (e':=some 6) rfl rfl rfl (.pointer (some ⟨yc.heap.size,0,none⟩)) y3 ?_ ⟨fun _=>K y3 hby3,?_⟩
     ·rw [hy3];unfold zQ;go_simp
      try with_reducible rfl
     simp only [pz];clear hy3;have ocy3:=hoc.below hsy3;refine kG (i:=16) (by kernel_rfl) ?_;obtain ⟨y4,hy4⟩:∃ y4,y4=y3.alloc (.cells zF 35):=⟨_,rfl⟩;have hsy4:Below y3.heap.size y3 y4:=by rw [hy4];exact (br _ _).alloc (nl _) _
     have hby4:Below w1.heap.size w1 y4:=bt hby3 hsy4;have b5y4:Bx y4 y3.heap.size zF 35:=by rw [hy4];exact heap_alloc_new y3 _
     refine xU (s:=16) (e':=some 5) rfl rfl rfl (.pointer (some ⟨y3.heap.size,0,none⟩)) y4 ?_ ⟨fun _=>K y4 hby4,?_⟩
     ·rw [hy4];unfold zF;go_simp
      try with_reducible rfl
     simp only [pz];clear hy4;have ocy4:=ocy3.below hsy4;have b6y4:=(hsy4.block _ (gl b6y3)).trans b6y3
     have hne:(yc.heap.size:Nat) ≠ y3.heap.size:=fun e=>by
      have h6:=b6y4;rw [e] at h6;exact absurd ((b5y4).symm.trans h6) (by simp)
     refine xW (s:=18) (N:=y3.heap.size) (o:=0) (cells:=zA P1 s1) (old:=zF) (new:=zA P1 s1) rfl rfl rfl rfl (by kernel_rfl) rfl rfl b5y4 (by kernel_rfl) (by simp [zA,zF]) (zJ ocy4.1) rfl ?_;intro z2 hg hk5;have h5:w1.heap.size≤y3.heap.size:=hby3.size;have h6:w1.heap.size≤yc.heap.size:=hbyc.size;have hb2:Below w1.heap.size w1 z2:=hby4.grown hg hby4.size (fun k e=>by cases e;exact h5);have hk6:=(hg.block _ (gl b6y4) (fun e=>hne (Option.some.inj e))).trans b6y4;have ho2:=ocy4.boxed b5y4 hg;refine ⟨fun h=>absurd h (by decide),?_⟩;refine xW (s:=19) (N:=yc.heap.size) (o:=0) (cells:=zQ L1) (old:=(zQ ((0,0,0,0,0),(0,0,0,0),(0,0,0,0)))) (new:=zQ L1) rfl rfl rfl rfl (by kernel_rfl) rfl rfl hk6 (by kernel_rfl) (by simp [zQ]) (kD L1) rfl ?_;intro z3 hg3 hk63;have hb3:Below w1.heap.size w1 z3:=hb2.grown hg3 hb2.size (fun k e=>by cases e;exact h6);have hk53:=(hg3.block _ (gl hk5) (fun e=>hne (Option.some.inj e).symm)).trans hk5
     have ho3:=ho2.frs (FrS.of_grown hg3 (B:=fun k=>k=yc.heap.size) (fun k e=>by cases e;rfl)) (fun k hk e=>by
      obtain ⟨a,ha,ea⟩:=hk;have hlim:=zED ho2.2.1 a ha k ea;have hfar:=(Or.inr (by first | exact nl _ | exact nl _):yc.heap.size < w1.drew.heap.size∨yc.heap.size≤yc.heap.size)
      omega)
     refine ⟨fun h=>absurd h (by decide),?_⟩;refine xM (j:=20) (e':=some 7) (v:=.bool (jT p c.n)) rfl rfl (by kernel_rfl) (by kernel_rfl) (by kernel_rfl) (by rfl) (fun _ _ _ h=>h) (Or.inl ⟨by rfl,?_⟩) ?_
     ·intro x hx;go_simp
      try with_reducible rfl
     simp only [pz];refine zK (by kernel_rfl) ?_ _;go_wp2
     go_meet
     case rel=>exact ⟨_,_,s1,rfl,rfl,rfl,hk53,hk63,hb3,(ho3.wide ho3.2.2 (nl _)).low hbc.size⟩
   ·obtain ⟨y5,hy5⟩:∃ y5,y5=w1.drew.alloc (.cells zF 35):=⟨_,rfl⟩;have hsy5:Below w1.drew.heap.size w1.drew y5:=by rw [hy5];exact (br _ _).alloc (nl _) _
    have hby5:Below w1.heap.size w1 y5:=bt hd0 hsy5;have b5y5:Bx y5 w1.drew.heap.size zF 35:=by rw [hy5];exact heap_alloc_new w1.drew _
    refine xU (s:=16) (e':=some 5) rfl rfl rfl (.pointer (some ⟨w1.drew.heap.size,0,none⟩)) y5 ?_ ⟨fun _=>K y5 hby5,?_⟩
    ·rw [hy5];unfold zF;go_simp
     try with_reducible rfl
    simp only [pz];clear hy5;refine zFC (i:=11) (j:=17) (by kernel_rfl) ?_ ?_
    ·have hbc:Below w1.heap.size w1 y5:=hby5;refine zEA (s:=11) (e':=some 26) (fn:=20) (args:=#[.agg (zA p t),.int .i64 c.n]) rfl rfl (by kernel_rfl) ?_ ((yBE p t c.n y5 HSP.out.1 hwn (HPR.out.below hbc) HSP.out.2).mono ?_)
     ·go_simp
      try with_reducible rfl
     rintro e yc ⟨s1,rfl,hoc,hsyc⟩;have hbyc:Below w1.heap.size w1 yc:=bt hbc hsyc;rw [HP1.out.1] at hoc;rw [HP1.out.1,HP1.out.2];refine ⟨_,rfl,fun _=>K yc hbyc,?_⟩;simp only [pz];have b5yc:=(hsyc.block _ (gl b5y5)).trans b5y5;refine xM (j:=12) (e':=some 14) (v:=.tuple #[yZ P1 s1,.agg (zQ L1),.bool (jT p c.n)]) rfl rfl (by kernel_rfl) (by kernel_rfl) (by kernel_rfl) (by rfl) (fun _ _ _ h=>h) (Or.inl ⟨by rfl,?_⟩) ?_
     ·intro x hx;go_simp
      try with_reducible rfl
     simp only [pz];refine xM (j:=13) (e':=some 27) (v:=.agg (zA P1 s1)) rfl rfl (by kernel_rfl) (by kernel_rfl) (by kernel_rfl) (by rfl) (fun _ _ _ h=>h) (Or.inl ⟨by rfl,?_⟩) ?_
     ·intro x hx;go_simp
      try with_reducible rfl
     simp only [pz];refine xM (j:=14) (e':=some 28) (v:=.agg (zQ L1)) rfl rfl (by kernel_rfl) (by kernel_rfl) (by kernel_rfl) (by rfl) (fun _ _ _ h=>h) (Or.inl ⟨by rfl,?_⟩) ?_
     ·intro x hx;go_simp
      try with_reducible rfl
     simp only [pz];refine xM (j:=15) (e':=some 29) (v:=.bool (jT p c.n)) rfl rfl (by kernel_rfl) (by kernel_rfl) (by kernel_rfl) (by rfl) (fun _ _ _ h=>h) (Or.inl ⟨by rfl,?_⟩) ?_
     ·intro x hx;go_simp
      try with_reducible rfl
     simp only [pz];refine kG (i:=17) (by kernel_rfl) ?_;obtain ⟨y6,hy6⟩:∃ y6,y6=yc.alloc (.cells (zQ ((0,0,0,0,0),(0,0,0,0),(0,0,0,0))) 37):=⟨_,rfl⟩;have hsy6:Below yc.heap.size yc y6:=by rw [hy6];exact (br _ _).alloc (nl _) _
     have hby6:Below w1.heap.size w1 y6:=bt hbyc hsy6;have b6y6:Bx y6 yc.heap.size (zQ ((0,0,0,0,0),(0,0,0,0),(0,0,0,0))) 37:=by rw [hy6];exact heap_alloc_new yc _
     refine xU (s:=17) (e':=some 6) rfl rfl rfl (.pointer (some ⟨yc.heap.size,0,none⟩)) y6 ?_ ⟨fun _=>K y6 hby6,?_⟩
     ·rw [hy6];unfold zQ;go_simp
      try with_reducible rfl
     simp only [pz];clear hy6;have b5y6:=(hsy6.block _ (gl b5yc)).trans b5yc;have ocy6:=hoc.below hsy6
     have hne:(yc.heap.size:Nat) ≠ w1.drew.heap.size:=fun e=>by
      have h6:=b6y6;rw [e] at h6;exact absurd ((b5y6).symm.trans h6) (by simp)
     refine xW (s:=18) (N:=w1.drew.heap.size) (o:=0) (cells:=zA P1 s1) (old:=zF) (new:=zA P1 s1) rfl rfl rfl rfl (by kernel_rfl) rfl rfl b5y6 (by kernel_rfl) (by simp [zA,zF]) (zJ ocy6.1) rfl ?_;intro z2 hg hk5;have h5:w1.heap.size≤w1.drew.heap.size:=nl _;have h6:w1.heap.size≤yc.heap.size:=hbyc.size;have hb2:Below w1.heap.size w1 z2:=hby6.grown hg hby6.size (fun k e=>by cases e;exact h5);have hk6:=(hg.block _ (gl b6y6) (fun e=>hne (Option.some.inj e))).trans b6y6;have ho2:=ocy6.boxed b5y6 hg;refine ⟨fun h=>absurd h (by decide),?_⟩;refine xW (s:=19) (N:=yc.heap.size) (o:=0) (cells:=zQ L1) (old:=(zQ ((0,0,0,0,0),(0,0,0,0),(0,0,0,0)))) (new:=zQ L1) rfl rfl rfl rfl (by kernel_rfl) rfl rfl hk6 (by kernel_rfl) (by simp [zQ]) (kD L1) rfl ?_;intro z3 hg3 hk63;have hb3:Below w1.heap.size w1 z3:=hb2.grown hg3 hb2.size (fun k e=>by cases e;exact h6);have hk53:=(hg3.block _ (gl hk5) (fun e=>hne (Option.some.inj e).symm)).trans hk5
     have ho3:=ho2.frs (FrS.of_grown hg3 (B:=fun k=>k=yc.heap.size) (fun k e=>by cases e;rfl)) (fun k hk e=>by
      obtain ⟨a,ha,ea⟩:=hk;have hlim:=zED ho2.2.1 a ha k ea;have hfar:=(Or.inr (by first | exact nl _ | exact nl _):yc.heap.size < y5.heap.size∨yc.heap.size≤yc.heap.size)
      omega)
     refine ⟨fun h=>absurd h (by decide),?_⟩;refine xM (j:=20) (e':=some 7) (v:=.bool (jT p c.n)) rfl rfl (by kernel_rfl) (by kernel_rfl) (by kernel_rfl) (by rfl) (fun _ _ _ h=>h) (Or.inl ⟨by rfl,?_⟩) ?_
     ·intro x hx;go_simp
      try with_reducible rfl
     simp only [pz];refine zK (by kernel_rfl) ?_ _;go_wp2
     go_meet
     case rel=>exact ⟨_,_,s1,rfl,rfl,rfl,hk53,hk63,hb3,(ho3.wide ho3.2.2 (nl _)).low hbc.size⟩
    ·obtain ⟨y7,hy7⟩:∃ y7,y7=y5.alloc (.cells (zQ ((0,0,0,0,0),(0,0,0,0),(0,0,0,0))) 37):=⟨_,rfl⟩;have hsy7:Below y5.heap.size y5 y7:=by rw [hy7];exact (br _ _).alloc (nl _) _
     have hby7:Below w1.heap.size w1 y7:=bt hby5 hsy7;have b6y7:Bx y7 y5.heap.size (zQ ((0,0,0,0,0),(0,0,0,0),(0,0,0,0))) 37:=by rw [hy7];exact heap_alloc_new y5 _
     refine xU (s:=17) (e':=some 6) rfl rfl rfl (.pointer (some ⟨y5.heap.size,0,none⟩)) y7 ?_ ⟨fun _=>K y7 hby7,?_⟩
     ·rw [hy7];unfold zQ;go_simp
      try with_reducible rfl
     simp only [pz];clear hy7;have b5y7:=(hsy7.block _ (gl b5y5)).trans b5y5;refine kG (i:=11) (by kernel_rfl) ?_;have hbc:Below w1.heap.size w1 y7:=hby7;refine zEA (s:=11) (e':=some 26) (fn:=20) (args:=#[.agg (zA p t),.int .i64 c.n]) rfl rfl (by kernel_rfl) ?_ ((yBE p t c.n y7 HSP.out.1 hwn (HPR.out.below hbc) HSP.out.2).mono ?_)
     ·go_simp
      try with_reducible rfl
     rintro e yc ⟨s1,rfl,hoc,hsyc⟩;have hbyc:Below w1.heap.size w1 yc:=bt hbc hsyc;rw [HP1.out.1] at hoc;rw [HP1.out.1,HP1.out.2];refine ⟨_,rfl,fun _=>K yc hbyc,?_⟩;simp only [pz];have b5yc:=(hsyc.block _ (gl b5y7)).trans b5y7;have b6yc:=(hsyc.block _ (gl b6y7)).trans b6y7;refine xM (j:=12) (e':=some 14) (v:=.tuple #[yZ P1 s1,.agg (zQ L1),.bool (jT p c.n)]) rfl rfl (by kernel_rfl) (by kernel_rfl) (by kernel_rfl) (by rfl) (fun _ _ _ h=>h) (Or.inl ⟨by rfl,?_⟩) ?_
     ·intro x hx;go_simp
      try with_reducible rfl
     simp only [pz];refine xM (j:=13) (e':=some 27) (v:=.agg (zA P1 s1)) rfl rfl (by kernel_rfl) (by kernel_rfl) (by kernel_rfl) (by rfl) (fun _ _ _ h=>h) (Or.inl ⟨by rfl,?_⟩) ?_
     ·intro x hx;go_simp
      try with_reducible rfl
     simp only [pz];refine xM (j:=14) (e':=some 28) (v:=.agg (zQ L1)) rfl rfl (by kernel_rfl) (by kernel_rfl) (by kernel_rfl) (by rfl) (fun _ _ _ h=>h) (Or.inl ⟨by rfl,?_⟩) ?_
     ·intro x hx;go_simp
      try with_reducible rfl
     simp only [pz];refine xM (j:=15) (e':=some 29) (v:=.bool (jT p c.n)) rfl rfl (by kernel_rfl) (by kernel_rfl) (by kernel_rfl) (by rfl) (fun _ _ _ h=>h) (Or.inl ⟨by rfl,?_⟩) ?_
     ·intro x hx;go_simp
      try with_reducible rfl
     simp only [pz]
     have hne:(y5.heap.size:Nat) ≠ w1.drew.heap.size:=fun e=>by
      have h6:=b6yc;rw [e] at h6;exact absurd ((b5yc).symm.trans h6) (by simp)
     refine xW (s:=18) (N:=w1.drew.heap.size) (o:=0) (cells:=zA P1 s1) (old:=zF) (new:=zA P1 s1) rfl rfl rfl rfl (by kernel_rfl) rfl rfl b5yc (by kernel_rfl) (by simp [zA,zF]) (zJ hoc.1) rfl ?_;intro z2 hg hk5;have h5:w1.heap.size≤w1.drew.heap.size:=nl _;have h6:w1.heap.size≤y5.heap.size:=hby5.size;have hb2:Below w1.heap.size w1 z2:=hbyc.grown hg hbyc.size (fun k e=>by cases e;exact h5);have hk6:=(hg.block _ (gl b6yc) (fun e=>hne (Option.some.inj e))).trans b6yc;have ho2:=hoc.boxed b5yc hg;refine ⟨fun h=>absurd h (by decide),?_⟩;refine xW (s:=19) (N:=y5.heap.size) (o:=0) (cells:=zQ L1) (old:=(zQ ((0,0,0,0,0),(0,0,0,0),(0,0,0,0)))) (new:=zQ L1) rfl rfl rfl rfl (by kernel_rfl) rfl rfl hk6 (by kernel_rfl) (by simp [zQ]) (kD L1) rfl ?_;intro z3 hg3 hk63;have hb3:Below w1.heap.size w1 z3:=hb2.grown hg3 hb2.size (fun k e=>by cases e;exact h6);have hk53:=(hg3.block _ (gl hk5) (fun e=>hne (Option.some.inj e).symm)).trans hk5
     have ho3:=ho2.frs (FrS.of_grown hg3 (B:=fun k=>k=y5.heap.size) (fun k e=>by cases e;rfl)) (fun k hk e=>by
      obtain ⟨a,ha,ea⟩:=hk;have hlim:=zED ho2.2.1 a ha k ea;have hfar:=(Or.inl (gl b6y7):y5.heap.size < y7.heap.size∨yc.heap.size≤y5.heap.size)
      omega)
     refine ⟨fun h=>absurd h (by decide),?_⟩;refine xM (j:=20) (e':=some 7) (v:=.bool (jT p c.n)) rfl rfl (by kernel_rfl) (by kernel_rfl) (by kernel_rfl) (by rfl) (fun _ _ _ h=>h) (Or.inl ⟨by rfl,?_⟩) ?_
     ·intro x hx;go_simp
      try with_reducible rfl
     simp only [pz];refine zK (by kernel_rfl) ?_ _;go_wp2
     go_meet
     case rel=>exact ⟨_,_,s1,rfl,rfl,rfl,hk53,hk63,hb3,(ho3.wide ho3.2.2 (nl _)).low hbc.size⟩
   ·obtain ⟨y8,hy8⟩:∃ y8,y8=w1.drew.alloc (.cells (zQ ((0,0,0,0,0),(0,0,0,0),(0,0,0,0))) 37):=⟨_,rfl⟩;have hsy8:Below w1.drew.heap.size w1.drew y8:=by rw [hy8];exact (br _ _).alloc (nl _) _
    have hby8:Below w1.heap.size w1 y8:=bt hd0 hsy8;have b6y8:Bx y8 w1.drew.heap.size (zQ ((0,0,0,0,0),(0,0,0,0),(0,0,0,0))) 37:=by rw [hy8];exact heap_alloc_new w1.drew _
    refine xU (s:=17) (e':=some 6) rfl rfl rfl (.pointer (some ⟨w1.drew.heap.size,0,none⟩)) y8 ?_ ⟨fun _=>K y8 hby8,?_⟩
    ·rw [hy8];unfold zQ;go_simp
     try with_reducible rfl
    simp only [pz];clear hy8;refine zFC (i:=11) (j:=16) (by kernel_rfl) ?_ ?_
    ·have hbc:Below w1.heap.size w1 y8:=hby8;refine zEA (s:=11) (e':=some 26) (fn:=20) (args:=#[.agg (zA p t),.int .i64 c.n]) rfl rfl (by kernel_rfl) ?_ ((yBE p t c.n y8 HSP.out.1 hwn (HPR.out.below hbc) HSP.out.2).mono ?_)
     ·go_simp
      try with_reducible rfl
     rintro e yc ⟨s1,rfl,hoc,hsyc⟩;have hbyc:Below w1.heap.size w1 yc:=bt hbc hsyc;rw [HP1.out.1] at hoc;rw [HP1.out.1,HP1.out.2];refine ⟨_,rfl,fun _=>K yc hbyc,?_⟩;simp only [pz];have b6yc:=(hsyc.block _ (gl b6y8)).trans b6y8;refine xM (j:=12) (e':=some 14) (v:=.tuple #[yZ P1 s1,.agg (zQ L1),.bool (jT p c.n)]) rfl rfl (by kernel_rfl) (by kernel_rfl) (by kernel_rfl) (by rfl) (fun _ _ _ h=>h) (Or.inl ⟨by rfl,?_⟩) ?_
     ·intro x hx;go_simp
      try with_reducible rfl
     simp only [pz];refine xM (j:=13) (e':=some 27) (v:=.agg (zA P1 s1)) rfl rfl (by kernel_rfl) (by kernel_rfl) (by kernel_rfl) (by rfl) (fun _ _ _ h=>h) (Or.inl ⟨by rfl,?_⟩) ?_
     ·intro x hx;go_simp
      try with_reducible rfl
     simp only [pz];refine xM (j:=14) (e':=some 28) (v:=.agg (zQ L1)) rfl rfl (by kernel_rfl) (by kernel_rfl) (by kernel_rfl) (by rfl) (fun _ _ _ h=>h) (Or.inl ⟨by rfl,?_⟩) ?_
     ·intro x hx;go_simp
      try with_reducible rfl
     simp only [pz];refine xM (j:=15) (e':=some 29) (v:=.bool (jT p c.n)) rfl rfl (by kernel_rfl) (by kernel_rfl) (by kernel_rfl) (by rfl) (fun _ _ _ h=>h) (Or.inl ⟨by rfl,?_⟩) ?_
     ·intro x hx;go_simp
      try with_reducible rfl
     simp only [pz];refine kG (i:=16) (by kernel_rfl) ?_;obtain ⟨y9,hy9⟩:∃ y9,y9=yc.alloc (.cells zF 35):=⟨_,rfl⟩;have hsy9:Below yc.heap.size yc y9:=by rw [hy9];exact (br _ _).alloc (nl _) _
     have hby9:Below w1.heap.size w1 y9:=bt hbyc hsy9;have b5y9:Bx y9 yc.heap.size zF 35:=by rw [hy9];exact heap_alloc_new yc _
     refine xU (s:=16) (e':=some 5) rfl rfl rfl (.pointer (some ⟨yc.heap.size,0,none⟩)) y9 ?_ ⟨fun _=>K y9 hby9,?_⟩
     ·rw [hy9];unfold zF;go_simp
      try with_reducible rfl
     simp only [pz];clear hy9;have b6y9:=(hsy9.block _ (gl b6yc)).trans b6yc;have ocy9:=hoc.below hsy9
     have hne:(w1.drew.heap.size:Nat) ≠ yc.heap.size:=fun e=>by
      have h6:=b6y9;rw [e] at h6;exact absurd ((b5y9).symm.trans h6) (by simp)
     refine xW (s:=18) (N:=yc.heap.size) (o:=0) (cells:=zA P1 s1) (old:=zF) (new:=zA P1 s1) rfl rfl rfl rfl (by kernel_rfl) rfl rfl b5y9 (by kernel_rfl) (by simp [zA,zF]) (zJ ocy9.1) rfl ?_;intro z2 hg hk5;have h5:w1.heap.size≤yc.heap.size:=hbyc.size;have h6:w1.heap.size≤w1.drew.heap.size:=nl _;have hb2:Below w1.heap.size w1 z2:=hby9.grown hg hby9.size (fun k e=>by cases e;exact h5);have hk6:=(hg.block _ (gl b6y9) (fun e=>hne (Option.some.inj e))).trans b6y9;have ho2:=ocy9.boxed b5y9 hg;refine ⟨fun h=>absurd h (by decide),?_⟩;refine xW (s:=19) (N:=w1.drew.heap.size) (o:=0) (cells:=zQ L1) (old:=(zQ ((0,0,0,0,0),(0,0,0,0),(0,0,0,0)))) (new:=zQ L1) rfl rfl rfl rfl (by kernel_rfl) rfl rfl hk6 (by kernel_rfl) (by simp [zQ]) (kD L1) rfl ?_;intro z3 hg3 hk63;have hb3:Below w1.heap.size w1 z3:=hb2.grown hg3 hb2.size (fun k e=>by cases e;exact h6);have hk53:=(hg3.block _ (gl hk5) (fun e=>hne (Option.some.inj e).symm)).trans hk5
     have ho3:=ho2.frs (FrS.of_grown hg3 (B:=fun k=>k=w1.drew.heap.size) (fun k e=>by cases e;rfl)) (fun k hk e=>by
      obtain ⟨a,ha,ea⟩:=hk;have hlim:=zED ho2.2.1 a ha k ea;have hfar:=(Or.inl (gl b6y8):w1.drew.heap.size < y8.heap.size∨yc.heap.size≤w1.drew.heap.size)
      omega)
     refine ⟨fun h=>absurd h (by decide),?_⟩;refine xM (j:=20) (e':=some 7) (v:=.bool (jT p c.n)) rfl rfl (by kernel_rfl) (by kernel_rfl) (by kernel_rfl) (by rfl) (fun _ _ _ h=>h) (Or.inl ⟨by rfl,?_⟩) ?_
     ·intro x hx;go_simp
      try with_reducible rfl
     simp only [pz];refine zK (by kernel_rfl) ?_ _;go_wp2
     go_meet
     case rel=>exact ⟨_,_,s1,rfl,rfl,rfl,hk53,hk63,hb3,(ho3.wide ho3.2.2 (nl _)).low hbc.size⟩
    ·obtain ⟨y10,hy10⟩:∃ y10,y10=y8.alloc (.cells zF 35):=⟨_,rfl⟩;have hsy10:Below y8.heap.size y8 y10:=by rw [hy10];exact (br _ _).alloc (nl _) _
     have hby10:Below w1.heap.size w1 y10:=bt hby8 hsy10;have b5y10:Bx y10 y8.heap.size zF 35:=by rw [hy10];exact heap_alloc_new y8 _
     refine xU (s:=16) (e':=some 5) rfl rfl rfl (.pointer (some ⟨y8.heap.size,0,none⟩)) y10 ?_ ⟨fun _=>K y10 hby10,?_⟩
     ·rw [hy10];unfold zF;go_simp
      try with_reducible rfl
     simp only [pz];clear hy10;have b6y10:=(hsy10.block _ (gl b6y8)).trans b6y8;refine kG (i:=11) (by kernel_rfl) ?_;have hbc:Below w1.heap.size w1 y10:=hby10;refine zEA (s:=11) (e':=some 26) (fn:=20) (args:=#[.agg (zA p t),.int .i64 c.n]) rfl rfl (by kernel_rfl) ?_ ((yBE p t c.n y10 HSP.out.1 hwn (HPR.out.below hbc) HSP.out.2).mono ?_)
     ·go_simp
      try with_reducible rfl
     rintro e yc ⟨s1,rfl,hoc,hsyc⟩;have hbyc:Below w1.heap.size w1 yc:=bt hbc hsyc;rw [HP1.out.1] at hoc;rw [HP1.out.1,HP1.out.2];refine ⟨_,rfl,fun _=>K yc hbyc,?_⟩;simp only [pz];have b6yc:=(hsyc.block _ (gl b6y10)).trans b6y10;have b5yc:=(hsyc.block _ (gl b5y10)).trans b5y10;refine xM (j:=12) (e':=some 14) (v:=.tuple #[yZ P1 s1,.agg (zQ L1),.bool (jT p c.n)]) rfl rfl (by kernel_rfl) (by kernel_rfl) (by kernel_rfl) (by rfl) (fun _ _ _ h=>h) (Or.inl ⟨by rfl,?_⟩) ?_
     ·intro x hx;go_simp
      try with_reducible rfl
     simp only [pz];refine xM (j:=13) (e':=some 27) (v:=.agg (zA P1 s1)) rfl rfl (by kernel_rfl) (by kernel_rfl) (by kernel_rfl) (by rfl) (fun _ _ _ h=>h) (Or.inl ⟨by rfl,?_⟩) ?_
     ·intro x hx;go_simp
      try with_reducible rfl
     simp only [pz];refine xM (j:=14) (e':=some 28) (v:=.agg (zQ L1)) rfl rfl (by kernel_rfl) (by kernel_rfl) (by kernel_rfl) (by rfl) (fun _ _ _ h=>h) (Or.inl ⟨by rfl,?_⟩) ?_
     ·intro x hx;go_simp
      try with_reducible rfl
     simp only [pz];refine xM (j:=15) (e':=some 29) (v:=.bool (jT p c.n)) rfl rfl (by kernel_rfl) (by kernel_rfl) (by kernel_rfl) (by rfl) (fun _ _ _ h=>h) (Or.inl ⟨by rfl,?_⟩) ?_
     ·intro x hx;go_simp
      try with_reducible rfl
     simp only [pz]
     have hne:(w1.drew.heap.size:Nat) ≠ y8.heap.size:=fun e=>by
      have h6:=b6yc;rw [e] at h6;exact absurd ((b5yc).symm.trans h6) (by simp)
     refine xW (s:=18) (N:=y8.heap.size) (o:=0) (cells:=zA P1 s1) (old:=zF) (new:=zA P1 s1) rfl rfl rfl rfl (by kernel_rfl) rfl rfl b5yc (by kernel_rfl) (by simp [zA,zF]) (zJ hoc.1) rfl ?_;intro z2 hg hk5;have h5:w1.heap.size≤y8.heap.size:=hby8.size;have h6:w1.heap.size≤w1.drew.heap.size:=nl _;have hb2:Below w1.heap.size w1 z2:=hbyc.grown hg hbyc.size (fun k e=>by cases e;exact h5);have hk6:=(hg.block _ (gl b6yc) (fun e=>hne (Option.some.inj e))).trans b6yc;have ho2:=hoc.boxed b5yc hg;refine ⟨fun h=>absurd h (by decide),?_⟩;refine xW (s:=19) (N:=w1.drew.heap.size) (o:=0) (cells:=zQ L1) (old:=(zQ ((0,0,0,0,0),(0,0,0,0),(0,0,0,0)))) (new:=zQ L1) rfl rfl rfl rfl (by kernel_rfl) rfl rfl hk6 (by kernel_rfl) (by simp [zQ]) (kD L1) rfl ?_;intro z3 hg3 hk63;have hb3:Below w1.heap.size w1 z3:=hb2.grown hg3 hb2.size (fun k e=>by cases e;exact h6);have hk53:=(hg3.block _ (gl hk5) (fun e=>hne (Option.some.inj e).symm)).trans hk5
     have ho3:=ho2.frs (FrS.of_grown hg3 (B:=fun k=>k=w1.drew.heap.size) (fun k e=>by cases e;rfl)) (fun k hk e=>by
      obtain ⟨a,ha,ea⟩:=hk;have hlim:=zED ho2.2.1 a ha k ea;have hfar:=(Or.inl (gl b6y10):w1.drew.heap.size < y10.heap.size∨yc.heap.size≤w1.drew.heap.size)
      omega)
     refine ⟨fun h=>absurd h (by decide),?_⟩;refine xM (j:=20) (e':=some 7) (v:=.bool (jT p c.n)) rfl rfl (by kernel_rfl) (by kernel_rfl) (by kernel_rfl) (by rfl) (fun _ _ _ h=>h) (Or.inl ⟨by rfl,?_⟩) ?_
     ·intro x hx;go_simp
      try with_reducible rfl
     simp only [pz];refine zK (by kernel_rfl) ?_ _;go_wp2
     go_meet
     case rel=>exact ⟨_,_,s1,rfl,rfl,rfl,hk53,hk63,hb3,(ho3.wide ho3.2.2 (nl _)).low hbc.size⟩
  case rest=>
   obtain ⟨g5,g6,s1,rfl,rfl,rfl,hT⟩:=hcut;have HT:=hid hT;clear hT
   by_cases hgo:jT p c.n=true
   ·rw [hgo];have HE:Hid (waitC c (j:Int)=(jV (zCG c (j:Int) P1) [L1],true)):=(by unfold waitC;rw [HPA.out.1,if_pos ⟨HHJ.out,hgo⟩,HP1.out.1,HP1.out.2]:waitC c (j:Int)=_);clear hgo
    go_upto_region 6 with fail
    have HCC:Hid (Bx wc g cur 35):=(HT.out.below.block g HGL.out.1).trans HCU.out.1;have HIC:Hid (InB N lo w wc c s):=HI1.out.more HT.out.below;refine zT (fun i=>decide (i < 7)) (fun x=>Bx x N (zR c s) 90∧Bx x g5 (zA P1 s1) 35) (by kernel_rfl) ?_;show zX Tryz.prog _ _ _ _ _ (7+1) (Array.replicate 8 false) _ _;have hS:Bx wc.drew N (zR c s) 90∧Bx wc.drew g5 (zA P1 s1) 35:=⟨HIC.out.box,HT.out.b5⟩;refine zD 0 32 (.pointer (some ⟨N,0,none⟩)) hS ?_;refine zD 1 33 (.pointer (some ⟨N,0,none⟩)) hS ?_;refine zD 2 34 (.pointer (some ⟨N,4,none⟩)) hS ?_;refine zD 3 35 (.slice (some ⟨g,0,none⟩) c.peers.length cap) hS ?_ (hy:=by intro x hx;have c4:=zB hx.1 4 s.peersV rfl;rw [HPV.out] at c4;go_simp;try with_reducible rfl);refine zD 4 36 (.int .i64 (j:Int)) hS ?_;refine zD 5 37 (.agg (zA P1 s1)) hS ?_ (hy:=fun x hx=>zM _ _ rfl g5 rfl _ _ _ _ hx.2 Tryz.underlying35 rfl (by kernel_rfl));refine zD 6 38 (.pointer (some ⟨g,j * 21,none⟩)) hS ?_;refine xW (s:=7) (N:=g) (o:=j * 21) (cells:=zA P1 s1) (old:=cur) (new:=yBB cur (j * 21) (zA P1 s1)) rfl rfl rfl rfl (by kernel_rfl) rfl rfl HCC.out (by kernel_rfl) (by have:=HCU.out.2;simpa [zA] using this) (zJ HT.out.own.1) rfl ?_;intro z hg hk;have HZ:Hid (InW N lo w z (zCG c (j:Int) P1) { s with peers:=s.peers.set j (P1,s1) }∧Bx z g6 (zQ L1) 37):=put_peer (HIC.out.more (br _ _).drew) HI1.out.own (HT.out.more (br _ _).drew).below HLO1.out HPV.out HGL.out.2.1 hjn HCC.out hg hk (HT.out.more (br _ _).drew).own (HT.out.more (br _ _).drew).b6 (by decide);clear hg hk hS;refine ⟨fun h=>absurd h (by decide),?_⟩;refine zK (by kernel_rfl) ?_ _;obtain ⟨Y,hY⟩:∃ Y,Y=z.alloc (.cells (zQ L1) 37):=⟨_,rfl⟩
    have HY:Hid (InW N lo w Y (zCG c (j:Int) P1) { s with peers:=s.peers.set j (P1,s1) }∧yM Y (.slice (some ⟨z.heap.size,0,none⟩) 1 1) 13 yE [L1]):=(by
     have hby:Below z.heap.size z Y:=by rw [hY];exact (br _ _).alloc (nl _) _
     refine ⟨HZ.out.1.more hby,zW (xs:=[L1]) xP (base:=z.heap.size) (e:=37) ?_⟩;rw [hY]
     simpa [zE] using yCH (l:=L1) (Nat.le_refl z.heap.size):_∧_)
    unfold zQ at hY
    go_wp2_with (first
     | (refine w_ld g6 HZ.out.2 Tryz.underlying37 ?_;unfold zQ)
     | (rw [← hY]))
    refine (post_p (zCG c (j:Int) P1) { s with peers:=s.peers.set j (P1,s1) } N lo Y.heap.size [L1] _ Y HY.out.1.box HY.out.1.own (Nat.le_trans HLO.out HY.out.1.fr.size) HY.out.2 hk (by simp)).mono ?_;rintro e w3 ⟨rfl,s3,hin⟩;have HIN:Hid (InW N lo w w3 (jV (zCG c (j:Int) P1) [L1]) s3):=HY.out.1.trans hin.weak;clear hin;go_wp2;go_ret;refine ⟨zL (by rw [HE.out]),s3,?_⟩;rw [HE.out];exact HIN.out
   ·have hgf:jT p c.n=false:=by simpa using hgo
    rw [hgf];have HE:Hid (waitC c (j:Int)=(c,false)):=if_neg (fun h=>hgo (by rw [← HPA.out.1];exact h.2));clear hgo hgf;go_wp2;go_ret;refine ⟨zL (by rw [HE.out]),s,?_⟩;rw [HE.out];exact (HI1.out.more (HT.out.below)).weak
 ·have hf:xT c i=false:=by simpa using hh
  rw [hf];have HE:Hid (waitC c i=(c,false)):=if_neg (fun h=>hh h.1);clear hh hf;go_wp2;go_ret;refine ⟨zL (by rw [HE.out]),s,?_⟩;rw [HE.out];exact (HI.out.more HB1.out).weak
end Go.Proofs.YtdopefimjabigadGreat
