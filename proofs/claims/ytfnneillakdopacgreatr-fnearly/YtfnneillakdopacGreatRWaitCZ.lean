/-
  A text of ours: WaitC.
-/
import Derived.Test.YtfnneillakdopacGreatRK1
import Derived.Test.YtfnneillakdopacGreatRK7
import Derived.Test.YtfnneillakdopacGreatRK8
set_option maxRecDepth 100000
set_option maxHeartbeats 32000000
namespace Go.Proofs.YtfnneillakdopacGreatR
open _root_.Go.Proofs.Tryz
open Option renaming none->Aa,some->Ab
open Nat renaming le_trans->Ac
open Option.some renaming inj->Ad
open Go.RowKit Num
variable {g:Nat} {w x:World}
theorem cell_same (h:x.heap[g]?=w.heap[g]?) (o:Nat):x.cell? ⟨g,o,Aa⟩=w.cell? ⟨g,o,Aa⟩:=by
 unfold World.cell?;simp only [h]
theorem qW {o:Nat} {cs:List Value} (h:x.heap[g]?=w.heap[g]?) (hr:w.rangeAt g o cs):x.rangeAt g o cs:=fun j v hj=>by rw [cell_same h];exact hr j v hj
theorem xG.peerAt {lo hi j:Nat} {c:CU} {s:CW} (h:xG lo hi w c s) (hj:j < c.peers.length):∃ g cap p t,s.peersV=.slice (Ab ⟨g,0,Aa⟩) c.peers.length cap/\s.peers[j]?=Ab (p,t)/\zCJ c (j:Int)=p/\jS w p t/\w.rangeAt g (j * 21) (peerL p t)/\g < w.heap.size/\lo<=g/\(∃ cur,Bx w g cur 35/\j * 21+21<=cur.size)/\c.peers.length<=cap:=by
 have r:s.peers.length=c.peers.length:=by rw [<- h.epeers,yCI]
 have d:j < s.peers.length:=by omega
 obtain ⟨a,cap,e,z⟩:=yL h.peers.row;obtain ⟨g,rfl⟩:=z (by omega);have hr:=h.peers.row;have af:=zJB h.peers.row _ _ _ e;rw [e] at hr;obtain ⟨ah,⟨i,_⟩ | ⟨g2,ae,cur,i,y,n,m,ag,u,aj⟩⟩:=id hr
 ·cases i
 ·injection i with b _ ac
  injection b with b
  injection b with b
  subst b ac;have hR:=zW peerF_len h.peers.row;obtain ⟨a',ad,l,o⟩:=hR;rw [e] at l;injection l with ea _ ec
  subst ea;obtain ⟨g',ai,f,hg,hc⟩:=o (by omega);injection f with f
  injection f with aa x _
  subst aa x;refine ⟨g,cap,s.peers[j].1,s.peers[j].2,by rw [e,r],List.getElem?_eq_getElem d,?_,h.peers.reads.each _ (List.getElem_mem d),?_,hg,y,⟨cur,n,?_⟩,by omega⟩
  ·unfold zCJ;have:c.peers[j]?=some s.peers[j].1:=by rw [<- h.epeers];simp [pes,d]
   rw [show ((j:Int)).toNat=j by omega,this]
   rfl
  ·intro k v hk;have ab:k < 21:=(List.getElem?_eq_some_iff.1 hk).1;have:=hc j d k ab;rw [Nat.zero_add] at this;rw [this];exact hk
  ·rw [u];have:j * 21+21<=s.peers.length * 21:=by omega
   exact Ac this (Nat.mul_le_mul_right 21 m)
structure TimB (w x:World) (g5 g6:Nat) (p:PE) (t:PV) (l:LT):Prop where
 b5:Bx x g5 (zA p t) 35
 b6:Bx x g6 (zQ l) 61
 below:Be w x
 own:zO w.heap.size x.heap.size x p t
theorem TimB.more {y:World} {g5 g6:Nat} {p:PE} {t:PV} {l:LT} (h:TimB w x g5 g6 p t l) (hb:Be x y):TimB w y g5 g6 p t l:=
 ⟨bk hb h.b5,bk hb h.b6,bt h.below hb,(h.own.below hb).wide hb.size (nl _)⟩
theorem put_peer {N lo j g6 m:Nat} {cap:Nat} {w1 z:World} {c:CU} {s:CW} {cur A:Array Value} {T:TypeId} {p:PE} {t:PV} (hic:InB N lo w x c s) (h1:xG lo m w1 c s) (hb:Be w1 x) (hlo:lo<=m)
  (hpv:s.peersV=.slice (Ab ⟨g,0,Aa⟩) c.peers.length cap) (hlg:lo<=g) (hj:j < c.peers.length) (hcur:Bx x g cur 35) (hg:x.grownBy z (some g)) (hk:Bx z g (yBB cur (j * 21) (zA p t)) 35) (hd:zO m x.heap.size x p t)
  (h6:x.heap[g6]?=Ab (.cells A T (0,0))) (hT:T ≠ 35):InW N lo w z (zCG c (j:Int) p) { s with peers:=s.peers.set j (p,t) }/\z.heap[g6]?=Ab (.cells A T (0,0)):=by
 have h:s.peers.length=c.peers.length:=by rw [<- h1.epeers,yCI]
 have a:xG lo m x c s:=h1.below hb
 have b:z.ownsRow lo 35 21 s.peersV s.peers.length (zE peerF (s.peers.set j (p,t))):=by
  have hr:=a.peers.row;rw [hpv] at hr ⊢;rw [h] at hr ⊢;rw [<- flat_setE peerF_len (p,t) s.peers j (by omega)];exact own_part hr hcur j hj (zA p t) rfl hk
 have f:N ≠ g:=fun e=>by
  have hn:=hic.box;rw [e] at hn;exact absurd (hn.symm.trans hcur) (by simp)
 have d:g6 ≠ g:=fun e=>by
  rw [e] at h6;have:=h6.symm.trans hcur;injection this with this
  injection this with _ this _
  exact hT this
 have i:zO m z.heap.size z p t:=(hd.boxed hcur hg).wide hg.size (nl _);refine ⟨⟨gk hg hic.box (fun e=>f (Ad e)),?_,(hic.fr.mono fun _ e=>Or.inl e).trans (FrS.of_grown hg (fun k e=>by cases e;exact Or.inr hlg))⟩,gk hg h6 (fun e=>d (Ad e))⟩;exact a.setPeer hpv hg hlo b i (Ac a.size hg.size)
theorem wait_p (c:CU) (s:CW) (N lo hi:Nat) (i:Int) (w:World) (hbox:Bx w N (zR c s) 124) (hown:xG lo hi w c s) (hlo:lo<=hi) (hk:(c.net.length:Int)<=1048576) (hkp:(c.peers.length:Int)<=1048576) (hwi:(Lit.int .i64 i).wf=true) (hwn:(Lit.int .i64 c.n).wf=true) (hgp:∀ p∈c.peers,yDG p/\yC p) :
  Calls prog 166 #[.pointer (Ab ⟨N,0,Aa⟩),.int .i64 i] w fun e w'=>e=.returned (.bool (waitC c i).2)/\∃ s',InW N lo w w' (waitC c i).1 s':=by
 have db:N < w.heap.size:=(gl hbox);have HB:=hid hbox;have HI:Hid (InB N lo w w c s):=InB.start hbox hown;have HO:Hid (xG lo w.heap.size w c s):=HI.own;have cp:Hid (lo<=w.heap.size):=Ac hlo hown.size;have c7:=hid hgp;clear hbox hown hlo hgp;go_enter func166,ntmps166;go_wp2_with (refine w_ld N HB underlying124 ?_)
 refine (zHB c s i w HO.reads hkp).mono ?_;rintro e w1 ⟨rfl,cf⟩;have ca:=hid cf;clear cf
 by_cases hh:xT c i=true
 ·rw [hh]
  have bl:0<=i/\i < c.peers.length:=by
   unfold xT at hh;have:=zDF (Bool.and_eq_true _ _ ▸ hh).1;omega
  obtain ⟨j,hj⟩:∃ j:Nat,i=(j:Int):=⟨i.toNat,by omega⟩;subst hj;have ap:j < c.peers.length:=by omega
  have ao:Hid (InB N lo w w1 c s):=HI.more ca;obtain ⟨g,cap,p,t,cy,c3,cc,cr,cg,cn,cw,⟨ce,bv,cx⟩,bu⟩:=(ao.own).peerAt ap;have a3:=hid cr;have c6:=hid cg;have cs:=hid (qad2 bv cx);have b8:=hid cy;have cl:=hid (qad2 cc c3);have cd:=hid (qad3 cn cw bu);have cv:yDG p/\yC p:=c7 p (by rw [<- cc];unfold zCJ;rw [show ((j:Int)).toNat=j by omega,List.getElem?_eq_getElem ap];exact List.getElem_mem ap);have ah:=hid cv;have co:Hid (lo<=w1.heap.size):=Ac cp ca.size;have c9:=hid hh;have cf:j < c.peers.length:=ap;have q0:(0:Int)<=(j:Int):=by omega
  have q1:(j:Int) < (c.peers.length:Int):=by omega
  clear hh bl cr cg bv cx cy cc c3 cn cw bu cv;obtain ⟨P1,ck⟩:=nw (zGH p c.n);obtain ⟨L1,cq⟩:=nw (yEB p c.n);have u:=hid (qad2 ck.symm cq.symm);clear ck cq
  go_upto_region 3 with fail
  go_cut [5,6,7] (fun v5 v6 v7 wx=>∃ g5 g6 s1,v5=.pointer (Ab ⟨g5,0,Aa⟩)/\v6=.pointer (Ab ⟨g6,0,Aa⟩)/\v7=.bool (jT p c.n)/\TimB w1 wx g5 g6 P1 s1 L1)
  case first=>
   refine p_rg (fun i=>decide (i < 12) || (decide (i=16) || decide (i=17))) (fun x=>Bx x N (zR c s) 124/\x.heap[g]?=w1.heap[g]?) ?_;show zX prog _ _ _ _ _ (20+1) (Array.replicate 21 false) _ _;have hS:Bx w1.drew N (zR c s) 124/\w1.drew.heap[g]?=w1.heap[g]?:=⟨ao.box,rfl⟩;refine p_pt 0 15 N 0 hS ?_;refine p_pt 1 16 N 0 hS ?_;refine p_pt 2 17 N 4 hS ?_;refine zD 3 18 (.slice (Ab ⟨g,0,Aa⟩) c.peers.length cap) hS ?_ (hy:=by intro x hx;have c4:=zB hx.1 4 s.peersV rfl;rw [b8.out] at c4;go_simp;try rfl);refine zD 4 19 (.int .i64 (j:Int)) hS ?_;refine p_pt 5 20 g (j * 21) hS ?_;refine zD 6 21 (.agg (zA p t)) hS ?_ (hy:=fun x hx=>ldm g (j * 21) (peerL p t) (qW hx.2 c6) underlying35);refine p_pt 7 22 N 0 hS ?_;refine p_pt 8 23 N 0 hS ?_;refine p_pt 9 24 N 0 hS ?_;refine zD 10 25 (.int .i64 c.n) hS ?_ (hy:=by intro x hx;have c0:=zB hx.1 0 (.int .i64 c.n) rfl;go_simp;try rfl);have K:∀ x,Be w1 x->Bx x N (zR c s) 124/\x.heap[g]?=w1.heap[g]?:=fun x hb=>⟨(ao.more hb).box,hb.block g cd.1⟩
   have cb:=bw w1;refine p_three (i:=11) (j:=16) (k:=17) (by kernel_rfl) ?_ ?_ ?_
   ·have m:Be w1 w1.drew:=cb;refine zEA (s:=11) (e':=some 26) (fn:=196) (args:=#[.agg (zA p t),.int .i64 c.n]) rfl rfl (by kernel_rfl) ?_ ((yBE p t c.n w1.drew ah.1 hwn (a3.below m) ah.2).mono ?_)
    ·go_simp
     try rfl
    rintro e yc ⟨s1,rfl,y,f⟩;have b:Be w1 yc:=bt m f;rw [u.out.1] at y;rw [u.out.1,u.out.2];refine ⟨_,rfl,fun _=>K yc b,?_⟩;simp only [pz];refine p_pu 12 14 (.tuple #[yZ P1 s1,.agg (zQ L1),.bool (jT p c.n)]) ?_ ?_
    ·intro x hx;go_simp
     try rfl
    simp only [pz];refine p_pu 13 27 (.agg (zA P1 s1)) ?_ ?_
    ·intro x hx;go_simp
     try rfl
    simp only [pz];refine p_pu 14 28 (.agg (zQ L1)) ?_ ?_
    ·intro x hx;go_simp
     try rfl
    simp only [pz];refine p_pu 15 29 (.bool (jT p c.n)) ?_ ?_
    ·intro x hx;go_simp
     try rfl
    simp only [pz];refine zFC (i:=16) (j:=17) (by kernel_rfl) ?_ ?_
    ·obtain ⟨y1,bh⟩:=nw (yc.alloc (.cells zF 35));have a6:Be yc y1:=by rw [bh];exact (br _ _).alloc (nl _) _
     have a2:Be w1 y1:=bt b a6;have cz:Bx y1 yc.heap.size zF 35:=by rw [bh];exact heap_alloc_new yc _
     refine xU (s:=16) (e':=some 5) rfl rfl rfl (.pointer (Ab ⟨yc.heap.size,0,Aa⟩)) y1 ?_ ⟨fun _=>K y1 a2,?_⟩
     ·rw [bh];unfold zF;go_simp
      try rfl
     simp only [pz];clear bh;have ct:=y.below a6;refine p_on 17 ?_;obtain ⟨y2,bi⟩:=nw (y1.alloc (.cells (zQ ((0,0,0,0,0),(0,0,0,0),(0,0,0,0))) 61));have bc:Be y1 y2:=by rw [bi];exact (br _ _).alloc (nl _) _
     have a8:Be w1 y2:=bt a2 bc;have b4:Bx y2 y1.heap.size (zQ ((0,0,0,0,0),(0,0,0,0),(0,0,0,0))) 61:=by rw [bi];exact heap_alloc_new y1 _
     refine xU (s:=17) (e':=some 6) rfl rfl rfl (.pointer (Ab ⟨y1.heap.size,0,Aa⟩)) y2 ?_ ⟨fun _=>K y2 a8,?_⟩
     ·rw [bi];unfold zQ;go_simp
      try rfl
     simp only [pz];clear bi;have b5:=ct.below bc;have aw:=bk bc cz
     have aa:(y1.heap.size:Nat) ≠ yc.heap.size:=fun e=>by
      have h6:=b4;rw [e] at h6;exact absurd ((aw).symm.trans h6) (by simp)
     refine p_pa 18 yc.heap.size 0 (zA P1 s1) zF (zA P1 s1) aw (by simp [zA,zF]) (zJ b5.1) rfl ?_;intro z2 hg af;have h5:w1.heap.size<=yc.heap.size:=b.size;have h6:w1.heap.size<=y1.heap.size:=a2.size;have r:Be w1 z2:=a8.grown hg a8.size (fun k e=>by cases e;exact h5);have ae:=gk hg b4 (fun e=>aa (Ad e));have n:=b5.boxed aw hg;refine ⟨fun h=>absurd h (by decide),?_⟩;refine p_pa 19 y1.heap.size 0 (zQ L1) (zQ ((0,0,0,0,0),(0,0,0,0),(0,0,0,0))) (zQ L1) ae (by simp [zQ]) (kD L1) rfl ?_;intro z3 d ab;have ad:Be w1 z3:=r.grown d r.size (fun k e=>by cases e;exact h6);have v:=gk d af (fun e=>aa (Ad e).symm)
     have o:=n.frs (FrS.of_grown d (B:=fun k=>k=y1.heap.size) (fun k e=>by cases e;rfl)) (fun k hk e=>by
      obtain ⟨a,ha,ea⟩:=hk;have ak:=zED n.2.1 a ha k ea;have aj:=(Or.inr (by first | exact nl _ | exact a6.size):y1.heap.size < w1.drew.heap.size∨yc.heap.size<=y1.heap.size)
      omega)
     refine ⟨fun h=>absurd h (by decide),?_⟩;refine p_pu 20 7 (.bool (jT p c.n)) ?_ ?_
     ·intro x hx;go_simp
      try rfl
     simp only [pz];refine p_do ?_;go_wp2
     go_meet
     case rel=>exact ⟨_,_,s1,rfl,rfl,rfl,v,ab,ad,(o.wide o.2.2 (nl _)).low m.size⟩
    ·obtain ⟨y3,bm⟩:=nw (yc.alloc (.cells (zQ ((0,0,0,0,0),(0,0,0,0),(0,0,0,0))) 61));have b1:Be yc y3:=by rw [bm];exact (br _ _).alloc (nl _) _
     have ax:Be w1 y3:=bt b b1;have c5:Bx y3 yc.heap.size (zQ ((0,0,0,0,0),(0,0,0,0),(0,0,0,0))) 61:=by rw [bm];exact heap_alloc_new yc _
     refine xU (s:=17) (e':=some 6) rfl rfl rfl (.pointer (Ab ⟨yc.heap.size,0,Aa⟩)) y3 ?_ ⟨fun _=>K y3 ax,?_⟩
     ·rw [bm];unfold zQ;go_simp
      try rfl
     simp only [pz];clear bm;have ci:=y.below b1;refine p_on 16 ?_;obtain ⟨y4,bn⟩:=nw (y3.alloc (.cells zF 35));have a0:Be y3 y4:=by rw [bn];exact (br _ _).alloc (nl _) _
     have aq:Be w1 y4:=bt ax a0;have a1:Bx y4 y3.heap.size zF 35:=by rw [bn];exact heap_alloc_new y3 _
     refine xU (s:=16) (e':=some 5) rfl rfl rfl (.pointer (Ab ⟨y3.heap.size,0,Aa⟩)) y4 ?_ ⟨fun _=>K y4 aq,?_⟩
     ·rw [bn];unfold zF;go_simp
      try rfl
     simp only [pz];clear bn;have bx:=ci.below a0;have b3:=bk a0 c5
     have aa:(yc.heap.size:Nat) ≠ y3.heap.size:=fun e=>by
      have h6:=b3;rw [e] at h6;exact absurd ((a1).symm.trans h6) (by simp)
     refine p_pa 18 y3.heap.size 0 (zA P1 s1) zF (zA P1 s1) a1 (by simp [zA,zF]) (zJ bx.1) rfl ?_;intro z2 hg af;have h5:w1.heap.size<=y3.heap.size:=ax.size;have h6:w1.heap.size<=yc.heap.size:=b.size;have r:Be w1 z2:=aq.grown hg aq.size (fun k e=>by cases e;exact h5);have ae:=gk hg b3 (fun e=>aa (Ad e));have n:=bx.boxed a1 hg;refine ⟨fun h=>absurd h (by decide),?_⟩;refine p_pa 19 yc.heap.size 0 (zQ L1) (zQ ((0,0,0,0,0),(0,0,0,0),(0,0,0,0))) (zQ L1) ae (by simp [zQ]) (kD L1) rfl ?_;intro z3 d ab;have ad:Be w1 z3:=r.grown d r.size (fun k e=>by cases e;exact h6);have v:=gk d af (fun e=>aa (Ad e).symm)
     have o:=n.frs (FrS.of_grown d (B:=fun k=>k=yc.heap.size) (fun k e=>by cases e;rfl)) (fun k hk e=>by
      obtain ⟨a,ha,ea⟩:=hk;have ak:=zED n.2.1 a ha k ea;have aj:=(Or.inr (by first | exact nl _ | exact nl _):yc.heap.size < w1.drew.heap.size∨yc.heap.size<=yc.heap.size)
      omega)
     refine ⟨fun h=>absurd h (by decide),?_⟩;refine p_pu 20 7 (.bool (jT p c.n)) ?_ ?_
     ·intro x hx;go_simp
      try rfl
     simp only [pz];refine p_do ?_;go_wp2
     go_meet
     case rel=>exact ⟨_,_,s1,rfl,rfl,rfl,v,ab,ad,(o.wide o.2.2 (nl _)).low m.size⟩
   ·obtain ⟨y5,bg⟩:=nw (w1.drew.alloc (.cells zF 35));have c1:Below w1.drew.heap.size w1.drew y5:=by rw [bg];exact (br _ _).alloc (nl _) _
    have al:Be w1 y5:=bt cb c1;have b6:Bx y5 w1.drew.heap.size zF 35:=by rw [bg];exact heap_alloc_new w1.drew _
    refine xU (s:=16) (e':=some 5) rfl rfl rfl (.pointer (Ab ⟨w1.drew.heap.size,0,Aa⟩)) y5 ?_ ⟨fun _=>K y5 al,?_⟩
    ·rw [bg];unfold zF;go_simp
     try rfl
    simp only [pz];clear bg;refine zFC (i:=11) (j:=17) (by kernel_rfl) ?_ ?_
    ·have m:Be w1 y5:=al;refine zEA (s:=11) (e':=some 26) (fn:=196) (args:=#[.agg (zA p t),.int .i64 c.n]) rfl rfl (by kernel_rfl) ?_ ((yBE p t c.n y5 ah.1 hwn (a3.below m) ah.2).mono ?_)
     ·go_simp
      try rfl
     rintro e yc ⟨s1,rfl,y,f⟩;have b:Be w1 yc:=bt m f;rw [u.out.1] at y;rw [u.out.1,u.out.2];refine ⟨_,rfl,fun _=>K yc b,?_⟩;simp only [pz];have ac:=bk f b6;refine p_pu 12 14 (.tuple #[yZ P1 s1,.agg (zQ L1),.bool (jT p c.n)]) ?_ ?_
     ·intro x hx;go_simp
      try rfl
     simp only [pz];refine p_pu 13 27 (.agg (zA P1 s1)) ?_ ?_
     ·intro x hx;go_simp
      try rfl
     simp only [pz];refine p_pu 14 28 (.agg (zQ L1)) ?_ ?_
     ·intro x hx;go_simp
      try rfl
     simp only [pz];refine p_pu 15 29 (.bool (jT p c.n)) ?_ ?_
     ·intro x hx;go_simp
      try rfl
     simp only [pz];refine p_on 17 ?_;obtain ⟨y6,bd⟩:=nw (yc.alloc (.cells (zQ ((0,0,0,0,0),(0,0,0,0),(0,0,0,0))) 61));have av:Be yc y6:=by rw [bd];exact (br _ _).alloc (nl _) _
     have ar:Be w1 y6:=bt b av;have b0:Bx y6 yc.heap.size (zQ ((0,0,0,0,0),(0,0,0,0),(0,0,0,0))) 61:=by rw [bd];exact heap_alloc_new yc _
     refine xU (s:=17) (e':=some 6) rfl rfl rfl (.pointer (Ab ⟨yc.heap.size,0,Aa⟩)) y6 ?_ ⟨fun _=>K y6 ar,?_⟩
     ·rw [bd];unfold zQ;go_simp
      try rfl
     simp only [pz];clear bd;have a5:=bk av ac;have b7:=y.below av
     have aa:(yc.heap.size:Nat) ≠ w1.drew.heap.size:=fun e=>by
      have h6:=b0;rw [e] at h6;exact absurd ((a5).symm.trans h6) (by simp)
     refine p_pa 18 w1.drew.heap.size 0 (zA P1 s1) zF (zA P1 s1) a5 (by simp [zA,zF]) (zJ b7.1) rfl ?_;intro z2 hg af;have h5:w1.heap.size<=w1.drew.heap.size:=nl _;have h6:w1.heap.size<=yc.heap.size:=b.size;have r:Be w1 z2:=ar.grown hg ar.size (fun k e=>by cases e;exact h5);have ae:=gk hg b0 (fun e=>aa (Ad e));have n:=b7.boxed a5 hg;refine ⟨fun h=>absurd h (by decide),?_⟩;refine p_pa 19 yc.heap.size 0 (zQ L1) (zQ ((0,0,0,0,0),(0,0,0,0),(0,0,0,0))) (zQ L1) ae (by simp [zQ]) (kD L1) rfl ?_;intro z3 d ab;have ad:Be w1 z3:=r.grown d r.size (fun k e=>by cases e;exact h6);have v:=gk d af (fun e=>aa (Ad e).symm)
     have o:=n.frs (FrS.of_grown d (B:=fun k=>k=yc.heap.size) (fun k e=>by cases e;rfl)) (fun k hk e=>by
      obtain ⟨a,ha,ea⟩:=hk;have ak:=zED n.2.1 a ha k ea;have aj:=(Or.inr (by first | exact nl _ | exact nl _):yc.heap.size < y5.heap.size∨yc.heap.size<=yc.heap.size)
      omega)
     refine ⟨fun h=>absurd h (by decide),?_⟩;refine p_pu 20 7 (.bool (jT p c.n)) ?_ ?_
     ·intro x hx;go_simp
      try rfl
     simp only [pz];refine p_do ?_;go_wp2
     go_meet
     case rel=>exact ⟨_,_,s1,rfl,rfl,rfl,v,ab,ad,(o.wide o.2.2 (nl _)).low m.size⟩
    ·obtain ⟨y7,bj⟩:=nw (y5.alloc (.cells (zQ ((0,0,0,0,0),(0,0,0,0),(0,0,0,0))) 61));have bp:Be y5 y7:=by rw [bj];exact (br _ _).alloc (nl _) _
     have b2:Be w1 y7:=bt al bp;have bz:Bx y7 y5.heap.size (zQ ((0,0,0,0,0),(0,0,0,0),(0,0,0,0))) 61:=by rw [bj];exact heap_alloc_new y5 _
     refine xU (s:=17) (e':=some 6) rfl rfl rfl (.pointer (Ab ⟨y5.heap.size,0,Aa⟩)) y7 ?_ ⟨fun _=>K y7 b2,?_⟩
     ·rw [bj];unfold zQ;go_simp
      try rfl
     simp only [pz];clear bj;have cj:=bk bp b6;refine p_on 11 ?_;have m:Be w1 y7:=b2;refine zEA (s:=11) (e':=some 26) (fn:=196) (args:=#[.agg (zA p t),.int .i64 c.n]) rfl rfl (by kernel_rfl) ?_ ((yBE p t c.n y7 ah.1 hwn (a3.below m) ah.2).mono ?_)
     ·go_simp
      try rfl
     rintro e yc ⟨s1,rfl,y,f⟩;have b:Be w1 yc:=bt m f;rw [u.out.1] at y;rw [u.out.1,u.out.2];refine ⟨_,rfl,fun _=>K yc b,?_⟩;simp only [pz];have ac:=bk f cj;have ag:=bk f bz;refine p_pu 12 14 (.tuple #[yZ P1 s1,.agg (zQ L1),.bool (jT p c.n)]) ?_ ?_
     ·intro x hx;go_simp
      try rfl
     simp only [pz];refine p_pu 13 27 (.agg (zA P1 s1)) ?_ ?_
     ·intro x hx;go_simp
      try rfl
     simp only [pz];refine p_pu 14 28 (.agg (zQ L1)) ?_ ?_
     ·intro x hx;go_simp
      try rfl
     simp only [pz];refine p_pu 15 29 (.bool (jT p c.n)) ?_ ?_
     ·intro x hx;go_simp
      try rfl
     simp only [pz]
     have aa:(y5.heap.size:Nat) ≠ w1.drew.heap.size:=fun e=>by
      have h6:=ag;rw [e] at h6;exact absurd ((ac).symm.trans h6) (by simp)
     refine p_pa 18 w1.drew.heap.size 0 (zA P1 s1) zF (zA P1 s1) ac (by simp [zA,zF]) (zJ y.1) rfl ?_;intro z2 hg af;have h5:w1.heap.size<=w1.drew.heap.size:=nl _;have h6:w1.heap.size<=y5.heap.size:=al.size;have r:Be w1 z2:=b.grown hg b.size (fun k e=>by cases e;exact h5);have ae:=gk hg ag (fun e=>aa (Ad e));have n:=y.boxed ac hg;refine ⟨fun h=>absurd h (by decide),?_⟩;refine p_pa 19 y5.heap.size 0 (zQ L1) (zQ ((0,0,0,0,0),(0,0,0,0),(0,0,0,0))) (zQ L1) ae (by simp [zQ]) (kD L1) rfl ?_;intro z3 d ab;have ad:Be w1 z3:=r.grown d r.size (fun k e=>by cases e;exact h6);have v:=gk d af (fun e=>aa (Ad e).symm)
     have o:=n.frs (FrS.of_grown d (B:=fun k=>k=y5.heap.size) (fun k e=>by cases e;rfl)) (fun k hk e=>by
      obtain ⟨a,ha,ea⟩:=hk;have ak:=zED n.2.1 a ha k ea;have aj:=(Or.inl (gl bz):y5.heap.size < y7.heap.size∨yc.heap.size<=y5.heap.size)
      omega)
     refine ⟨fun h=>absurd h (by decide),?_⟩;refine p_pu 20 7 (.bool (jT p c.n)) ?_ ?_
     ·intro x hx;go_simp
      try rfl
     simp only [pz];refine p_do ?_;go_wp2
     go_meet
     case rel=>exact ⟨_,_,s1,rfl,rfl,rfl,v,ab,ad,(o.wide o.2.2 (nl _)).low m.size⟩
   ·obtain ⟨y8,bf⟩:=nw (w1.drew.alloc (.cells (zQ ((0,0,0,0,0),(0,0,0,0),(0,0,0,0))) 61));have c2:Below w1.drew.heap.size w1.drew y8:=by rw [bf];exact (br _ _).alloc (nl _) _
    have am:Be w1 y8:=bt cb c2;have az:Bx y8 w1.drew.heap.size (zQ ((0,0,0,0,0),(0,0,0,0),(0,0,0,0))) 61:=by rw [bf];exact heap_alloc_new w1.drew _
    refine xU (s:=17) (e':=some 6) rfl rfl rfl (.pointer (Ab ⟨w1.drew.heap.size,0,Aa⟩)) y8 ?_ ⟨fun _=>K y8 am,?_⟩
    ·rw [bf];unfold zQ;go_simp
     try rfl
    simp only [pz];clear bf;refine zFC (i:=11) (j:=16) (by kernel_rfl) ?_ ?_
    ·have m:Be w1 y8:=am;refine zEA (s:=11) (e':=some 26) (fn:=196) (args:=#[.agg (zA p t),.int .i64 c.n]) rfl rfl (by kernel_rfl) ?_ ((yBE p t c.n y8 ah.1 hwn (a3.below m) ah.2).mono ?_)
     ·go_simp
      try rfl
     rintro e yc ⟨s1,rfl,y,f⟩;have b:Be w1 yc:=bt m f;rw [u.out.1] at y;rw [u.out.1,u.out.2];refine ⟨_,rfl,fun _=>K yc b,?_⟩;simp only [pz];have ag:=bk f az;refine p_pu 12 14 (.tuple #[yZ P1 s1,.agg (zQ L1),.bool (jT p c.n)]) ?_ ?_
     ·intro x hx;go_simp
      try rfl
     simp only [pz];refine p_pu 13 27 (.agg (zA P1 s1)) ?_ ?_
     ·intro x hx;go_simp
      try rfl
     simp only [pz];refine p_pu 14 28 (.agg (zQ L1)) ?_ ?_
     ·intro x hx;go_simp
      try rfl
     simp only [pz];refine p_pu 15 29 (.bool (jT p c.n)) ?_ ?_
     ·intro x hx;go_simp
      try rfl
     simp only [pz];refine p_on 16 ?_;obtain ⟨y9,be⟩:=nw (yc.alloc (.cells zF 35));have au:Be yc y9:=by rw [be];exact (br _ _).alloc (nl _) _
     have ay:Be w1 y9:=bt b au;have a9:Bx y9 yc.heap.size zF 35:=by rw [be];exact heap_alloc_new yc _
     refine xU (s:=16) (e':=some 5) rfl rfl rfl (.pointer (Ab ⟨yc.heap.size,0,Aa⟩)) y9 ?_ ⟨fun _=>K y9 ay,?_⟩
     ·rw [be];unfold zF;go_simp
      try rfl
     simp only [pz];clear be;have bo:=bk au ag;have bq:=y.below au
     have aa:(w1.drew.heap.size:Nat) ≠ yc.heap.size:=fun e=>by
      have h6:=bo;rw [e] at h6;exact absurd ((a9).symm.trans h6) (by simp)
     refine p_pa 18 yc.heap.size 0 (zA P1 s1) zF (zA P1 s1) a9 (by simp [zA,zF]) (zJ bq.1) rfl ?_;intro z2 hg af;have h5:w1.heap.size<=yc.heap.size:=b.size;have h6:w1.heap.size<=w1.drew.heap.size:=nl _;have r:Be w1 z2:=ay.grown hg ay.size (fun k e=>by cases e;exact h5);have ae:=gk hg bo (fun e=>aa (Ad e));have n:=bq.boxed a9 hg;refine ⟨fun h=>absurd h (by decide),?_⟩;refine p_pa 19 w1.drew.heap.size 0 (zQ L1) (zQ ((0,0,0,0,0),(0,0,0,0),(0,0,0,0))) (zQ L1) ae (by simp [zQ]) (kD L1) rfl ?_;intro z3 d ab;have ad:Be w1 z3:=r.grown d r.size (fun k e=>by cases e;exact h6);have v:=gk d af (fun e=>aa (Ad e).symm)
     have o:=n.frs (FrS.of_grown d (B:=fun k=>k=w1.drew.heap.size) (fun k e=>by cases e;rfl)) (fun k hk e=>by
      obtain ⟨a,ha,ea⟩:=hk;have ak:=zED n.2.1 a ha k ea;have aj:=(Or.inl (gl az):w1.drew.heap.size < y8.heap.size∨yc.heap.size<=w1.drew.heap.size)
      omega)
     refine ⟨fun h=>absurd h (by decide),?_⟩;refine p_pu 20 7 (.bool (jT p c.n)) ?_ ?_
     ·intro x hx;go_simp
      try rfl
     simp only [pz];refine p_do ?_;go_wp2
     go_meet
     case rel=>exact ⟨_,_,s1,rfl,rfl,rfl,v,ab,ad,(o.wide o.2.2 (nl _)).low m.size⟩
    ·obtain ⟨ai,an⟩:=nw (y8.alloc (.cells zF 35));have a4:Be y8 ai:=by rw [an];exact (br _ _).alloc (nl _) _
     have bb:Be w1 ai:=bt am a4;have b9:Bx ai y8.heap.size zF 35:=by rw [an];exact heap_alloc_new y8 _
     refine xU (s:=16) (e':=some 5) rfl rfl rfl (.pointer (Ab ⟨y8.heap.size,0,Aa⟩)) ai ?_ ⟨fun _=>K ai bb,?_⟩
     ·rw [an];unfold zF;go_simp
      try rfl
     simp only [pz];clear an;have a7:=bk a4 az;refine p_on 11 ?_;have m:Be w1 ai:=bb;refine zEA (s:=11) (e':=some 26) (fn:=196) (args:=#[.agg (zA p t),.int .i64 c.n]) rfl rfl (by kernel_rfl) ?_ ((yBE p t c.n ai ah.1 hwn (a3.below m) ah.2).mono ?_)
     ·go_simp
      try rfl
     rintro e yc ⟨s1,rfl,y,f⟩;have b:Be w1 yc:=bt m f;rw [u.out.1] at y;rw [u.out.1,u.out.2];refine ⟨_,rfl,fun _=>K yc b,?_⟩;simp only [pz];have ag:=bk f a7;have ac:=bk f b9;refine p_pu 12 14 (.tuple #[yZ P1 s1,.agg (zQ L1),.bool (jT p c.n)]) ?_ ?_
     ·intro x hx;go_simp
      try rfl
     simp only [pz];refine p_pu 13 27 (.agg (zA P1 s1)) ?_ ?_
     ·intro x hx;go_simp
      try rfl
     simp only [pz];refine p_pu 14 28 (.agg (zQ L1)) ?_ ?_
     ·intro x hx;go_simp
      try rfl
     simp only [pz];refine p_pu 15 29 (.bool (jT p c.n)) ?_ ?_
     ·intro x hx;go_simp
      try rfl
     simp only [pz]
     have aa:(w1.drew.heap.size:Nat) ≠ y8.heap.size:=fun e=>by
      have h6:=ag;rw [e] at h6;exact absurd ((ac).symm.trans h6) (by simp)
     refine p_pa 18 y8.heap.size 0 (zA P1 s1) zF (zA P1 s1) ac (by simp [zA,zF]) (zJ y.1) rfl ?_;intro z2 hg af;have h5:w1.heap.size<=y8.heap.size:=am.size;have h6:w1.heap.size<=w1.drew.heap.size:=nl _;have r:Be w1 z2:=b.grown hg b.size (fun k e=>by cases e;exact h5);have ae:=gk hg ag (fun e=>aa (Ad e));have n:=y.boxed ac hg;refine ⟨fun h=>absurd h (by decide),?_⟩;refine p_pa 19 w1.drew.heap.size 0 (zQ L1) (zQ ((0,0,0,0,0),(0,0,0,0),(0,0,0,0))) (zQ L1) ae (by simp [zQ]) (kD L1) rfl ?_;intro z3 d ab;have ad:Be w1 z3:=r.grown d r.size (fun k e=>by cases e;exact h6);have v:=gk d af (fun e=>aa (Ad e).symm)
     have o:=n.frs (FrS.of_grown d (B:=fun k=>k=w1.drew.heap.size) (fun k e=>by cases e;rfl)) (fun k hk e=>by
      obtain ⟨a,ha,ea⟩:=hk;have ak:=zED n.2.1 a ha k ea;have aj:=(Or.inl (gl a7):w1.drew.heap.size < ai.heap.size∨yc.heap.size<=w1.drew.heap.size)
      omega)
     refine ⟨fun h=>absurd h (by decide),?_⟩;refine p_pu 20 7 (.bool (jT p c.n)) ?_ ?_
     ·intro x hx;go_simp
      try rfl
     simp only [pz];refine p_do ?_;go_wp2
     go_meet
     case rel=>exact ⟨_,_,s1,rfl,rfl,rfl,v,ab,ad,(o.wide o.2.2 (nl _)).low m.size⟩
  case rest=>
   obtain ⟨g5,g6,s1,rfl,rfl,rfl,hT⟩:=hcut;have HT:=hid hT;clear hT
   by_cases hgo:jT p c.n=true
   ·rw [hgo];have HE:Hid (waitC c (j:Int)=(jV (zCG c (j:Int) P1) [L1],true)):=(by unfold waitC;rw [cl.out.1,if_pos ⟨c9,hgo⟩,u.out.1,u.out.2]:waitC c (j:Int)=_);clear hgo
    go_upto_region 6 with fail
    have cu:Hid (Bx wc g ce 35):=(HT.below.block g cd.1).trans cs.1;have ch:Hid (InB N lo w wc c s):=ao.more HT.below;refine p_rg (fun i=>decide (i < 7)) (fun x=>Bx x N (zR c s) 124/\Bx x g5 (zA P1 s1) 35) ?_;show zX prog _ _ _ _ _ (7+1) (Array.replicate 8 false) _ _;have hS:Bx wc.drew N (zR c s) 124/\Bx wc.drew g5 (zA P1 s1) 35:=⟨ch.box,HT.b5⟩;refine p_pt 0 32 N 0 hS ?_;refine p_pt 1 33 N 0 hS ?_;refine p_pt 2 34 N 4 hS ?_;refine zD 3 35 (.slice (Ab ⟨g,0,Aa⟩) c.peers.length cap) hS ?_ (hy:=by intro x hx;have c4:=zB hx.1 4 s.peersV rfl;rw [b8.out] at c4;go_simp;try rfl);refine zD 4 36 (.int .i64 (j:Int)) hS ?_;refine zD 5 37 (.agg (zA P1 s1)) hS ?_ (hy:=fun x hx=>ldb g5 hx.2 underlying35);refine p_pt 6 38 g (j * 21) hS ?_;refine p_pa 7 g (j * 21) (zA P1 s1) ce (yBB ce (j * 21) (zA P1 s1)) cu (by have:=cs.2;simpa [zA] using this) (zJ HT.own.1) rfl ?_;intro z hg hk;have HZ:Hid (InW N lo w z (zCG c (j:Int) P1) { s with peers:=s.peers.set j (P1,s1) }/\Bx z g6 (zQ L1) 61):=put_peer (ch.more (br _ _).drew) ao.own (HT.more (br _ _).drew).below co b8 cd.2.1 ap cu hg hk (HT.more (br _ _).drew).own (HT.more (br _ _).drew).b6 (by decide);clear hg hk hS;refine ⟨fun h=>absurd h (by decide),?_⟩;refine p_do ?_;obtain ⟨Y,hY⟩:=nw (z.alloc (.cells (zQ L1) 61))
    have HY:Hid (InW N lo w Y (zCG c (j:Int) P1) { s with peers:=s.peers.set j (P1,s1) }/\yM Y (.slice (Ab ⟨z.heap.size,0,Aa⟩) 1 1) 13 yE [L1]):=(by
     have c8:Be z Y:=by rw [hY];exact (br _ _).alloc (nl _) _
     refine ⟨HZ.1.more c8,zW (xs:=[L1]) xP (base:=z.heap.size) (e:=61) ?_⟩;rw [hY]
     simpa [zE] using yCH (l:=L1) (Nat.le_refl z.heap.size):_/\_)
    unfold zQ at hY
    go_wp2_with (first
     | (refine w_ld g6 HZ.2 underlying61 ?_;unfold zQ)
     | (rw [<- hY]))
    refine (post_p (zCG c (j:Int) P1) { s with peers:=s.peers.set j (P1,s1) } N lo Y.heap.size [L1] _ Y HY.1.box HY.1.own (Ac cp HY.1.fr.size) HY.2 hk (by simp)).mono ?_;rintro e w3 ⟨rfl,s3,bl⟩;have da:Hid (InW N lo w w3 (jV (zCG c (j:Int) P1) [L1]) s3):=HY.1.trans bl.weak;clear bl;go_wp2;go_ret;refine ⟨zL (by rw [HE.out]),s3,?_⟩;rw [HE.out];exact da.out
   ·have cm:jT p c.n=false:=by simpa using hgo
    rw [cm];have HE:Hid (waitC c (j:Int)=(c,false)):=if_neg (fun h=>hgo (by rw [<- cl.out.1];exact h.2));clear hgo cm;go_wp2;go_ret;refine ⟨zL (by rw [HE.out]),s,?_⟩;rw [HE.out];exact (ao.more (HT.below)).weak
 ·have hf:xT c i=false:=by simpa using hh
  rw [hf];have HE:Hid (waitC c i=(c,false)):=if_neg (fun h=>hh h.1);clear hh hf;go_wp2;go_ret;refine ⟨zL (by rw [HE.out]),s,?_⟩;rw [HE.out];exact (HI.more ca).weak
end Go.Proofs.YtfnneillakdopacGreatR
