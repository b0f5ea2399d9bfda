/-
  A text of ours: ShowC.
-/
import Derived.Test.YtfnneillakdopacGreatRK1
import Derived.Test.YtfnneillakdopacGreatRWaitCZ
set_option maxRecDepth 100000
set_option maxHeartbeats 32000000
namespace Go.Proofs.YtfnneillakdopacGreatR
open _root_.Go.Proofs.Tryz
open Go.Value renaming int->I
open Go.IntKind renaming i64->U
open Option renaming none->Aa,some->Ab
open Nat renaming le_trans->Ac,lt_of_lt_of_le->Ad
open Option.some renaming inj->Ae
open _root_.Array renaming replicate->Af
open List renaming length_take->Ag
open Go.RowKit Num
variable {cap m n:Nat} {v:Value} {w:World}
structure showOk (c:CU):Prop where
 net:(c.net.length:Int)<=1048576
 lpeers:(c.peers.length:Int)<=1048576
 n:(Lit.int U c.n).wf=true
 tree:okT c.tree
 ltree:(c.tree.length:Int)+1<=1048576
 peers:∀ p∈c.peers,yDG p/\yC p
 pend:(c.pend.length:Int)<=1048576/\∀ x∈c.pend,(x.2.1.size:Int)<=1048576
theorem form_two {base:Nat} {e:TypeId} {xs:List Value} {a:Option Addr} (h:w.ownsRow base e m v n xs) (hv:v=.slice a n cap):(∃ g,a=Ab ⟨g,0,Aa⟩/\n<=cap)∨(a=none/\n=0/\cap=0):=by
 subst hv;obtain ⟨_,⟨h1,h2⟩ | ⟨g,b,c,h1,_,_,hn,_⟩⟩:=h
 ·right
  simp at h1;exact ⟨h1.1,h2,h1.2.2⟩
 ·left
  injection h1 with h1 _ h3
  exact ⟨g,h1,by omega⟩
theorem rows_take {α:Type} {f:α->List Value} {k:Nat} {a:Option Addr} {xs:List α} (h:yM w (.slice a n cap) m f xs) (hk:k<=xs.length):yM w (.slice a k cap) m f (xs.take k):=by
 obtain ⟨a',c,er,hr⟩:=h;injection er with e1 _ e3
 subst e1 e3;refine ⟨a,cap,by rw [Ag,Nat.min_eq_left hk],fun hp=>?_⟩;rw [Ag] at hp;obtain ⟨g,b,e,hg,hc⟩:=hr (by omega);refine ⟨g,b,e,hg,fun i hi q hq=>?_⟩;rw [Ag] at hi;rw [List.getElem_take];exact hc i (by omega) q hq
theorem lim_min {a b:Nat} {ps:TL} (h:yDC a v ps) (k:yDC b v ps):yDC (min a b) v ps:=⟨fun g hg=>Nat.lt_min.2 ⟨h.1 g hg,k.1 g hg⟩,fun p hp g hg=>Nat.lt_min.2 ⟨h.2 p hp g hg,k.2 p hp g hg⟩⟩
structure ShwC (w x:World) (g7:Nat) (v1:Value) (qs:TL) (mid:Nat) (p:PE) (t:PV):Prop where
 b7:Bx x g7 (zA p t) 35
 below:Be w x
 tree:xH x w.heap.size v1 qs
 lim:yDC mid v1 qs
 pe:zO mid x.heap.size x p t
 le:w.heap.size<=mid
 l7:w.heap.size<=g7
 mle:mid<=x.heap.size
theorem rows_drop {α:Type} {f:α->List Value} {k c2 g:Nat} {xs:List α} (h:yM w (.slice (Ab ⟨g,0,Aa⟩) n cap) m f xs) (hk:k<=xs.length):yM w (.slice (Ab ⟨g,k * m,Aa⟩) (xs.length - k) c2) m f (xs.drop k):=by
 obtain ⟨a',a,er,hr⟩:=h;injection er with e1 _ e3
 subst e1 e3;refine ⟨_,c2,by rw [List.length_drop],fun hp=>?_⟩;rw [List.length_drop] at hp;obtain ⟨g',b,e,hg,hc⟩:=hr (by omega);injection e with e
 injection e with e1 e2 _
 subst e1 e2;refine ⟨g,k * m,rfl,hg,fun i hi q hq=>?_⟩;rw [List.length_drop] at hi;rw [List.getElem_drop,<- hc (k+i) (by omega) q hq,Nat.add_mul,Nat.zero_add]
theorem put_len (t:List BK) (b:BK):(zGE t b).length<=t.length+1:=by
 unfold zGE
 split
 ·omega
 ·split
  ·omega
  ·simp
theorem put_tree {N lo g g7 mid:Nat} {w2 x y:World} {c C1:CU} {s S1:CW} {v1:Value} {qs:TL} {p:PE} {t:PV} {B:Option Obj} (hic:InB N lo w x c s) (h2:xG lo w2.heap.size w2 c s) (hX:ShwC w2 x g7 v1 qs mid p t) (hlo:lo<=w2.heap.size)
  (e1:C1={ c with tree:=bks qs }) (e2:S1={ s with treeV:=v1,tree:=qs }) (hg:x.grownBy y (some N)) (hk:Bx y N (zR C1 S1) 124) (hgl:g < w2.heap.size) (hgB:w2.heap[g]?=B) (hgN:g ≠ N) (hN:N < w2.heap.size) :
  InB N lo w y C1 S1/\xG lo mid y C1 S1/\Bx y g7 (zA p t) 35/\zO mid y.heap.size y p t/\y.heap[g]?=B:=by
 have f:FrS (fun k=>k=N) x y:=FrS.of_grown hg (fun k e=>by cases e;rfl);have d:x.heap.size<=y.heap.size:=hg.size
 have b:mid<=x.heap.size:=by
  exact hX.mle
 have ho:xG lo mid y C1 S1:=by
  rw [e1,e2]
  exact ((h2.below hX.below).boxT hic.box hg).setTree hX.le (Ac b d) ((hX.tree.frs f (fun k hk e=>by have:=(zCE hX.tree hk).1;omega)).base hlo) (fun k hk=>⟨(zCE hX.tree hk).1,by
   rcases hk with hk | ⟨q,hq,hk⟩
   ·exact hX.lim.1 k hk
   ·exact hX.lim.2 q hq k hk⟩) hlo
 refine ⟨⟨hk,ho.wide (Ac b d) (nl _),hic.fr.trans f⟩,ho,gk hg hX.b7 (fun e=>by have e:=Ae e;have:=hX.l7;omega),(hX.pe.frs f (fun k hk e=>by obtain ⟨a,ha,ea⟩:=hk;have:=(zED hX.pe.2.1 a ha k ea).1;have:=hX.le;omega)).wide d (nl _),(hg.block _ (Ad hgl hX.below.size) (fun e=>hgN (Ae e))).trans ((hX.below.block g hgl).trans hgB)⟩
theorem put_pend {N lo g7:Nat} {z x1 x2:World} {c:CU} {s:CW} {l:List CM} {A:Array Value} (hz:InW N lo w z c s) (h7:Bx z g7 A 35) (hb:Be z x1) (hlo:lo<=z.heap.size) (ho:x1.ownsRow z.heap.size 139 3 v l.length (zE kL l))
  (hg:x1.grownBy x2 (some N)) (hk:Bx x2 N (zR { c with pend:=l } { s with pend:=v }) 124):InW N lo w x2 { c with pend:=l } { s with pend:=v }/\Bx x2 g7 A 35:=by
 have hx:=hz.more hb;have a:=bk hb h7;have b:=World.ownsRow.kept ho hg (zH ho hx.box (by decide));refine ⟨⟨hk,((hz.own.below hb).boxT hx.box hg).setPend2 (Ac hb.size hg.size) (nl _) (zN b hlo) (fun g e=>⟨(ho.lt g e).1,Ad (ho.lt g e).2 hg.size⟩) hlo,hx.fr.trans (FrS.of_grown hg (fun k e=>by cases e;exact Or.inl rfl))⟩,gk hg a (fun e=>?_)⟩;have e:=Ae e;have hb:=hx.box;rw [<- e] at hb;exact absurd (a.symm.trans hb) (by simp)
theorem show_p (c:CU) (s:CW) (N lo hi:Nat) (i:Int) (w:World) (hbox:Bx w N (zR c s) 124) (hown:xG lo hi w c s) (hlo:lo<=hi) (hok:showOk c) :
  Calls prog 162 #[.pointer (Ab ⟨N,0,Aa⟩),I U i] w fun e w'=>e=.returned (.bool (showC c i).2)/\∃ s',InW N lo w w' (showC c i).1 s':=by
 have HI:Hid (InB N lo w w c s):=InB.start hbox hown;have dc:Hid (lo<=w.heap.size):=Ac hlo hown.size;have ad:=hid hok;obtain ⟨R,hR⟩:=nw (showC c i);have HR:Hid (R=showC c i):=hR;rw [<- hR];clear hbox hown hlo hok hR
 by_cases hh:xT c i=true
 ·have df:0<=i/\i < c.peers.length:=by
   unfold xT at hh;have:=zDF (Bool.and_eq_true _ _ ▸ hh).1;omega
  obtain ⟨j,hj⟩:∃ j:Nat,i=(j:Int):=⟨i.toNat,by omega⟩;subst hj;have bp:j < c.peers.length:=by omega
  have bi:Hid (xT c (j:Int)=true):=hh;obtain ⟨g,cap,p,t,d3,ex,de,dy,ds,dw,d0,⟨dj,cr,d2⟩,cl⟩:=(HI.own).peerAt bp;have bf:=hid dy;have c6:=hid ds;have dh:=hid (qad2 cr d2);have bq:Hid (s.peersV=.slice (Ab ⟨g,0,Aa⟩) c.peers.length cap):=d3;have db:Hid (zCJ c (j:Int)=p):=de;have a4:=hid (qad3 dw d0 cl);have dt:p∈c.peers:=by rw [<- de];unfold zCJ;rw [show ((j:Int)).toNat=j by omega,List.getElem?_eq_getElem bp];exact List.getElem_mem bp
  have bc:Hid (yDG p/\yC p):=ad.peers p dt;have q0:(0:Int)<=(j:Int):=by omega
  have q1:(j:Int) < (c.peers.length:Int):=by omega
  clear hh df dy ds cr d2 d3 de ex dw d0 cl dt
  by_cases hr:readyB p c.n c.chain=true
  ·have bv:Hid (readyB p c.n c.chain=true):=hr;obtain ⟨an,cn,en,-⟩:=yL HI.own.net;have eg:Hid (s.net=.slice an c.net.length cn):=en;obtain ⟨Z,hZ⟩:=nw (wrap64 ((c.net.length:Int)+c.n));have em:Hid (IntKind.i64.wrap ((c.net.length:Int)+c.n)=Z):=hid (by rw [IntKind.wrap_i64,hZ];unfold wrap64;rfl);clear hr en;obtain ⟨ZB,d5⟩:=nw (decide ((60:Int) < Z));have bx:=hid (qad2 d5 hZ);clear hZ;go_enter func162,ntmps162
   go_upto_region 1 with fail
   refine p_rg (fun _=>true) (fun x=>Bx x N (zR c s) 124/\x.heap[g]?=w.heap[g]?) ?_;show zX prog _ _ _ _ _ (37+1) (Af 38 false) _ _;have K:∀ x,Be w x->Bx x N (zR c s) 124/\x.heap[g]?=w.heap[g]?:=fun x hb=>⟨(HI.more hb).box,hb.block g a4.1⟩
   have aa:=bw w;have hS:=K w.drew aa;refine p_pt 0 9 N 0 hS ?_;refine p_pt 1 10 N 0 hS ?_;refine zD 2 11 (.agg (zR c s)) hS ?_ (hy:=fun x hx=>ldb N hx.1 underlying124);refine zD 3 12 (I U (j:Int)) hS ?_;refine kJ 4 13 167 #[.agg (zR c s),I U (j:Int)] ((zHB c s (j:Int) w.drew (HI.more aa).own.reads ad.lpeers).mono ?_);rintro e w1 ⟨rfl,bd⟩;rw [bi.out];have aj:Be w w1:=bt aa bd;clear hS;have hS:=K w1 aj;refine ⟨_,rfl,fun _=>hS,?_⟩;simp only [pz];refine zD 5 14 (.bool false) hS ?_;refine zD 6 15 (.bool false) hS ?_;refine p_pt 7 16 N 0 hS ?_;refine p_pt 8 17 N 0 hS ?_;refine p_pt 9 18 N 4 hS ?_;refine zD 10 19 (.slice (Ab ⟨g,0,Aa⟩) c.peers.length cap) hS ?_ (hy:=by intro x hx;have c4:=zB hx.1 4 s.peersV rfl;rw [bq.out] at c4;go_simp;try rfl);refine zD 11 20 (I U (j:Int)) hS ?_;refine p_pt 12 21 g (j * 21) hS ?_;refine zD 13 22 (.agg (zA p t)) hS ?_ (hy:=fun x hx=>ldm g (j * 21) (peerL p t) (qW hx.2 c6) underlying35);refine p_pt 14 23 N 0 hS ?_;refine p_pt 15 24 N 0 hS ?_;refine p_pt 16 25 N 0 hS ?_;refine zD 17 26 (I U c.n) hS ?_ (hy:=by intro x hx;have c0:=zB hx.1 0 (I U c.n) rfl;go_simp;try rfl);refine p_pt 18 27 N 0 hS ?_;refine p_pt 19 28 N 0 hS ?_;refine p_pt 20 29 N 1 hS ?_;refine zD 21 30 (.bool c.chain) hS ?_ (hy:=by intro x hx;have c1:=zB hx.1 1 (.bool c.chain) rfl;go_simp;try rfl);refine kJ 22 31 171 #[.agg (zA p t),I U c.n,.bool c.chain] ((ready_s p t c.n c.chain w1 bc.1 ad.n (bf.below aj)).mono ?_);rintro e w2 ⟨rfl,a6⟩;rw [bv.out];have l:Be w w2:=bt aj a6;clear hS;have hS:=K w2 l;refine ⟨_,rfl,fun _=>hS,?_⟩;simp only [pz];refine zD 23 32 (.bool false) hS ?_;refine zD 24 33 (.bool false) hS ?_;refine zD 25 34 (.bool false) hS ?_;refine p_pt 26 35 N 0 hS ?_;refine p_pt 27 36 N 0 hS ?_;refine p_pt 28 37 N 5 hS ?_;refine zD 29 38 (.slice an c.net.length cn) hS ?_ (hy:=by intro x hx;have c5:=zB hx.1 5 s.net rfl;rw [eg.out] at c5;go_simp;try rfl);refine zD 30 39 (I U (c.net.length:Int)) hS ?_;refine p_pt 31 40 N 0 hS ?_;refine p_pt 32 41 N 0 hS ?_;refine p_pt 33 42 N 0 hS ?_;refine zD 34 43 (I U c.n) hS ?_ (hy:=by intro x hx;have c0:=zB hx.1 0 (I U c.n) rfl;go_simp;try rfl);refine zD 35 44 (I U Z) hS ?_ (hy:=by intro x hx;have hz:=em.out;go_simp;try rfl);refine zD 36 45 (.bool ZB) hS ?_;refine zD 37 46 (.bool ZB) hS ?_;refine p_do ?_;have r:Hid (InB N lo w w2 c s):=HI.more l;have ao:Hid (Be w w2):=l
   by_cases hz60:(60:Int) < Z
   ·have HE:Hid (R=(c,false)):=(by rw [HR.out];exact if_neg (fun h=>h.2.2.1 (by rw [<- bx.out.2];exact hz60)):R=_);have b5:ZB=true:=by rw [bx.out.1];exact decide_eq_true hz60
    rw [b5];go_wp2;go_ret;refine ⟨zL (by rw [HE.out]),s,?_⟩;rw [HE.out];exact (HI.more ao).weak
   ·have b5:ZB=false:=by rw [bx.out.1];exact decide_eq_false hz60
    have b9:Hid (R=if showK c (j:Int) < 0 then (c,false) else (jV (showsC c (j:Int)) (zCA (showA c (j:Int)) (showP c (j:Int)) (showK c (j:Int)) c.n),true)):=(by
     rw [HR.out];unfold showC;rw [db.out]
     by_cases hk:showK c (j:Int) < 0
     ·rw [if_pos hk,if_neg (fun h=>h.2.2.2 hk)]
     ·rw [if_neg hk,if_pos ⟨bi,bv,by rw [<- bx.out.2];exact hz60,hk⟩]:R=_)
    have cs:Hid (lo<=w2.heap.size):=Ac dc ao.size;have cz:Hid (g < w2.heap.size):=Ad a4.1 ao.size;rw [b5];clear hz60 b5 hS K bd a6 aj l aa d5;obtain ⟨aq,cq,eq,-⟩:=yL r.own.pend;have b1:Hid (s.pend=.slice aq c.pend.length cq):=eq;have cd:=hid (qad2 eq (form_two r.own.pend eq));have c7:=zB r.box 7 s.pend rfl;rw [eq] at c7;clear eq;obtain ⟨M,hM⟩:=nw (showM c);have HM:Hid (M=showM c/\M<=c.pend.length/\M<=4):=hid (by rw [hM];unfold showM;split <;> exact ⟨rfl,by omega,by omega⟩)
    go_upto_if 53 with fail
    go_cut [5] (fun v5 wx=>v5=I U (M:Int)/\wx=w2)
    case first=>
     by_cases h4:(4:Int) < c.pend.length
     ·have da:M=4:=by rw [hM];exact if_pos (by omega)
      go_wp2
      go_meet
      case rel=>exact ⟨by rw [da];rfl,rfl⟩
     ·have da:M=c.pend.length:=by rw [hM];exact if_neg (by omega)
      go_wp2
      go_meet
      case rel=>exact ⟨by rw [da],rfl⟩
    case rest=>
     obtain ⟨rfl,hw⟩:=hcut;obtain rfl:=hw.symm;clear hM c7;obtain ⟨P1,b3⟩:=nw (showP c (j:Int));obtain ⟨KK,dp⟩:=nw (showK c (j:Int));obtain ⟨TA,b2⟩:=nw (showA c (j:Int))
     have ag:Hid (showsP c.tree p (c.pend.take M)=P1/\showsK c.tree p (c.pend.take M)=KK/\zGE c.tree (showB p (c.pend.take M))=TA):=(by
      rw [b3,dp,b2,HM.out.1];unfold showP showK showA;rw [db.out]
      exact ⟨rfl,rfl,rfl⟩:_/\_)
     have er:Hid (showsC c (j:Int)={ zCG c (j:Int) P1 with tree:=TA,pend:=c.pend.drop M }):=hid (by unfold showsC;rw [<- b3,<- b2,HM.out.1]);rw [<- b3,<- dp,<- b2] at b9;clear b3 dp b2;have bl:Hid (((c.pend.take M).length:Int)<=1048576/\∀ x∈c.pend.take M,(x.2.1.size:Int)<=1048576):=⟨by have:=HM.2.2;rw [Ag];omega,fun x hx=>ad.pend.2 x (List.mem_of_mem_take hx)⟩;have e2:(M:Int)<=cq:=by have:=cd.2;have:=HM.2.1;rcases cd.out.2 with ⟨_,_,h⟩ | ⟨_,h,h'⟩ <;> omega
     have e3:(0:Int)<=(M:Int):=by omega
     obtain ⟨ci,be,av,aw,au⟩:=info_parts infoCmd
     go_upto_region 6 with fail
     go_cut [6,7,8] (fun v6 v7 v8 wx=>∃ g7 v1 s1 qs f,v6=v1/\v7=.pointer (Ab ⟨g7,0,Aa⟩)/\v8=I U KK/\bks qs=TA/\ShwC w2 wx g7 v1 qs f P1 s1)
     case first=>
      refine p_rg (fun _=>true) (fun x=>Bx x N (zR c s) 124/\x.heap[g]?=w.heap[g]?) ?_;show zX prog _ _ _ _ _ (27+1) (Af 28 false) _ _;have K:∀ x,Be w2 x->Bx x N (zR c s) 124/\x.heap[g]?=w.heap[g]?:=fun x hb=>⟨(r.more hb).box,(bt ao hb).block g a4.1⟩
      have aa:=bw w2;have hS:=K w2.drew aa;refine p_pt 0 55 N 0 hS ?_;refine p_pt 1 56 N 0 hS ?_;refine p_pt 2 57 N 3 hS ?_;refine zD 3 58 s.treeV hS ?_ (hy:=by intro x hx;have c3:=zB hx.1 3 s.treeV rfl;go_simp;try rfl);refine p_pt 4 59 N 0 hS ?_;refine p_pt 5 60 N 0 hS ?_;refine p_pt 6 61 N 4 hS ?_;refine zD 7 62 (.slice (Ab ⟨g,0,Aa⟩) c.peers.length cap) hS ?_ (hy:=by intro x hx;have c4:=zB hx.1 4 s.peersV rfl;rw [bq.out] at c4;go_simp;try rfl);refine zD 8 63 (I U (j:Int)) hS ?_;refine p_pt 9 64 g (j * 21) hS ?_;refine zD 10 65 (.agg (zA p t)) hS ?_ (hy:=fun x hx=>ldm g (j * 21) (peerL p t) (qW hx.2 c6) underlying35);refine p_pt 12 67 N 0 hS ?_;refine p_pt 13 68 N 0 hS ?_;refine p_pt 14 69 N 7 hS ?_;refine zD 15 70 (.slice aq c.pend.length cq) hS ?_ (hy:=by intro x hx;have c7:=zB hx.1 7 s.pend rfl;rw [b1.out] at c7;go_simp;try rfl);refine zD 16 71 (I U (M:Int)) hS ?_
      refine zD 17 72 (.slice aq M cq) hS ?_ (hy:=by
       intro x hx
       rcases cd.out.2 with ⟨gq,rfl,h⟩ | ⟨rfl,h,h'⟩
       ·go_simp
        try rfl
       ·obtain rfl:M=0:=by have:=HM.2.1;omega
        subst h';go_simp
        try rfl)
      have RD:∀ x,Be w2 x->yM x (.slice aq M cq) 3 kL (c.pend.take M):=fun x hb=>rows_take (by rw [<- b1.out];exact zW kC (r.more hb).own.pend) HM.2.1
      have ej:((c.pend.take M).length:Int)<=1048576:=bl.1;refine zFC (i:=11) (j:=24) (by kernel_rfl) ?_ ?_
      ·obtain ⟨y1,b8⟩:=nw (w2.drew.alloc (.cells #[] 139));have d7:Below w2.drew.heap.size w2.drew y1:=by rw [b8];exact (br _ _).alloc (nl _) _
       have ai:Be w2 y1:=bt aa d7;have di:y1.ownsRow w2.heap.size 139 3 (.slice (Ab ⟨w2.drew.heap.size,0,Aa⟩) 0 0) ([]:List CM).length (zE kL []):=by rw [b8];exact zN (yH w2.drew _ _) aa.size
       refine xU (s:=11) (e':=some 66) rfl rfl rfl (.slice (Ab ⟨w2.drew.heap.size,0,Aa⟩) 0 0) y1 ?_ ⟨fun _=>K y1 ai,?_⟩
       ·rw [b8];go_simp
        try rfl
       simp only [pz];clear b8;refine zFC (i:=18) (j:=24) (by kernel_rfl) ?_ ?_
       ·refine xS (s:=18) (e':=some 73) rfl rfl rfl (.tmp 66) (.tmp 72) 86 rfl w2.heap.size 139 ci _ 32 underlying86 be av aw au rfl (by decide) kC qL (.slice (Ab ⟨w2.drew.heap.size,0,Aa⟩) 0 0) [] rfl di _ (c.pend.take M) rfl (RD y1 ai) (by have h4:=HM.2.2;simp only [Ag,List.length_nil];unfold maxLen;omega) (by have h4:=HM.2.2;simp only [Ag,List.length_nil];omega) ai.size ?_;intro ar y2 bo d9 es;simp only [List.nil_append] at bo;have bb:Be w2 y2:=ai.grown d9 ai.size (fun k hk=>(di.lt k hk).1);refine ⟨fun _=>K y2 bb,?_⟩;simp only [pz];refine zFC (i:=19) (j:=24) (by kernel_rfl) ?_ ?_
        ·have m:Be w2 y2:=bb;have d:=shows_s s.tree s.treeV p t (c.pend.take M) ar y2 (r.more m).own.tree.read (by rw [r.out.own.etree];exact ad.out.tree) (bf.below (bt ao m)) bc.2 (zW kC bo) bl;rw [r.out.own.etree,ag.out.1,ag.out.2.1,ag.out.2.2] at d;refine zEA (s:=19) (e':=some 74) (fn:=190) (args:=#[s.treeV,.agg (zA p t),ar]) rfl rfl (by kernel_rfl) ?_ (d.mono ?_)
         ·go_simp
          try rfl
         clear d;rintro e yc ⟨v1,s1,rfl,⟨qs,al,ap,ah,v,ac,ab⟩,o⟩;obtain ⟨f,b⟩:=nw (min al yc.heap.size);have a2:yDC f v1 qs:=by rw [b];exact lim_min v ah.lim
         have af:zO f yc.heap.size yc P1 s1:=ac.low (by rw [b];exact Nat.min_le_left _ _);have ak:=Nat.le_min.2 ⟨ab,o.size⟩;have a1:f<=yc.heap.size:=by rw [b];exact Nat.min_le_right _ _
         rw [<- b] at ak;clear v ac ab b;have a:Be w2 yc:=bt m o;refine ⟨_,rfl,fun _=>K yc a,?_⟩;simp only [pz];refine zD 20 54 (.tuple #[v1,yZ P1 s1,I U KK]) (K yc a) ?_;refine zD 21 75 v1 (K yc a) ?_;refine zD 22 76 (.agg (zA P1 s1)) (K yc a) ?_;refine zD 23 77 (I U KK) (K yc a) ?_;refine p_on 24 ?_;obtain ⟨y3,cc⟩:=nw (yc.alloc (.cells zF 35));have a8:Be yc y3:=by rw [cc];exact (br _ _).alloc (nl _) _
         have a7:Be w2 y3:=bt a a8;have a9:Bx y3 yc.heap.size zF 35:=by rw [cc];exact heap_alloc_new yc _
         refine xU (s:=24) (e':=some 7) rfl rfl rfl (.pointer (Ab ⟨yc.heap.size,0,Aa⟩)) y3 ?_ ⟨fun _=>K y3 a7,?_⟩
         ·rw [cc];unfold zF;go_simp
          try rfl
         simp only [pz];clear cc;have bh:=af.below a8;have d1:=ah.below a8;refine zD 25 6 v1 (K y3 a7) ?_;have h7:w2.heap.size<=yc.heap.size:=a.size;refine p_pa 26 yc.heap.size 0 (zA P1 s1) zF (zA P1 s1) a9 (by simp [zA,zF]) (zJ bh.1) rfl ?_;intro z2 hg a5;have l:Be w2 z2:=a7.grown hg a7.size (fun k e=>by cases e;exact h7);refine ⟨fun _=>K z2 l,?_⟩;refine zD 27 8 (I U KK) (K z2 l) ?_;refine p_do ?_;go_wp2
         go_meet
         case rel=>exact ⟨_,v1,s1,qs,f,rfl,rfl,rfl,ap,a5,l,(d1.boxed a9 hg).base m.size,a2,(bh.boxed a9 hg).wide (Ac (bh.boxed a9 hg).2.2 (nl _)) (nl _),Ac m.size ak,h7,Ac a1 (by first | exact hg.size | exact Ac a8.size hg.size)⟩
        ·obtain ⟨y4,ce⟩:=nw (y2.alloc (.cells zF 35));have cp:Be y2 y4:=by rw [ce];exact (br _ _).alloc (nl _) _
         have ch:Be w2 y4:=bt bb cp;have d4:Bx y4 y2.heap.size zF 35:=by rw [ce];exact heap_alloc_new y2 _
         refine xU (s:=24) (e':=some 7) rfl rfl rfl (.pointer (Ab ⟨y2.heap.size,0,Aa⟩)) y4 ?_ ⟨fun _=>K y4 ch,?_⟩
         ·rw [ce];unfold zF;go_simp
          try rfl
         simp only [pz];clear ce;have d6:=zS bo cp;refine p_on 19 ?_;have m:Be w2 y4:=ch;have d:=shows_s s.tree s.treeV p t (c.pend.take M) ar y4 (r.more m).own.tree.read (by rw [r.out.own.etree];exact ad.out.tree) (bf.below (bt ao m)) bc.2 (zW kC d6) bl;rw [r.out.own.etree,ag.out.1,ag.out.2.1,ag.out.2.2] at d;refine zEA (s:=19) (e':=some 74) (fn:=190) (args:=#[s.treeV,.agg (zA p t),ar]) rfl rfl (by kernel_rfl) ?_ (d.mono ?_)
         ·go_simp
          try rfl
         clear d;rintro e yc ⟨v1,s1,rfl,⟨qs,al,ap,ah,v,ac,ab⟩,o⟩;obtain ⟨f,b⟩:=nw (min al yc.heap.size);have a2:yDC f v1 qs:=by rw [b];exact lim_min v ah.lim
         have af:zO f yc.heap.size yc P1 s1:=ac.low (by rw [b];exact Nat.min_le_left _ _);have ak:=Nat.le_min.2 ⟨ab,o.size⟩;have a1:f<=yc.heap.size:=by rw [b];exact Nat.min_le_right _ _
         rw [<- b] at ak;clear v ac ab b;have a:Be w2 yc:=bt m o;refine ⟨_,rfl,fun _=>K yc a,?_⟩;simp only [pz];have n:=bk o d4;refine zD 20 54 (.tuple #[v1,yZ P1 s1,I U KK]) (K yc a) ?_;refine zD 21 75 v1 (K yc a) ?_;refine zD 22 76 (.agg (zA P1 s1)) (K yc a) ?_;refine zD 23 77 (I U KK) (K yc a) ?_;refine zD 25 6 v1 (K yc a) ?_;have h7:w2.heap.size<=y2.heap.size:=bb.size;refine p_pa 26 y2.heap.size 0 (zA P1 s1) zF (zA P1 s1) n (by simp [zA,zF]) (zJ af.1) rfl ?_;intro z2 hg a5;have l:Be w2 z2:=a.grown hg a.size (fun k e=>by cases e;exact h7);refine ⟨fun _=>K z2 l,?_⟩;refine zD 27 8 (I U KK) (K z2 l) ?_;refine p_do ?_;go_wp2
         go_meet
         case rel=>exact ⟨_,v1,s1,qs,f,rfl,rfl,rfl,ap,a5,l,(ah.boxed n hg).base m.size,a2,(af.boxed n hg).wide (Ac (af.boxed n hg).2.2 (nl _)) (nl _),Ac m.size ak,h7,Ac a1 (by first | exact hg.size | exact Ac hg.size hg.size)⟩
       ·obtain ⟨y5,b4⟩:=nw (y1.alloc (.cells zF 35));have cw:Be y1 y5:=by rw [b4];exact (br _ _).alloc (nl _) _
        have ay:Be w2 y5:=bt ai cw;have ck:Bx y5 y1.heap.size zF 35:=by rw [b4];exact heap_alloc_new y1 _
        refine xU (s:=24) (e':=some 7) rfl rfl rfl (.pointer (Ab ⟨y1.heap.size,0,Aa⟩)) y5 ?_ ⟨fun _=>K y5 ay,?_⟩
        ·rw [b4];unfold zF;go_simp
         try rfl
        simp only [pz];clear b4;have bm:=zS di cw;refine p_on 18 ?_;refine xS (s:=18) (e':=some 73) rfl rfl rfl (.tmp 66) (.tmp 72) 86 rfl w2.heap.size 139 ci _ 32 underlying86 be av aw au rfl (by decide) kC qL (.slice (Ab ⟨w2.drew.heap.size,0,Aa⟩) 0 0) [] rfl bm _ (c.pend.take M) rfl (RD y5 ay) (by have h4:=HM.2.2;simp only [Ag,List.length_nil];unfold maxLen;omega) (by have h4:=HM.2.2;simp only [Ag,List.length_nil];omega) ay.size ?_;intro ar y6 cf cm ee;simp only [List.nil_append] at cf;have cj:Be w2 y6:=ay.grown cm ay.size (fun k hk=>(bm.lt k hk).1);refine ⟨fun _=>K y6 cj,?_⟩;simp only [pz];have dz:=gk cm ck (fun e=>(zH bm ck (by decide)).elim (fun h=>by rw [h] at e;cases e) (fun h=>h e.symm));refine p_on 19 ?_;have m:Be w2 y6:=cj;have d:=shows_s s.tree s.treeV p t (c.pend.take M) ar y6 (r.more m).own.tree.read (by rw [r.out.own.etree];exact ad.out.tree) (bf.below (bt ao m)) bc.2 (zW kC cf) bl;rw [r.out.own.etree,ag.out.1,ag.out.2.1,ag.out.2.2] at d;refine zEA (s:=19) (e':=some 74) (fn:=190) (args:=#[s.treeV,.agg (zA p t),ar]) rfl rfl (by kernel_rfl) ?_ (d.mono ?_)
        ·go_simp
         try rfl
        clear d;rintro e yc ⟨v1,s1,rfl,⟨qs,al,ap,ah,v,ac,ab⟩,o⟩;obtain ⟨f,b⟩:=nw (min al yc.heap.size);have a2:yDC f v1 qs:=by rw [b];exact lim_min v ah.lim
        have af:zO f yc.heap.size yc P1 s1:=ac.low (by rw [b];exact Nat.min_le_left _ _);have ak:=Nat.le_min.2 ⟨ab,o.size⟩;have a1:f<=yc.heap.size:=by rw [b];exact Nat.min_le_right _ _
        rw [<- b] at ak;clear v ac ab b;have a:Be w2 yc:=bt m o;refine ⟨_,rfl,fun _=>K yc a,?_⟩;simp only [pz];have n:=bk o dz;refine zD 20 54 (.tuple #[v1,yZ P1 s1,I U KK]) (K yc a) ?_;refine zD 21 75 v1 (K yc a) ?_;refine zD 22 76 (.agg (zA P1 s1)) (K yc a) ?_;refine zD 23 77 (I U KK) (K yc a) ?_;refine zD 25 6 v1 (K yc a) ?_;have h7:w2.heap.size<=y1.heap.size:=ai.size;refine p_pa 26 y1.heap.size 0 (zA P1 s1) zF (zA P1 s1) n (by simp [zA,zF]) (zJ af.1) rfl ?_;intro z2 hg a5;have l:Be w2 z2:=a.grown hg a.size (fun k e=>by cases e;exact h7);refine ⟨fun _=>K z2 l,?_⟩;refine zD 27 8 (I U KK) (K z2 l) ?_;refine p_do ?_;go_wp2
        go_meet
        case rel=>exact ⟨_,v1,s1,qs,f,rfl,rfl,rfl,ap,a5,l,(ah.boxed n hg).base m.size,a2,(af.boxed n hg).wide (Ac (af.boxed n hg).2.2 (nl _)) (nl _),Ac m.size ak,h7,Ac a1 (by first | exact hg.size | exact Ac hg.size hg.size)⟩
      ·obtain ⟨y7,b7⟩:=nw (w2.drew.alloc (.cells zF 35));have dv:Below w2.drew.heap.size w2.drew y7:=by rw [b7];exact (br _ _).alloc (nl _) _
       have bn:Be w2 y7:=bt aa dv;have ec:Bx y7 w2.drew.heap.size zF 35:=by rw [b7];exact heap_alloc_new w2.drew _
       refine xU (s:=24) (e':=some 7) rfl rfl rfl (.pointer (Ab ⟨w2.drew.heap.size,0,Aa⟩)) y7 ?_ ⟨fun _=>K y7 bn,?_⟩
       ·rw [b7];unfold zF;go_simp
        try rfl
       simp only [pz];clear b7;refine p_on 11 ?_;obtain ⟨y8,bz⟩:=nw (y7.alloc (.cells #[] 139));have cy:Be y7 y8:=by rw [bz];exact (br _ _).alloc (nl _) _
       have az:Be w2 y8:=bt bn cy;have c9:y8.ownsRow w2.heap.size 139 3 (.slice (Ab ⟨y7.heap.size,0,Aa⟩) 0 0) ([]:List CM).length (zE kL []):=by rw [bz];exact zN (yH y7 _ _) bn.size
       refine xU (s:=11) (e':=some 66) rfl rfl rfl (.slice (Ab ⟨y7.heap.size,0,Aa⟩) 0 0) y8 ?_ ⟨fun _=>K y8 az,?_⟩
       ·rw [bz];go_simp
        try rfl
       simp only [pz];clear bz;have ct:=bk cy ec;refine p_on 18 ?_;refine xS (s:=18) (e':=some 73) rfl rfl rfl (.tmp 66) (.tmp 72) 86 rfl w2.heap.size 139 ci _ 32 underlying86 be av aw au rfl (by decide) kC qL (.slice (Ab ⟨y7.heap.size,0,Aa⟩) 0 0) [] rfl c9 _ (c.pend.take M) rfl (RD y8 az) (by have h4:=HM.2.2;simp only [Ag,List.length_nil];unfold maxLen;omega) (by have h4:=HM.2.2;simp only [Ag,List.length_nil];omega) az.size ?_;intro ar y9 cx cu ev;simp only [List.nil_append] at cx;have co:Be w2 y9:=az.grown cu az.size (fun k hk=>(c9.lt k hk).1);refine ⟨fun _=>K y9 co,?_⟩;simp only [pz];have du:=gk cu ct (fun e=>(zH c9 ct (by decide)).elim (fun h=>by rw [h] at e;cases e) (fun h=>h e.symm));refine p_on 19 ?_;have m:Be w2 y9:=co;have d:=shows_s s.tree s.treeV p t (c.pend.take M) ar y9 (r.more m).own.tree.read (by rw [r.out.own.etree];exact ad.out.tree) (bf.below (bt ao m)) bc.2 (zW kC cx) bl;rw [r.out.own.etree,ag.out.1,ag.out.2.1,ag.out.2.2] at d;refine zEA (s:=19) (e':=some 74) (fn:=190) (args:=#[s.treeV,.agg (zA p t),ar]) rfl rfl (by kernel_rfl) ?_ (d.mono ?_)
       ·go_simp
        try rfl
       clear d;rintro e yc ⟨v1,s1,rfl,⟨qs,al,ap,ah,v,ac,ab⟩,o⟩;obtain ⟨f,b⟩:=nw (min al yc.heap.size);have a2:yDC f v1 qs:=by rw [b];exact lim_min v ah.lim
       have af:zO f yc.heap.size yc P1 s1:=ac.low (by rw [b];exact Nat.min_le_left _ _);have ak:=Nat.le_min.2 ⟨ab,o.size⟩;have a1:f<=yc.heap.size:=by rw [b];exact Nat.min_le_right _ _
       rw [<- b] at ak;clear v ac ab b;have a:Be w2 yc:=bt m o;refine ⟨_,rfl,fun _=>K yc a,?_⟩;simp only [pz];have n:=bk o du;refine zD 20 54 (.tuple #[v1,yZ P1 s1,I U KK]) (K yc a) ?_;refine zD 21 75 v1 (K yc a) ?_;refine zD 22 76 (.agg (zA P1 s1)) (K yc a) ?_;refine zD 23 77 (I U KK) (K yc a) ?_;refine zD 25 6 v1 (K yc a) ?_;have h7:w2.heap.size<=w2.drew.heap.size:=nl _;refine p_pa 26 w2.drew.heap.size 0 (zA P1 s1) zF (zA P1 s1) n (by simp [zA,zF]) (zJ af.1) rfl ?_;intro z2 hg a5;have l:Be w2 z2:=a.grown hg a.size (fun k e=>by cases e;exact h7);refine ⟨fun _=>K z2 l,?_⟩;refine zD 27 8 (I U KK) (K z2 l) ?_;refine p_do ?_;go_wp2
       go_meet
       case rel=>exact ⟨_,v1,s1,qs,f,rfl,rfl,rfl,ap,a5,l,(ah.boxed n hg).base m.size,a2,(af.boxed n hg).wide (Ac (af.boxed n hg).2.2 (nl _)) (nl _),Ac m.size ak,h7,Ac a1 (by first | exact hg.size | exact Ac hg.size hg.size)⟩
     case rest=>
      obtain ⟨g7,v1,s1,qs,f,h6,rfl,rfl,ap,hX⟩:=hcut;obtain rfl:=h6.symm;have HX:=hid hX;have dn:Hid (bks qs=TA):=ap;have bu:Hid (InB N lo w wc c s):=r.more hX.below;clear hX ap
      by_cases hkk:KK < 0
      ·have HE:Hid (R=(c,false)):=(by rw [b9.out,if_pos hkk]:R=_);go_wp2;go_ret;refine ⟨zL (by rw [HE.out]),s,?_⟩;rw [HE.out];exact bu.out.weak
      ·have HE:Hid (R=(jV (showsC c (j:Int)) (zCA TA P1 KK c.n),true)):=(by rw [b9.out,if_neg hkk]:R=_);clear b9;have ew:Hid (N < w2.heap.size):=(gl r.box);have ek:Hid (g ≠ N):=hid (by intro e;have hn:=r.box;rw [<- e] at hn;exact absurd (hn.symm.trans ((ao.block g a4.1).trans dh.1)) (by simp));obtain ⟨C1,dk⟩:∃ C1:CU,C1={ c with tree:=bks qs }:=⟨_,rfl⟩;obtain ⟨S1,dr⟩:∃ S1:CW,S1={ s with treeV:=v1,tree:=qs }:=⟨_,rfl⟩;have a3:=hid (qad2 dk dr);have eb:Hid ((zR c s).setIfInBounds 3 v1=zR C1 S1):=hid (by rw [dk,dr];rfl);clear dk dr
       go_upto_region 10 with (refine w_sc N 3 v1 bu.box (by simp [zR]) (jI HX.tree.row) (zR C1 S1) eb ?_;intro y hg hk;have HY:Hid (InB N lo w y C1 S1/\xG lo f y C1 S1/\Bx y g7 (zA P1 s1) 35/\zO f y.heap.size y P1 s1/\y.heap[g]?=w.heap[g]?):=put_tree bu r.own HX cs a3.1 a3.2 hg hk cz (ao.block g a4.1) ek ew;clear hg hk)
       have a0:Hid (S1.peersV=.slice (Ab ⟨g,0,Aa⟩) C1.peers.length cap/\C1.peers.length=c.peers.length):=hid (by rw [a3.out.1,a3.out.2];exact ⟨bq,rfl⟩);refine p_rg (fun i=>decide (i < 7)) (fun x=>Bx x N (zR C1 S1) 124/\Bx x g7 (zA P1 s1) 35) ?_;show zX prog _ _ _ _ _ (7+1) (Af 8 false) _ _;have hS:Bx y.drew N (zR C1 S1) 124/\Bx y.drew g7 (zA P1 s1) 35:=⟨HY.1.box,HY.2.2.1⟩;have q2:(j:Int) < (C1.peers.length:Int):=by rw [a0.out.2];exact q1
       refine p_pt 0 84 N 0 hS ?_;refine p_pt 1 85 N 0 hS ?_;refine p_pt 2 86 N 4 hS ?_;refine zD 3 87 (.slice (Ab ⟨g,0,Aa⟩) C1.peers.length cap) hS ?_ (hy:=by intro x hx;have c4:=zB hx.1 4 S1.peersV rfl;rw [a0.out.1] at c4;go_simp;try rfl);refine zD 4 88 (I U (j:Int)) hS ?_;refine zD 5 89 (.agg (zA P1 s1)) hS ?_ (hy:=fun x hx=>ldb g7 hx.2 underlying35);refine p_pt 6 90 g (j * 21) hS ?_;have c8:Bx y.drew g dj 35:=HY.2.2.2.2.trans dh.1;refine p_pa 7 g (j * 21) (zA P1 s1) dj (yBB dj (j * 21) (zA P1 s1)) c8 (by have:=dh.2;simpa [zA] using this) (zJ HY.2.2.2.1.1) rfl ?_;intro z hg hk;have bg:=bw y;obtain ⟨C2,dg⟩:=nw (zCG C1 (j:Int) P1);obtain ⟨S2,dm⟩:∃ S2:CW,S2={ S1 with peers:=S1.peers.set j (P1,s1) }:=⟨_,rfl⟩
       have HZ:Hid (InW N lo w z C2 S2/\Bx z g7 (zA P1 s1) 35):=(by
        have hp:=put_peer (HY.1.more bg) HY.2.1 bg (Ac cs HX.le) a0.1 a4.2.1 (by rw [a0.out.2];exact bp) c8 hg hk ((HY.2.2.2.1.below bg).wide (Ac HY.2.2.2.1.2.2 bg.size) (nl _)) hS.1 (by decide);rw [dg,dm]
        exact ⟨hp.1,gk hg hS.2 (fun e=>by have e:=Ae e;have:=HX.l7;have:=cz.out;omega)⟩:_/\_)
       have am:Hid (C2.pend=c.pend/\S2.pend=s.pend/\C2.n=c.n/\C2.net=c.net/\C2={ zCG c (j:Int) P1 with tree:=TA }/\S2.treeV=v1/\S2.tree=qs):=hid (by rw [dg,dm,a3.out.1,a3.out.2,dn.out];exact ⟨rfl,rfl,rfl,rfl,rfl,rfl,rfl⟩);clear hg hk hS dg dm bg c8 HY a0 a3 eb bu;refine ⟨fun h=>absurd h (by decide),?_⟩;refine p_do ?_;have e1:(M:Int)<=(c.pend.length:Int):=by have:=HM.2.1;omega
       have ez:=ad.pend.1
       go_upto_region 11 with fail
       go_cut [] (fun wx=>∃ S3,InW N lo w wx { C2 with pend:=c.pend.drop M } S3/\S3.treeV=v1/\S3.tree=qs/\Bx wx g7 (zA P1 s1) 35)
       case first=>
        obtain ⟨Y,hY⟩:=nw (z.alloc (.cells #[] 139));have u:Hid (Be z Y/\Y.ownsRow z.heap.size 139 3 (.slice (Ab ⟨z.heap.size,0,Aa⟩) 0 0) ([]:List CM).length (zE kL [])):=hid (by rw [hY];exact ⟨yA _ _,yH z _ _⟩);have c2:=hid (qad2 (HZ.1.more u.1) (bk u.1 HZ.2))
        have ed:Hid (yM Y (.slice aq c.pend.length cq) 3 kL c.pend):=(by
         have h:=zW kC c2.1.own.pend;rw [am.out.1,am.out.2.1,b1.out] at h
         exact h:yM _ _ _ _ _)
        have ca:Hid (lo<=z.heap.size):=Ac dc HZ.1.fr.size;have c7:Y.cell? ⟨N,7,Aa⟩=Ab (.slice aq c.pend.length cq):=by rw [<- b1.out,<- am.out.2.1];exact zB c2.1.box 7 S2.pend rfl
        rcases cd.out.2 with ⟨gq,rfl,ep⟩ | ⟨rfl,eo,ef⟩
        ·by_cases hcq:cq=M
         ·have ey:c.pend.length=M:=by have:=HM.2.1;omega
          have cb:c.pend.drop M=[]:=List.drop_of_length_le (by omega)
          go_wp2_with (first
           | (rw [<- hY];clear hY)
           | (at_builtin;refine yU _ rfl _ _ 86 rfl z.heap.size 139 ci _ 32 underlying86 be av aw au rfl (by decide) kC qL _ [] rfl u.2 _ (c.pend.drop M) rfl (by rw [cb];exact ⟨_,_,rfl,fun h=>absurd h (by simp)⟩) (by simp only [List.length_drop,List.length_nil];unfold maxLen;omega) (by simp only [List.length_drop,List.length_nil];omega) u.1.size ?_;intro vq x1 ho hg;have ae:Hid (x1.ownsRow z.heap.size 139 3 vq (c.pend.drop M).length (zE kL (c.pend.drop M))/\Be z x1):=⟨by simpa using ho,u.1.grown hg u.1.size (fun k hk=>(u.2.lt k hk).1)⟩;clear ho hg)
           | (refine w_sc N 7 vq ((HZ.1.more ae.2).box) (by simp [zR]) (jI ae.1) (zR { C2 with pend:=c.pend.drop M } { S2 with pend:=vq }) rfl ?_;intro x2 hg hk;have ax:Hid (InW N lo w x2 { C2 with pend:=c.pend.drop M } { S2 with pend:=vq }/\Bx x2 g7 (zA P1 s1) 35):=put_pend HZ.1 HZ.2 ae.2 ca ae.1 hg hk;clear hg hk))
          go_meet
          case rel=>exact ⟨_,ax.1,am.2.2.2.2.2.1,am.2.2.2.2.2.2,ax.2⟩
         ·have e0:¬ cq=M:=hcq
          go_wp2_with (first
           | (rw [<- hY];clear hY)
           | (at_builtin;refine yU _ rfl _ _ 86 rfl z.heap.size 139 ci _ 32 underlying86 be av aw au rfl (by decide) kC qL _ [] rfl u.2 _ (c.pend.drop M) rfl (rows_drop ed HM.2.1) (by simp only [List.length_drop,List.length_nil];unfold maxLen;omega) (by simp only [List.length_drop,List.length_nil];omega) u.1.size ?_;intro vq x1 ho hg;have ae:Hid (x1.ownsRow z.heap.size 139 3 vq (c.pend.drop M).length (zE kL (c.pend.drop M))/\Be z x1):=⟨by simpa using ho,u.1.grown hg u.1.size (fun k hk=>(u.2.lt k hk).1)⟩;clear ho hg)
           | (refine w_sc N 7 vq ((HZ.1.more ae.2).box) (by simp [zR]) (jI ae.1) (zR { C2 with pend:=c.pend.drop M } { S2 with pend:=vq }) rfl ?_;intro x2 hg hk;have ax:Hid (InW N lo w x2 { C2 with pend:=c.pend.drop M } { S2 with pend:=vq }/\Bx x2 g7 (zA P1 s1) 35):=put_pend HZ.1 HZ.2 ae.2 ca ae.1 hg hk;clear hg hk))
          go_meet
          case rel=>exact ⟨_,ax.1,am.2.2.2.2.2.1,am.2.2.2.2.2.2,ax.2⟩
        ·have ei:M=0:=by have:=HM.2.1;omega
         subst ei ef;have cb:c.pend.drop 0=[]:=by rw [List.drop_zero];exact List.eq_nil_of_length_eq_zero eo
         go_wp2_with (first
          | (rw [<- hY];clear hY)
          | (refine w_sc N 7 (.slice (Ab ⟨z.heap.size,0,Aa⟩) 0 0) c2.1.box (by simp [zR]) rfl (zR { C2 with pend:=c.pend.drop 0 } { S2 with pend:=.slice (Ab ⟨z.heap.size,0,Aa⟩) 0 0 }) rfl ?_;intro x2 hg hk;have ax:Hid (InW N lo w x2 { C2 with pend:=c.pend.drop 0 } { S2 with pend:=.slice (Ab ⟨z.heap.size,0,Aa⟩) 0 0 }/\Bx x2 g7 (zA P1 s1) 35):=put_pend HZ.1 HZ.2 u.1 ca (by rw [cb];exact u.out.2) hg hk;clear hg hk)
          | (at_builtin;refine yU _ rfl _ _ 86 rfl z.heap.size 139 ci _ 32 underlying86 be av aw au rfl (by decide) kC qL _ [] rfl u.2 _ (c.pend.drop M) rfl (by rw [cb];exact ⟨_,_,rfl,fun h=>absurd h (by simp)⟩) (by simp only [List.length_drop,List.length_nil];unfold maxLen;omega) (by simp only [List.length_drop,List.length_nil];omega) u.1.size ?_;intro vq x1 ho hg;have ae:Hid (x1.ownsRow z.heap.size 139 3 vq (c.pend.drop M).length (zE kL (c.pend.drop M))/\Be z x1):=⟨by simpa using ho,u.1.grown hg u.1.size (fun k hk=>(u.2.lt k hk).1)⟩;clear ho hg)
          | (refine w_sc N 7 vq ((HZ.1.more ae.2).box) (by simp [zR]) (jI ae.1) (zR { C2 with pend:=c.pend.drop M } { S2 with pend:=vq }) rfl ?_;intro x2 hg hk;have ax:Hid (InW N lo w x2 { C2 with pend:=c.pend.drop M } { S2 with pend:=vq }/\Bx x2 g7 (zA P1 s1) 35):=put_pend HZ.1 HZ.2 ae.2 ca ae.1 hg hk;clear hg hk))
         go_meet
         case rel=>exact ⟨_,ax.1,am.2.2.2.2.2.1,am.2.2.2.2.2.2,ax.2⟩
       case rest=>
        obtain ⟨S3,b6,cv,cg,d8⟩:=hcut;obtain ⟨C3,dq⟩:∃ C3:CU,C3={ C2 with pend:=c.pend.drop M }:=⟨_,rfl⟩;rw [<- dq] at b6;have dl:Hid (C3=showsC c (j:Int)/\C3.n=c.n/\C3.net=c.net):=hid (by rw [dq,er.out,am.out.2.2.2.2.1];exact ⟨rfl,rfl,rfl⟩);have b0:=hid (qad2 b6 d8);have el:Hid (jB wc v1 qs):=hid (by have h:=b6.own.reads.tree;rw [cv,cg] at h;exact h);clear b6 cv cg d8 dq am HZ
        go_upto_region 12 with fail
        refine p_rg (fun i=>decide (i < 9)) (fun x=>Bx x N (zR C3 S3) 124/\Bx x g7 (zA P1 s1) 35) ?_;show zX prog _ _ _ _ _ (9+1) (Af 10 false) _ _;have hS:Bx wc.drew N (zR C3 S3) 124/\Bx wc.drew g7 (zA P1 s1) 35:=⟨b0.1.box,b0.2⟩;have dx:=bw wc;refine p_pt 0 102 N 0 hS ?_;refine zD 1 103 v1 hS ?_;refine zD 2 104 (.agg (zA P1 s1)) hS ?_ (hy:=fun x hx=>ldb g7 hx.2 underlying35);refine zD 3 105 (I U KK) hS ?_;refine p_pt 4 106 N 0 hS ?_;refine p_pt 5 107 N 0 hS ?_;refine p_pt 6 108 N 0 hS ?_;refine zD 7 109 (I U c.n) hS ?_ (hy:=by intro x hx;have c0:=zB hx.1 0 (I U C3.n) rfl;rw [dl.out.2.1] at c0;go_simp;try rfl);have d:=shownTo_s qs v1 P1 s1 KK c.n wc.drew (el.below dx) (by rw [<- yO,dn.out,<- ag.out.2.2];have:=put_len c.tree (showB p (c.pend.take M));have:=ad.ltree;omega);rw [dn.out] at d;refine kJ 8 110 192 #[v1,.agg (zA P1 s1),I U KK,I U c.n] (d.mono ?_);rintro e x8 ⟨v8,rfl,eh,et⟩;have ea:Be wc x8:=dx.trans et;have bj:Hid (InW N lo w x8 C3 S3):=b0.1.more ea;refine ⟨_,rfl,fun _=>⟨bj.box,bk ea b0.2⟩,?_⟩;simp only [pz];refine kJ 9 111 191 #[.pointer (Ab ⟨N,0,Aa⟩),v8] ((post_p C3 S3 N lo x8.heap.size (zCA TA P1 KK c.n) v8 x8 bj.box bj.own (Ac dc bj.fr.size) (zW xP eh) (by rw [dl.out.2.2];exact ad.out.net) (by unfold zCA;rw [zJG];have:=many_le c.n;omega)).mono ?_);rintro e x9 ⟨rfl,s9,df⟩;have eu:Hid (InW N lo w x9 (jV C3 (zCA TA P1 KK c.n)) s9):=bj.trans df.weak;refine ⟨_,rfl,fun h=>absurd h (by decide),?_⟩;refine p_do ?_;go_wp2;go_ret;refine ⟨zL (by rw [HE.out]),s9,?_⟩;rw [HE.out,<- dl.out.1];exact eu.out
  ·have bv:Hid (readyB p c.n c.chain=false):=hid (by simpa using hr);have HE:Hid (R=(c,false)):=(by rw [HR.out];exact if_neg (fun h=>hr (by rw [<- db.out];exact h.2.1)):R=_);clear hr HR;go_enter func162,ntmps162
   go_upto_region 1 with fail
   refine p_rg (fun _=>true) (fun x=>Bx x N (zR c s) 124/\x.heap[g]?=w.heap[g]?) ?_;show zX prog _ _ _ _ _ (37+1) (Af 38 false) _ _;have K:∀ x,Be w x->Bx x N (zR c s) 124/\x.heap[g]?=w.heap[g]?:=fun x hb=>⟨(HI.more hb).box,hb.block g a4.1⟩
   have aa:=bw w;have hS:=K w.drew aa;refine p_pt 0 9 N 0 hS ?_;refine p_pt 1 10 N 0 hS ?_;refine zD 2 11 (.agg (zR c s)) hS ?_ (hy:=fun x hx=>ldb N hx.1 underlying124);refine zD 3 12 (I U (j:Int)) hS ?_;refine kJ 4 13 167 #[.agg (zR c s),I U (j:Int)] ((zHB c s (j:Int) w.drew (HI.more aa).own.reads ad.lpeers).mono ?_);rintro e w1 ⟨rfl,bd⟩;rw [bi.out];have aj:Be w w1:=bt aa bd;clear hS;have hS:=K w1 aj;refine ⟨_,rfl,fun _=>hS,?_⟩;simp only [pz];refine zD 5 14 (.bool false) hS ?_;refine zD 6 15 (.bool false) hS ?_;refine p_pt 7 16 N 0 hS ?_;refine p_pt 8 17 N 0 hS ?_;refine p_pt 9 18 N 4 hS ?_;refine zD 10 19 (.slice (Ab ⟨g,0,Aa⟩) c.peers.length cap) hS ?_ (hy:=by intro x hx;have c4:=zB hx.1 4 s.peersV rfl;rw [bq.out] at c4;go_simp;try rfl);refine zD 11 20 (I U (j:Int)) hS ?_;refine p_pt 12 21 g (j * 21) hS ?_;refine zD 13 22 (.agg (zA p t)) hS ?_ (hy:=fun x hx=>ldm g (j * 21) (peerL p t) (qW hx.2 c6) underlying35);refine p_pt 14 23 N 0 hS ?_;refine p_pt 15 24 N 0 hS ?_;refine p_pt 16 25 N 0 hS ?_;refine zD 17 26 (I U c.n) hS ?_ (hy:=by intro x hx;have c0:=zB hx.1 0 (I U c.n) rfl;go_simp;try rfl);refine p_pt 18 27 N 0 hS ?_;refine p_pt 19 28 N 0 hS ?_;refine p_pt 20 29 N 1 hS ?_;refine zD 21 30 (.bool c.chain) hS ?_ (hy:=by intro x hx;have c1:=zB hx.1 1 (.bool c.chain) rfl;go_simp;try rfl);refine kJ 22 31 171 #[.agg (zA p t),I U c.n,.bool c.chain] ((ready_s p t c.n c.chain w1 bc.1 ad.n (bf.below aj)).mono ?_);rintro e w2 ⟨rfl,a6⟩;rw [bv.out];have l:Be w w2:=bt aj a6;clear hS;have hS:=K w2 l;refine ⟨_,rfl,fun _=>hS,?_⟩;simp only [pz];refine zD 23 32 (.bool true) hS ?_;refine zD 24 33 (.bool true) hS ?_;refine zD 25 34 (.bool true) hS ?_;refine xE 26 35 hS ?_;refine xE 27 36 hS ?_;refine xE 28 37 hS ?_;refine xE 29 38 hS ?_;refine xE 30 39 hS ?_;refine xE 31 40 hS ?_;refine xE 32 41 hS ?_;refine xE 33 42 hS ?_;refine xE 34 43 hS ?_;refine xE 35 44 hS ?_;refine xE 36 45 hS ?_;refine zD 37 46 (.bool true) hS ?_;refine p_do ?_;go_wp2;go_ret;refine ⟨zL (by rw [HE.out]),s,?_⟩;rw [HE.out];exact (HI.more l).weak
 ·have bi:Hid (xT c i=false):=hid (by simpa using hh);have HE:Hid (R=(c,false)):=(by rw [HR.out];exact if_neg (fun h=>hh h.1):R=_);clear hh HR;go_enter func162,ntmps162
  go_upto_region 1 with fail
  refine p_rg (fun _=>true) (fun x=>Bx x N (zR c s) 124) ?_;show zX prog _ _ _ _ _ (37+1) (Af 38 false) _ _;have K:∀ x,Be w x->Bx x N (zR c s) 124:=fun x hb=>(HI.more hb).box
  have aa:=bw w;have hS:=K w.drew aa;refine p_pt 0 9 N 0 hS ?_;refine p_pt 1 10 N 0 hS ?_;refine zD 2 11 (.agg (zR c s)) hS ?_ (hy:=fun x hx=>ldb N hx underlying124);refine zD 3 12 (I U i) hS ?_;refine kJ 4 13 167 #[.agg (zR c s),I U i] ((zHB c s i w.drew (HI.more aa).own.reads ad.lpeers).mono ?_);rintro e w1 ⟨rfl,bd⟩;rw [bi.out];have aj:Be w w1:=bt aa bd;clear hS;have hS:=K w1 aj;refine ⟨_,rfl,fun _=>hS,?_⟩;simp only [pz];refine zD 5 14 (.bool true) hS ?_;refine zD 6 15 (.bool true) hS ?_;refine xE 7 16 hS ?_;refine xE 8 17 hS ?_;refine xE 9 18 hS ?_;refine xE 10 19 hS ?_;refine xE 11 20 hS ?_;refine xE 12 21 hS ?_;refine xE 13 22 hS ?_;refine xE 14 23 hS ?_;refine xE 15 24 hS ?_;refine xE 16 25 hS ?_;refine xE 17 26 hS ?_;refine xE 18 27 hS ?_;refine xE 19 28 hS ?_;refine xE 20 29 hS ?_;refine xE 21 30 hS ?_;refine xE 22 31 hS ?_;refine xE 23 32 hS ?_;refine zD 24 33 (.bool true) hS ?_;refine zD 25 34 (.bool true) hS ?_;refine xE 26 35 hS ?_;refine xE 27 36 hS ?_;refine xE 28 37 hS ?_;refine xE 29 38 hS ?_;refine xE 30 39 hS ?_;refine xE 31 40 hS ?_;refine xE 32 41 hS ?_;refine xE 33 42 hS ?_;refine xE 34 43 hS ?_;refine xE 35 44 hS ?_;refine xE 36 45 hS ?_;refine zD 37 46 (.bool true) hS ?_;refine p_do ?_;go_wp2;go_ret;refine ⟨zL (by rw [HE.out]),s,?_⟩;rw [HE.out];exact (HI.more aj).weak
end Go.Proofs.YtfnneillakdopacGreatR
