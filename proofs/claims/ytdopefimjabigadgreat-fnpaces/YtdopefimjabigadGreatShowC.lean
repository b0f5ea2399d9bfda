/-
  A text of ours: ShowC.
-/
import Derived.Test.YtdopefimjabigadGreatK1
import Derived.Test.YtdopefimjabigadGreatWaitC
set_option maxRecDepth 100000
set_option maxHeartbeats 32000000
namespace Go.Proofs.YtdopefimjabigadGreat
open Go.RowKit Num
structure showOk (c:CU):Prop where
 net:(c.net.length:Int)<=1048576
 lpeers:(c.peers.length:Int)<=1048576
 n:(Lit.int .i64 c.n).wf=true
 tree:okT c.tree
 ltree:(c.tree.length:Int)+1<=1048576
 peers:∀ p∈c.peers,yDG p/\yC p
 pend:(c.pend.length:Int)<=1048576/\∀ x∈c.pend,(x.2.1.size:Int)<=1048576
theorem form_two {w:World} {base n m cap:Nat} {e:TypeId} {v:Value} {xs:List Value} {a:Option Addr} (h:w.ownsRow base e m v n xs) (hv:v=.slice a n cap):(∃ g,a=some ⟨g,0,none⟩/\n<=cap)∨(a=none/\n=0/\cap=0):=by
 subst hv;obtain ⟨_,⟨h1,h2⟩ | ⟨g,cap',cur,h1,_,_,hn,_⟩⟩:=h
 ·right
  simp at h1;exact ⟨h1.1,h2,h1.2.2⟩
 ·left
  injection h1 with h1 _ h3
  exact ⟨g,h1,by omega⟩
theorem rows_take {α:Type} {f:α->List Value} {m n cap k:Nat} {w:World} {a:Option Addr} {xs:List α} (h:yM w (.slice a n cap) m f xs) (hk:k<=xs.length):yM w (.slice a k cap) m f (xs.take k):=by
 obtain ⟨a',cap',er,hr⟩:=h;injection er with e1 _ e3
 subst e1 e3;refine ⟨a,cap,by rw [List.length_take,Nat.min_eq_left hk],fun hp=>?_⟩;rw [List.length_take] at hp;obtain ⟨g,off,e,hg,hc⟩:=hr (by omega);refine ⟨g,off,e,hg,fun i hi q hq=>?_⟩;rw [List.length_take] at hi;rw [List.getElem_take];exact hc i (by omega) q hq
theorem lim_min {a b:Nat} {v:Value} {ps:TL} (h:yDC a v ps) (k:yDC b v ps):yDC (min a b) v ps:=⟨fun g hg=>Nat.lt_min.2 ⟨h.1 g hg,k.1 g hg⟩,fun p hp g hg=>Nat.lt_min.2 ⟨h.2 p hp g hg,k.2 p hp g hg⟩⟩
structure ShwC (w x:World) (g7:Nat) (v1:Value) (qs:TL) (mid:Nat) (p:PE) (t:PV):Prop where
 b7:Bx x g7 (zA p t) 35
 below:Below w.heap.size w x
 tree:xH x w.heap.size v1 qs
 lim:yDC mid v1 qs
 pe:zO mid x.heap.size x p t
 le:w.heap.size<=mid
 l7:w.heap.size<=g7
 mle:mid<=x.heap.size
theorem rows_drop {α:Type} {f:α->List Value} {m n cap k c2 g:Nat} {w:World} {xs:List α} (h:yM w (.slice (some ⟨g,0,none⟩) n cap) m f xs) (hk:k<=xs.length):yM w (.slice (some ⟨g,k * m,none⟩) (xs.length - k) c2) m f (xs.drop k):=by
 obtain ⟨a',cap',er,hr⟩:=h;injection er with e1 _ e3
 subst e1 e3;refine ⟨_,c2,by rw [List.length_drop],fun hp=>?_⟩;rw [List.length_drop] at hp;obtain ⟨g',off,e,hg,hc⟩:=hr (by omega);injection e with e
 injection e with e1 e2 _
 subst e1 e2;refine ⟨g,k * m,rfl,hg,fun i hi q hq=>?_⟩;rw [List.length_drop] at hi;rw [List.getElem_drop,<- hc (k+i) (by omega) q hq,Nat.add_mul,Nat.zero_add]
theorem put_len (t:List BK) (b:BK):(zGE t b).length<=t.length+1:=by
 unfold zGE
 split
 ·omega
 ·split
  ·omega
  ·simp
theorem put_tree {N lo g g7 mid:Nat} {w w2 x y:World} {c C1:CU} {s S1:CW} {v1:Value} {qs:TL} {p:PE} {t:PV} {B:Option Obj} (hic:InB N lo w x c s) (h2:xG lo w2.heap.size w2 c s) (hX:ShwC w2 x g7 v1 qs mid p t) (hlo:lo<=w2.heap.size)
  (e1:C1={ c with tree:=bks qs }) (e2:S1={ s with treeV:=v1,tree:=qs }) (hg:x.grownBy y (some N)) (hk:Bx y N (zR C1 S1) 90) (hgl:g < w2.heap.size) (hgB:w2.heap[g]?=B) (hgN:g ≠ N) (hN:N < w2.heap.size) :
  InB N lo w y C1 S1/\xG lo mid y C1 S1/\Bx y g7 (zA p t) 35/\zO mid y.heap.size y p t/\y.heap[g]?=B:=by
 have hfN:FrS (fun k=>k=N) x y:=FrS.of_grown hg (fun k e=>by cases e;rfl);have hxy:x.heap.size<=y.heap.size:=hg.size
 have hmid:mid<=x.heap.size:=by
  exact hX.mle
 have ho:xG lo mid y C1 S1:=by
  rw [e1,e2]
  exact ((h2.below hX.below).boxT hic.box hg).setTree hX.le (Nat.le_trans hmid hxy) ((hX.tree.frs hfN (fun k hk e=>by have:=(zCE hX.tree hk).1;omega)).base hlo) (fun k hk=>⟨(zCE hX.tree hk).1,by
   rcases hk with hk | ⟨q,hq,hk⟩
   ·exact hX.lim.1 k hk
   ·exact hX.lim.2 q hq k hk⟩) hlo
 refine ⟨⟨hk,ho.wide (Nat.le_trans hmid hxy) (nl _),hic.fr.trans hfN⟩,ho,(hg.block _ (gl hX.b7) (fun e=>by have e:=Option.some.inj e;have:=hX.l7;omega)).trans hX.b7,(hX.pe.frs hfN (fun k hk e=>by obtain ⟨a,ha,ea⟩:=hk;have:=(zED hX.pe.2.1 a ha k ea).1;have:=hX.le;omega)).wide hxy (nl _),(hg.block _ (Nat.lt_of_lt_of_le hgl hX.below.size) (fun e=>hgN (Option.some.inj e))).trans ((hX.below.block g hgl).trans hgB)⟩
theorem put_pend {N lo g7:Nat} {w z x1 x2:World} {c:CU} {s:CW} {v:Value} {l:List CM} {A:Array Value} (hz:InW N lo w z c s) (h7:Bx z g7 A 35) (hb:Below z.heap.size z x1) (hlo:lo<=z.heap.size) (ho:x1.ownsRow z.heap.size 130 3 v l.length (zE kL l))
  (hg:x1.grownBy x2 (some N)) (hk:Bx x2 N (zR { c with pend:=l } { s with pend:=v }) 90):InW N lo w x2 { c with pend:=l } { s with pend:=v }/\Bx x2 g7 A 35:=by
 have hx:=hz.more hb;have h71:=(hb.block _ (gl h7)).trans h7;have ho2:=World.ownsRow.kept ho hg (zH ho hx.box (by decide));refine ⟨⟨hk,((hz.own.below hb).boxT hx.box hg).setPend2 (Nat.le_trans hb.size hg.size) (nl _) (zN ho2 hlo) (fun g e=>⟨(ho.lt g e).1,Nat.lt_of_lt_of_le (ho.lt g e).2 hg.size⟩) hlo,hx.fr.trans (FrS.of_grown hg (fun k e=>by cases e;exact Or.inl rfl))⟩,(hg.block _ (gl h71) (fun e=>?_)).trans h71⟩;have e:=Option.some.inj e;have hb:=hx.box;rw [<- e] at hb;exact absurd (h71.symm.trans hb) (by simp)
theorem show_p (c:CU) (s:CW) (N lo hi:Nat) (i:Int) (w:World) (hbox:Bx w N (zR c s) 90) (hown:xG lo hi w c s) (hlo:lo<=hi) (hok:showOk c) :
  Calls Tryz.prog 140 #[.pointer (some ⟨N,0,none⟩),.int .i64 i] w fun e w'=>e=.returned (.bool (showC c i).2)/\∃ s',InW N lo w w' (showC c i).1 s':=by
 have HI:Hid (InB N lo w w c s):=InB.start hbox hown;have HLO:Hid (lo<=w.heap.size):=Nat.le_trans hlo hown.size;have HOK:=hid hok;obtain ⟨R,hR⟩:∃ R,R=showC c i:=⟨_,rfl⟩;have HR:Hid (R=showC c i):=hR;rw [<- hR];clear hbox hown hlo hok hR
 by_cases hh:xT c i=true
 ·have hin:0<=i/\i < c.peers.length:=by
   unfold xT at hh;have:=zDF (Bool.and_eq_true _ _ ▸ hh).1;omega
  obtain ⟨j,hj⟩:∃ j:Nat,i=(j:Int):=⟨i.toNat,by omega⟩;subst hj;have hjn:j < c.peers.length:=by omega
  have HHB:Hid (xT c (j:Int)=true):=hh;obtain ⟨g,cap,p,t,hpv,hpt,hpa,hpr,hrg,hgl,hlg,⟨cur,hcur,hcs⟩,hcap⟩:=(HI.out.own).peerAt hjn;have HPR:=hid hpr;have HRG:=hid hrg;have HCU:Hid (Bx w g cur 35/\j * 21+21<=cur.size):=⟨hcur,hcs⟩;have HPV:Hid (s.peersV=.slice (some ⟨g,0,none⟩) c.peers.length cap):=hpv;have HPA:Hid (zCJ c (j:Int)=p):=hpa;have HGL:Hid (g < w.heap.size/\lo<=g/\c.peers.length<=cap):=⟨hgl,hlg,hcap⟩;have hpm:p∈c.peers:=by rw [<- hpa];unfold zCJ;rw [show ((j:Int)).toNat=j by omega,List.getElem?_eq_getElem hjn];exact List.getElem_mem hjn
  have HSP:Hid (yDG p/\yC p):=HOK.out.peers p hpm;have q0:(0:Int)<=(j:Int):=by omega
  have q1:(j:Int) < (c.peers.length:Int):=by omega
  clear hh hin hpr hrg hcur hcs hpv hpa hpt hgl hlg hcap hpm
  by_cases hr:readyB p c.n c.chain=true
  ·have HRB:Hid (readyB p c.n c.chain=true):=hr;obtain ⟨an,cn,en,-⟩:=yL HI.out.own.net;have HEN:Hid (s.net=.slice an c.net.length cn):=en;obtain ⟨Z,hZ⟩:∃ Z,Z=wrap64 ((c.net.length:Int)+c.n):=⟨_,rfl⟩;have HZZ:Hid (IntKind.i64.wrap ((c.net.length:Int)+c.n)=Z):=hid (by rw [IntKind.wrap_i64,hZ];unfold wrap64;rfl);clear hr en;obtain ⟨ZB,hZB⟩:∃ ZB,ZB=decide ((60:Int) < Z):=⟨_,rfl⟩;have HZB:Hid (ZB=decide ((60:Int) < Z)/\Z=wrap64 ((c.net.length:Int)+c.n)):=⟨hZB,hZ⟩;clear hZ;go_enter Tryz.func140,Tryz.ntmps140
   go_upto_region 1 with fail
   refine zT (fun _=>true) (fun x=>Bx x N (zR c s) 90/\x.heap[g]?=w.heap[g]?) (by kernel_rfl) ?_;show zX Tryz.prog _ _ _ _ _ (37+1) (Array.replicate 38 false) _ _;have K:∀ x,Below w.heap.size w x->Bx x N (zR c s) 90/\x.heap[g]?=w.heap[g]?:=fun x hb=>⟨(HI.out.more hb).box,hb.block g HGL.out.1⟩
   have hd0:Below w.heap.size w w.drew:=(br _ _).drew;have hS:=K w.drew hd0;refine zD 0 9 (.pointer (some ⟨N,0,none⟩)) hS ?_;refine zD 1 10 (.pointer (some ⟨N,0,none⟩)) hS ?_;refine zD 2 11 (.agg (zR c s)) hS ?_ (hy:=fun x hx=>zM _ _ rfl N rfl _ _ _ _ hx.1 Tryz.underlying90 rfl (by kernel_rfl));refine zD 3 12 (.int .i64 (j:Int)) hS ?_;refine kJ 4 13 145 #[.agg (zR c s),.int .i64 (j:Int)] ((zHB c s (j:Int) w.drew (HI.out.more hd0).own.reads HOK.out.lpeers).mono ?_);rintro e w1 ⟨rfl,hb0⟩;rw [HHB.out];have hb1:Below w.heap.size w w1:=bt hd0 hb0;clear hS;have hS:=K w1 hb1;refine ⟨_,rfl,fun _=>hS,?_⟩;simp only [pz];refine zD 5 14 (.bool false) hS ?_;refine zD 6 15 (.bool false) hS ?_;refine zD 7 16 (.pointer (some ⟨N,0,none⟩)) hS ?_;refine zD 8 17 (.pointer (some ⟨N,0,none⟩)) hS ?_;refine zD 9 18 (.pointer (some ⟨N,4,none⟩)) hS ?_;refine zD 10 19 (.slice (some ⟨g,0,none⟩) c.peers.length cap) hS ?_ (hy:=by intro x hx;have c4:=zB hx.1 4 s.peersV rfl;rw [HPV.out] at c4;go_simp;try with_reducible rfl);refine zD 11 20 (.int .i64 (j:Int)) hS ?_;refine zD 12 21 (.pointer (some ⟨g,j * 21,none⟩)) hS ?_;refine zD 13 22 (.agg (zA p t)) hS ?_ (hy:=fun x hx=>xB _ _ rfl g (j * 21) rfl (peerL p t) _ (qW hx.2 HRG.out) Tryz.underlying35 rfl (by kernel_rfl));refine zD 14 23 (.pointer (some ⟨N,0,none⟩)) hS ?_;refine zD 15 24 (.pointer (some ⟨N,0,none⟩)) hS ?_;refine zD 16 25 (.pointer (some ⟨N,0,none⟩)) hS ?_;refine zD 17 26 (.int .i64 c.n) hS ?_ (hy:=by intro x hx;have c0:=zB hx.1 0 (.int .i64 c.n) rfl;go_simp;try with_reducible rfl);refine zD 18 27 (.pointer (some ⟨N,0,none⟩)) hS ?_;refine zD 19 28 (.pointer (some ⟨N,0,none⟩)) hS ?_;refine zD 20 29 (.pointer (some ⟨N,1,none⟩)) hS ?_;refine zD 21 30 (.bool c.chain) hS ?_ (hy:=by intro x hx;have c1:=zB hx.1 1 (.bool c.chain) rfl;go_simp;try with_reducible rfl);refine kJ 22 31 150 #[.agg (zA p t),.int .i64 c.n,.bool c.chain] ((ready_s p t c.n c.chain w1 HSP.out.1 HOK.out.n (HPR.out.below hb1)).mono ?_);rintro e w2 ⟨rfl,hb0b⟩;rw [HRB.out];have hb2:Below w.heap.size w w2:=bt hb1 hb0b;clear hS;have hS:=K w2 hb2;refine ⟨_,rfl,fun _=>hS,?_⟩;simp only [pz];refine zD 23 32 (.bool false) hS ?_;refine zD 24 33 (.bool false) hS ?_;refine zD 25 34 (.bool false) hS ?_;refine zD 26 35 (.pointer (some ⟨N,0,none⟩)) hS ?_;refine zD 27 36 (.pointer (some ⟨N,0,none⟩)) hS ?_;refine zD 28 37 (.pointer (some ⟨N,5,none⟩)) hS ?_;refine zD 29 38 (.slice an c.net.length cn) hS ?_ (hy:=by intro x hx;have c5:=zB hx.1 5 s.net rfl;rw [HEN.out] at c5;go_simp;try with_reducible rfl);refine zD 30 39 (.int .i64 (c.net.length:Int)) hS ?_;refine zD 31 40 (.pointer (some ⟨N,0,none⟩)) hS ?_;refine zD 32 41 (.pointer (some ⟨N,0,none⟩)) hS ?_;refine zD 33 42 (.pointer (some ⟨N,0,none⟩)) hS ?_;refine zD 34 43 (.int .i64 c.n) hS ?_ (hy:=by intro x hx;have c0:=zB hx.1 0 (.int .i64 c.n) rfl;go_simp;try with_reducible rfl);refine zD 35 44 (.int .i64 Z) hS ?_ (hy:=by intro x hx;have hz:=HZZ.out;go_simp;try with_reducible rfl);refine zD 36 45 (.bool ZB) hS ?_;refine zD 37 46 (.bool ZB) hS ?_;refine zK (by kernel_rfl) ?_ _;have HI2:Hid (InB N lo w w2 c s):=HI.out.more hb2;have HB2:Hid (Below w.heap.size w w2):=hb2
   by_cases hz60:(60:Int) < Z
   ·have HE:Hid (R=(c,false)):=(by rw [HR.out];exact if_neg (fun h=>h.2.2.1 (by rw [<- HZB.out.2];exact hz60)):R=_);have hZT:ZB=true:=by rw [HZB.out.1];exact decide_eq_true hz60
    rw [hZT];go_wp2;go_ret;refine ⟨zL (by rw [HE.out]),s,?_⟩;rw [HE.out];exact (HI.out.more HB2.out).weak
   ·have hZT:ZB=false:=by rw [HZB.out.1];exact decide_eq_false hz60
    have HR2:Hid (R=if showK c (j:Int) < 0 then (c,false) else (jV (showsC c (j:Int)) (zCA (showA c (j:Int)) (showP c (j:Int)) (showK c (j:Int)) c.n),true)):=(by
     rw [HR.out];unfold showC;rw [HPA.out]
     by_cases hk:showK c (j:Int) < 0
     ·rw [if_pos hk,if_neg (fun h=>h.2.2.2 hk)]
     ·rw [if_neg hk,if_pos ⟨HHB.out,HRB.out,by rw [<- HZB.out.2];exact hz60,hk⟩]:R=_)
    have HLO2:Hid (lo<=w2.heap.size):=Nat.le_trans HLO.out HB2.out.size;have HGL2:Hid (g < w2.heap.size):=Nat.lt_of_lt_of_le HGL.out.1 HB2.out.size;rw [hZT];clear hz60 hZT hS K hb0 hb0b hb1 hb2 hd0 hZB;obtain ⟨aq,cq,eq,-⟩:=yL HI2.out.own.pend;have HEQ:Hid (s.pend=.slice aq c.pend.length cq):=eq;have HPF:Hid (s.pend=.slice aq c.pend.length cq/\((∃ gq,aq=some ⟨gq,0,none⟩/\c.pend.length<=cq)∨(aq=none/\c.pend.length=0/\cq=0))):=⟨eq,form_two HI2.out.own.pend eq⟩;have c7:=zB HI2.out.box 7 s.pend rfl;rw [eq] at c7;clear eq;obtain ⟨M,hM⟩:∃ M,M=showM c:=⟨_,rfl⟩;have HM:Hid (M=showM c/\M<=c.pend.length/\M<=4):=hid (by rw [hM];unfold showM;split <;> exact ⟨rfl,by omega,by omega⟩)
    go_upto_if 53 with fail
    go_cut [5] (fun v5 wx=>v5=.int .i64 (M:Int)/\wx=w2)
    case first=>
     by_cases h4:(4:Int) < c.pend.length
     ·have hm4:M=4:=by rw [hM];exact if_pos (by omega)
      go_wp2
      go_meet
      case rel=>exact ⟨by rw [hm4];rfl,rfl⟩
     ·have hm4:M=c.pend.length:=by rw [hM];exact if_neg (by omega)
      go_wp2
      go_meet
      case rel=>exact ⟨by rw [hm4],rfl⟩
    case rest=>
     obtain ⟨rfl,hw⟩:=hcut;obtain rfl:=hw.symm;clear hM c7;obtain ⟨P1,hP1⟩:∃ P1,P1=showP c (j:Int):=⟨_,rfl⟩;obtain ⟨KK,hKK⟩:∃ KK,KK=showK c (j:Int):=⟨_,rfl⟩;obtain ⟨TA,hTA⟩:∃ TA,TA=showA c (j:Int):=⟨_,rfl⟩
     have HSH:Hid (showsP c.tree p (c.pend.take M)=P1/\showsK c.tree p (c.pend.take M)=KK/\zGE c.tree (showB p (c.pend.take M))=TA):=(by
      rw [hP1,hKK,hTA,HM.out.1];unfold showP showK showA;rw [HPA.out]
      exact ⟨rfl,rfl,rfl⟩:_/\_)
     have HSC:Hid (showsC c (j:Int)={ zCG c (j:Int) P1 with tree:=TA,pend:=c.pend.drop M }):=hid (by unfold showsC;rw [<- hP1,<- hTA,HM.out.1]);rw [<- hP1,<- hKK,<- hTA] at HR2;clear hP1 hKK hTA;have HCB:Hid (((c.pend.take M).length:Int)<=1048576/\∀ x∈c.pend.take M,(x.2.1.size:Int)<=1048576):=⟨by have:=HM.out.2.2;rw [List.length_take];omega,fun x hx=>HOK.out.pend.2 x (List.mem_of_mem_take hx)⟩;have hmq:(M:Int)<=cq:=by have:=HPF.out.2;have:=HM.out.2.1;rcases HPF.out.2 with ⟨_,_,h⟩ | ⟨_,h,h'⟩ <;> omega
     have hm0:(0:Int)<=(M:Int):=by omega
     obtain ⟨ci,chi,chz0,chz1,chz2⟩:=info_parts infoCmd
     go_upto_region 6 with fail
     go_cut [6,7,8] (fun v6 v7 v8 wx=>∃ g7 v1 s1 qs mid,v6=v1/\v7=.pointer (some ⟨g7,0,none⟩)/\v8=.int .i64 KK/\bks qs=TA/\ShwC w2 wx g7 v1 qs mid P1 s1)
     case first=>
      refine zT (fun _=>true) (fun x=>Bx x N (zR c s) 90/\x.heap[g]?=w.heap[g]?) (by kernel_rfl) ?_;show zX Tryz.prog _ _ _ _ _ (27+1) (Array.replicate 28 false) _ _;have K:∀ x,Below w2.heap.size w2 x->Bx x N (zR c s) 90/\x.heap[g]?=w.heap[g]?:=fun x hb=>⟨(HI2.out.more hb).box,(bt HB2.out hb).block g HGL.out.1⟩
      have hd0:Below w2.heap.size w2 w2.drew:=(br _ _).drew;have hS:=K w2.drew hd0;refine zD 0 55 (.pointer (some ⟨N,0,none⟩)) hS ?_;refine zD 1 56 (.pointer (some ⟨N,0,none⟩)) hS ?_;refine zD 2 57 (.pointer (some ⟨N,3,none⟩)) hS ?_;refine zD 3 58 s.treeV hS ?_ (hy:=by intro x hx;have c3:=zB hx.1 3 s.treeV rfl;go_simp;try with_reducible rfl);refine zD 4 59 (.pointer (some ⟨N,0,none⟩)) hS ?_;refine zD 5 60 (.pointer (some ⟨N,0,none⟩)) hS ?_;refine zD 6 61 (.pointer (some ⟨N,4,none⟩)) hS ?_;refine zD 7 62 (.slice (some ⟨g,0,none⟩) c.peers.length cap) hS ?_ (hy:=by intro x hx;have c4:=zB hx.1 4 s.peersV rfl;rw [HPV.out] at c4;go_simp;try with_reducible rfl);refine zD 8 63 (.int .i64 (j:Int)) hS ?_;refine zD 9 64 (.pointer (some ⟨g,j * 21,none⟩)) hS ?_;refine zD 10 65 (.agg (zA p t)) hS ?_ (hy:=fun x hx=>xB _ _ rfl g (j * 21) rfl (peerL p t) _ (qW hx.2 HRG.out) Tryz.underlying35 rfl (by kernel_rfl));refine zD 12 67 (.pointer (some ⟨N,0,none⟩)) hS ?_;refine zD 13 68 (.pointer (some ⟨N,0,none⟩)) hS ?_;refine zD 14 69 (.pointer (some ⟨N,7,none⟩)) hS ?_;refine zD 15 70 (.slice aq c.pend.length cq) hS ?_ (hy:=by intro x hx;have c7:=zB hx.1 7 s.pend rfl;rw [HEQ.out] at c7;go_simp;try with_reducible rfl);refine zD 16 71 (.int .i64 (M:Int)) hS ?_
      refine zD 17 72 (.slice aq M cq) hS ?_ (hy:=by
       intro x hx
       rcases HPF.out.2 with ⟨gq,rfl,h⟩ | ⟨rfl,h,h'⟩
       ·go_simp
        try with_reducible rfl
       ·obtain rfl:M=0:=by have:=HM.out.2.1;omega
        subst h';go_simp
        try with_reducible rfl)
      have RD:∀ x,Below w2.heap.size w2 x->yM x (.slice aq M cq) 3 kL (c.pend.take M):=fun x hb=>rows_take (by rw [<- HEQ.out];exact zW kC (HI2.out.more hb).own.pend) HM.out.2.1
      have hlenM:((c.pend.take M).length:Int)<=1048576:=HCB.out.1;refine zFC (i:=11) (j:=24) (by kernel_rfl) ?_ ?_
      ·obtain ⟨y1,hy1⟩:∃ y1,y1=w2.drew.alloc (.cells #[] 130):=⟨_,rfl⟩;have hsy1:Below w2.drew.heap.size w2.drew y1:=by rw [hy1];exact (br _ _).alloc (nl _) _
       have hby1:Below w2.heap.size w2 y1:=bt hd0 hsy1;have oy1:y1.ownsRow w2.heap.size 130 3 (.slice (some ⟨w2.drew.heap.size,0,none⟩) 0 0) ([]:List CM).length (zE kL []):=by rw [hy1];exact zN (yH w2.drew _ _) hd0.size
       refine xU (s:=11) (e':=some 66) rfl rfl rfl (.slice (some ⟨w2.drew.heap.size,0,none⟩) 0 0) y1 ?_ ⟨fun _=>K y1 hby1,?_⟩
       ·rw [hy1];go_simp
        try with_reducible rfl
       simp only [pz];clear hy1;refine zFC (i:=18) (j:=24) (by kernel_rfl) ?_ ?_
       ·refine xS (s:=18) (e':=some 73) rfl rfl rfl (.tmp 66) (.tmp 72) 74 rfl w2.heap.size 130 ci _ 32 Tryz.underlying74 chi chz0 chz1 chz2 rfl (by decide) kC qL (.slice (some ⟨w2.drew.heap.size,0,none⟩) 0 0) [] rfl oy1 _ (c.pend.take M) rfl (RD y1 hby1) (by have h4:=HM.out.2.2;simp only [List.length_take,List.length_nil];unfold maxLen;omega) (by have h4:=HM.out.2.2;simp only [List.length_take,List.length_nil];omega) hby1.size ?_;intro v73 y2 hoy2 hgy2 haty2;simp only [List.nil_append] at hoy2;have hby2:Below w2.heap.size w2 y2:=hby1.grown hgy2 hby1.size (fun k hk=>(oy1.lt k hk).1);refine ⟨fun _=>K y2 hby2,?_⟩;simp only [pz];refine zFC (i:=19) (j:=24) (by kernel_rfl) ?_ ?_
        ·have hbc:Below w2.heap.size w2 y2:=hby2;have hcon:=shows_s s.tree s.treeV p t (c.pend.take M) v73 y2 (HI2.out.more hbc).own.tree.read (by rw [HI2.out.own.etree];exact HOK.out.tree) (HPR.out.below (bt HB2.out hbc)) HSP.out.2 (zW kC hoy2) HCB.out;rw [HI2.out.own.etree,HSH.out.1,HSH.out.2.1,HSH.out.2.2] at hcon;refine zEA (s:=19) (e':=some 74) (fn:=180) (args:=#[s.treeV,.agg (zA p t),v73]) rfl rfl (by kernel_rfl) ?_ (hcon.mono ?_)
         ·go_simp
          try with_reducible rfl
         clear hcon;rintro e yc ⟨v1,s1,rfl,⟨qs,mid0,hqs,hot,hlm0,hod0,hmd0⟩,hsyc⟩;obtain ⟨mid,hmid⟩:∃ mid,mid=min mid0 yc.heap.size:=⟨_,rfl⟩;have hlm:yDC mid v1 qs:=by rw [hmid];exact lim_min hlm0 hot.lim
         have hod:zO mid yc.heap.size yc P1 s1:=hod0.low (by rw [hmid];exact Nat.min_le_left _ _);have hmd:=Nat.le_min.2 ⟨hmd0,hsyc.size⟩;have hmx:mid<=yc.heap.size:=by rw [hmid];exact Nat.min_le_right _ _
         rw [<- hmid] at hmd;clear hlm0 hod0 hmd0 hmid;have hbyc:Below w2.heap.size w2 yc:=bt hbc hsyc;refine ⟨_,rfl,fun _=>K yc hbyc,?_⟩;simp only [pz];refine zD 20 54 (.tuple #[v1,yZ P1 s1,.int .i64 KK]) (K yc hbyc) ?_;refine zD 21 75 v1 (K yc hbyc) ?_;refine zD 22 76 (.agg (zA P1 s1)) (K yc hbyc) ?_;refine zD 23 77 (.int .i64 KK) (K yc hbyc) ?_;refine kG (i:=24) (by kernel_rfl) ?_;obtain ⟨y3,hy3⟩:∃ y3,y3=yc.alloc (.cells zF 35):=⟨_,rfl⟩;have hsy3:Below yc.heap.size yc y3:=by rw [hy3];exact (br _ _).alloc (nl _) _
         have hby3:Below w2.heap.size w2 y3:=bt hbyc hsy3;have b7y3:Bx y3 yc.heap.size zF 35:=by rw [hy3];exact heap_alloc_new yc _
         refine xU (s:=24) (e':=some 7) rfl rfl rfl (.pointer (some ⟨yc.heap.size,0,none⟩)) y3 ?_ ⟨fun _=>K y3 hby3,?_⟩
         ·rw [hy3];unfold zF;go_simp
          try with_reducible rfl
         simp only [pz];clear hy3;have ocy3:=hod.below hsy3;have tty3:=hot.below hsy3;refine zD 25 6 v1 (K y3 hby3) ?_;have h7:w2.heap.size<=yc.heap.size:=hbyc.size;refine xW (s:=26) (N:=yc.heap.size) (o:=0) (cells:=zA P1 s1) (old:=zF) (new:=zA P1 s1) rfl rfl rfl rfl (by kernel_rfl) rfl rfl b7y3 (by kernel_rfl) (by simp [zA,zF]) (zJ ocy3.1) rfl ?_;intro z2 hg hk7;have hb2:Below w2.heap.size w2 z2:=hby3.grown hg hby3.size (fun k e=>by cases e;exact h7);refine ⟨fun _=>K z2 hb2,?_⟩;refine zD 27 8 (.int .i64 KK) (K z2 hb2) ?_;refine zK (by kernel_rfl) ?_ _;go_wp2
         go_meet
         case rel=>exact ⟨_,v1,s1,qs,mid,rfl,rfl,rfl,hqs,hk7,hb2,(tty3.boxed b7y3 hg).base hbc.size,hlm,(ocy3.boxed b7y3 hg).wide (Nat.le_trans (ocy3.boxed b7y3 hg).2.2 (nl _)) (nl _),Nat.le_trans hbc.size hmd,h7,Nat.le_trans hmx (by first | exact hg.size | exact Nat.le_trans hsy3.size hg.size)⟩
        ·obtain ⟨y4,hy4⟩:∃ y4,y4=y2.alloc (.cells zF 35):=⟨_,rfl⟩;have hsy4:Below y2.heap.size y2 y4:=by rw [hy4];exact (br _ _).alloc (nl _) _
         have hby4:Below w2.heap.size w2 y4:=bt hby2 hsy4;have b7y4:Bx y4 y2.heap.size zF 35:=by rw [hy4];exact heap_alloc_new y2 _
         refine xU (s:=24) (e':=some 7) rfl rfl rfl (.pointer (some ⟨y2.heap.size,0,none⟩)) y4 ?_ ⟨fun _=>K y4 hby4,?_⟩
         ·rw [hy4];unfold zF;go_simp
          try with_reducible rfl
         simp only [pz];clear hy4;have rry4:=zS hoy2 hsy4;refine kG (i:=19) (by kernel_rfl) ?_;have hbc:Below w2.heap.size w2 y4:=hby4;have hcon:=shows_s s.tree s.treeV p t (c.pend.take M) v73 y4 (HI2.out.more hbc).own.tree.read (by rw [HI2.out.own.etree];exact HOK.out.tree) (HPR.out.below (bt HB2.out hbc)) HSP.out.2 (zW kC rry4) HCB.out;rw [HI2.out.own.etree,HSH.out.1,HSH.out.2.1,HSH.out.2.2] at hcon;refine zEA (s:=19) (e':=some 74) (fn:=180) (args:=#[s.treeV,.agg (zA p t),v73]) rfl rfl (by kernel_rfl) ?_ (hcon.mono ?_)
         ·go_simp
          try with_reducible rfl
         clear hcon;rintro e yc ⟨v1,s1,rfl,⟨qs,mid0,hqs,hot,hlm0,hod0,hmd0⟩,hsyc⟩;obtain ⟨mid,hmid⟩:∃ mid,mid=min mid0 yc.heap.size:=⟨_,rfl⟩;have hlm:yDC mid v1 qs:=by rw [hmid];exact lim_min hlm0 hot.lim
         have hod:zO mid yc.heap.size yc P1 s1:=hod0.low (by rw [hmid];exact Nat.min_le_left _ _);have hmd:=Nat.le_min.2 ⟨hmd0,hsyc.size⟩;have hmx:mid<=yc.heap.size:=by rw [hmid];exact Nat.min_le_right _ _
         rw [<- hmid] at hmd;clear hlm0 hod0 hmd0 hmid;have hbyc:Below w2.heap.size w2 yc:=bt hbc hsyc;refine ⟨_,rfl,fun _=>K yc hbyc,?_⟩;simp only [pz];have b7yc:=(hsyc.block _ (gl b7y4)).trans b7y4;refine zD 20 54 (.tuple #[v1,yZ P1 s1,.int .i64 KK]) (K yc hbyc) ?_;refine zD 21 75 v1 (K yc hbyc) ?_;refine zD 22 76 (.agg (zA P1 s1)) (K yc hbyc) ?_;refine zD 23 77 (.int .i64 KK) (K yc hbyc) ?_;refine zD 25 6 v1 (K yc hbyc) ?_;have h7:w2.heap.size<=y2.heap.size:=hby2.size;refine xW (s:=26) (N:=y2.heap.size) (o:=0) (cells:=zA P1 s1) (old:=zF) (new:=zA P1 s1) rfl rfl rfl rfl (by kernel_rfl) rfl rfl b7yc (by kernel_rfl) (by simp [zA,zF]) (zJ hod.1) rfl ?_;intro z2 hg hk7;have hb2:Below w2.heap.size w2 z2:=hbyc.grown hg hbyc.size (fun k e=>by cases e;exact h7);refine ⟨fun _=>K z2 hb2,?_⟩;refine zD 27 8 (.int .i64 KK) (K z2 hb2) ?_;refine zK (by kernel_rfl) ?_ _;go_wp2
         go_meet
         case rel=>exact ⟨_,v1,s1,qs,mid,rfl,rfl,rfl,hqs,hk7,hb2,(hot.boxed b7yc hg).base hbc.size,hlm,(hod.boxed b7yc hg).wide (Nat.le_trans (hod.boxed b7yc hg).2.2 (nl _)) (nl _),Nat.le_trans hbc.size hmd,h7,Nat.le_trans hmx (by first | exact hg.size | exact Nat.le_trans hg.size hg.size)⟩
       ·obtain ⟨y5,hy5⟩:∃ y5,y5=y1.alloc (.cells zF 35):=⟨_,rfl⟩;have hsy5:Below y1.heap.size y1 y5:=by rw [hy5];exact (br _ _).alloc (nl _) _
        have hby5:Below w2.heap.size w2 y5:=bt hby1 hsy5;have b7y5:Bx y5 y1.heap.size zF 35:=by rw [hy5];exact heap_alloc_new y1 _
        refine xU (s:=24) (e':=some 7) rfl rfl rfl (.pointer (some ⟨y1.heap.size,0,none⟩)) y5 ?_ ⟨fun _=>K y5 hby5,?_⟩
        ·rw [hy5];unfold zF;go_simp
         try with_reducible rfl
        simp only [pz];clear hy5;have rry5:=zS oy1 hsy5;refine kG (i:=18) (by kernel_rfl) ?_;refine xS (s:=18) (e':=some 73) rfl rfl rfl (.tmp 66) (.tmp 72) 74 rfl w2.heap.size 130 ci _ 32 Tryz.underlying74 chi chz0 chz1 chz2 rfl (by decide) kC qL (.slice (some ⟨w2.drew.heap.size,0,none⟩) 0 0) [] rfl rry5 _ (c.pend.take M) rfl (RD y5 hby5) (by have h4:=HM.out.2.2;simp only [List.length_take,List.length_nil];unfold maxLen;omega) (by have h4:=HM.out.2.2;simp only [List.length_take,List.length_nil];omega) hby5.size ?_;intro v73 y6 hoy6 hgy6 haty6;simp only [List.nil_append] at hoy6;have hby6:Below w2.heap.size w2 y6:=hby5.grown hgy6 hby5.size (fun k hk=>(rry5.lt k hk).1);refine ⟨fun _=>K y6 hby6,?_⟩;simp only [pz];have b7y6:=(hgy6.block _ (gl b7y5) (fun e=>(zH rry5 b7y5 (by decide)).elim (fun h=>by rw [h] at e;cases e) (fun h=>h e.symm))).trans b7y5;refine kG (i:=19) (by kernel_rfl) ?_;have hbc:Below w2.heap.size w2 y6:=hby6;have hcon:=shows_s s.tree s.treeV p t (c.pend.take M) v73 y6 (HI2.out.more hbc).own.tree.read (by rw [HI2.out.own.etree];exact HOK.out.tree) (HPR.out.below (bt HB2.out hbc)) HSP.out.2 (zW kC hoy6) HCB.out;rw [HI2.out.own.etree,HSH.out.1,HSH.out.2.1,HSH.out.2.2] at hcon;refine zEA (s:=19) (e':=some 74) (fn:=180) (args:=#[s.treeV,.agg (zA p t),v73]) rfl rfl (by kernel_rfl) ?_ (hcon.mono ?_)
        ·go_simp
         try with_reducible rfl
        clear hcon;rintro e yc ⟨v1,s1,rfl,⟨qs,mid0,hqs,hot,hlm0,hod0,hmd0⟩,hsyc⟩;obtain ⟨mid,hmid⟩:∃ mid,mid=min mid0 yc.heap.size:=⟨_,rfl⟩;have hlm:yDC mid v1 qs:=by rw [hmid];exact lim_min hlm0 hot.lim
        have hod:zO mid yc.heap.size yc P1 s1:=hod0.low (by rw [hmid];exact Nat.min_le_left _ _);have hmd:=Nat.le_min.2 ⟨hmd0,hsyc.size⟩;have hmx:mid<=yc.heap.size:=by rw [hmid];exact Nat.min_le_right _ _
        rw [<- hmid] at hmd;clear hlm0 hod0 hmd0 hmid;have hbyc:Below w2.heap.size w2 yc:=bt hbc hsyc;refine ⟨_,rfl,fun _=>K yc hbyc,?_⟩;simp only [pz];have b7yc:=(hsyc.block _ (gl b7y6)).trans b7y6;refine zD 20 54 (.tuple #[v1,yZ P1 s1,.int .i64 KK]) (K yc hbyc) ?_;refine zD 21 75 v1 (K yc hbyc) ?_;refine zD 22 76 (.agg (zA P1 s1)) (K yc hbyc) ?_;refine zD 23 77 (.int .i64 KK) (K yc hbyc) ?_;refine zD 25 6 v1 (K yc hbyc) ?_;have h7:w2.heap.size<=y1.heap.size:=hby1.size;refine xW (s:=26) (N:=y1.heap.size) (o:=0) (cells:=zA P1 s1) (old:=zF) (new:=zA P1 s1) rfl rfl rfl rfl (by kernel_rfl) rfl rfl b7yc (by kernel_rfl) (by simp [zA,zF]) (zJ hod.1) rfl ?_;intro z2 hg hk7;have hb2:Below w2.heap.size w2 z2:=hbyc.grown hg hbyc.size (fun k e=>by cases e;exact h7);refine ⟨fun _=>K z2 hb2,?_⟩;refine zD 27 8 (.int .i64 KK) (K z2 hb2) ?_;refine zK (by kernel_rfl) ?_ _;go_wp2
        go_meet
        case rel=>exact ⟨_,v1,s1,qs,mid,rfl,rfl,rfl,hqs,hk7,hb2,(hot.boxed b7yc hg).base hbc.size,hlm,(hod.boxed b7yc hg).wide (Nat.le_trans (hod.boxed b7yc hg).2.2 (nl _)) (nl _),Nat.le_trans hbc.size hmd,h7,Nat.le_trans hmx (by first | exact hg.size | exact Nat.le_trans hg.size hg.size)⟩
      ·obtain ⟨y7,hy7⟩:∃ y7,y7=w2.drew.alloc (.cells zF 35):=⟨_,rfl⟩;have hsy7:Below w2.drew.heap.size w2.drew y7:=by rw [hy7];exact (br _ _).alloc (nl _) _
       have hby7:Below w2.heap.size w2 y7:=bt hd0 hsy7;have b7y7:Bx y7 w2.drew.heap.size zF 35:=by rw [hy7];exact heap_alloc_new w2.drew _
       refine xU (s:=24) (e':=some 7) rfl rfl rfl (.pointer (some ⟨w2.drew.heap.size,0,none⟩)) y7 ?_ ⟨fun _=>K y7 hby7,?_⟩
       ·rw [hy7];unfold zF;go_simp
        try with_reducible rfl
       simp only [pz];clear hy7;refine kG (i:=11) (by kernel_rfl) ?_;obtain ⟨y8,hy8⟩:∃ y8,y8=y7.alloc (.cells #[] 130):=⟨_,rfl⟩;have hsy8:Below y7.heap.size y7 y8:=by rw [hy8];exact (br _ _).alloc (nl _) _
       have hby8:Below w2.heap.size w2 y8:=bt hby7 hsy8;have oy8:y8.ownsRow w2.heap.size 130 3 (.slice (some ⟨y7.heap.size,0,none⟩) 0 0) ([]:List CM).length (zE kL []):=by rw [hy8];exact zN (yH y7 _ _) hby7.size
       refine xU (s:=11) (e':=some 66) rfl rfl rfl (.slice (some ⟨y7.heap.size,0,none⟩) 0 0) y8 ?_ ⟨fun _=>K y8 hby8,?_⟩
       ·rw [hy8];go_simp
        try with_reducible rfl
       simp only [pz];clear hy8;have b7y8:=(hsy8.block _ (gl b7y7)).trans b7y7;refine kG (i:=18) (by kernel_rfl) ?_;refine xS (s:=18) (e':=some 73) rfl rfl rfl (.tmp 66) (.tmp 72) 74 rfl w2.heap.size 130 ci _ 32 Tryz.underlying74 chi chz0 chz1 chz2 rfl (by decide) kC qL (.slice (some ⟨y7.heap.size,0,none⟩) 0 0) [] rfl oy8 _ (c.pend.take M) rfl (RD y8 hby8) (by have h4:=HM.out.2.2;simp only [List.length_take,List.length_nil];unfold maxLen;omega) (by have h4:=HM.out.2.2;simp only [List.length_take,List.length_nil];omega) hby8.size ?_;intro v73 y9 hoy9 hgy9 haty9;simp only [List.nil_append] at hoy9;have hby9:Below w2.heap.size w2 y9:=hby8.grown hgy9 hby8.size (fun k hk=>(oy8.lt k hk).1);refine ⟨fun _=>K y9 hby9,?_⟩;simp only [pz];have b7y9:=(hgy9.block _ (gl b7y8) (fun e=>(zH oy8 b7y8 (by decide)).elim (fun h=>by rw [h] at e;cases e) (fun h=>h e.symm))).trans b7y8;refine kG (i:=19) (by kernel_rfl) ?_;have hbc:Below w2.heap.size w2 y9:=hby9;have hcon:=shows_s s.tree s.treeV p t (c.pend.take M) v73 y9 (HI2.out.more hbc).own.tree.read (by rw [HI2.out.own.etree];exact HOK.out.tree) (HPR.out.below (bt HB2.out hbc)) HSP.out.2 (zW kC hoy9) HCB.out;rw [HI2.out.own.etree,HSH.out.1,HSH.out.2.1,HSH.out.2.2] at hcon;refine zEA (s:=19) (e':=some 74) (fn:=180) (args:=#[s.treeV,.agg (zA p t),v73]) rfl rfl (by kernel_rfl) ?_ (hcon.mono ?_)
       ·go_simp
        try with_reducible rfl
       clear hcon;rintro e yc ⟨v1,s1,rfl,⟨qs,mid0,hqs,hot,hlm0,hod0,hmd0⟩,hsyc⟩;obtain ⟨mid,hmid⟩:∃ mid,mid=min mid0 yc.heap.size:=⟨_,rfl⟩;have hlm:yDC mid v1 qs:=by rw [hmid];exact lim_min hlm0 hot.lim
       have hod:zO mid yc.heap.size yc P1 s1:=hod0.low (by rw [hmid];exact Nat.min_le_left _ _);have hmd:=Nat.le_min.2 ⟨hmd0,hsyc.size⟩;have hmx:mid<=yc.heap.size:=by rw [hmid];exact Nat.min_le_right _ _
       rw [<- hmid] at hmd;clear hlm0 hod0 hmd0 hmid;have hbyc:Below w2.heap.size w2 yc:=bt hbc hsyc;refine ⟨_,rfl,fun _=>K yc hbyc,?_⟩;simp only [pz];have b7yc:=(hsyc.block _ (gl b7y9)).trans b7y9;refine zD 20 54 (.tuple #[v1,yZ P1 s1,.int .i64 KK]) (K yc hbyc) ?_;refine zD 21 75 v1 (K yc hbyc) ?_;refine zD 22 76 (.agg (zA P1 s1)) (K yc hbyc) ?_;refine zD 23 77 (.int .i64 KK) (K yc hbyc) ?_;refine zD 25 6 v1 (K yc hbyc) ?_;have h7:w2.heap.size<=w2.drew.heap.size:=nl _;refine xW (s:=26) (N:=w2.drew.heap.size) (o:=0) (cells:=zA P1 s1) (old:=zF) (new:=zA P1 s1) rfl rfl rfl rfl (by kernel_rfl) rfl rfl b7yc (by kernel_rfl) (by simp [zA,zF]) (zJ hod.1) rfl ?_;intro z2 hg hk7;have hb2:Below w2.heap.size w2 z2:=hbyc.grown hg hbyc.size (fun k e=>by cases e;exact h7);refine ⟨fun _=>K z2 hb2,?_⟩;refine zD 27 8 (.int .i64 KK) (K z2 hb2) ?_;refine zK (by kernel_rfl) ?_ _;go_wp2
       go_meet
       case rel=>exact ⟨_,v1,s1,qs,mid,rfl,rfl,rfl,hqs,hk7,hb2,(hot.boxed b7yc hg).base hbc.size,hlm,(hod.boxed b7yc hg).wide (Nat.le_trans (hod.boxed b7yc hg).2.2 (nl _)) (nl _),Nat.le_trans hbc.size hmd,h7,Nat.le_trans hmx (by first | exact hg.size | exact Nat.le_trans hg.size hg.size)⟩
     case rest=>
      obtain ⟨g7,v1,s1,qs,mid,h6,rfl,rfl,hqs,hX⟩:=hcut;obtain rfl:=h6.symm;have HX:=hid hX;have HQS:Hid (bks qs=TA):=hqs;have HIC:Hid (InB N lo w wc c s):=HI2.out.more hX.below;clear hX hqs
      by_cases hkk:KK < 0
      ·have HE:Hid (R=(c,false)):=(by rw [HR2.out,if_pos hkk]:R=_);go_wp2;go_ret;refine ⟨zL (by rw [HE.out]),s,?_⟩;rw [HE.out];exact HIC.out.weak
      ·have HE:Hid (R=(jV (showsC c (j:Int)) (zCA TA P1 KK c.n),true)):=(by rw [HR2.out,if_neg hkk]:R=_);clear HR2;have HNL:Hid (N < w2.heap.size):=(gl HI2.out.box);have HGN:Hid (g ≠ N):=hid (by intro e;have hn:=HI2.out.box;rw [<- e] at hn;exact absurd (hn.symm.trans ((HB2.out.block g HGL.out.1).trans HCU.out.1)) (by simp));obtain ⟨C1,hC1⟩:∃ C1:CU,C1={ c with tree:=bks qs }:=⟨_,rfl⟩;obtain ⟨S1,hS1⟩:∃ S1:CW,S1={ s with treeV:=v1,tree:=qs }:=⟨_,rfl⟩;have HCS:Hid (C1={ c with tree:=bks qs }/\S1={ s with treeV:=v1,tree:=qs }):=⟨hC1,hS1⟩;have HAR:Hid ((zR c s).setIfInBounds 3 v1=zR C1 S1):=hid (by rw [hC1,hS1];rfl);clear hC1 hS1
       go_upto_region 10 with (refine zU rfl _ _ _ rfl N 3 v1 rfl rfl _ _ HIC.out.box (by kernel_rfl) (by simp [zR]) (jI HX.out.tree.row) (zR C1 S1) HAR.out ?_;intro y hg hk;have HY:Hid (InB N lo w y C1 S1/\xG lo mid y C1 S1/\Bx y g7 (zA P1 s1) 35/\zO mid y.heap.size y P1 s1/\y.heap[g]?=w.heap[g]?):=put_tree HIC.out HI2.out.own HX.out HLO2.out HCS.out.1 HCS.out.2 hg hk HGL2.out (HB2.out.block g HGL.out.1) HGN.out HNL.out;clear hg hk)
       have HPV1:Hid (S1.peersV=.slice (some ⟨g,0,none⟩) C1.peers.length cap/\C1.peers.length=c.peers.length):=hid (by rw [HCS.out.1,HCS.out.2];exact ⟨HPV.out,rfl⟩);refine zT (fun i=>decide (i < 7)) (fun x=>Bx x N (zR C1 S1) 90/\Bx x g7 (zA P1 s1) 35) (by kernel_rfl) ?_;show zX Tryz.prog _ _ _ _ _ (7+1) (Array.replicate 8 false) _ _;have hS:Bx y.drew N (zR C1 S1) 90/\Bx y.drew g7 (zA P1 s1) 35:=⟨HY.out.1.box,HY.out.2.2.1⟩;have q2:(j:Int) < (C1.peers.length:Int):=by rw [HPV1.out.2];exact q1
       refine zD 0 84 (.pointer (some ⟨N,0,none⟩)) hS ?_;refine zD 1 85 (.pointer (some ⟨N,0,none⟩)) hS ?_;refine zD 2 86 (.pointer (some ⟨N,4,none⟩)) hS ?_;refine zD 3 87 (.slice (some ⟨g,0,none⟩) C1.peers.length cap) hS ?_ (hy:=by intro x hx;have c4:=zB hx.1 4 S1.peersV rfl;rw [HPV1.out.1] at c4;go_simp;try with_reducible rfl);refine zD 4 88 (.int .i64 (j:Int)) hS ?_;refine zD 5 89 (.agg (zA P1 s1)) hS ?_ (hy:=fun x hx=>zM _ _ rfl g7 rfl _ _ _ _ hx.2 Tryz.underlying35 rfl (by kernel_rfl));refine zD 6 90 (.pointer (some ⟨g,j * 21,none⟩)) hS ?_;have hcy:Bx y.drew g cur 35:=HY.out.2.2.2.2.trans HCU.out.1;refine xW (s:=7) (N:=g) (o:=j * 21) (cells:=zA P1 s1) (old:=cur) (new:=yBB cur (j * 21) (zA P1 s1)) rfl rfl rfl rfl (by kernel_rfl) rfl rfl hcy (by kernel_rfl) (by have:=HCU.out.2;simpa [zA] using this) (zJ HY.out.2.2.2.1.1) rfl ?_;intro z hg hk;have hdy:Below y.heap.size y y.drew:=(br _ _).drew;obtain ⟨C2,hC2⟩:∃ C2,C2=zCG C1 (j:Int) P1:=⟨_,rfl⟩;obtain ⟨S2,hS2⟩:∃ S2:CW,S2={ S1 with peers:=S1.peers.set j (P1,s1) }:=⟨_,rfl⟩
       have HZ:Hid (InW N lo w z C2 S2/\Bx z g7 (zA P1 s1) 35):=(by
        have hp:=put_peer (HY.out.1.more hdy) HY.out.2.1 hdy (Nat.le_trans HLO2.out HX.out.le) HPV1.out.1 HGL.out.2.1 (by rw [HPV1.out.2];exact hjn) hcy hg hk ((HY.out.2.2.2.1.below hdy).wide (Nat.le_trans HY.out.2.2.2.1.2.2 hdy.size) (nl _)) hS.1 (by decide);rw [hC2,hS2]
        exact ⟨hp.1,(hg.block _ (gl hS.2) (fun e=>by have e:=Option.some.inj e;have:=HX.out.l7;have:=HGL2.out;omega)).trans hS.2⟩:_/\_)
       have HC2:Hid (C2.pend=c.pend/\S2.pend=s.pend/\C2.n=c.n/\C2.net=c.net/\C2={ zCG c (j:Int) P1 with tree:=TA }/\S2.treeV=v1/\S2.tree=qs):=hid (by rw [hC2,hS2,HCS.out.1,HCS.out.2,HQS.out];exact ⟨rfl,rfl,rfl,rfl,rfl,rfl,rfl⟩);clear hg hk hS hC2 hS2 hdy hcy HY HPV1 HCS HAR HIC;refine ⟨fun h=>absurd h (by decide),?_⟩;refine zK (by kernel_rfl) ?_ _;have hmn:(M:Int)<=(c.pend.length:Int):=by have:=HM.out.2.1;omega
       have hpl:=HOK.out.pend.1
       go_upto_region 11 with fail
       go_cut [] (fun wx=>∃ S3,InW N lo w wx { C2 with pend:=c.pend.drop M } S3/\S3.treeV=v1/\S3.tree=qs/\Bx wx g7 (zA P1 s1) 35)
       case first=>
        obtain ⟨Y,hY⟩:∃ Y,Y=z.alloc (.cells #[] 130):=⟨_,rfl⟩;have HYB:Hid (Below z.heap.size z Y/\Y.ownsRow z.heap.size 130 3 (.slice (some ⟨z.heap.size,0,none⟩) 0 0) ([]:List CM).length (zE kL [])):=hid (by rw [hY];exact ⟨yA _ _,yH z _ _⟩);have HYI:Hid (InW N lo w Y C2 S2/\Bx Y g7 (zA P1 s1) 35):=⟨HZ.out.1.more HYB.out.1,(HYB.out.1.block _ (gl HZ.out.2)).trans HZ.out.2⟩
        have HYP:Hid (yM Y (.slice aq c.pend.length cq) 3 kL c.pend):=(by
         have h:=zW kC HYI.out.1.own.pend;rw [HC2.out.1,HC2.out.2.1,HEQ.out] at h
         exact h:yM _ _ _ _ _)
        have HNW:Hid (lo<=z.heap.size):=Nat.le_trans HLO.out HZ.out.1.fr.size;have c7:Y.cell? ⟨N,7,none⟩=some (.slice aq c.pend.length cq):=by rw [<- HEQ.out,<- HC2.out.2.1];exact zB HYI.out.1.box 7 S2.pend rfl
        rcases HPF.out.2 with ⟨gq,rfl,hcap2⟩ | ⟨rfl,hl0,hc0⟩
        ·by_cases hcq:cq=M
         ·have hcm:c.pend.length=M:=by have:=HM.out.2.1;omega
          have hdr:c.pend.drop M=[]:=List.drop_of_length_le (by omega)
          go_wp2_with (first
           | (rw [<- hY];clear hY)
           | (at_builtin;refine yU _ rfl _ _ 74 rfl z.heap.size 130 ci _ 32 Tryz.underlying74 chi chz0 chz1 chz2 rfl (by decide) kC qL _ [] rfl HYB.out.2 _ (c.pend.drop M) rfl (by rw [hdr];exact ⟨_,_,rfl,fun h=>absurd h (by simp)⟩) (by simp only [List.length_drop,List.length_nil];unfold maxLen;omega) (by simp only [List.length_drop,List.length_nil];omega) HYB.out.1.size ?_;intro vq x1 ho hg;have HQ1:Hid (x1.ownsRow z.heap.size 130 3 vq (c.pend.drop M).length (zE kL (c.pend.drop M))/\Below z.heap.size z x1):=⟨by simpa using ho,HYB.out.1.grown hg HYB.out.1.size (fun k hk=>(HYB.out.2.lt k hk).1)⟩;clear ho hg)
           | (refine zU rfl _ _ _ rfl N 7 vq rfl rfl _ _ (HZ.out.1.more HQ1.out.2).box (by kernel_rfl) (by simp [zR]) (jI HQ1.out.1) (zR { C2 with pend:=c.pend.drop M } { S2 with pend:=vq }) rfl ?_;intro x2 hg hk;have HQ2:Hid (InW N lo w x2 { C2 with pend:=c.pend.drop M } { S2 with pend:=vq }/\Bx x2 g7 (zA P1 s1) 35):=put_pend HZ.out.1 HZ.out.2 HQ1.out.2 HNW.out HQ1.out.1 hg hk;clear hg hk))
          go_meet
          case rel=>exact ⟨_,HQ2.out.1,HC2.out.2.2.2.2.2.1,HC2.out.2.2.2.2.2.2,HQ2.out.2⟩
         ·have hcn:¬ cq=M:=hcq
          go_wp2_with (first
           | (rw [<- hY];clear hY)
           | (at_builtin;refine yU _ rfl _ _ 74 rfl z.heap.size 130 ci _ 32 Tryz.underlying74 chi chz0 chz1 chz2 rfl (by decide) kC qL _ [] rfl HYB.out.2 _ (c.pend.drop M) rfl (rows_drop HYP.out HM.out.2.1) (by simp only [List.length_drop,List.length_nil];unfold maxLen;omega) (by simp only [List.length_drop,List.length_nil];omega) HYB.out.1.size ?_;intro vq x1 ho hg;have HQ1:Hid (x1.ownsRow z.heap.size 130 3 vq (c.pend.drop M).length (zE kL (c.pend.drop M))/\Below z.heap.size z x1):=⟨by simpa using ho,HYB.out.1.grown hg HYB.out.1.size (fun k hk=>(HYB.out.2.lt k hk).1)⟩;clear ho hg)
           | (refine zU rfl _ _ _ rfl N 7 vq rfl rfl _ _ (HZ.out.1.more HQ1.out.2).box (by kernel_rfl) (by simp [zR]) (jI HQ1.out.1) (zR { C2 with pend:=c.pend.drop M } { S2 with pend:=vq }) rfl ?_;intro x2 hg hk;have HQ2:Hid (InW N lo w x2 { C2 with pend:=c.pend.drop M } { S2 with pend:=vq }/\Bx x2 g7 (zA P1 s1) 35):=put_pend HZ.out.1 HZ.out.2 HQ1.out.2 HNW.out HQ1.out.1 hg hk;clear hg hk))
          go_meet
          case rel=>exact ⟨_,HQ2.out.1,HC2.out.2.2.2.2.2.1,HC2.out.2.2.2.2.2.2,HQ2.out.2⟩
        ·have hM0:M=0:=by have:=HM.out.2.1;omega
         subst hM0 hc0;have hdr:c.pend.drop 0=[]:=by rw [List.drop_zero];exact List.eq_nil_of_length_eq_zero hl0
         go_wp2_with (first
          | (rw [<- hY];clear hY)
          | (refine zU rfl _ _ _ rfl N 7 (.slice (some ⟨z.heap.size,0,none⟩) 0 0) rfl rfl _ _ HYI.out.1.box (by kernel_rfl) (by simp [zR]) rfl (zR { C2 with pend:=c.pend.drop 0 } { S2 with pend:=.slice (some ⟨z.heap.size,0,none⟩) 0 0 }) rfl ?_;intro x2 hg hk;have HQ2:Hid (InW N lo w x2 { C2 with pend:=c.pend.drop 0 } { S2 with pend:=.slice (some ⟨z.heap.size,0,none⟩) 0 0 }/\Bx x2 g7 (zA P1 s1) 35):=put_pend HZ.out.1 HZ.out.2 HYB.out.1 HNW.out (by rw [hdr];exact HYB.out.2) hg hk;clear hg hk)
          | (at_builtin;refine yU _ rfl _ _ 74 rfl z.heap.size 130 ci _ 32 Tryz.underlying74 chi chz0 chz1 chz2 rfl (by decide) kC qL _ [] rfl HYB.out.2 _ (c.pend.drop M) rfl (by rw [hdr];exact ⟨_,_,rfl,fun h=>absurd h (by simp)⟩) (by simp only [List.length_drop,List.length_nil];unfold maxLen;omega) (by simp only [List.length_drop,List.length_nil];omega) HYB.out.1.size ?_;intro vq x1 ho hg;have HQ1:Hid (x1.ownsRow z.heap.size 130 3 vq (c.pend.drop M).length (zE kL (c.pend.drop M))/\Below z.heap.size z x1):=⟨by simpa using ho,HYB.out.1.grown hg HYB.out.1.size (fun k hk=>(HYB.out.2.lt k hk).1)⟩;clear ho hg)
          | (refine zU rfl _ _ _ rfl N 7 vq rfl rfl _ _ (HZ.out.1.more HQ1.out.2).box (by kernel_rfl) (by simp [zR]) (jI HQ1.out.1) (zR { C2 with pend:=c.pend.drop M } { S2 with pend:=vq }) rfl ?_;intro x2 hg hk;have HQ2:Hid (InW N lo w x2 { C2 with pend:=c.pend.drop M } { S2 with pend:=vq }/\Bx x2 g7 (zA P1 s1) 35):=put_pend HZ.out.1 HZ.out.2 HQ1.out.2 HNW.out HQ1.out.1 hg hk;clear hg hk))
         go_meet
         case rel=>exact ⟨_,HQ2.out.1,HC2.out.2.2.2.2.2.1,HC2.out.2.2.2.2.2.2,HQ2.out.2⟩
       case rest=>
        obtain ⟨S3,hI3,hS3v,hS3t,hB3⟩:=hcut;obtain ⟨C3,hC3⟩:∃ C3:CU,C3={ C2 with pend:=c.pend.drop M }:=⟨_,rfl⟩;rw [<- hC3] at hI3;have HC3:Hid (C3=showsC c (j:Int)/\C3.n=c.n/\C3.net=c.net):=hid (by rw [hC3,HSC.out,HC2.out.2.2.2.2.1];exact ⟨rfl,rfl,rfl⟩);have HI3:Hid (InW N lo w wc C3 S3/\Bx wc g7 (zA P1 s1) 35):=⟨hI3,hB3⟩;have HT3:Hid (jB wc v1 qs):=hid (by have h:=hI3.own.reads.tree;rw [hS3v,hS3t] at h;exact h);clear hI3 hS3v hS3t hB3 hC3 HC2 HZ
        go_upto_region 12 with fail
        refine zT (fun i=>decide (i < 9)) (fun x=>Bx x N (zR C3 S3) 90/\Bx x g7 (zA P1 s1) 35) (by kernel_rfl) ?_;show zX Tryz.prog _ _ _ _ _ (9+1) (Array.replicate 10 false) _ _;have hS:Bx wc.drew N (zR C3 S3) 90/\Bx wc.drew g7 (zA P1 s1) 35:=⟨HI3.out.1.box,HI3.out.2⟩;have hdd:Below wc.heap.size wc wc.drew:=(br _ _).drew;refine zD 0 102 (.pointer (some ⟨N,0,none⟩)) hS ?_;refine zD 1 103 v1 hS ?_;refine zD 2 104 (.agg (zA P1 s1)) hS ?_ (hy:=fun x hx=>zM _ _ rfl g7 rfl _ _ _ _ hx.2 Tryz.underlying35 rfl (by kernel_rfl));refine zD 3 105 (.int .i64 KK) hS ?_;refine zD 4 106 (.pointer (some ⟨N,0,none⟩)) hS ?_;refine zD 5 107 (.pointer (some ⟨N,0,none⟩)) hS ?_;refine zD 6 108 (.pointer (some ⟨N,0,none⟩)) hS ?_;refine zD 7 109 (.int .i64 c.n) hS ?_ (hy:=by intro x hx;have c0:=zB hx.1 0 (.int .i64 C3.n) rfl;rw [HC3.out.2.1] at c0;go_simp;try with_reducible rfl);have hcon:=shownTo_s qs v1 P1 s1 KK c.n wc.drew (HT3.out.below hdd) (by rw [<- yO,HQS.out,<- HSH.out.2.2];have:=put_len c.tree (showB p (c.pend.take M));have:=HOK.out.ltree;omega);rw [HQS.out] at hcon;refine kJ 8 110 182 #[v1,.agg (zA P1 s1),.int .i64 KK,.int .i64 c.n] (hcon.mono ?_);rintro e x8 ⟨v8,rfl,hl8,hb8⟩;have hbx:Below wc.heap.size wc x8:=hdd.trans hb8;have HI8:Hid (InW N lo w x8 C3 S3):=HI3.out.1.more hbx;refine ⟨_,rfl,fun _=>⟨HI8.out.box,(hbx.block _ (gl HI3.out.2)).trans HI3.out.2⟩,?_⟩;simp only [pz];refine kJ 9 111 181 #[.pointer (some ⟨N,0,none⟩),v8] ((post_p C3 S3 N lo x8.heap.size (zCA TA P1 KK c.n) v8 x8 HI8.out.box HI8.out.own (Nat.le_trans HLO.out HI8.out.fr.size) (zW xP hl8) (by rw [HC3.out.2.2];exact HOK.out.net) (by unfold zCA;rw [zJG];have:=many_le c.n;omega)).mono ?_);rintro e x9 ⟨rfl,s9,hin⟩;have HIN:Hid (InW N lo w x9 (jV C3 (zCA TA P1 KK c.n)) s9):=HI8.out.trans hin.weak;refine ⟨_,rfl,fun h=>absurd h (by decide),?_⟩;refine zK (by kernel_rfl) ?_ _;go_wp2;go_ret;refine ⟨zL (by rw [HE.out]),s9,?_⟩;rw [HE.out,<- HC3.out.1];exact HIN.out
  ·have HRB:Hid (readyB p c.n c.chain=false):=hid (by simpa using hr);have HE:Hid (R=(c,false)):=(by rw [HR.out];exact if_neg (fun h=>hr (by rw [<- HPA.out];exact h.2.1)):R=_);clear hr HR;go_enter Tryz.func140,Tryz.ntmps140
   go_upto_region 1 with fail
   refine zT (fun _=>true) (fun x=>Bx x N (zR c s) 90/\x.heap[g]?=w.heap[g]?) (by kernel_rfl) ?_;show zX Tryz.prog _ _ _ _ _ (37+1) (Array.replicate 38 false) _ _;have K:∀ x,Below w.heap.size w x->Bx x N (zR c s) 90/\x.heap[g]?=w.heap[g]?:=fun x hb=>⟨(HI.out.more hb).box,hb.block g HGL.out.1⟩
   have hd0:Below w.heap.size w w.drew:=(br _ _).drew;have hS:=K w.drew hd0;refine zD 0 9 (.pointer (some ⟨N,0,none⟩)) hS ?_;refine zD 1 10 (.pointer (some ⟨N,0,none⟩)) hS ?_;refine zD 2 11 (.agg (zR c s)) hS ?_ (hy:=fun x hx=>zM _ _ rfl N rfl _ _ _ _ hx.1 Tryz.underlying90 rfl (by kernel_rfl));refine zD 3 12 (.int .i64 (j:Int)) hS ?_;refine kJ 4 13 145 #[.agg (zR c s),.int .i64 (j:Int)] ((zHB c s (j:Int) w.drew (HI.out.more hd0).own.reads HOK.out.lpeers).mono ?_);rintro e w1 ⟨rfl,hb0⟩;rw [HHB.out];have hb1:Below w.heap.size w w1:=bt hd0 hb0;clear hS;have hS:=K w1 hb1;refine ⟨_,rfl,fun _=>hS,?_⟩;simp only [pz];refine zD 5 14 (.bool false) hS ?_;refine zD 6 15 (.bool false) hS ?_;refine zD 7 16 (.pointer (some ⟨N,0,none⟩)) hS ?_;refine zD 8 17 (.pointer (some ⟨N,0,none⟩)) hS ?_;refine zD 9 18 (.pointer (some ⟨N,4,none⟩)) hS ?_;refine zD 10 19 (.slice (some ⟨g,0,none⟩) c.peers.length cap) hS ?_ (hy:=by intro x hx;have c4:=zB hx.1 4 s.peersV rfl;rw [HPV.out] at c4;go_simp;try with_reducible rfl);refine zD 11 20 (.int .i64 (j:Int)) hS ?_;refine zD 12 21 (.pointer (some ⟨g,j * 21,none⟩)) hS ?_;refine zD 13 22 (.agg (zA p t)) hS ?_ (hy:=fun x hx=>xB _ _ rfl g (j * 21) rfl (peerL p t) _ (qW hx.2 HRG.out) Tryz.underlying35 rfl (by kernel_rfl));refine zD 14 23 (.pointer (some ⟨N,0,none⟩)) hS ?_;refine zD 15 24 (.pointer (some ⟨N,0,none⟩)) hS ?_;refine zD 16 25 (.pointer (some ⟨N,0,none⟩)) hS ?_;refine zD 17 26 (.int .i64 c.n) hS ?_ (hy:=by intro x hx;have c0:=zB hx.1 0 (.int .i64 c.n) rfl;go_simp;try with_reducible rfl);refine zD 18 27 (.pointer (some ⟨N,0,none⟩)) hS ?_;refine zD 19 28 (.pointer (some ⟨N,0,none⟩)) hS ?_;refine zD 20 29 (.pointer (some ⟨N,1,none⟩)) hS ?_;refine zD 21 30 (.bool c.chain) hS ?_ (hy:=by intro x hx;have c1:=zB hx.1 1 (.bool c.chain) rfl;go_simp;try with_reducible rfl);refine kJ 22 31 150 #[.agg (zA p t),.int .i64 c.n,.bool c.chain] ((ready_s p t c.n c.chain w1 HSP.out.1 HOK.out.n (HPR.out.below hb1)).mono ?_);rintro e w2 ⟨rfl,hb0b⟩;rw [HRB.out];have hb2:Below w.heap.size w w2:=bt hb1 hb0b;clear hS;have hS:=K w2 hb2;refine ⟨_,rfl,fun _=>hS,?_⟩;simp only [pz];refine zD 23 32 (.bool true) hS ?_;refine zD 24 33 (.bool true) hS ?_;refine zD 25 34 (.bool true) hS ?_;refine xE 26 35 hS ?_;refine xE 27 36 hS ?_;refine xE 28 37 hS ?_;refine xE 29 38 hS ?_;refine xE 30 39 hS ?_;refine xE 31 40 hS ?_;refine xE 32 41 hS ?_;refine xE 33 42 hS ?_;refine xE 34 43 hS ?_;refine xE 35 44 hS ?_;refine xE 36 45 hS ?_;refine zD 37 46 (.bool true) hS ?_;refine zK (by kernel_rfl) ?_ _;go_wp2;go_ret;refine ⟨zL (by rw [HE.out]),s,?_⟩;rw [HE.out];exact (HI.out.more hb2).weak
 ·have HHB:Hid (xT c i=false):=hid (by simpa using hh);have HE:Hid (R=(c,false)):=(by rw [HR.out];exact if_neg (fun h=>hh h.1):R=_);clear hh HR;go_enter Tryz.func140,Tryz.ntmps140
  go_upto_region 1 with fail
  refine zT (fun _=>true) (fun x=>Bx x N (zR c s) 90) (by kernel_rfl) ?_;show zX Tryz.prog _ _ _ _ _ (37+1) (Array.replicate 38 false) _ _;have K:∀ x,Below w.heap.size w x->Bx x N (zR c s) 90:=fun x hb=>(HI.out.more hb).box
  have hd0:Below w.heap.size w w.drew:=(br _ _).drew;have hS:=K w.drew hd0;refine zD 0 9 (.pointer (some ⟨N,0,none⟩)) hS ?_;refine zD 1 10 (.pointer (some ⟨N,0,none⟩)) hS ?_;refine zD 2 11 (.agg (zR c s)) hS ?_ (hy:=fun x hx=>zM _ _ rfl N rfl _ _ _ _ hx Tryz.underlying90 rfl (by kernel_rfl));refine zD 3 12 (.int .i64 i) hS ?_;refine kJ 4 13 145 #[.agg (zR c s),.int .i64 i] ((zHB c s i w.drew (HI.out.more hd0).own.reads HOK.out.lpeers).mono ?_);rintro e w1 ⟨rfl,hb0⟩;rw [HHB.out];have hb1:Below w.heap.size w w1:=bt hd0 hb0;clear hS;have hS:=K w1 hb1;refine ⟨_,rfl,fun _=>hS,?_⟩;simp only [pz];refine zD 5 14 (.bool true) hS ?_;refine zD 6 15 (.bool true) hS ?_;refine xE 7 16 hS ?_;refine xE 8 17 hS ?_;refine xE 9 18 hS ?_;refine xE 10 19 hS ?_;refine xE 11 20 hS ?_;refine xE 12 21 hS ?_;refine xE 13 22 hS ?_;refine xE 14 23 hS ?_;refine xE 15 24 hS ?_;refine xE 16 25 hS ?_;refine xE 17 26 hS ?_;refine xE 18 27 hS ?_;refine xE 19 28 hS ?_;refine xE 20 29 hS ?_;refine xE 21 30 hS ?_;refine xE 22 31 hS ?_;refine xE 23 32 hS ?_;refine zD 24 33 (.bool true) hS ?_;refine zD 25 34 (.bool true) hS ?_;refine xE 26 35 hS ?_;refine xE 27 36 hS ?_;refine xE 28 37 hS ?_;refine xE 29 38 hS ?_;refine xE 30 39 hS ?_;refine xE 31 40 hS ?_;refine xE 32 41 hS ?_;refine xE 33 42 hS ?_;refine xE 34 43 hS ?_;refine xE 35 44 hS ?_;refine xE 36 45 hS ?_;refine zD 37 46 (.bool true) hS ?_;refine zK (by kernel_rfl) ?_ _;go_wp2;go_ret;refine ⟨zL (by rw [HE.out]),s,?_⟩;rw [HE.out];exact (HI.out.more hb1).weak
end Go.Proofs.YtdopefimjabigadGreat
