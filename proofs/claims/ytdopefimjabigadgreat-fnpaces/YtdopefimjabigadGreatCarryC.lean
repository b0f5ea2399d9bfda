/-
  A text of ours: CarryC.
-/
import Derived.Test.YtdopefimjabigadGreatK1
import Derived.Test.YtdopefimjabigadGreatSaidC
import Derived.Test.YtdopefimjabigadGreatWaitC
set_option maxRecDepth 100000
set_option maxHeartbeats 32000000
namespace Go.Proofs.YtdopefimjabigadGreat
open Go.RowKit Num
structure carryOk (c:CU):Prop where
 net:(c.net.length:Int)<=1048576
 lpeers:(c.peers.length:Int)<=1048576
 n:0<=c.n/\c.n<=7
 ltree:(c.tree.length:Int)<=1048576
 tree:okT c.tree
 peers:∀ p∈c.peers,jZ p+wtB c.tree<=1048576/\yC p/\(p.votes.length:Int)+1<=1048576/\-9223372036854775808<=p.view/\p.view < 9223372036854775807
 qcs:∀ l∈c.net,fitQ l.2.1
 said:(c.said.length:Int)+7<=1048575
theorem carryOk.out {c:CU} (h:carryOk c) (k:Int):carryOk (zAC c k):=by
 unfold zAC
 split
 ·refine ⟨?_,h.lpeers,h.n,h.ltree,h.tree,h.peers,fun l hl=>?_,h.said⟩
  ·have:=h.net;have h1:(c.net.take k.toNat ++ c.net.drop (k.toNat+1)).length<=c.net.length:=by rw [List.length_append,List.length_take,List.length_drop];omega
   show ((c.net.take k.toNat ++ c.net.drop (k.toNat+1)).length:Int)<=1048576;omega
  ·rcases List.mem_append.1 hl with hl | hl
   ·exact h.qcs l (List.mem_of_mem_take hl)
   ·exact h.qcs l (List.mem_of_mem_drop hl)
 ·exact h
theorem leadV_many (p:PE) (n:Int) (v:VT) (hn:n<=7):(zCF p n v).2.length<=7:=by
 unfold zCF leadR leadQ
 split
 ·split
  ·split
   ·simp
   ·show (zAH _ _ n.toNat).length<=7;rw [says_len];omega
  ·simp
 ·simp
theorem lead_many (t:List BK) (n:Int) (p:PE) (l:LT) (hn:n<=7):(kZ t n p l).2.length<=7:=by
 unfold kZ
 split
 ·split
  ·exact leadV_many _ _ _ hn
  ·split <;> simp
 ·simp
theorem next_many (p:PE) (a b c d:Int):(zIG p a b c d).2.length<=7:=by unfold zIG;split <;> simp
theorem hear_many (c:CU) (p:PE) (l:LT) (hn:c.n<=7):(zFA c p l).2.length<=7:=by
 unfold zFA
 split
 ·unfold xI
  split
  ·split
   ·exact lead_many _ _ _ _ hn
   ·split
    ·exact lead_many _ _ _ _ hn
    ·split
     ·simp
     ·split
      ·unfold yBD
       split
       ·unfold votesH;simp
       ·simp
      ·simp
  ·simp
 ·unfold qC
  split
  ·split
   ·exact lead_many _ _ _ _ hn
   ·split
    ·split
     ·unfold qcH
      split
      ·exact next_many _ _ _ _ _
      ·split
       ·exact next_many _ _ _ _ _
       ·split <;> simp
     ·unfold blockH
      split <;> simp
    ·simp
  ·simp
theorem say_said (c:CU) (l:LT):(yFD c l).said.length<=c.said.length+1:=by
 have h1:(if l.1.1=2 then zHF c l.2.2 else c).said.length<=c.said.length+1:=by
  split
  ·unfold zHF
   split
   ·omega
   ·simp
  ·omega
 unfold yFD
 generalize (if l.1.1=2 then zHF c l.2.2 else c)=d at h1 ⊢
 unfold jV
 split <;> exact h1
theorem say_net (c:CU) (l:LT) (h:(c.net.length:Int)<=1048576):((yFD c l).net.length:Int)<=1048576:=by
 have h1:(if l.1.1=2 then zHF c l.2.2 else c).net.length=c.net.length:=by
  split
  ·unfold zHF
   split <;> rfl
  ·rfl
 unfold yFD
 generalize (if l.1.1=2 then zHF c l.2.2 else c)=d at h1 ⊢
 unfold jV
 split
 ·rw [h1];exact h
 ·rename_i hn
  show ((d.net ++ [l]).length:Int)<=1048576;rw [List.length_append];omega
theorem sayAll_said (c:CU):∀ ls:List LT,(zIC c ls).said.length<=c.said.length+ls.length:=by
 intro ls
 induction ls generalizing c with
 | nil=>exact nl _
 | cons l ls ih=>
  have:=ih (yFD c l);have:=say_said c l;show (zIC (yFD c l) ls).said.length<=_;simp only [List.length_cons];omega
theorem sayAll_net (ls:List LT):∀ c:CU,(c.net.length:Int)<=1048576->((zIC c ls).net.length:Int)<=1048576:=by
 induction ls with
 | nil=>exact fun _ h=>h
 | cons l ls ih=>exact fun c h=>ih (yFD c l) (say_net c l h)
theorem sayAll_snoc (c:CU) {ls:List LT} {m:Nat} (h:m < ls.length):zIC c (ls.take (m+1))=yFD (zIC c (ls.take m)) ls[m]:=by
 unfold zIC;rw [List.take_succ_eq_append_getElem h,List.foldl_append]
 rfl
theorem carry_p (c:CU) (s:CW) (N lo hi:Nat) (k:Int) (w:World) (hbox:Bx w N (zR c s) 90) (hown:xG lo hi w c s) (hlo:lo<=hi) (hok:carryOk c) (hwk:(Lit.int .i64 k).wf=true) :
  Calls Tryz.prog 141 #[.pointer (some ⟨N,0,none⟩),.int .i64 k] w fun e w'=>e=.returned (.bool (carryC c k).2)/\∃ s',InW N lo w w' (carryC c k).1 s':=by
 have HLO:Hid (lo<=w.heap.size):=Nat.le_trans hlo hown.size;have HOK:=hid hok;obtain ⟨R,hR⟩:∃ R,R=carryC c k:=⟨_,rfl⟩;have HR:Hid (R=carryC c k):=hR;rw [<- hR];clear hR;go_enter Tryz.func141,Tryz.ntmps141;go_wp2_with fail
 refine (out_p c s N lo hi k w hbox hown hlo hok.net hwk).mono ?_;clear hbox hown hlo hok;rintro e w1 ⟨rfl,s1,hin⟩;have HI1:=hid hin;clear hin
 by_cases hk:0<=k/\k < c.net.length
 ·have HE:Hid (R=(if xT (zAC c k) (zBH c k).1.2.2.1=true then heardC (zAC c k) (zBH c k) else zAC c k,true)):=(by rw [HR.out];exact if_pos hk:R=_);have HB:outB c k=true:=decide_eq_true hk;rw [HB]
  have HFQ:Hid (fitQ (zBH c k).2.1):=(by
   have hkn:k.toNat < c.net.length:=by omega
   have:zBH c k=c.net[k.toNat]:=by unfold zBH;rw [List.getElem?_eq_getElem hkn];exact if_pos hk.1
   rw [this]
   exact HOK.out.qcs _ (List.getElem_mem hkn):fitQ (zBH c k).2.1)
  have HOC:Hid (carryOk (zAC c k)):=HOK.out.out k;obtain ⟨C1,hC1⟩:∃ C1,C1=zAC c k:=⟨_,rfl⟩;obtain ⟨L,hL⟩:∃ L,L=zBH c k:=⟨_,rfl⟩;rw [<- hC1] at HI1 HOC HE;rw [<- hL] at HFQ HE ⊢;clear hC1 hL HB HOK hk
  go_wp2_with (first
   | (refine w_st w1.heap.size (zQ L) (heap_alloc_new w1 _) (kD _) ?_;intro w2 hg hk hz;have HI2:Hid (InB N lo w w2 C1 s1/\Bx w2 w1.heap.size (zQ L) 37):=⟨HI1.out.more (yB hg),hk⟩;clear hg hk hz))
  obtain ⟨g5,hg5⟩:∃ g5,g5=w1.heap.size:=⟨_,rfl⟩;rw [<- hg5] at HI2 ⊢;clear hg5 HI1;refine zT (fun i=>decide (i < 7)) (fun x=>Bx x N (zR C1 s1) 90/\Bx x g5 (zQ L) 37) (by kernel_rfl) ?_;show zX Tryz.prog _ _ _ _ _ (6+1) (Array.replicate 7 false) _ _;have hS:Bx w2.drew N (zR C1 s1) 90/\Bx w2.drew g5 (zQ L) 37:=⟨HI2.out.1.box,HI2.out.2⟩;refine zD 0 17 (.pointer (some ⟨N,0,none⟩)) hS ?_;refine zD 1 18 (.pointer (some ⟨N,0,none⟩)) hS ?_;refine zD 2 19 (.agg (zR C1 s1)) hS ?_ (hy:=fun x hx=>zM _ _ rfl N rfl _ _ _ _ hx.1 Tryz.underlying90 rfl (by kernel_rfl));refine zD 3 20 (.pointer (some ⟨g5,2,none⟩)) hS ?_;refine zD 4 21 (.int .i64 L.1.2.2.1) hS ?_ (hy:=by intro x hx;have c2:=zB hx.2 2 (.int .i64 L.1.2.2.1) rfl;go_simp;try with_reducible rfl);refine kJ 5 22 145 #[.agg (zR C1 s1),.int .i64 L.1.2.2.1] ((zHB C1 s1 L.1.2.2.1 w2.drew (HI2.out.1.more (br _ _).drew).own.reads HOC.out.lpeers).mono ?_);rintro e w3 ⟨rfl,hb0⟩;have hb3:Below w2.heap.size w2 w3:=((br _ _).drew).trans hb0;have HI3:Hid (InB N lo w w3 C1 s1/\Bx w3 g5 (zQ L) 37):=⟨HI2.out.1.more hb3,(hb3.block _ (gl HI2.out.2)).trans HI2.out.2⟩;clear hb0 hb3 hS HI2;refine ⟨_,rfl,fun _=>⟨HI3.out.1.box,HI3.out.2⟩,?_⟩;simp only [pz]
  by_cases hh:xT C1 L.1.2.2.1=true
  ·rw [hh];have HE1:Hid (R=(heardC C1 L,true)):=(by rw [HE.out,if_pos hh]:R=_)
   have hin:0<=L.1.2.2.1/\L.1.2.2.1 < C1.peers.length:=by
    unfold xT at hh;have:=zDF (Bool.and_eq_true _ _ ▸ hh).1;omega
   obtain ⟨j,hj⟩:∃ j:Nat,(j:Int)=L.1.2.2.1:=⟨L.1.2.2.1.toNat,by omega⟩;have hjn:j < C1.peers.length:=by omega
   have HJ:Hid ((j:Int)=L.1.2.2.1):=hj;clear hh hin hj HE;refine zD 6 23 (.bool false) ⟨HI3.out.1.box,HI3.out.2⟩ ?_;refine zK (by kernel_rfl) ?_ _;obtain ⟨g,cap,p,t,hpv,hpt,hpa,hpr,hrg,hgl,hlg,⟨cur,hcur,hcs⟩,hcap⟩:=(HI3.out.1.own).peerAt hjn;have HPR:=hid hpr;have HRG:=hid hrg;have HCU:Hid (Bx w3 g cur 35/\j * 21+21<=cur.size):=⟨hcur,hcs⟩;have HPV:Hid (s1.peersV=.slice (some ⟨g,0,none⟩) C1.peers.length cap):=hpv;have HPA:Hid (zCJ C1 (j:Int)=p):=hpa;have HGL:Hid (g < w3.heap.size/\lo<=g/\C1.peers.length<=cap):=⟨hgl,hlg,hcap⟩;have hpm:p∈C1.peers:=by rw [<- hpa];unfold zCJ;rw [show ((j:Int)).toNat=j by omega,List.getElem?_eq_getElem hjn];exact List.getElem_mem hjn
   have HPM:Hid (jZ p+wtB C1.tree<=1048576/\yC p/\(p.votes.length:Int)+1<=1048576/\-9223372036854775808<=p.view/\p.view < 9223372036854775807):=HOC.out.peers p hpm;have q0:(0:Int)<=(j:Int):=by omega
   have q1:(j:Int) < (C1.peers.length:Int):=by omega
   clear hpr hrg hcur hcs hpv hpa hpt hgl hlg hcap hpm;obtain ⟨P1,hP1⟩:∃ P1,P1=(zFA C1 p L).1:=⟨_,rfl⟩;obtain ⟨LS,hLS⟩:∃ LS,LS=(zFA C1 p L).2:=⟨_,rfl⟩;have HML:Hid (LS.length<=7):=hid (by rw [hLS];exact hear_many _ _ _ HOC.out.n.2);have HHE:Hid (zFA C1 p L=(P1,LS)):=hid (by rw [hP1,hLS]);have HEC:Hid (heardC C1 L=zIC (zCG C1 (j:Int) P1) LS):=(by unfold heardC;rw [<- HJ.out,HPA.out,HHE.out]:heardC C1 L=_);clear hP1 hLS;obtain ⟨W,hW⟩:∃ W,W=w3.alloc (.cells #[] 37):=⟨_,rfl⟩;have HWB:Hid (Below w3.heap.size w3 W):=hid (by rw [hW];exact yA _ _)
   go_upto_if 28 with (first | (rw [<- hW];clear hW) | (refine kQ rfl _ _ rfl N 1 (.bool C1.chain) _ _ rfl ((HWB.out.block N (gl HI3.out.1.box)).trans HI3.out.1.box) rfl _ Tryz.underlying4 rfl ?_))
   simp only [pz]
   go_cut [7] (fun v7 wx=>∃ s2,InW N lo w wx (zCG C1 (j:Int) P1) s2/\wx.ownsRow w3.heap.size 37 13 v7 LS.length (zE yE LS))
   case first=>
    by_cases hch:C1.chain=true
    ·rw [hch];have HH:Hid ((xI C1.tree C1.n p L)=(P1,LS)):=hid (by rw [<- HHE.out];unfold zFA;rw [if_pos hch]);clear hch
     go_upto_region 8 with fail
     refine zT (fun _=>true) (fun x=>Bx x N (zR C1 s1) 90/\Bx x g5 (zQ L) 37) (by kernel_rfl) ?_;show zX Tryz.prog _ _ _ _ _ (29+1) (Array.replicate 30 false) _ _;have K:∀ x,Below w3.heap.size w3 x->Bx x N (zR C1 s1) 90/\Bx x g5 (zQ L) 37:=fun x hb=>⟨(HI3.out.1.more hb).box,(hb.block _ (gl HI3.out.2)).trans HI3.out.2⟩
     have hbd:Below w3.heap.size w3 W.drew:=HWB.out.trans ((br _ _).drew);have hS:=K W.drew hbd;refine zD 0 30 (.pointer (some ⟨N,0,none⟩)) hS ?_;refine zD 1 31 (.pointer (some ⟨N,0,none⟩)) hS ?_;refine zD 2 32 (.pointer (some ⟨N,4,none⟩)) hS ?_;refine zD 3 33 (.slice (some ⟨g,0,none⟩) C1.peers.length cap) hS ?_ (hy:=by intro x hx;have c4:=zB hx.1 4 s1.peersV rfl;rw [HPV.out] at c4;go_simp;try with_reducible rfl);refine zD 4 34 (.pointer (some ⟨g5,2,none⟩)) hS ?_;refine zD 5 35 (.int .i64 (j:Int)) hS ?_ (hy:=by intro x hx;have c2:=zB hx.2 2 (.int .i64 L.1.2.2.1) rfl;rw [<- HJ.out] at c2;go_simp;try with_reducible rfl);refine zD 6 36 (.pointer (some ⟨N,0,none⟩)) hS ?_;refine zD 7 37 (.pointer (some ⟨N,0,none⟩)) hS ?_;refine zD 8 38 (.pointer (some ⟨N,3,none⟩)) hS ?_;refine zD 9 39 s1.treeV hS ?_ (hy:=by intro x hx;have c3:=zB hx.1 3 s1.treeV rfl;go_simp;try with_reducible rfl);refine zD 10 40 (.pointer (some ⟨N,0,none⟩)) hS ?_;refine zD 11 41 (.pointer (some ⟨N,0,none⟩)) hS ?_;refine zD 12 42 (.pointer (some ⟨N,0,none⟩)) hS ?_;refine zD 13 43 (.int .i64 C1.n) hS ?_ (hy:=by intro x hx;have c0:=zB hx.1 0 (.int .i64 C1.n) rfl;go_simp;try with_reducible rfl);refine zD 14 44 (.pointer (some ⟨N,0,none⟩)) hS ?_;refine zD 15 45 (.pointer (some ⟨N,0,none⟩)) hS ?_;refine zD 16 46 (.pointer (some ⟨N,4,none⟩)) hS ?_;refine zD 17 47 (.slice (some ⟨g,0,none⟩) C1.peers.length cap) hS ?_ (hy:=by intro x hx;have c4:=zB hx.1 4 s1.peersV rfl;rw [HPV.out] at c4;go_simp;try with_reducible rfl);refine zD 18 48 (.pointer (some ⟨g5,2,none⟩)) hS ?_;refine zD 19 49 (.int .i64 (j:Int)) hS ?_ (hy:=by intro x hx;have c2:=zB hx.2 2 (.int .i64 L.1.2.2.1) rfl;rw [<- HJ.out] at c2;go_simp;try with_reducible rfl);refine zD 20 50 (.pointer (some ⟨g,j * 21,none⟩)) hS ?_;refine zD 22 52 (.agg (zQ L)) hS ?_ (hy:=fun x hx=>zM _ _ rfl g5 rfl _ _ _ _ hx.2 Tryz.underlying37 rfl (by kernel_rfl));refine kG (i:=21) (by kernel_rfl) ?_;refine xU (s:=21) (e':=some 51) rfl rfl rfl (.agg (zA p t)) W.drew (xB _ _ rfl g (j * 21) rfl (peerL p t) _ (qW (hbd.block g HGL.out.1) HRG.out) Tryz.underlying35 rfl (by kernel_rfl)) ⟨fun _=>hS,?_⟩;simp only [pz];have hcon:=chainHear_s s1.tree s1.treeV C1.n p t L W.drew (HI3.out.1.more hbd).own.reads.tree (by have:=HOC.out.ltree;rw [<- HI3.out.1.own.etree,yO] at this;exact this) (by rw [HI3.out.1.own.etree];exact HOC.out.tree) (by rw [HI3.out.1.own.etree];exact HPM.out.1) (HPR.out.below hbd) HPM.out.2.1 HPM.out.2.2.1 HOC.out.n.1 HOC.out.n.2 HFQ.out HPM.out.2.2.2.1 HPM.out.2.2.2.2;rw [HI3.out.1.own.etree,HH.out] at hcon;refine kJ 23 53 9 #[s1.treeV,.int .i64 C1.n,.agg (zA p t),.agg (zQ L)] (hcon.mono ?_);clear hcon;rintro e yc ⟨t1,v1,rfl,hoc,hlc,hbc⟩;have hby:Below w3.heap.size w3 yc:=bt hbd hbc;refine ⟨_,rfl,fun _=>K yc hby,?_⟩;simp only [pz];refine zD 24 29 (.tuple #[yZ P1 t1,v1]) (K yc hby) ?_;refine zD 25 54 (.agg (zA P1 t1)) (K yc hby) ?_;refine zD 26 55 v1 (K yc hby) ?_;refine zD 27 56 (.pointer (some ⟨g,j * 21,none⟩)) (K yc hby) ?_;have hcy:Bx yc g cur 35:=(hby.block g HGL.out.1).trans HCU.out.1;refine xW (s:=28) (N:=g) (o:=j * 21) (cells:=zA P1 t1) (old:=cur) (new:=yBB cur (j * 21) (zA P1 t1)) rfl rfl rfl rfl (by kernel_rfl) rfl rfl hcy (by kernel_rfl) (by have:=HCU.out.2;simpa [zA] using this) (zJ hoc.1) rfl ?_;intro z hg hk;have HZ:=put_peer (HI3.out.1.more hby) HI3.out.1.own hby (Nat.le_trans HLO.out HI3.out.1.fr.size) HPV.out HGL.out.2.1 hjn hcy hg hk (hoc.low hbd.size) (K yc hby).2 (by decide)
     have BZ:Bx z N (zR C1 s1) 90:=(hg.block _ (Array.getElem?_eq_some_iff.1 (K yc hby).1).1 (fun e=>by
      have hn:=(K yc hby).1;rw [Option.some.inj e] at hn
      exact absurd (hn.symm.trans hcy) (by simp))).trans (K yc hby).1
     have HLZ:z.ownsRow w3.heap.size 37 13 v1 LS.length (zE yE LS):=(FrS.of_grown hg (B:=fun k=>k=g) (fun k e=>by cases e;rfl)).own (zN hlc hbd.size) (fun k hk e=>by have:=(hlc.lt k hk).1;have:=HGL.out.1;have:=hbd.size;omega);refine ⟨fun _=>⟨BZ,HZ.2⟩,?_⟩;refine zD 29 7 v1 ⟨BZ,HZ.2⟩ ?_;refine zK (by kernel_rfl) ?_ _;go_wp2
     go_meet
     case rel=>exact ⟨_,HZ.1,HLZ⟩
    ·have hcf:C1.chain=false:=by simpa using hch
     rw [hcf];have HH:Hid ((qC C1.tree C1.n p L)=(P1,LS)):=hid (by rw [<- HHE.out];unfold zFA;rw [if_neg hch]);clear hch hcf
     go_upto_region 9 with fail
     refine zT (fun _=>true) (fun x=>Bx x N (zR C1 s1) 90/\Bx x g5 (zQ L) 37) (by kernel_rfl) ?_;show zX Tryz.prog _ _ _ _ _ (29+1) (Array.replicate 30 false) _ _;have K:∀ x,Below w3.heap.size w3 x->Bx x N (zR C1 s1) 90/\Bx x g5 (zQ L) 37:=fun x hb=>⟨(HI3.out.1.more hb).box,(hb.block _ (gl HI3.out.2)).trans HI3.out.2⟩
     have hbd:Below w3.heap.size w3 W.drew:=HWB.out.trans ((br _ _).drew);have hS:=K W.drew hbd;refine zD 0 58 (.pointer (some ⟨N,0,none⟩)) hS ?_;refine zD 1 59 (.pointer (some ⟨N,0,none⟩)) hS ?_;refine zD 2 60 (.pointer (some ⟨N,4,none⟩)) hS ?_;refine zD 3 61 (.slice (some ⟨g,0,none⟩) C1.peers.length cap) hS ?_ (hy:=by intro x hx;have c4:=zB hx.1 4 s1.peersV rfl;rw [HPV.out] at c4;go_simp;try with_reducible rfl);refine zD 4 62 (.pointer (some ⟨g5,2,none⟩)) hS ?_;refine zD 5 63 (.int .i64 (j:Int)) hS ?_ (hy:=by intro x hx;have c2:=zB hx.2 2 (.int .i64 L.1.2.2.1) rfl;rw [<- HJ.out] at c2;go_simp;try with_reducible rfl);refine zD 6 64 (.pointer (some ⟨N,0,none⟩)) hS ?_;refine zD 7 65 (.pointer (some ⟨N,0,none⟩)) hS ?_;refine zD 8 66 (.pointer (some ⟨N,3,none⟩)) hS ?_;refine zD 9 67 s1.treeV hS ?_ (hy:=by intro x hx;have c3:=zB hx.1 3 s1.treeV rfl;go_simp;try with_reducible rfl);refine zD 10 68 (.pointer (some ⟨N,0,none⟩)) hS ?_;refine zD 11 69 (.pointer (some ⟨N,0,none⟩)) hS ?_;refine zD 12 70 (.pointer (some ⟨N,0,none⟩)) hS ?_;refine zD 13 71 (.int .i64 C1.n) hS ?_ (hy:=by intro x hx;have c0:=zB hx.1 0 (.int .i64 C1.n) rfl;go_simp;try with_reducible rfl);refine zD 14 72 (.pointer (some ⟨N,0,none⟩)) hS ?_;refine zD 15 73 (.pointer (some ⟨N,0,none⟩)) hS ?_;refine zD 16 74 (.pointer (some ⟨N,4,none⟩)) hS ?_;refine zD 17 75 (.slice (some ⟨g,0,none⟩) C1.peers.length cap) hS ?_ (hy:=by intro x hx;have c4:=zB hx.1 4 s1.peersV rfl;rw [HPV.out] at c4;go_simp;try with_reducible rfl);refine zD 18 76 (.pointer (some ⟨g5,2,none⟩)) hS ?_;refine zD 19 77 (.int .i64 (j:Int)) hS ?_ (hy:=by intro x hx;have c2:=zB hx.2 2 (.int .i64 L.1.2.2.1) rfl;rw [<- HJ.out] at c2;go_simp;try with_reducible rfl);refine zD 20 78 (.pointer (some ⟨g,j * 21,none⟩)) hS ?_;refine zD 22 80 (.agg (zQ L)) hS ?_ (hy:=fun x hx=>zM _ _ rfl g5 rfl _ _ _ _ hx.2 Tryz.underlying37 rfl (by kernel_rfl));refine kG (i:=21) (by kernel_rfl) ?_;refine xU (s:=21) (e':=some 79) rfl rfl rfl (.agg (zA p t)) W.drew (xB _ _ rfl g (j * 21) rfl (peerL p t) _ (qW (hbd.block g HGL.out.1) HRG.out) Tryz.underlying35 rfl (by kernel_rfl)) ⟨fun _=>hS,?_⟩;simp only [pz];have hcon:=askHear_s s1.tree s1.treeV C1.n p t L W.drew (HI3.out.1.more hbd).own.reads.tree (by have:=HOC.out.ltree;rw [<- HI3.out.1.own.etree,yO] at this;exact this) (by rw [HI3.out.1.own.etree];exact HOC.out.tree) (by rw [HI3.out.1.own.etree];exact HPM.out.1) (HPR.out.below hbd) HPM.out.2.1 HPM.out.2.2.1 HOC.out.n.1 HOC.out.n.2 HFQ.out HPM.out.2.2.2.1 HPM.out.2.2.2.2;rw [HI3.out.1.own.etree,HH.out] at hcon;refine kJ 23 81 183 #[s1.treeV,.int .i64 C1.n,.agg (zA p t),.agg (zQ L)] (hcon.mono ?_);clear hcon;rintro e yc ⟨t1,v1,rfl,hoc,hlc,hbc⟩;have hby:Below w3.heap.size w3 yc:=bt hbd hbc;refine ⟨_,rfl,fun _=>K yc hby,?_⟩;simp only [pz];refine zD 24 57 (.tuple #[yZ P1 t1,v1]) (K yc hby) ?_;refine zD 25 82 (.agg (zA P1 t1)) (K yc hby) ?_;refine zD 26 83 v1 (K yc hby) ?_;refine zD 27 84 (.pointer (some ⟨g,j * 21,none⟩)) (K yc hby) ?_;have hcy:Bx yc g cur 35:=(hby.block g HGL.out.1).trans HCU.out.1;refine xW (s:=28) (N:=g) (o:=j * 21) (cells:=zA P1 t1) (old:=cur) (new:=yBB cur (j * 21) (zA P1 t1)) rfl rfl rfl rfl (by kernel_rfl) rfl rfl hcy (by kernel_rfl) (by have:=HCU.out.2;simpa [zA] using this) (zJ hoc.1) rfl ?_;intro z hg hk;have HZ:=put_peer (HI3.out.1.more hby) HI3.out.1.own hby (Nat.le_trans HLO.out HI3.out.1.fr.size) HPV.out HGL.out.2.1 hjn hcy hg hk (hoc.low hbd.size) (K yc hby).2 (by decide)
     have BZ:Bx z N (zR C1 s1) 90:=(hg.block _ (Array.getElem?_eq_some_iff.1 (K yc hby).1).1 (fun e=>by
      have hn:=(K yc hby).1;rw [Option.some.inj e] at hn
      exact absurd (hn.symm.trans hcy) (by simp))).trans (K yc hby).1
     have HLZ:z.ownsRow w3.heap.size 37 13 v1 LS.length (zE yE LS):=(FrS.of_grown hg (B:=fun k=>k=g) (fun k e=>by cases e;rfl)).own (zN hlc hbd.size) (fun k hk e=>by have:=(hlc.lt k hk).1;have:=HGL.out.1;have:=hbd.size;omega);refine ⟨fun _=>⟨BZ,HZ.2⟩,?_⟩;refine zD 29 7 v1 ⟨BZ,HZ.2⟩ ?_;refine zK (by kernel_rfl) ?_ _;go_wp2
     go_meet
     case rel=>exact ⟨_,HZ.1,HLZ⟩
   case rest=>
    obtain ⟨s2,hIn,hLs⟩:=hcut;obtain ⟨la,lcap,el,hlf⟩:=yL hLs;subst el;obtain ⟨C2,hC2⟩:∃ C2,C2=zCG C1 (j:Int) P1:=⟨_,rfl⟩;have HC2:Hid (C2.said.length=C1.said.length/\C2.net.length=C1.net.length):=hid (by rw [hC2];exact ⟨rfl,rfl⟩);rw [<- hC2] at hIn HEC;clear hC2;have HIN:Hid (InW N lo w wc C2 s2/\wc.ownsRow w3.heap.size 37 13 (.slice la LS.length lcap) LS.length (zE yE LS)):=⟨hIn,hLs⟩;have HLF:Hid (0 < LS.length->∃ g,la=some ⟨g,0,none⟩):=hlf;have hcapl:LS.length<=lcap:=zJB hLs _ _ _ rfl;have hml:=HML.out;have HCR:Hid ((C1.said.length:Int)+7<=1048575/\(C1.net.length:Int)<=1048576):=⟨HOC.out.said,HOC.out.net⟩;have HLW:Hid (lo<=w.heap.size):=HLO.out;clear hIn hLs hlf HML HI3 HPR HRG HCU HPV HPA HGL HPM HHE HJ HOC HFQ HWB q0 q1 hjn;go_wp2
    go_loopw [8] (fun i wr=>∃ m:Nat,m<=LS.length/\i=.int .i64 (m:Int)/\∃ sx,Hid (InW N lo w wr (zIC C2 (LS.take m)) sx/\wr.ownsRow w3.heap.size 37 13 (.slice la LS.length lcap) LS.length (zE yE LS))) (fun i _=>LS.length - (intOf i).toNat)
    case atStart=>exact ⟨0,Nat.zero_le _,rfl,s2,HIN.out⟩
    case round=>
     obtain ⟨m,hm,rfl,sx,HY⟩:=hrel
     by_cases hlt:(m:Int) < LS.length
     ·have hmn:m < LS.length:=by omega
      obtain ⟨gl,rfl⟩:=HLF.out (by omega);have r0:(0:Int)<=(m:Int):=by omega
      obtain ⟨x,hx⟩:∃ x:LT,x=LS[m]:=⟨_,rfl⟩
      have HRR:Hid (∀ k v,(yE x)[k]?=some v->wr.cell? ⟨gl,m * 13+k,none⟩=some v):=(by
       intro k v hk;obtain ⟨a',cap',er',hr'⟩:=zW xP HY.out.2;injection er' with ea _ ec
       subst ea ec;obtain ⟨g',off,hgo,hg,hc⟩:=hr' (by omega);injection hgo with hgo
       injection hgo with hg1 hg2 _
       subst hg1 hg2;have hk2:k < 13:=(List.getElem?_eq_some_iff.1 hk).1;have:=hc m hmn k hk2;rw [Nat.zero_add,<- hx] at this;rw [this]
       exact hk:∀ k v,_)
      obtain ⟨CM0,hCM0⟩:∃ CM0,CM0=zIC C2 (LS.take m):=⟨_,rfl⟩;have HSN:Hid (zIC C2 (LS.take (m+1))=yFD CM0 x):=hid (by rw [hCM0,hx];exact sayAll_snoc C2 hmn)
      have HBD:Hid ((CM0.said.length:Int)<=1048575/\(CM0.net.length:Int)<=1048576):=(by
       rw [hCM0];have h1:=sayAll_said C2 (LS.take m);have h2:=sayAll_net (LS.take m) C2 (by rw [HC2.out.2];exact HCR.out.2);have h3:(LS.take m).length<=7:=by rw [List.length_take];omega
       have h4:=HC2.out.1;have h5:=HCR.out.1
       exact ⟨by omega,h2⟩:_/\_)
      rw [<- hCM0] at HY;have HX:Hid (LS[m]=x):=hx.symm;clear hx hCM0;have k0:wr.cell? ⟨gl,m * 13,none⟩=some (.int .i64 x.1.1):=HRR.out 0 _ rfl;have hc1:(m:Int)+1<=lcap:=by omega
      have hc2:(m:Int)<=(m:Int)+1:=by omega
      have hc3:m+1<=lcap:=by omega
      have hc4:¬ lcap=m:=by omega
      by_cases h2:x.1.1=2
      ·have b2:(x.1.1 == 2)=true:=by simpa using h2
       have HD:Hid (yFD CM0 x=jV (zHF CM0 x.2.2) [x]):=hid (by unfold yFD;rw [if_pos h2]);clear h2;go_wp2_with (refine wpList_load_mid rfl _ _ rfl gl (m * 13+9) rfl [.int .i64 x.2.2.1,.int .i64 x.2.2.2.1,.int .i64 x.2.2.2.2.1,.int .i64 x.2.2.2.2.2] _ (fun k v hk=>by have hk4:=(List.getElem?_eq_some_iff.1 hk).1;rw [Nat.add_assoc];refine HRR.out (9+k) v ?_;match k,hk4,hk with | 0,_,h=>exact h | 1,_,h=>exact h | 2,_,h=>exact h | 3,_,h=>exact h) Tryz.underlying28 rfl (by kernel_rfl) ?_)
       clear k0 HRR;refine (said_p CM0 sx N lo wr.heap.size x.2.2 wr HY.out.1.box HY.out.1.own (Nat.le_trans HLW.out HY.out.1.fr.size) HBD.out.1).mono ?_;rintro e w5 ⟨⟨u5,rfl⟩,s5,hin⟩;have HY5:Hid (InW N lo w w5 (zHF CM0 x.2.2) s5/\w5.ownsRow w3.heap.size 37 13 (.slice (some ⟨gl,0,none⟩) LS.length lcap) LS.length (zE yE LS)):=⟨HY.out.1.trans hin.weak,hin.fr.own HY.out.2 (fun k hk e=>xN HY.out.2 HY.out.1.box (by decide) (by rw [hk,e]))⟩;have HBD5:Hid (((zHF CM0 x.2.2).net.length:Int)<=1048576):=(by have h:=HBD.out.2;unfold zHF;split <;> exact h:_<=_);clear hin HY HBD;obtain ⟨C5,hC5⟩:∃ C5,C5=zHF CM0 x.2.2:=⟨_,rfl⟩;rw [<- hC5] at HY5 HBD5 HD;clear hC5;obtain ⟨an,cn,en,-⟩:=yL HY5.out.1.own.net;have HEN:Hid (s5.net=.slice an C5.net.length cn):=en;have cN:=zB HY5.out.1.box 5 s5.net rfl;rw [en] at cN;clear en
       by_cases hroom:(C5.net.length:Int) < 60
       ·have HF:Hid (yFD CM0 x=jV C5 [x]):=HD.out;clear HD;go_wp2_with fail
        refine (post_p C5 s5 N lo w5.heap.size [x] _ w5 HY5.out.1.box HY5.out.1.own (Nat.le_trans HLW.out HY5.out.1.fr.size) (by have h:=rows_one (zW xP HY5.out.2) m (lcap - m) hmn;rw [HX.out] at h;exact h) HBD5.out (by simp)).mono ?_;rintro e w6 ⟨rfl,s6,hin⟩;have HY6:Hid (InW N lo w w6 (jV C5 [x]) s6/\w6.ownsRow w3.heap.size 37 13 (.slice (some ⟨gl,0,none⟩) LS.length lcap) LS.length (zE yE LS)):=⟨HY5.out.1.trans hin.weak,hin.fr.own HY5.out.2 (fun k hk e=>xN HY5.out.2 HY5.out.1.box (by decide) (by rw [hk,e]))⟩;clear hin;go_wp2
        go_roundw
        case rel=>exact ⟨m+1,by omega,by go_num,s6,by rw [HSN.out,HF.out];exact HY6.out⟩
        case measure=>simp [intOf];omega
       ·have HF:Hid (yFD CM0 x=C5):=hid (by rw [HD.out];unfold jV;rw [if_pos (by simp only [List.length_singleton];omega)]);clear HD;go_wp2
        go_roundw
        case rel=>exact ⟨m+1,by omega,by go_num,s5,by rw [HSN.out,HF.out];exact HY5.out⟩
        case measure=>simp [intOf];omega
      ·have b2:(x.1.1 == 2)=false:=by simpa using h2
       have HD:Hid (yFD CM0 x=jV CM0 [x]):=hid (by unfold yFD;rw [if_neg h2]);have HY5:=HY;have HBD5:=hid HBD.out.2;obtain ⟨C5,hC5⟩:∃ C5,C5=CM0:=⟨_,rfl⟩;obtain ⟨s5,hs5⟩:∃ s5,s5=sx:=⟨_,rfl⟩;obtain ⟨w5,hw5⟩:∃ w5,w5=wr:=⟨_,rfl⟩;rw [<- hC5,<- hs5,<- hw5] at HY5;rw [<- hC5] at HBD5;have HD:Hid (yFD CM0 x=jV C5 [x]):=hid (by rw [hC5];exact HD.out);rw [<- hw5] at k0 ⊢;clear hC5 hs5 h2 HY HBD HRR hw5;obtain ⟨an,cn,en,-⟩:=yL HY5.out.1.own.net;have HEN:Hid (s5.net=.slice an C5.net.length cn):=en;have cN:=zB HY5.out.1.box 5 s5.net rfl;rw [en] at cN;clear en
       by_cases hroom:(C5.net.length:Int) < 60
       ·have HF:Hid (yFD CM0 x=jV C5 [x]):=HD.out;clear HD;go_wp2_with fail
        refine (post_p C5 s5 N lo w5.heap.size [x] _ w5 HY5.out.1.box HY5.out.1.own (Nat.le_trans HLW.out HY5.out.1.fr.size) (by have h:=rows_one (zW xP HY5.out.2) m (lcap - m) hmn;rw [HX.out] at h;exact h) HBD5.out (by simp)).mono ?_;rintro e w6 ⟨rfl,s6,hin⟩;have HY6:Hid (InW N lo w w6 (jV C5 [x]) s6/\w6.ownsRow w3.heap.size 37 13 (.slice (some ⟨gl,0,none⟩) LS.length lcap) LS.length (zE yE LS)):=⟨HY5.out.1.trans hin.weak,hin.fr.own HY5.out.2 (fun k hk e=>xN HY5.out.2 HY5.out.1.box (by decide) (by rw [hk,e]))⟩;clear hin;go_wp2
        go_roundw
        case rel=>exact ⟨m+1,by omega,by go_num,s6,by rw [HSN.out,HF.out];exact HY6.out⟩
        case measure=>simp [intOf];omega
       ·have HF:Hid (yFD CM0 x=C5):=hid (by rw [HD.out];unfold jV;rw [if_pos (by simp only [List.length_singleton];omega)]);clear HD;go_wp2
        go_roundw
        case rel=>exact ⟨m+1,by omega,by go_num,s5,by rw [HSN.out,HF.out];exact HY5.out⟩
        case measure=>simp [intOf];omega
     ·have hml2:m=LS.length:=by omega
      subst hml2;rw [List.take_length] at HY;go_wp2;go_ret;refine ⟨zL (by rw [HE1.out]),sx,?_⟩;rw [HE1.out];show InW N lo w wr (heardC C1 L) sx;rw [HEC.out];exact HY.out.1
  ·have hf:xT C1 L.1.2.2.1=false:=by simpa using hh
   rw [hf];have HE1:Hid (R=(C1,true)):=(by rw [HE.out,if_neg hh]:R=_);clear hh hf HE;refine zD 6 23 (.bool true) ⟨HI3.out.1.box,HI3.out.2⟩ ?_;refine zK (by kernel_rfl) ?_ _;go_wp2;go_ret;refine ⟨zL (by rw [HE1.out]),s1,?_⟩;rw [HE1.out];exact HI3.out.1.weak
 ·have HE:Hid (R=(c,false)):=(by rw [HR.out];exact if_neg hk:R=_);have HB:outB c k=false:=decide_eq_false hk;have HC:zAC c k=c:=if_neg hk;rw [HB];rw [HC] at HI1;clear hk HB HC HOK
  go_wp2_with (first
   | (refine w_st w1.heap.size (zQ (zBH c k)) (heap_alloc_new w1 _) (kD _) ?_;intro w2 hg hk hz;have HI2:Hid (InB N lo w w2 c s1):=HI1.out.more (yB hg);clear hg hk hz))
  go_ret;refine ⟨zL (by rw [HE.out]),s1,?_⟩;rw [HE.out];exact HI2.out.weak
end Go.Proofs.YtdopefimjabigadGreat
