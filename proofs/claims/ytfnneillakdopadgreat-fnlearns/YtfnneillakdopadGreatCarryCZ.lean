/-
  A text of ours: CarryC.
-/
import Derived.Test.YtfnneillakdopadGreatK1
import Derived.Test.YtfnneillakdopadGreatSaidCZ
import Derived.Test.YtfnneillakdopadGreatWaitCZ
set_option maxRecDepth 100000
set_option maxHeartbeats 32000000
namespace Go.Proofs.YtfnneillakdopadGreat
open _root_.Go.Proofs.Tryz
open Go.Value renaming int->I
open Go.IntKind renaming i64->U
open Nat renaming le_trans->Aa
open Go.RowKit Num
structure carryOk (c:CU):Prop where
 net:(c.net.length:Int)<=1048576
 lpeers:(c.peers.length:Int)<=1048576
 n:0<=c.n/\c.n<=7
 ltree:(c.tree.length:Int)<=1048576
 tree:okT c.tree
 peers:∀ p∈c.peers,jZ p+wtB c.tree<=1048576/\yC p/\(p.votes.length:Int)+1<=1048576/\-9223372036854775808<=p.view/\p.view < 9223372036854775807
 qcs:∀ l∈c.net,fitQ l.2.1
 said:(c.said.length:Int)+7<=1048575
theorem carryOk.out {c:CU} (h:carryOk c) (k:Int):carryOk (zAC c k):=by
 unfold zAC
 split
 ·refine ⟨?_,h.lpeers,h.n,h.ltree,h.tree,h.peers,fun l hl=>?_,h.said⟩
  ·have:=h.net;have h1:(c.net.take k.toNat ++ c.net.drop (k.toNat+1)).length<=c.net.length:=by rw [List.length_append,List.length_take,List.length_drop];omega
   show ((c.net.take k.toNat ++ c.net.drop (k.toNat+1)).length:Int)<=1048576;omega
  ·rcases List.mem_append.1 hl with hl | hl
   ·exact h.qcs l (List.mem_of_mem_take hl)
   ·exact h.qcs l (List.mem_of_mem_drop hl)
 ·exact h
theorem leadV_many (p:PE) (n:Int) (v:VT) (hn:n<=7):(zCF p n v).2.length<=7:=by
 unfold zCF leadR leadQ
 split
 ·split
  ·split
   ·simp
   ·show (zAH _ _ n.toNat).length<=7;rw [says_len];omega
  ·simp
 ·simp
theorem lead_many (t:List BK) (n:Int) (p:PE) (l:LT) (hn:n<=7):(kZ t n p l).2.length<=7:=by
 unfold kZ
 split
 ·split
  ·exact leadV_many _ _ _ hn
  ·split <;> simp
 ·simp
theorem next_many (p:PE) (a b c d:Int):(zIG p a b c d).2.length<=7:=by unfold zIG;split <;> simp
theorem hear_many (c:CU) (p:PE) (l:LT) (hn:c.n<=7):(zFA c p l).2.length<=7:=by
 unfold zFA
 split
 ·unfold xI
  split
  ·split
   ·exact lead_many _ _ _ _ hn
   ·split
    ·exact lead_many _ _ _ _ hn
    ·split
     ·simp
     ·split
      ·unfold yBD
       split
       ·unfold votesH;simp
       ·simp
      ·simp
  ·simp
 ·unfold qC
  split
  ·split
   ·exact lead_many _ _ _ _ hn
   ·split
    ·split
     ·unfold qcH
      split
      ·exact next_many _ _ _ _ _
      ·split
       ·exact next_many _ _ _ _ _
       ·split <;> simp
     ·unfold blockH
      split <;> simp
    ·simp
  ·simp
theorem say_said (c:CU) (l:LT):(yFD c l).said.length<=c.said.length+1:=by
 have h1:(if l.1.1=2 then zHF c l.2.2 else c).said.length<=c.said.length+1:=by
  split
  ·unfold zHF
   split
   ·omega
   ·simp
  ·omega
 unfold yFD
 generalize (if l.1.1=2 then zHF c l.2.2 else c)=d at h1 ⊢
 unfold jV
 split <;> exact h1
theorem say_net (c:CU) (l:LT) (h:(c.net.length:Int)<=1048576):((yFD c l).net.length:Int)<=1048576:=by
 have h1:(if l.1.1=2 then zHF c l.2.2 else c).net.length=c.net.length:=by
  split
  ·unfold zHF
   split <;> rfl
  ·rfl
 unfold yFD
 generalize (if l.1.1=2 then zHF c l.2.2 else c)=d at h1 ⊢
 unfold jV
 split
 ·rw [h1];exact h
 ·rename_i hn
  show ((d.net ++ [l]).length:Int)<=1048576;rw [List.length_append];omega
theorem sayAll_said (c:CU):∀ ls:List LT,(zIC c ls).said.length<=c.said.length+ls.length:=by
 intro ls
 induction ls generalizing c with
 | nil=>exact nl _
 | cons l ls ih=>
  have:=ih (yFD c l);have:=say_said c l;show (zIC (yFD c l) ls).said.length<=_;simp only [List.length_cons];omega
theorem sayAll_net (ls:List LT):∀ c:CU,(c.net.length:Int)<=1048576->((zIC c ls).net.length:Int)<=1048576:=by
 induction ls with
 | nil=>exact fun _ h=>h
 | cons l ls ih=>exact fun c h=>ih (yFD c l) (say_net c l h)
theorem sayAll_snoc (c:CU) {ls:List LT} {m:Nat} (h:m < ls.length):zIC c (ls.take (m+1))=yFD (zIC c (ls.take m)) ls[m]:=by
 unfold zIC;rw [List.take_succ_eq_append_getElem h,List.foldl_append]
 rfl
theorem carry_p (c:CU) (s:CW) (N lo hi:Nat) (k:Int) (w:World) (hbox:Bx w N (zR c s) 90) (hown:xG lo hi w c s) (hlo:lo<=hi) (hok:carryOk c) (hwk:(Lit.int U k).wf=true) :
  Calls prog 141 #[.pointer (some ⟨N,0,none⟩),I U k] w fun e w'=>e=.returned (.bool (carryC c k).2)/\∃ s',InW N lo w w' (carryC c k).1 s':=by
 have a7:Hid (lo<=w.heap.size):=Aa hlo hown.size;have ax:=hid hok;obtain ⟨R,hR⟩:=nw (carryC c k);have HR:Hid (R=carryC c k):=hR;rw [<- hR];clear hR;go_enter func141,ntmps141;go_wp2_with fail
 refine (out_p c s N lo hi k w hbox hown hlo hok.net hwk).mono ?_;clear hbox hown hlo hok;rintro e w1 ⟨rfl,s1,n⟩;have al:=hid n;clear n
 by_cases hk:0<=k/\k < c.net.length
 ·have HE:Hid (R=(if xT (zAC c k) (zBH c k).1.2.2.1=true then heardC (zAC c k) (zBH c k) else zAC c k,true)):=(by rw [HR.out];exact if_pos hk:R=_);have HB:outB c k=true:=decide_eq_true hk;rw [HB]
  have a0:Hid (fitQ (zBH c k).2.1):=(by
   have b3:k.toNat < c.net.length:=by omega
   have:zBH c k=c.net[k.toNat]:=by unfold zBH;rw [List.getElem?_eq_getElem b3];exact if_pos hk.1
   rw [this]
   exact ax.out.qcs _ (List.getElem_mem b3):fitQ (zBH c k).2.1)
  have r:Hid (carryOk (zAC c k)):=ax.out.out k;obtain ⟨C1,bx⟩:=nw (zAC c k);obtain ⟨L,hL⟩:=nw (zBH c k);rw [<- bx] at al r HE;rw [<- hL] at a0 HE ⊢;clear bx hL HB ax hk
  go_wp2_with (first
   | (refine w_st w1.heap.size (zQ L) (heap_alloc_new w1 _) (kD _) ?_;intro w2 hg hk hz;have ab:=hid (qad2 (al.more (yB hg)) hk);clear hg hk hz))
  obtain ⟨g5,b9⟩:=nw w1.heap.size;rw [<- b9] at ab ⊢;clear b9 al;refine p_rg (fun i=>decide (i < 7)) (fun x=>Bx x N (zR C1 s1) 90/\Bx x g5 (zQ L) 37) ?_;show zX prog _ _ _ _ _ (6+1) (Array.replicate 7 false) _ _;have hS:Bx w2.drew N (zR C1 s1) 90/\Bx w2.drew g5 (zQ L) 37:=⟨ab.1.box,ab.2⟩;refine p_pt 0 17 N 0 hS ?_;refine p_pt 1 18 N 0 hS ?_;refine zD 2 19 (.agg (zR C1 s1)) hS ?_ (hy:=fun x hx=>ldb N hx.1 underlying90);refine p_pt 3 20 g5 2 hS ?_;refine zD 4 21 (I U L.1.2.2.1) hS ?_ (hy:=by intro x hx;have c2:=zB hx.2 2 (I U L.1.2.2.1) rfl;go_simp;try rfl);refine kJ 5 22 145 #[.agg (zR C1 s1),I U L.1.2.2.1] ((zHB C1 s1 L.1.2.2.1 w2.drew (ab.1.more (br _ _).drew).own.reads r.lpeers).mono ?_);rintro e w3 ⟨rfl,bl⟩;have bc:=(bw w2).trans bl;have a:=hid (qad2 (ab.1.more bc) (bk bc ab.2));clear bl bc hS ab;refine ⟨_,rfl,fun _=>⟨a.1.box,a.2⟩,?_⟩;simp only [pz]
  by_cases hh:xT C1 L.1.2.2.1=true
  ·rw [hh];have ak:Hid (R=(heardC C1 L,true)):=(by rw [HE.out,if_pos hh]:R=_)
   have n:0<=L.1.2.2.1/\L.1.2.2.1 < C1.peers.length:=by
    unfold xT at hh;have:=zDF (Bool.and_eq_true _ _ ▸ hh).1;omega
   obtain ⟨j,hj⟩:∃ j:Nat,(j:Int)=L.1.2.2.1:=⟨L.1.2.2.1.toNat,by omega⟩;have ai:j < C1.peers.length:=by omega
   have HJ:Hid ((j:Int)=L.1.2.2.1):=hj;clear hh n hj HE;refine zD 6 23 (.bool false) ⟨a.1.box,a.2⟩ ?_;refine p_do ?_;obtain ⟨g,cap,p,t,bi,ch,a3,bq,b7,b8,bu,⟨aj,a1,bo⟩,a2⟩:=(a.1.own).peerAt ai;have bd:=hid bq;have a9:=hid b7;have aq:=hid (qad2 a1 bo);have ag:Hid (s1.peersV=.slice (some ⟨g,0,none⟩) C1.peers.length cap):=bi;have bn:Hid (zCJ C1 (j:Int)=p):=a3;have ac:=hid (qad3 b8 bu a2);have b0:p∈C1.peers:=by rw [<- a3];unfold zCJ;rw [show ((j:Int)).toNat=j by omega,List.getElem?_eq_getElem ai];exact List.getElem_mem ai
   have aa:Hid (jZ p+wtB C1.tree<=1048576/\yC p/\(p.votes.length:Int)+1<=1048576/\-9223372036854775808<=p.view/\p.view < 9223372036854775807):=r.peers p b0;have q0:(0:Int)<=(j:Int):=by omega
   have q1:(j:Int) < (C1.peers.length:Int):=by omega
   clear bq b7 a1 bo bi a3 ch b8 bu a2 b0;obtain ⟨P1,b1⟩:=nw ((zFA C1 p L).1);obtain ⟨LS,a8⟩:=nw ((zFA C1 p L).2);have bv:Hid (LS.length<=7):=hid (by rw [a8];exact hear_many _ _ _ r.n.2);have ay:Hid (zFA C1 p L=(P1,LS)):=hid (by rw [b1,a8]);have b5:Hid (heardC C1 L=zIC (zCG C1 (j:Int) P1) LS):=(by unfold heardC;rw [<- HJ.out,bn.out,ay.out]:heardC C1 L=_);clear b1 a8;obtain ⟨W,hW⟩:=nw (w3.alloc (.cells #[] 37));have av:Hid (Be w3 W):=hid (by rw [hW];exact yA _ _)
   go_upto_if 28 with (first | (rw [<- hW];clear hW) | (refine kQ rfl _ _ rfl N 1 (.bool C1.chain) _ _ rfl ((av.block N (gl a.1.box)).trans a.1.box) rfl _ underlying4 rfl ?_))
   simp only [pz]
   go_cut [7] (fun v7 wx=>∃ s2,InW N lo w wx (zCG C1 (j:Int) P1) s2/\wx.ownsRow w3.heap.size 37 13 v7 LS.length (zE yE LS))
   case first=>
    by_cases hch:C1.chain=true
    ·rw [hch];have HH:Hid ((xI C1.tree C1.n p L)=(P1,LS)):=hid (by rw [<- ay.out];unfold zFA;rw [if_pos hch]);clear hch
     go_upto_region 8 with fail
     refine p_rg (fun _=>true) (fun x=>Bx x N (zR C1 s1) 90/\Bx x g5 (zQ L) 37) ?_;show zX prog _ _ _ _ _ (29+1) (Array.replicate 30 false) _ _;have K:∀ x,Be w3 x->Bx x N (zR C1 s1) 90/\Bx x g5 (zQ L) 37:=fun x hb=>⟨(a.1.more hb).box,bk hb a.2⟩
     have f:Be w3 W.drew:=av.trans ((br _ _).drew);have hS:=K W.drew f;refine p_pt 0 30 N 0 hS ?_;refine p_pt 1 31 N 0 hS ?_;refine p_pt 2 32 N 4 hS ?_;refine zD 3 33 (.slice (some ⟨g,0,none⟩) C1.peers.length cap) hS ?_ (hy:=by intro x hx;have c4:=zB hx.1 4 s1.peersV rfl;rw [ag.out] at c4;go_simp;try rfl);refine p_pt 4 34 g5 2 hS ?_;refine zD 5 35 (I U (j:Int)) hS ?_ (hy:=by intro x hx;have c2:=zB hx.2 2 (I U L.1.2.2.1) rfl;rw [<- HJ.out] at c2;go_simp;try rfl);refine p_pt 6 36 N 0 hS ?_;refine p_pt 7 37 N 0 hS ?_;refine p_pt 8 38 N 3 hS ?_;refine zD 9 39 s1.treeV hS ?_ (hy:=by intro x hx;have c3:=zB hx.1 3 s1.treeV rfl;go_simp;try rfl);refine p_pt 10 40 N 0 hS ?_;refine p_pt 11 41 N 0 hS ?_;refine p_pt 12 42 N 0 hS ?_;refine zD 13 43 (I U C1.n) hS ?_ (hy:=by intro x hx;have c0:=zB hx.1 0 (I U C1.n) rfl;go_simp;try rfl);refine p_pt 14 44 N 0 hS ?_;refine p_pt 15 45 N 0 hS ?_;refine p_pt 16 46 N 4 hS ?_;refine zD 17 47 (.slice (some ⟨g,0,none⟩) C1.peers.length cap) hS ?_ (hy:=by intro x hx;have c4:=zB hx.1 4 s1.peersV rfl;rw [ag.out] at c4;go_simp;try rfl);refine p_pt 18 48 g5 2 hS ?_;refine zD 19 49 (I U (j:Int)) hS ?_ (hy:=by intro x hx;have c2:=zB hx.2 2 (I U L.1.2.2.1) rfl;rw [<- HJ.out] at c2;go_simp;try rfl);refine p_pt 20 50 g (j * 21) hS ?_;refine zD 22 52 (.agg (zQ L)) hS ?_ (hy:=fun x hx=>ldb g5 hx.2 underlying37);refine p_on 21 ?_;refine xU (s:=21) (e':=some 51) rfl rfl rfl (.agg (zA p t)) W.drew (ldm g (j * 21) (peerL p t) (qW (f.block g ac.1) a9) underlying35) ⟨fun _=>hS,?_⟩;simp only [pz];have y:=chainHear_s s1.tree s1.treeV C1.n p t L W.drew (a.1.more f).own.reads.tree (by have:=r.ltree;rw [<- a.out.1.own.etree,yO] at this;exact this) (by rw [a.out.1.own.etree];exact r.out.tree) (by rw [a.out.1.own.etree];exact aa.out.1) (bd.below f) aa.2.1 aa.2.2.1 r.n.1 r.n.2 a0 aa.2.2.2.1 aa.2.2.2.2;rw [a.out.1.own.etree,HH.out] at y;refine kJ 23 53 9 #[s1.treeV,I U C1.n,.agg (zA p t),.agg (zQ L)] (y.mono ?_);clear y;rintro e yc ⟨t1,v1,rfl,ao,am,a4⟩;have b:Be w3 yc:=bt f a4;refine ⟨_,rfl,fun _=>K yc b,?_⟩;simp only [pz];refine zD 24 29 (.tuple #[yZ P1 t1,v1]) (K yc b) ?_;refine zD 25 54 (.agg (zA P1 t1)) (K yc b) ?_;refine zD 26 55 v1 (K yc b) ?_;refine zD 27 56 (.pointer (some ⟨g,j * 21,none⟩)) (K yc b) ?_;have ae:Bx yc g aj 35:=(b.block g ac.1).trans aq.1;refine p_pa 28 g (j * 21) (zA P1 t1) aj (yBB aj (j * 21) (zA P1 t1)) ae (by have:=aq.2;simpa [zA] using this) (zJ ao.1) rfl ?_;intro z hg hk;have HZ:=put_peer (a.1.more b) a.1.own b (Aa a7 a.1.fr.size) ag ac.2.1 ai ae hg hk (ao.low f.size) (K yc b).2 (by decide)
     have BZ:Bx z N (zR C1 s1) 90:=(hg.block _ (Array.getElem?_eq_some_iff.1 (K yc b).1).1 (fun e=>by
      have hn:=(K yc b).1;rw [Option.some.inj e] at hn
      exact absurd (hn.symm.trans ae) (by simp))).trans (K yc b).1
     have bf:z.ownsRow w3.heap.size 37 13 v1 LS.length (zE yE LS):=(FrS.of_grown hg (B:=fun k=>k=g) (fun k e=>by cases e;rfl)).own (zN am f.size) (fun k hk e=>by have:=(am.lt k hk).1;have:=ac.1;have:=f.size;omega);refine ⟨fun _=>⟨BZ,HZ.2⟩,?_⟩;refine zD 29 7 v1 ⟨BZ,HZ.2⟩ ?_;refine p_do ?_;go_wp2
     go_meet
     case rel=>exact ⟨_,HZ.1,bf⟩
    ·have bp:C1.chain=false:=by simpa using hch
     rw [bp];have HH:Hid ((qC C1.tree C1.n p L)=(P1,LS)):=hid (by rw [<- ay.out];unfold zFA;rw [if_neg hch]);clear hch bp
     go_upto_region 9 with fail
     refine p_rg (fun _=>true) (fun x=>Bx x N (zR C1 s1) 90/\Bx x g5 (zQ L) 37) ?_;show zX prog _ _ _ _ _ (29+1) (Array.replicate 30 false) _ _;have K:∀ x,Be w3 x->Bx x N (zR C1 s1) 90/\Bx x g5 (zQ L) 37:=fun x hb=>⟨(a.1.more hb).box,bk hb a.2⟩
     have f:Be w3 W.drew:=av.trans ((br _ _).drew);have hS:=K W.drew f;refine p_pt 0 58 N 0 hS ?_;refine p_pt 1 59 N 0 hS ?_;refine p_pt 2 60 N 4 hS ?_;refine zD 3 61 (.slice (some ⟨g,0,none⟩) C1.peers.length cap) hS ?_ (hy:=by intro x hx;have c4:=zB hx.1 4 s1.peersV rfl;rw [ag.out] at c4;go_simp;try rfl);refine p_pt 4 62 g5 2 hS ?_;refine zD 5 63 (I U (j:Int)) hS ?_ (hy:=by intro x hx;have c2:=zB hx.2 2 (I U L.1.2.2.1) rfl;rw [<- HJ.out] at c2;go_simp;try rfl);refine p_pt 6 64 N 0 hS ?_;refine p_pt 7 65 N 0 hS ?_;refine p_pt 8 66 N 3 hS ?_;refine zD 9 67 s1.treeV hS ?_ (hy:=by intro x hx;have c3:=zB hx.1 3 s1.treeV rfl;go_simp;try rfl);refine p_pt 10 68 N 0 hS ?_;refine p_pt 11 69 N 0 hS ?_;refine p_pt 12 70 N 0 hS ?_;refine zD 13 71 (I U C1.n) hS ?_ (hy:=by intro x hx;have c0:=zB hx.1 0 (I U C1.n) rfl;go_simp;try rfl);refine p_pt 14 72 N 0 hS ?_;refine p_pt 15 73 N 0 hS ?_;refine p_pt 16 74 N 4 hS ?_;refine zD 17 75 (.slice (some ⟨g,0,none⟩) C1.peers.length cap) hS ?_ (hy:=by intro x hx;have c4:=zB hx.1 4 s1.peersV rfl;rw [ag.out] at c4;go_simp;try rfl);refine p_pt 18 76 g5 2 hS ?_;refine zD 19 77 (I U (j:Int)) hS ?_ (hy:=by intro x hx;have c2:=zB hx.2 2 (I U L.1.2.2.1) rfl;rw [<- HJ.out] at c2;go_simp;try rfl);refine p_pt 20 78 g (j * 21) hS ?_;refine zD 22 80 (.agg (zQ L)) hS ?_ (hy:=fun x hx=>ldb g5 hx.2 underlying37);refine p_on 21 ?_;refine xU (s:=21) (e':=some 79) rfl rfl rfl (.agg (zA p t)) W.drew (ldm g (j * 21) (peerL p t) (qW (f.block g ac.1) a9) underlying35) ⟨fun _=>hS,?_⟩;simp only [pz];have y:=askHear_s s1.tree s1.treeV C1.n p t L W.drew (a.1.more f).own.reads.tree (by have:=r.ltree;rw [<- a.out.1.own.etree,yO] at this;exact this) (by rw [a.out.1.own.etree];exact r.out.tree) (by rw [a.out.1.own.etree];exact aa.out.1) (bd.below f) aa.2.1 aa.2.2.1 r.n.1 r.n.2 a0 aa.2.2.2.1 aa.2.2.2.2;rw [a.out.1.own.etree,HH.out] at y;refine kJ 23 81 183 #[s1.treeV,I U C1.n,.agg (zA p t),.agg (zQ L)] (y.mono ?_);clear y;rintro e yc ⟨t1,v1,rfl,ao,am,a4⟩;have b:Be w3 yc:=bt f a4;refine ⟨_,rfl,fun _=>K yc b,?_⟩;simp only [pz];refine zD 24 57 (.tuple #[yZ P1 t1,v1]) (K yc b) ?_;refine zD 25 82 (.agg (zA P1 t1)) (K yc b) ?_;refine zD 26 83 v1 (K yc b) ?_;refine zD 27 84 (.pointer (some ⟨g,j * 21,none⟩)) (K yc b) ?_;have ae:Bx yc g aj 35:=(b.block g ac.1).trans aq.1;refine p_pa 28 g (j * 21) (zA P1 t1) aj (yBB aj (j * 21) (zA P1 t1)) ae (by have:=aq.2;simpa [zA] using this) (zJ ao.1) rfl ?_;intro z hg hk;have HZ:=put_peer (a.1.more b) a.1.own b (Aa a7 a.1.fr.size) ag ac.2.1 ai ae hg hk (ao.low f.size) (K yc b).2 (by decide)
     have BZ:Bx z N (zR C1 s1) 90:=(hg.block _ (Array.getElem?_eq_some_iff.1 (K yc b).1).1 (fun e=>by
      have hn:=(K yc b).1;rw [Option.some.inj e] at hn
      exact absurd (hn.symm.trans ae) (by simp))).trans (K yc b).1
     have bf:z.ownsRow w3.heap.size 37 13 v1 LS.length (zE yE LS):=(FrS.of_grown hg (B:=fun k=>k=g) (fun k e=>by cases e;rfl)).own (zN am f.size) (fun k hk e=>by have:=(am.lt k hk).1;have:=ac.1;have:=f.size;omega);refine ⟨fun _=>⟨BZ,HZ.2⟩,?_⟩;refine zD 29 7 v1 ⟨BZ,HZ.2⟩ ?_;refine p_do ?_;go_wp2
     go_meet
     case rel=>exact ⟨_,HZ.1,bf⟩
   case rest=>
    obtain ⟨s2,a5,ar⟩:=hcut;obtain ⟨la,o,el,bz⟩:=yL ar;subst el;obtain ⟨C2,bh⟩:=nw (zCG C1 (j:Int) P1);have b4:Hid (C2.said.length=C1.said.length/\C2.net.length=C1.net.length):=hid (by rw [bh];exact ⟨rfl,rfl⟩);rw [<- bh] at a5 b5;clear bh;have cj:=hid (qad2 a5 ar);have ck:Hid (0 < LS.length->∃ g,la=some ⟨g,0,none⟩):=bz;have ci:LS.length<=o:=zJB ar _ _ _ rfl;have cm:=bv.out;have bm:=hid (qad2 r.out.said r.out.net);have bb:Hid (lo<=w.heap.size):=a7;clear a5 ar bz bv a bd a9 aq ag bn ac aa ay HJ r a0 av q0 q1 ai;go_wp2
    go_loopw [8] (fun i wr=>∃ m:Nat,m<=LS.length/\i=I U (m:Int)/\∃ sx,Hid (InW N lo w wr (zIC C2 (LS.take m)) sx/\wr.ownsRow w3.heap.size 37 13 (.slice la LS.length o) LS.length (zE yE LS))) (fun i _=>LS.length - (intOf i).toNat)
    case atStart=>exact ⟨0,Nat.zero_le _,rfl,s2,cj⟩
    case round=>
     obtain ⟨m,hm,rfl,sx,HY⟩:=hrel
     by_cases hlt:(m:Int) < LS.length
     ·have au:m < LS.length:=by omega
      obtain ⟨gl,rfl⟩:=ck (by omega);have r0:(0:Int)<=(m:Int):=by omega
      obtain ⟨x,hx⟩:∃ x:LT,x=LS[m]:=⟨_,rfl⟩
      have aw:Hid (∀ k v,(yE x)[k]?=some v->wr.cell? ⟨gl,m * 13+k,none⟩=some v):=(by
       intro k v hk;obtain ⟨a',cl,ca,cc⟩:=zW xP HY.2;injection ca with ea _ ec
       subst ea ec;obtain ⟨g',co,bg,hg,hc⟩:=cc (by omega);injection bg with bg
       injection bg with cg ce _
       subst cg ce;have cb:k < 13:=(List.getElem?_eq_some_iff.1 hk).1;have:=hc m au k cb;rw [Nat.zero_add,<- hx] at this;rw [this]
       exact hk:∀ k v,_)
      obtain ⟨l,ah⟩:=nw (zIC C2 (LS.take m));have az:Hid (zIC C2 (LS.take (m+1))=yFD l x):=hid (by rw [ah,hx];exact sayAll_snoc C2 au)
      have ap:Hid ((l.said.length:Int)<=1048575/\(l.net.length:Int)<=1048576):=(by
       rw [ah];have h1:=sayAll_said C2 (LS.take m);have h2:=sayAll_net (LS.take m) C2 (by rw [b4.out.2];exact bm.out.2);have h3:(LS.take m).length<=7:=by rw [List.length_take];omega
       have h4:=b4.1;have h5:=bm.1
       exact ⟨by omega,h2⟩:_/\_)
      rw [<- ah] at HY;have HX:Hid (LS[m]=x):=hx.symm;clear hx ah;have k0:wr.cell? ⟨gl,m * 13,none⟩=some (I U x.1.1):=aw 0 _ rfl;have cq:(m:Int)+1<=o:=by omega
      have cs:(m:Int)<=(m:Int)+1:=by omega
      have cr:m+1<=o:=by omega
      have cp:¬ o=m:=by omega
      by_cases h2:x.1.1=2
      ·have b2:(x.1.1 == 2)=true:=by simpa using h2
       have HD:Hid (yFD l x=jV (zHF l x.2.2) [x]):=hid (by unfold yFD;rw [if_pos h2]);clear h2;go_wp2_with (refine wpList_load_mid rfl _ _ rfl gl (m * 13+9) rfl [I U x.2.2.1,I U x.2.2.2.1,I U x.2.2.2.2.1,I U x.2.2.2.2.2] _ (fun k v hk=>by have cd:=(List.getElem?_eq_some_iff.1 hk).1;rw [Nat.add_assoc];refine aw.out (9+k) v ?_;match k,cd,hk with | 0,_,h=>exact h | 1,_,h=>exact h | 2,_,h=>exact h | 3,_,h=>exact h) underlying28 rfl (by kernel_rfl) ?_)
       clear k0 aw;refine (said_p l sx N lo wr.heap.size x.2.2 wr HY.1.box HY.1.own (Aa bb HY.1.fr.size) ap.1).mono ?_;rintro e w5 ⟨⟨u5,rfl⟩,s5,n⟩;have d:Hid (InW N lo w w5 (zHF l x.2.2) s5/\w5.ownsRow w3.heap.size 37 13 (.slice (some ⟨gl,0,none⟩) LS.length o) LS.length (zE yE LS)):=⟨HY.1.trans n.weak,n.fr.own HY.2 (fun k hk e=>xN HY.2 HY.1.box (by decide) (by rw [hk,e]))⟩;have ad:Hid (((zHF l x.2.2).net.length:Int)<=1048576):=(by have h:=ap.2;unfold zHF;split <;> exact h:_<=_);clear n HY ap;obtain ⟨C5,af⟩:=nw (zHF l x.2.2);rw [<- af] at d ad HD;clear af;obtain ⟨an,cn,en,-⟩:=yL d.1.own.net;have cf:Hid (s5.net=.slice an C5.net.length cn):=en;have cN:=zB d.1.box 5 s5.net rfl;rw [en] at cN;clear en
       by_cases hroom:(C5.net.length:Int) < 60
       ·have HF:Hid (yFD l x=jV C5 [x]):=HD;clear HD;go_wp2_with fail
        refine (post_p C5 s5 N lo w5.heap.size [x] _ w5 d.1.box d.1.own (Aa bb d.1.fr.size) (by have h:=rows_one (zW xP d.2) m (o - m) au;rw [HX.out] at h;exact h) ad (by simp)).mono ?_;rintro e w6 ⟨rfl,s6,n⟩;have be:Hid (InW N lo w w6 (jV C5 [x]) s6/\w6.ownsRow w3.heap.size 37 13 (.slice (some ⟨gl,0,none⟩) LS.length o) LS.length (zE yE LS)):=⟨d.1.trans n.weak,n.fr.own d.2 (fun k hk e=>xN d.2 d.1.box (by decide) (by rw [hk,e]))⟩;clear n;go_wp2
        go_roundw
        case rel=>exact ⟨m+1,by omega,by go_num,s6,by rw [az.out,HF.out];exact be.out⟩
        case measure=>simp [intOf];omega
       ·have HF:Hid (yFD l x=C5):=hid (by rw [HD.out];unfold jV;rw [if_pos (by simp only [List.length_singleton];omega)]);clear HD;go_wp2
        go_roundw
        case rel=>exact ⟨m+1,by omega,by go_num,s5,by rw [az.out,HF.out];exact d.out⟩
        case measure=>simp [intOf];omega
      ·have b2:(x.1.1 == 2)=false:=by simpa using h2
       have HD:Hid (yFD l x=jV l [x]):=hid (by unfold yFD;rw [if_neg h2]);have d:=HY;have ad:=hid ap.out.2;obtain ⟨C5,af⟩:=nw l;obtain ⟨s5,bj⟩:=nw sx;obtain ⟨w5,a6⟩:=nw wr;rw [<- af,<- bj,<- a6] at d;rw [<- af] at ad;have HD:Hid (yFD l x=jV C5 [x]):=hid (by rw [af];exact HD.out);rw [<- a6] at k0 ⊢;clear af bj h2 HY ap aw a6;obtain ⟨an,cn,en,-⟩:=yL d.1.own.net;have cf:Hid (s5.net=.slice an C5.net.length cn):=en;have cN:=zB d.1.box 5 s5.net rfl;rw [en] at cN;clear en
       by_cases hroom:(C5.net.length:Int) < 60
       ·have HF:Hid (yFD l x=jV C5 [x]):=HD;clear HD;go_wp2_with fail
        refine (post_p C5 s5 N lo w5.heap.size [x] _ w5 d.1.box d.1.own (Aa bb d.1.fr.size) (by have h:=rows_one (zW xP d.2) m (o - m) au;rw [HX.out] at h;exact h) ad (by simp)).mono ?_;rintro e w6 ⟨rfl,s6,n⟩;have be:Hid (InW N lo w w6 (jV C5 [x]) s6/\w6.ownsRow w3.heap.size 37 13 (.slice (some ⟨gl,0,none⟩) LS.length o) LS.length (zE yE LS)):=⟨d.1.trans n.weak,n.fr.own d.2 (fun k hk e=>xN d.2 d.1.box (by decide) (by rw [hk,e]))⟩;clear n;go_wp2
        go_roundw
        case rel=>exact ⟨m+1,by omega,by go_num,s6,by rw [az.out,HF.out];exact be.out⟩
        case measure=>simp [intOf];omega
       ·have HF:Hid (yFD l x=C5):=hid (by rw [HD.out];unfold jV;rw [if_pos (by simp only [List.length_singleton];omega)]);clear HD;go_wp2
        go_roundw
        case rel=>exact ⟨m+1,by omega,by go_num,s5,by rw [az.out,HF.out];exact d.out⟩
        case measure=>simp [intOf];omega
     ·have b6:m=LS.length:=by omega
      subst b6;rw [List.take_length] at HY;go_wp2;go_ret;refine ⟨zL (by rw [ak.out]),sx,?_⟩;rw [ak.out];show InW N lo w wr (heardC C1 L) sx;rw [b5.out];exact HY.out.1
  ·have hf:xT C1 L.1.2.2.1=false:=by simpa using hh
   rw [hf];have ak:Hid (R=(C1,true)):=(by rw [HE.out,if_neg hh]:R=_);clear hh hf HE;refine zD 6 23 (.bool true) ⟨a.1.box,a.2⟩ ?_;refine p_do ?_;go_wp2;go_ret;refine ⟨zL (by rw [ak.out]),s1,?_⟩;rw [ak.out];exact a.out.1.weak
 ·have HE:Hid (R=(c,false)):=(by rw [HR.out];exact if_neg hk:R=_);have HB:outB c k=false:=decide_eq_false hk;have HC:zAC c k=c:=if_neg hk;rw [HB];rw [HC] at al;clear hk HB HC ax
  go_wp2_with (first
   | (refine w_st w1.heap.size (zQ (zBH c k)) (heap_alloc_new w1 _) (kD _) ?_;intro w2 hg hk hz;have ab:Hid (InB N lo w w2 c s1):=al.more (yB hg);clear hg hk hz))
  go_ret;refine ⟨zL (by rw [HE.out]),s1,?_⟩;rw [HE.out];exact ab.out.weak
end Go.Proofs.YtfnneillakdopadGreat
