/-
  A text of ours: CarryC.
-/
import Derived.Test.YtfnneillakdopacGreatRK1
import Derived.Test.YtfnneillakdopacGreatRSaidCZ
import Derived.Test.YtfnneillakdopacGreatRWaitCZ
set_option maxRecDepth 100000
set_option maxHeartbeats 32000000
namespace Go.Proofs.YtfnneillakdopacGreatR
open _root_.Go.Proofs.Tryz
open Go.Value renaming int->I
open Go.IntKind renaming i64->U
open Nat renaming le_trans->Aa
open Go.RowKit Num
structure carryOk (c:CU):Prop where
 net:(c.net.length:Int)<=1048576
 lpeers:(c.peers.length:Int)<=1048576
 n:0<=c.n/\c.n<=7
 ltree:(c.tree.length:Int)<=1048576
 tree:okT c.tree
 peers:∀ p∈c.peers,jZ p+wtB c.tree<=1048576/\yC p/\(p.votes.length:Int)+1<=1048576/\-9223372036854775808<=p.view/\p.view < 9223372036854775807
 qcs:∀ l∈c.net,fitQ l.2.1
 said:(c.said.length:Int)+7<=1048575
theorem carryOk.out {c:CU} (h:carryOk c) (k:Int):carryOk (zAC c k):=by
 unfold zAC
 split
 ·refine ⟨?_,h.lpeers,h.n,h.ltree,h.tree,h.peers,fun l hl=>?_,h.said⟩
  ·have:=h.net;have h1:(c.net.take k.toNat ++ c.net.drop (k.toNat+1)).length<=c.net.length:=by rw [List.length_append,List.length_take,List.length_drop];omega
   show ((c.net.take k.toNat ++ c.net.drop (k.toNat+1)).length:Int)<=1048576;omega
  ·rcases List.mem_append.1 hl with hl | hl
   ·exact h.qcs l (List.mem_of_mem_take hl)
   ·exact h.qcs l (List.mem_of_mem_drop hl)
 ·exact h
theorem leadV_many (p:PE) (n:Int) (v:VT) (hn:n<=7):(zCF p n v).2.length<=7:=by
 unfold zCF leadR leadQ
 split
 ·split
  ·split
   ·simp
   ·show (zAH _ _ n.toNat).length<=7;rw [says_len];omega
  ·simp
 ·simp
theorem lead_many (t:List BK) (n:Int) (p:PE) (l:LT) (hn:n<=7):(kZ t n p l).2.length<=7:=by
 unfold kZ
 split
 ·split
  ·exact leadV_many _ _ _ hn
  ·split <;> simp
 ·simp
theorem next_many (p:PE) (a b c d:Int):(zIG p a b c d).2.length<=7:=by unfold zIG;split <;> simp
theorem hear_many (c:CU) (p:PE) (l:LT) (hn:c.n<=7):(zFA c p l).2.length<=7:=by
 unfold zFA
 split
 ·unfold xI
  split
  ·split
   ·exact lead_many _ _ _ _ hn
   ·split
    ·exact lead_many _ _ _ _ hn
    ·split
     ·simp
     ·split
      ·unfold yBD
       split
       ·unfold votesH;simp
       ·simp
      ·simp
  ·simp
 ·unfold qC
  split
  ·split
   ·exact lead_many _ _ _ _ hn
   ·split
    ·split
     ·unfold qcH
      split
      ·exact next_many _ _ _ _ _
      ·split
       ·exact next_many _ _ _ _ _
       ·split <;> simp
     ·unfold blockH
      split <;> simp
    ·simp
  ·simp
theorem say_said (c:CU) (l:LT):(yFD c l).said.length<=c.said.length+1:=by
 have h1:(if l.1.1=2 then zHF c l.2.2 else c).said.length<=c.said.length+1:=by
  split
  ·unfold zHF
   split
   ·omega
   ·simp
  ·omega
 unfold yFD
 generalize (if l.1.1=2 then zHF c l.2.2 else c)=d at h1 ⊢
 unfold jV
 split <;> exact h1
theorem say_net (c:CU) (l:LT) (h:(c.net.length:Int)<=1048576):((yFD c l).net.length:Int)<=1048576:=by
 have h1:(if l.1.1=2 then zHF c l.2.2 else c).net.length=c.net.length:=by
  split
  ·unfold zHF
   split <;> rfl
  ·rfl
 unfold yFD
 generalize (if l.1.1=2 then zHF c l.2.2 else c)=d at h1 ⊢
 unfold jV
 split
 ·rw [h1];exact h
 ·rename_i hn
  show ((d.net ++ [l]).length:Int)<=1048576;rw [List.length_append];omega
theorem sayAll_said (c:CU):∀ ls:List LT,(zIC c ls).said.length<=c.said.length+ls.length:=by
 intro ls
 induction ls generalizing c with
 | nil=>exact nl _
 | cons l ls ih=>
  have:=ih (yFD c l);have:=say_said c l;show (zIC (yFD c l) ls).said.length<=_;simp only [List.length_cons];omega
theorem sayAll_net (ls:List LT):∀ c:CU,(c.net.length:Int)<=1048576->((zIC c ls).net.length:Int)<=1048576:=by
 induction ls with
 | nil=>exact fun _ h=>h
 | cons l ls ih=>exact fun c h=>ih (yFD c l) (say_net c l h)
theorem sayAll_snoc (c:CU) {ls:List LT} {m:Nat} (h:m < ls.length):zIC c (ls.take (m+1))=yFD (zIC c (ls.take m)) ls[m]:=by
 unfold zIC;rw [List.take_succ_eq_append_getElem h,List.foldl_append]
 rfl
theorem carry_p (c:CU) (s:CW) (N lo hi:Nat) (k:Int) (w:World) (hbox:Bx w N (zR c s) 124) (hown:xG lo hi w c s) (hlo:lo<=hi) (hok:carryOk c) (hwk:(Lit.int U k).wf=true) :
  Calls prog 163 #[.pointer (some ⟨N,0,none⟩),I U k] w fun e w'=>e=.returned (.bool (carryC c k).2)/\∃ s',InW N lo w w' (carryC c k).1 s':=by
 have a5:Hid (lo<=w.heap.size):=Aa hlo hown.size;have ar:=hid hok;obtain ⟨R,hR⟩:=nw (carryC c k);have HR:Hid (R=carryC c k):=hR;rw [<- hR];clear hR;go_enter func163,ntmps163;go_wp2_with fail
 refine (out_p c s N lo hi k w hbox hown hlo hok.net hwk).mono ?_;clear hbox hown hlo hok;rintro e w1 ⟨rfl,s1,n⟩;have al:=hid n;clear n
 by_cases hk:0<=k/\k < c.net.length
 ·have HE:Hid (R=(if xT (zAC c k) (zBH c k).1.2.2.1=true then heardC (zAC c k) (zBH c k) else zAC c k,true)):=(by rw [HR.out];exact if_pos hk:R=_);have HB:outB c k=true:=decide_eq_true hk;rw [HB]
  have ax:Hid (fitQ (zBH c k).2.1):=(by
   have bu:k.toNat < c.net.length:=by omega
   have:zBH c k=c.net[k.toNat]:=by unfold zBH;rw [List.getElem?_eq_getElem bu];exact if_pos hk.1
   rw [this]
   exact ar.out.qcs _ (List.getElem_mem bu):fitQ (zBH c k).2.1)
  have r:Hid (carryOk (zAC c k)):=ar.out.out k;obtain ⟨C1,b8⟩:=nw (zAC c k);obtain ⟨L,hL⟩:=nw (zBH c k);rw [<- b8] at al r HE;rw [<- hL] at ax HE ⊢;clear b8 hL HB ar hk
  go_wp2_with (first
   | (refine w_st w1.heap.size (zQ L) (heap_alloc_new w1 _) (kD _) ?_;intro w2 hg hk hz;have aa:=hid (qad2 (al.more (yB hg)) hk);clear hg hk hz))
  obtain ⟨g5,bh⟩:=nw w1.heap.size;rw [<- bh] at aa ⊢;clear bh al;refine p_rg (fun i=>decide (i < 7)) (fun x=>Bx x N (zR C1 s1) 124/\Bx x g5 (zQ L) 61) ?_;show zX prog _ _ _ _ _ (6+1) (Array.replicate 7 false) _ _;have hS:Bx w2.drew N (zR C1 s1) 124/\Bx w2.drew g5 (zQ L) 61:=⟨aa.1.box,aa.2⟩;refine p_pt 0 17 N 0 hS ?_;refine p_pt 1 18 N 0 hS ?_;refine zD 2 19 (.agg (zR C1 s1)) hS ?_ (hy:=fun x hx=>ldb N hx.1 underlying124);refine p_pt 3 20 g5 2 hS ?_;refine zD 4 21 (I U L.1.2.2.1) hS ?_ (hy:=by intro x hx;have c2:=zB hx.2 2 (I U L.1.2.2.1) rfl;go_simp;try rfl);refine kJ 5 22 167 #[.agg (zR C1 s1),I U L.1.2.2.1] ((zHB C1 s1 L.1.2.2.1 w2.drew (aa.1.more (br _ _).drew).own.reads r.lpeers).mono ?_);rintro e w3 ⟨rfl,bv⟩;have a4:=(bw w2).trans bv;have a:=hid (qad2 (aa.1.more a4) (bk a4 aa.2));clear bv a4 hS aa;refine ⟨_,rfl,fun _=>⟨a.1.box,a.2⟩,?_⟩;simp only [pz]
  by_cases hh:xT C1 L.1.2.2.1=true
  ·rw [hh];have ap:Hid (R=(heardC C1 L,true)):=(by rw [HE.out,if_pos hh]:R=_)
   have n:0<=L.1.2.2.1/\L.1.2.2.1 < C1.peers.length:=by
    unfold xT at hh;have:=zDF (Bool.and_eq_true _ _ ▸ hh).1;omega
   obtain ⟨j,hj⟩:∃ j:Nat,(j:Int)=L.1.2.2.1:=⟨L.1.2.2.1.toNat,by omega⟩;have ah:j < C1.peers.length:=by omega
   have HJ:Hid ((j:Int)=L.1.2.2.1):=hj;clear hh n hj HE;refine zD 6 23 (.bool false) ⟨a.1.box,a.2⟩ ?_;refine p_do ?_;obtain ⟨g,cap,p,t,b4,cj,a6,bz,bi,bq,b0,⟨ai,a1,b3⟩,a0⟩:=(a.1.own).peerAt ah;have bc:=hid bz;have a2:=hid bi;have ak:=hid (qad2 a1 b3);have ae:Hid (s1.peersV=.slice (some ⟨g,0,none⟩) C1.peers.length cap):=b4;have bp:Hid (zCJ C1 (j:Int)=p):=a6;have ab:=hid (qad3 bq b0 a0);have bj:p∈C1.peers:=by rw [<- a6];unfold zCJ;rw [show ((j:Int)).toNat=j by omega,List.getElem?_eq_getElem ah];exact List.getElem_mem ah
   have u:Hid (jZ p+wtB C1.tree<=1048576/\yC p/\(p.votes.length:Int)+1<=1048576/\-9223372036854775808<=p.view/\p.view < 9223372036854775807):=r.peers p bj;have q0:(0:Int)<=(j:Int):=by omega
   have q1:(j:Int) < (C1.peers.length:Int):=by omega
   clear bz bi a1 b3 b4 a6 cj bq b0 a0 bj;obtain ⟨P1,bn⟩:=nw ((zFA C1 p L).1);obtain ⟨LS,a8⟩:=nw ((zFA C1 p L).2);have b6:Hid (LS.length<=7):=hid (by rw [a8];exact hear_many _ _ _ r.n.2);have az:Hid (zFA C1 p L=(P1,LS)):=hid (by rw [bn,a8]);have bo:Hid (heardC C1 L=zIC (zCG C1 (j:Int) P1) LS):=(by unfold heardC;rw [<- HJ.out,bp.out,az.out]:heardC C1 L=_);clear bn a8;obtain ⟨W,hW⟩:=nw (w3.alloc (.cells #[] 61));have aq:Hid (Be w3 W):=hid (by rw [hW];exact yA _ _)
   go_upto_if 28 with (first | (rw [<- hW];clear hW) | (refine kQ rfl _ _ rfl N 1 (.bool C1.chain) _ _ rfl ((aq.block N (gl a.1.box)).trans a.1.box) rfl _ underlying4 rfl ?_))
   simp only [pz]
   go_cut [7] (fun v7 wx=>∃ s2,InW N lo w wx (zCG C1 (j:Int) P1) s2/\wx.ownsRow w3.heap.size 61 13 v7 LS.length (zE yE LS))
   case first=>
    by_cases hch:C1.chain=true
    ·rw [hch];have HH:Hid ((xI C1.tree C1.n p L)=(P1,LS)):=hid (by rw [<- az.out];unfold zFA;rw [if_pos hch]);clear hch
     go_upto_region 8 with fail
     refine p_rg (fun _=>true) (fun x=>Bx x N (zR C1 s1) 124/\Bx x g5 (zQ L) 61) ?_;show zX prog _ _ _ _ _ (29+1) (Array.replicate 30 false) _ _;have K:∀ x,Be w3 x->Bx x N (zR C1 s1) 124/\Bx x g5 (zQ L) 61:=fun x hb=>⟨(a.1.more hb).box,bk hb a.2⟩
     have l:Be w3 W.drew:=aq.trans ((br _ _).drew);have hS:=K W.drew l;refine p_pt 0 30 N 0 hS ?_;refine p_pt 1 31 N 0 hS ?_;refine p_pt 2 32 N 4 hS ?_;refine zD 3 33 (.slice (some ⟨g,0,none⟩) C1.peers.length cap) hS ?_ (hy:=by intro x hx;have c4:=zB hx.1 4 s1.peersV rfl;rw [ae.out] at c4;go_simp;try rfl);refine p_pt 4 34 g5 2 hS ?_;refine zD 5 35 (I U (j:Int)) hS ?_ (hy:=by intro x hx;have c2:=zB hx.2 2 (I U L.1.2.2.1) rfl;rw [<- HJ.out] at c2;go_simp;try rfl);refine p_pt 6 36 N 0 hS ?_;refine p_pt 7 37 N 0 hS ?_;refine p_pt 8 38 N 3 hS ?_;refine zD 9 39 s1.treeV hS ?_ (hy:=by intro x hx;have c3:=zB hx.1 3 s1.treeV rfl;go_simp;try rfl);refine p_pt 10 40 N 0 hS ?_;refine p_pt 11 41 N 0 hS ?_;refine p_pt 12 42 N 0 hS ?_;refine zD 13 43 (I U C1.n) hS ?_ (hy:=by intro x hx;have c0:=zB hx.1 0 (I U C1.n) rfl;go_simp;try rfl);refine p_pt 14 44 N 0 hS ?_;refine p_pt 15 45 N 0 hS ?_;refine p_pt 16 46 N 4 hS ?_;refine zD 17 47 (.slice (some ⟨g,0,none⟩) C1.peers.length cap) hS ?_ (hy:=by intro x hx;have c4:=zB hx.1 4 s1.peersV rfl;rw [ae.out] at c4;go_simp;try rfl);refine p_pt 18 48 g5 2 hS ?_;refine zD 19 49 (I U (j:Int)) hS ?_ (hy:=by intro x hx;have c2:=zB hx.2 2 (I U L.1.2.2.1) rfl;rw [<- HJ.out] at c2;go_simp;try rfl);refine p_pt 20 50 g (j * 21) hS ?_;refine zD 22 52 (.agg (zQ L)) hS ?_ (hy:=fun x hx=>ldb g5 hx.2 underlying61);refine p_on 21 ?_;refine xU (s:=21) (e':=some 51) rfl rfl rfl (.agg (zA p t)) W.drew (ldm g (j * 21) (peerL p t) (qW (l.block g ab.1) a2) underlying35) ⟨fun _=>hS,?_⟩;simp only [pz];have y:=chainHear_s s1.tree s1.treeV C1.n p t L W.drew (a.1.more l).own.reads.tree (by have:=r.ltree;rw [<- a.out.1.own.etree,yO] at this;exact this) (by rw [a.out.1.own.etree];exact r.out.tree) (by rw [a.out.1.own.etree];exact u.out.1) (bc.below l) u.2.1 u.2.2.1 r.n.1 r.n.2 ax u.2.2.2.1 u.2.2.2.2;rw [a.out.1.own.etree,HH.out] at y;refine kJ 23 53 193 #[s1.treeV,I U C1.n,.agg (zA p t),.agg (zQ L)] (y.mono ?_);clear y;rintro e yc ⟨t1,v1,rfl,ao,am,bf⟩;have b:Be w3 yc:=bt l bf;refine ⟨_,rfl,fun _=>K yc b,?_⟩;simp only [pz];refine zD 24 29 (.tuple #[yZ P1 t1,v1]) (K yc b) ?_;refine zD 25 54 (.agg (zA P1 t1)) (K yc b) ?_;refine zD 26 55 v1 (K yc b) ?_;refine zD 27 56 (.pointer (some ⟨g,j * 21,none⟩)) (K yc b) ?_;have ad:Bx yc g ai 35:=(b.block g ab.1).trans ak.1;refine p_pa 28 g (j * 21) (zA P1 t1) ai (yBB ai (j * 21) (zA P1 t1)) ad (by have:=ak.2;simpa [zA] using this) (zJ ao.1) rfl ?_;intro z hg hk;have HZ:=put_peer (a.1.more b) a.1.own b (Aa a5 a.1.fr.size) ae ab.2.1 ah ad hg hk (ao.low l.size) (K yc b).2 (by decide)
     have BZ:Bx z N (zR C1 s1) 124:=(hg.block _ (Array.getElem?_eq_some_iff.1 (K yc b).1).1 (fun e=>by
      have hn:=(K yc b).1;rw [Option.some.inj e] at hn
      exact absurd (hn.symm.trans ad) (by simp))).trans (K yc b).1
     have bb:z.ownsRow w3.heap.size 61 13 v1 LS.length (zE yE LS):=(FrS.of_grown hg (B:=fun k=>k=g) (fun k e=>by cases e;rfl)).own (zN am l.size) (fun k hk e=>by have:=(am.lt k hk).1;have:=ab.1;have:=l.size;omega);refine ⟨fun _=>⟨BZ,HZ.2⟩,?_⟩;refine zD 29 7 v1 ⟨BZ,HZ.2⟩ ?_;refine p_do ?_;go_wp2
     go_meet
     case rel=>exact ⟨_,HZ.1,bb⟩
    ·have bl:C1.chain=false:=by simpa using hch
     rw [bl];have HH:Hid ((qC C1.tree C1.n p L)=(P1,LS)):=hid (by rw [<- az.out];unfold zFA;rw [if_neg hch]);clear hch bl
     go_upto_region 9 with fail
     refine p_rg (fun _=>true) (fun x=>Bx x N (zR C1 s1) 124/\Bx x g5 (zQ L) 61) ?_;show zX prog _ _ _ _ _ (29+1) (Array.replicate 30 false) _ _;have K:∀ x,Be w3 x->Bx x N (zR C1 s1) 124/\Bx x g5 (zQ L) 61:=fun x hb=>⟨(a.1.more hb).box,bk hb a.2⟩
     have l:Be w3 W.drew:=aq.trans ((br _ _).drew);have hS:=K W.drew l;refine p_pt 0 58 N 0 hS ?_;refine p_pt 1 59 N 0 hS ?_;refine p_pt 2 60 N 4 hS ?_;refine zD 3 61 (.slice (some ⟨g,0,none⟩) C1.peers.length cap) hS ?_ (hy:=by intro x hx;have c4:=zB hx.1 4 s1.peersV rfl;rw [ae.out] at c4;go_simp;try rfl);refine p_pt 4 62 g5 2 hS ?_;refine zD 5 63 (I U (j:Int)) hS ?_ (hy:=by intro x hx;have c2:=zB hx.2 2 (I U L.1.2.2.1) rfl;rw [<- HJ.out] at c2;go_simp;try rfl);refine p_pt 6 64 N 0 hS ?_;refine p_pt 7 65 N 0 hS ?_;refine p_pt 8 66 N 3 hS ?_;refine zD 9 67 s1.treeV hS ?_ (hy:=by intro x hx;have c3:=zB hx.1 3 s1.treeV rfl;go_simp;try rfl);refine p_pt 10 68 N 0 hS ?_;refine p_pt 11 69 N 0 hS ?_;refine p_pt 12 70 N 0 hS ?_;refine zD 13 71 (I U C1.n) hS ?_ (hy:=by intro x hx;have c0:=zB hx.1 0 (I U C1.n) rfl;go_simp;try rfl);refine p_pt 14 72 N 0 hS ?_;refine p_pt 15 73 N 0 hS ?_;refine p_pt 16 74 N 4 hS ?_;refine zD 17 75 (.slice (some ⟨g,0,none⟩) C1.peers.length cap) hS ?_ (hy:=by intro x hx;have c4:=zB hx.1 4 s1.peersV rfl;rw [ae.out] at c4;go_simp;try rfl);refine p_pt 18 76 g5 2 hS ?_;refine zD 19 77 (I U (j:Int)) hS ?_ (hy:=by intro x hx;have c2:=zB hx.2 2 (I U L.1.2.2.1) rfl;rw [<- HJ.out] at c2;go_simp;try rfl);refine p_pt 20 78 g (j * 21) hS ?_;refine zD 22 80 (.agg (zQ L)) hS ?_ (hy:=fun x hx=>ldb g5 hx.2 underlying61);refine p_on 21 ?_;refine xU (s:=21) (e':=some 79) rfl rfl rfl (.agg (zA p t)) W.drew (ldm g (j * 21) (peerL p t) (qW (l.block g ab.1) a2) underlying35) ⟨fun _=>hS,?_⟩;simp only [pz];have y:=askHear_s s1.tree s1.treeV C1.n p t L W.drew (a.1.more l).own.reads.tree (by have:=r.ltree;rw [<- a.out.1.own.etree,yO] at this;exact this) (by rw [a.out.1.own.etree];exact r.out.tree) (by rw [a.out.1.own.etree];exact u.out.1) (bc.below l) u.2.1 u.2.2.1 r.n.1 r.n.2 ax u.2.2.2.1 u.2.2.2.2;rw [a.out.1.own.etree,HH.out] at y;refine kJ 23 81 194 #[s1.treeV,I U C1.n,.agg (zA p t),.agg (zQ L)] (y.mono ?_);clear y;rintro e yc ⟨t1,v1,rfl,ao,am,bf⟩;have b:Be w3 yc:=bt l bf;refine ⟨_,rfl,fun _=>K yc b,?_⟩;simp only [pz];refine zD 24 57 (.tuple #[yZ P1 t1,v1]) (K yc b) ?_;refine zD 25 82 (.agg (zA P1 t1)) (K yc b) ?_;refine zD 26 83 v1 (K yc b) ?_;refine zD 27 84 (.pointer (some ⟨g,j * 21,none⟩)) (K yc b) ?_;have ad:Bx yc g ai 35:=(b.block g ab.1).trans ak.1;refine p_pa 28 g (j * 21) (zA P1 t1) ai (yBB ai (j * 21) (zA P1 t1)) ad (by have:=ak.2;simpa [zA] using this) (zJ ao.1) rfl ?_;intro z hg hk;have HZ:=put_peer (a.1.more b) a.1.own b (Aa a5 a.1.fr.size) ae ab.2.1 ah ad hg hk (ao.low l.size) (K yc b).2 (by decide)
     have BZ:Bx z N (zR C1 s1) 124:=(hg.block _ (Array.getElem?_eq_some_iff.1 (K yc b).1).1 (fun e=>by
      have hn:=(K yc b).1;rw [Option.some.inj e] at hn
      exact absurd (hn.symm.trans ad) (by simp))).trans (K yc b).1
     have bb:z.ownsRow w3.heap.size 61 13 v1 LS.length (zE yE LS):=(FrS.of_grown hg (B:=fun k=>k=g) (fun k e=>by cases e;rfl)).own (zN am l.size) (fun k hk e=>by have:=(am.lt k hk).1;have:=ab.1;have:=l.size;omega);refine ⟨fun _=>⟨BZ,HZ.2⟩,?_⟩;refine zD 29 7 v1 ⟨BZ,HZ.2⟩ ?_;refine p_do ?_;go_wp2
     go_meet
     case rel=>exact ⟨_,HZ.1,bb⟩
   case rest=>
    obtain ⟨s2,bg,av⟩:=hcut;obtain ⟨la,o,el,bm⟩:=yL av;subst el;obtain ⟨C2,a7⟩:=nw (zCG C1 (j:Int) P1);have b7:Hid (C2.said.length=C1.said.length/\C2.net.length=C1.net.length):=hid (by rw [a7];exact ⟨rfl,rfl⟩);rw [<- a7] at bg bo;clear a7;have ci:=hid (qad2 bg av);have b9:Hid (0 < LS.length->∃ g,la=some ⟨g,0,none⟩):=bm;have cg:LS.length<=o:=zJB av _ _ _ rfl;have cm:=b6.out;have bx:=hid (qad2 r.out.said r.out.net);have bd:Hid (lo<=w.heap.size):=a5;clear bg av bm b6 a bc a2 ak ae bp ab u az HJ r ax aq q0 q1 ah;go_wp2
    go_loopw [8] (fun i wr=>∃ m:Nat,m<=LS.length/\i=I U (m:Int)/\∃ sx,Hid (InW N lo w wr (zIC C2 (LS.take m)) sx/\wr.ownsRow w3.heap.size 61 13 (.slice la LS.length o) LS.length (zE yE LS))) (fun i _=>LS.length - (intOf i).toNat)
    case atStart=>exact ⟨0,Nat.zero_le _,rfl,s2,ci⟩
    case round=>
     obtain ⟨m,hm,rfl,sx,HY⟩:=hrel
     by_cases hlt:(m:Int) < LS.length
     ·have au:m < LS.length:=by omega
      obtain ⟨gl,rfl⟩:=b9 (by omega);have r0:(0:Int)<=(m:Int):=by omega
      obtain ⟨x,hx⟩:∃ x:LT,x=LS[m]:=⟨_,rfl⟩
      have ay:Hid (∀ k v,(yE x)[k]?=some v->wr.cell? ⟨gl,m * 13+k,none⟩=some v):=(by
       intro k v hk;obtain ⟨a',ck,cb,cc⟩:=zW xP HY.2;injection cb with ea _ ec
       subst ea ec;obtain ⟨g',cl,be,hg,hc⟩:=cc (by omega);injection be with be
       injection be with cd cf _
       subst cd cf;have ch:k < 13:=(List.getElem?_eq_some_iff.1 hk).1;have:=hc m au k ch;rw [Nat.zero_add,<- hx] at this;rw [this]
       exact hk:∀ k v,_)
      obtain ⟨f,ag⟩:=nw (zIC C2 (LS.take m));have aw:Hid (zIC C2 (LS.take (m+1))=yFD f x):=hid (by rw [ag,hx];exact sayAll_snoc C2 au)
      have aj:Hid ((f.said.length:Int)<=1048575/\(f.net.length:Int)<=1048576):=(by
       rw [ag];have h1:=sayAll_said C2 (LS.take m);have h2:=sayAll_net (LS.take m) C2 (by rw [b7.out.2];exact bx.out.2);have h3:(LS.take m).length<=7:=by rw [List.length_take];omega
       have h4:=b7.1;have h5:=bx.1
       exact ⟨by omega,h2⟩:_/\_)
      rw [<- ag] at HY;have HX:Hid (LS[m]=x):=hx.symm;clear hx ag;have k0:wr.cell? ⟨gl,m * 13,none⟩=some (I U x.1.1):=ay 0 _ rfl;have cr:(m:Int)+1<=o:=by omega
      have co:(m:Int)<=(m:Int)+1:=by omega
      have cp:m+1<=o:=by omega
      have cq:¬ o=m:=by omega
      by_cases h2:x.1.1=2
      ·have b2:(x.1.1 == 2)=true:=by simpa using h2
       have HD:Hid (yFD f x=jV (zHF f x.2.2) [x]):=hid (by unfold yFD;rw [if_pos h2]);clear h2;go_wp2_with (refine wpList_load_mid rfl _ _ rfl gl (m * 13+9) rfl [I U x.2.2.1,I U x.2.2.2.1,I U x.2.2.2.2.1,I U x.2.2.2.2.2] _ (fun k v hk=>by have ce:=(List.getElem?_eq_some_iff.1 hk).1;rw [Nat.add_assoc];refine ay.out (9+k) v ?_;match k,ce,hk with | 0,_,h=>exact h | 1,_,h=>exact h | 2,_,h=>exact h | 3,_,h=>exact h) underlying28 rfl (by kernel_rfl) ?_)
       clear k0 ay;refine (said_p f sx N lo wr.heap.size x.2.2 wr HY.1.box HY.1.own (Aa bd HY.1.fr.size) aj.1).mono ?_;rintro e w5 ⟨⟨u5,rfl⟩,s5,n⟩;have d:Hid (InW N lo w w5 (zHF f x.2.2) s5/\w5.ownsRow w3.heap.size 61 13 (.slice (some ⟨gl,0,none⟩) LS.length o) LS.length (zE yE LS)):=⟨HY.1.trans n.weak,n.fr.own HY.2 (fun k hk e=>xN HY.2 HY.1.box (by decide) (by rw [hk,e]))⟩;have ac:Hid (((zHF f x.2.2).net.length:Int)<=1048576):=(by have h:=aj.2;unfold zHF;split <;> exact h:_<=_);clear n HY aj;obtain ⟨C5,af⟩:=nw (zHF f x.2.2);rw [<- af] at d ac HD;clear af;obtain ⟨an,cn,en,-⟩:=yL d.1.own.net;have ca:Hid (s5.net=.slice an C5.net.length cn):=en;have cN:=zB d.1.box 5 s5.net rfl;rw [en] at cN;clear en
       by_cases hroom:(C5.net.length:Int) < 60
       ·have HF:Hid (yFD f x=jV C5 [x]):=HD;clear HD;go_wp2_with fail
        refine (post_p C5 s5 N lo w5.heap.size [x] _ w5 d.1.box d.1.own (Aa bd d.1.fr.size) (by have h:=rows_one (zW xP d.2) m (o - m) au;rw [HX.out] at h;exact h) ac (by simp)).mono ?_;rintro e w6 ⟨rfl,s6,n⟩;have a9:Hid (InW N lo w w6 (jV C5 [x]) s6/\w6.ownsRow w3.heap.size 61 13 (.slice (some ⟨gl,0,none⟩) LS.length o) LS.length (zE yE LS)):=⟨d.1.trans n.weak,n.fr.own d.2 (fun k hk e=>xN d.2 d.1.box (by decide) (by rw [hk,e]))⟩;clear n;go_wp2
        go_roundw
        case rel=>exact ⟨m+1,by omega,by go_num,s6,by rw [aw.out,HF.out];exact a9.out⟩
        case measure=>simp [intOf];omega
       ·have HF:Hid (yFD f x=C5):=hid (by rw [HD.out];unfold jV;rw [if_pos (by simp only [List.length_singleton];omega)]);clear HD;go_wp2
        go_roundw
        case rel=>exact ⟨m+1,by omega,by go_num,s5,by rw [aw.out,HF.out];exact d.out⟩
        case measure=>simp [intOf];omega
      ·have b2:(x.1.1 == 2)=false:=by simpa using h2
       have HD:Hid (yFD f x=jV f [x]):=hid (by unfold yFD;rw [if_neg h2]);have d:=HY;have ac:=hid aj.out.2;obtain ⟨C5,af⟩:=nw f;obtain ⟨s5,b1⟩:=nw sx;obtain ⟨w5,a3⟩:=nw wr;rw [<- af,<- b1,<- a3] at d;rw [<- af] at ac;have HD:Hid (yFD f x=jV C5 [x]):=hid (by rw [af];exact HD.out);rw [<- a3] at k0 ⊢;clear af b1 h2 HY aj ay a3;obtain ⟨an,cn,en,-⟩:=yL d.1.own.net;have ca:Hid (s5.net=.slice an C5.net.length cn):=en;have cN:=zB d.1.box 5 s5.net rfl;rw [en] at cN;clear en
       by_cases hroom:(C5.net.length:Int) < 60
       ·have HF:Hid (yFD f x=jV C5 [x]):=HD;clear HD;go_wp2_with fail
        refine (post_p C5 s5 N lo w5.heap.size [x] _ w5 d.1.box d.1.own (Aa bd d.1.fr.size) (by have h:=rows_one (zW xP d.2) m (o - m) au;rw [HX.out] at h;exact h) ac (by simp)).mono ?_;rintro e w6 ⟨rfl,s6,n⟩;have a9:Hid (InW N lo w w6 (jV C5 [x]) s6/\w6.ownsRow w3.heap.size 61 13 (.slice (some ⟨gl,0,none⟩) LS.length o) LS.length (zE yE LS)):=⟨d.1.trans n.weak,n.fr.own d.2 (fun k hk e=>xN d.2 d.1.box (by decide) (by rw [hk,e]))⟩;clear n;go_wp2
        go_roundw
        case rel=>exact ⟨m+1,by omega,by go_num,s6,by rw [aw.out,HF.out];exact a9.out⟩
        case measure=>simp [intOf];omega
       ·have HF:Hid (yFD f x=C5):=hid (by rw [HD.out];unfold jV;rw [if_pos (by simp only [List.length_singleton];omega)]);clear HD;go_wp2
        go_roundw
        case rel=>exact ⟨m+1,by omega,by go_num,s5,by rw [aw.out,HF.out];exact d.out⟩
        case measure=>simp [intOf];omega
     ·have b5:m=LS.length:=by omega
      subst b5;rw [List.take_length] at HY;go_wp2;go_ret;refine ⟨zL (by rw [ap.out]),sx,?_⟩;rw [ap.out];show InW N lo w wr (heardC C1 L) sx;rw [bo.out];exact HY.out.1
  ·have hf:xT C1 L.1.2.2.1=false:=by simpa using hh
   rw [hf];have ap:Hid (R=(C1,true)):=(by rw [HE.out,if_neg hh]:R=_);clear hh hf HE;refine zD 6 23 (.bool true) ⟨a.1.box,a.2⟩ ?_;refine p_do ?_;go_wp2;go_ret;refine ⟨zL (by rw [ap.out]),s1,?_⟩;rw [ap.out];exact a.out.1.weak
 ·have HE:Hid (R=(c,false)):=(by rw [HR.out];exact if_neg hk:R=_);have HB:outB c k=false:=decide_eq_false hk;have HC:zAC c k=c:=if_neg hk;rw [HB];rw [HC] at al;clear hk HB HC ar
  go_wp2_with (first
   | (refine w_st w1.heap.size (zQ (zBH c k)) (heap_alloc_new w1 _) (kD _) ?_;intro w2 hg hk hz;have aa:Hid (InB N lo w w2 c s1):=al.more (yB hg);clear hg hk hz))
  go_ret;refine ⟨zL (by rw [HE.out]),s1,?_⟩;rw [HE.out];exact aa.out.weak
end Go.Proofs.YtfnneillakdopacGreatR
