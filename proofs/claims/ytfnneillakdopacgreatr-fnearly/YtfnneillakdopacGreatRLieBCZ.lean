/-
  A text of ours: LieBC.
-/
import Derived.Test.YtfnneillakdopacGreatRK1
import Derived.Test.YtfnneillakdopacGreatRK9
import Derived.Test.YtfnneillakdopacGreatRWaitCZ
set_option maxRecDepth 100000
set_option maxHeartbeats 32000000
namespace Go.Proofs.YtfnneillakdopacGreatR
open _root_.Go.Proofs.Tryz
open Go.Value renaming int->I,oneCell'->Ad
open Go.IntKind renaming i64->U
open Nat renaming le_trans->Aa,lt_of_lt_of_le->Ab
open _root_.Array renaming replicate->Ac
open Go.RowKit Num
variable {b:BK} {c:CU} {s:CW} {e:EV} {N lo:Nat} {cv:Value} {w x y:World}
structure PtE (w y:World) (N lo:Nat) (c:CU) (s:CW) (e:EV):Prop where
 inb:InB N lo w y c s
 box:Bx y w.heap.size (evA e) 172
theorem PtE.more (h:PtE w y N lo c s e) (hb:Be y x):PtE w x N lo c s e:=
 ⟨h.inb.more hb,bk hb h.box⟩
structure PtB (w y:World) (N lo:Nat) (c:CU) (s:CW) (e:EV) (g8 g10:Nat) (q:QC) (b:BK) (cv:Value):Prop where
 pt:PtE w y N lo c s e
 qc:Bx y g8 #[I U q.1,I U q.2.1,I U q.2.2.1,I U q.2.2.2] 26
 blk:Bx y g10 (qD b cv) 88
 cmds:yM y cv 3 kL b.2.1
theorem PtB.more {g8 g10:Nat} {q:QC} (h:PtB w y N lo c s e g8 g10 q b cv) (hb:Be y x):PtB w x N lo c s e g8 g10 q b cv:=
 ⟨h.pt.more hb,bk hb h.qc,bk hb h.blk,h.cmds.below hb⟩
theorem blk_just {g:Nat} (h:Bx x g (qD b cv) 88):x.rangeAt g 3 [I U b.2.2.1,I U b.2.2.2.1,I U b.2.2.2.2.1,I U b.2.2.2.2.2]:=fun k v hk=>by
 have a:=(List.getElem?_eq_some_iff.1 hk).1;refine zB h (3+k) v ?_
 match k,a,hk with
 | 0,_,h=>exact h
 | 1,_,h=>exact h
 | 2,_,h=>exact h
 | 3,_,h=>exact h
theorem ev_cmd {g:Nat} (h:Bx x g (evA e) 172):x.rangeAt g 4 (kL e.cmd):=fun k v hk=>by
 have a:=(List.getElem?_eq_some_iff.1 hk).1;refine zB h (4+k) v ?_
 match k,a,hk with
 | 0,_,h=>exact h
 | 1,_,h=>exact h
 | 2,_,h=>exact h
theorem tree_in {base:Nat} {C1:CU} {S1:CW} {g8 g10:Nat} {q:QC} {v1:Value} {qs:TL} (h:PtB w x N lo c s e g8 g10 q b cv) (ht:xH x base v1 qs) (hlb:lo<=base) (hN:N < base) (e1:C1={c with tree:=bks qs }) (e2:S1={s with treeV:=v1,tree:=qs })
  (hg:x.grownBy y (some N)) (hk:Bx y N (zR C1 S1) 124) (ho:xG lo base x c s):InB N lo w y C1 S1/\Bx y w.heap.size (evA e) 172/\Bx y g8 #[I U q.1,I U q.2.1,I U q.2.2.1,I U q.2.2.2] 26/\FrS (fun k=>k=N) x y:=by
 have hf:FrS (fun k=>k=N) x y:=FrS.of_grown hg (fun k e=>by cases e;rfl)
 have K:∀ (k:Nat) (A:Array Value) (T:TypeId),x.heap[k]?=some (.cells A T (0,0))->T ≠ 124->y.heap[k]?=some (.cells A T (0,0)):=fun k A T a hT=>gk hg a (fun e=>by
  have e:=Option.some.inj e;rw [e] at a;have h3:=a.symm.trans h.pt.inb.box;injection h3 with h3
  injection h3 with _ h3 _
  exact hT h3)
 refine ⟨⟨hk,?_,h.pt.inb.fr.trans hf⟩,K _ _ _ h.pt.box (by decide),K _ _ _ h.qc (by decide),hf⟩;rw [e1,e2];exact (ho.boxT h.pt.inb.box hg).setTree (Aa ho.size hg.size) (nl _) ((ht.frs hf (fun k hk e=>by have:=(zCE ht hk).1;omega)).base hlb) (fun k hk=>⟨(zCE ht hk).1,Ab (zCE ht hk).2 hg.size⟩) hlb
theorem lieBlock_p (c:CU) (s:CW) (N lo hi:Nat) (e:EV) (w:World) (hbox:Bx w N (zR c s) 124) (hown:xG lo hi w c s) (hlo:lo<=hi) (hok:lieOk c) (hn:0<=e.num) (hc:(e.cmd.2.1.size:Int)<=1048576) :
  Calls prog 203 #[.pointer (some ⟨N,0,none⟩),.agg (evA e)] w fun r w'=>r=.returned (.bool (zBC c e).2)/\∃ s',InB N lo w w' (zBC c e).1 s':=by
 have b4:Hid (lo<=w.heap.size):=Aa hlo hown.size;have d:=hid hok;obtain ⟨W,hW⟩:=nw (w.alloc (.cells (evA e) 172))
 have HW:Hid (PtE w W N lo c s e):=(by
  have hb:Be w W:=by rw [hW];exact yA _ _
  exact ⟨(InB.start hbox hown).more hb,by rw [hW];exact heap_alloc_new w _⟩:PtE _ _ _ _ _ _ _)
 have cp:Hid (N < w.heap.size):=(gl hbox);clear hbox hown hlo hok;obtain ⟨R,hR⟩:=nw (zBC c e);have HR:Hid (R=zBC c e):=hR;rw [<- hR];clear hR;obtain ⟨K,hK⟩:=nw (yBJ c e);have a2:=d.one;have bz:=d.ltree;have b0:Hid (0<=K/\K < (c.tree.length:Int)):=hid (by rw [hK];unfold yBJ;exact ⟨Int.emod_nonneg _ (by omega),Int.emod_lt_of_pos _ (by omega)⟩);have ai:Hid (K=yBJ c e/\e.num.tmod (c.tree.length:Int)=K):=⟨hK,by rw [hK];unfold yBJ;exact Int.tmod_eq_emod_of_nonneg hn⟩;clear hK;obtain ⟨at',ct,et,al⟩:=HW.inb.own.reads.viewCell;have ce:=hid al;have bm:Hid (s.treeV=.slice at' c.tree.length ct):=et;clear al et;go_enter func203,ntmps203
 go_upto_region 1 with (rw [<- hW];clear hW)
 try (rw [<- hW];clear hW)
 refine p_rg (fun _=>true) (fun x=>Bx x N (zR c s) 124/\Bx x w.heap.size (evA e) 172) ?_;show zX prog _ _ _ _ _ (8+1) (Ac 9 false) _ _;have hS:Bx W.drew N (zR c s) 124/\Bx W.drew w.heap.size (evA e) 172:=⟨HW.inb.box,HW.box⟩;have b9:¬ (c.tree.length:Int)=0:=by omega
 have b8:¬ c.tree.length=0:=by omega
 refine p_pt 0 14 w.heap.size 3 hS ?_;refine zD 1 15 (I U e.num) hS ?_ (hy:=by intro x hx;have l3:=zB hx.2 3 (I U e.num) rfl;go_simp;try rfl);refine p_pt 2 16 N 0 hS ?_;refine p_pt 3 17 N 0 hS ?_;refine p_pt 4 18 N 3 hS ?_;refine zD 5 19 (.slice at' c.tree.length ct) hS ?_ (hy:=by intro x hx;have c3:=zB hx.1 3 s.treeV rfl;rw [bm.out] at c3;go_simp;try rfl);refine zD 6 20 (I U (c.tree.length:Int)) hS ?_;refine zD 7 21 (I U K) hS ?_ (hy:=by intro x hx;have cu:=ai.2;go_simp;try rfl);refine zD 8 5 (I U K) hS ?_;refine p_do ?_;obtain ⟨X0,ay⟩:=nw W.drew;have ag:Hid (PtE w X0 N lo c s e):=(by rw [ay];exact HW.out.more (br _ _).drew:PtE _ _ _ _ _ _ _);have cb:Hid (Be W X0):=hid (by rw [ay];exact (br _ _).drew);rw [<- ay];clear ay hS HW;have c4:=zB ag.inb.box 4 s.peersV rfl;go_wp2_with fail
 clear c4;refine (far_s s.peers s.peersV X0 ag.inb.own.reads.peers (by have h:=d.lpeers;rw [<- ag.out.inb.own.epeers,yCI] at h;exact h)).mono ?_;rintro r X1 ⟨rfl,bd⟩;rw [ag.out.inb.own.epeers];have ad:Hid (PtE w X1 N lo c s e):=ag.more bd;have cj:Hid (Be W X1):=bt cb bd;clear bd ag;obtain ⟨FV,an⟩:=nw (yEH c.peers 0);have bi:-9223372036854775808<=FV:=by rw [an];exact d.out.far.1
 have bv:FV < 9223372036854775807:=by rw [an];exact d.out.far.2
 obtain ⟨j,hj⟩:∃ j:Nat,K=(j:Int):=⟨K.toNat,by have:=b0.1;omega⟩;subst hj;have bn:j < c.tree.length:=by have:=b0.2;omega
 obtain ⟨g,bl,rfl,bx,al⟩:=ce j bn;obtain ⟨TV,ak⟩:=nw (yR c.tree (j:Int));have cc:-9223372036854775808<=TV:=by rw [ak];exact (d.views _).1
 have cd:TV < 9223372036854775807:=by rw [ak];exact (d.views _).2
 have q0:(0:Int)<=(j:Int):=by omega
 have q1:(j:Int) < (c.tree.length:Int):=by omega
 obtain ⟨VW,bc⟩:=nw (lieW c e);have bh:Hid (VW=if e.num % 2=1 then TV+1 else FV+1):=(by rw [bc,ak,an,ai.out.1];rfl:VW=_);have bo:Hid (VW=lieW c e):=bc;have a3:e.num.tmod 2=e.num % 2:=Int.tmod_eq_emod_of_nonneg hn;have a7:0<=e.num % 2/\e.num % 2 < 2:=by omega
 rw [<- an];have aj:Hid (W.cell? ⟨g,bl+j * 7+1,none⟩=some (I U TV)/\g < W.heap.size):=⟨by rw [ak];exact al,bx⟩;clear an ak bc al bx ce;have l3:=zB ad.box 3 (I U e.num) rfl
 go_upto_if 31 with fail
 go_cut [6] (fun v6 wx=>v6=I U VW/\wx=X1)
 case first=>
  have c3:=zB ad.inb.box 3 s.treeV rfl;rw [bm.out] at c3;have cn:X1.cell? ⟨g,bl+j * 7+1,none⟩=some (I U TV):=by rw [cj.out.cell (by exact aj.out.2)];exact aj.out.1
  by_cases h2:e.num % 2=1
  ·have b2:(e.num % 2 == 1)=true:=by simpa using h2
   have bg:Hid (VW=TV+1):=(by rw [bh.out,if_pos h2]:VW=_);clear h2 a3 a7 bi bv b9 b8 a2 bz hn hc l3;go_wp2
   go_meet
   case rel=>exact ⟨by rw [bg.out],rfl⟩
  ·have b2:(e.num % 2 == 1)=false:=by simpa using h2
   have bg:Hid (VW=FV+1):=(by rw [bh.out,if_neg h2]:VW=_);clear h2 a3 a7 b9 b8 a2 bz hn hc l3 c3 cn cc cd q0 q1 bn;go_wp2
   go_meet
   case rel=>exact ⟨by rw [bg.out],rfl⟩
 case rest=>
  obtain ⟨rfl,hw⟩:=hcut;obtain rfl:=hw.symm;clear hw l3 a3 a7 bi bv cc cd aj;obtain ⟨PH,ax⟩:∃ PH:Int,PH=if c.chain=true then 4 else 1:=⟨_,rfl⟩
  have co:Hid (PH=if c.chain=true then 4 else 1):=ax;have c1:=zB ad.inb.box 1 (.bool c.chain) rfl
  go_upto_if 44 with fail
  go_cut [7] (fun v7 wx=>v7=I U PH/\wx=X1)
  case first=>
   cases b6:c.chain with
   | true=>
    have hp:PH=4:=by rw [ax,if_pos b6]
    go_wp2
    go_meet
    case rel=>exact ⟨by rw [hp],rfl⟩
   | false=>
    have hp:PH=1:=by rw [ax,if_neg (by rw [b6];decide)]
    go_wp2
    go_meet
    case rel=>exact ⟨by rw [hp],rfl⟩
  case rest=>
   obtain ⟨rfl,hw⟩:=hcut;obtain rfl:=hw.symm;clear hw c1 ax;go_wp2_with (refine w_ld N ad.inb.box underlying124 ?_)
   have a:=lieQc_s c s PH (j:Int) X1 ad.inb.own.reads (by have:=d.ltree;omega) d.said d.n.1 (by have:=d.n.2;omega);obtain ⟨Q,hQ⟩:=nw (qM c PH (j:Int))
   have HQ:Hid (Q=lieQ c e/\fitQ Q.1):=(by
    refine ⟨?_,by rw [hQ];exact lieQc_fit _ _ _⟩;rw [hQ,co.out,ai.out.1]
    rfl:_/\_)
   rw [<- hQ] at a;unfold zBF at a;refine a.mono ?_;clear a hQ;rintro r X2 ⟨rfl,b5⟩;have cg:Hid (PtE w X2 N lo c s e):=ad.more b5;clear b5 ad
   go_upto_region 9 with (refine w_st X2.heap.size #[I U Q.1.1,I U Q.1.2.1,I U Q.1.2.2.1,I U Q.1.2.2.2] (heap_alloc_new X2 _) (by simp [Ad]) ?_;intro X3 hg hk hz;have b3:Be X2 X3:=yB hg;have ah:=hid (qad2 (cg.more b3) hk);clear hg hk hz b3)
   obtain ⟨g8,b7⟩:=nw X2.heap.size;rw [<- b7] at ah ⊢;clear b7 cg;obtain ⟨ZB,ab⟩:=nw (!Q.2 && decide ((j:Int) ≠ 0))
   go_cut [9,59] (fun _ cs wx=>cs=.bool ZB/\wx=X3)
   case first=>
    cases be:Q.2 with
    | true=>
     have hz:ZB=false:=by rw [ab,be];rfl
     go_wp2
     go_meet
     case rel=>exact ⟨by rw [hz],rfl⟩
    | false=>
     by_cases hj0:(j:Int)=0
     ·have hz:ZB=false:=by rw [ab,be];simp [hj0]
      have bj:((j:Int) != 0)=false:=by simpa using hj0
      go_wp2
      go_meet
      case rel=>exact ⟨by rw [hz],rfl⟩
     ·have hz:ZB=true:=by rw [ab,be];simpa using hj0
      have bj:((j:Int) != 0)=true:=by simpa using hj0
      go_wp2
      go_meet
      case rel=>exact ⟨by rw [hz],rfl⟩
   case rest=>
    obtain ⟨rfl,hw⟩:=hcut;obtain rfl:=hw.symm;clear hw
    cases bb:ZB with
    | true=>
     have HE:Hid (R=(c,false)):=(by
      rw [HR.out];unfold zBC;rw [<- HQ.out.1,<- ai.out.1];rw [bb] at ab;have h:=ab.symm;simp only [Bool.and_eq_true,Bool.not_eq_true',decide_eq_true_eq] at h
      exact if_pos h:R=_)
     go_wp2;go_ret;refine ⟨zL (by rw [HE.out]),s,?_⟩;rw [HE.out];exact ah.out.1.inb
    | false=>
     have ci:Hid (¬ (Q.2=false/\(j:Int) ≠ 0)):=(by
      intro h;rw [bb,h.1,decide_eq_true h.2] at ab
      exact absurd ab (by decide):¬ _)
     clear ab bb;obtain ⟨B,hB⟩:∃ B:BK,B=(((j:Int),VW),([e.cmd],Q.1)):=⟨_,rfl⟩;have a6:Hid (B=lieB c e):=hid (by rw [hB,bo.out,HQ.out.1,ai.out.1];rfl);have ao:Hid (B.2.2=Q.1):=hid (by rw [hB]);have b1:Hid (B.2.1=[e.cmd]):=(by rw [hB]:B.2.1=_);have a8:Hid (∀ cv:Value,#[Value.int U (j:Int),I U VW,cv,I U Q.1.1,I U Q.1.2.1,I U Q.1.2.2.1,I U Q.1.2.2.2]=qD B cv):=(by rw [hB];exact fun _=>rfl:∀ cv:Value,_)
     have ar:Hid (R=if qZ c e.at'=true/\kH c.tree c.n Q.1=true/\qV c.said Q.1 c.liars=true/\¬ zBE c.tree B < 0/\(jM (lieT c e) (lieL c e)).2=true then ((jM (lieT c e) (lieL c e)).1,true) else (c,false)):=(by
      rw [HR.out];unfold zBC
      rw [<- HQ.out.1,<- ai.out.1,if_neg ci.out,a6.out]:R=_)
     clear hB HR ci;obtain ⟨Y,hY⟩:=nw (X3.alloc (.cells #[I U e.cmd.1,.string e.cmd.2.1,I U e.cmd.2.2] 139))
     have HY:Hid (PtE w Y N lo c s e/\Bx Y g8 #[I U Q.1.1,I U Q.1.2.1,I U Q.1.2.2.1,I U Q.1.2.2.2] 26/\yM Y (.slice (some ⟨X3.heap.size,0,none⟩) 1 1) 3 kL [e.cmd]):=(by
      have bu:Be X3 Y:=by rw [hY];exact yA _ _
      refine ⟨ah.1.more bu,bk bu ah.2,zW (xs:=[e.cmd]) kC (base:=X3.heap.size) (e:=139) ?_⟩;rw [hY]
      exact ⟨rfl,Or.inr ⟨X3.heap.size,1,_,rfl,nl _,heap_alloc_new X3 _,nl _,by unfold maxLen;omega,rfl,rfl⟩⟩:_/\_)
     go_upto_region 12 with (first
      | (rw [<- hY];clear hY)
      | (refine wpList_load_mid rfl _ _ rfl w.heap.size 4 rfl (kL e.cmd) _ (ev_cmd ah.1.box) underlying139 rfl (by kernel_rfl) ?_;unfold kL)
      | (refine w_ld g8 HY.2.1 underlying26 ?_)
      | (refine zC rfl _ _ _ rfl Y.heap.size (qD B (.slice (some ⟨X3.heap.size,0,none⟩) 1 1)) rfl (by rw [<- a8.out];rfl) 88 #[I U 0,I U 0,.slice none 0 0,I U 0,I U 0,I U 0,I U 0] (heap_alloc_new Y _) (by kernel_rfl) rfl (by rw [<- a8.out];simp [Ad]) ?_;intro X4 hg hk hz;have au:Be Y X4:=yB hg;have b:Hid (PtB w X4 N lo c s e g8 Y.heap.size Q.1 B (.slice (some ⟨X3.heap.size,0,none⟩) 1 1)):=⟨HY.1.more au,bk au HY.2.1,hk,by rw [b1.out];exact HY.out.2.2.below au⟩;clear hg hk hz au))
     obtain ⟨f,ap⟩:=nw Y.heap.size;obtain ⟨cv,cl⟩:=nw (Value.slice (some ⟨X3.heap.size,0,none⟩) 1 1);rw [<- ap,<- cl] at b;rw [<- ap];clear ap HY a8 ah
     cases ac:qZ c e.at' with
     | false=>
      have HE:Hid (R=(c,false)):=(by rw [ar.out];exact if_neg (fun h=>by rw [ac] at h;cases h.1):R=_);refine p_rg (fun _=>true) (fun x=>Bx x N (zR c s) 124/\Bx x w.heap.size (evA e) 172/\Bx x f (qD B cv) 88) ?_;show zX prog _ _ _ _ _ (34+1) (Ac 35 false) _ _;have KP:∀ x,Be X4 x->Bx x N (zR c s) 124/\Bx x w.heap.size (evA e) 172/\Bx x f (qD B cv) 88:=fun x hb=>⟨(b.more hb).pt.inb.box,(b.more hb).pt.box,(b.more hb).blk⟩
      have n:=bw X4;have hS:=KP X4.drew n;refine p_pt 0 67 N 0 hS ?_;refine p_pt 1 68 N 0 hS ?_;refine zD 2 69 (.agg (zR c s)) hS ?_ (hy:=fun x hx=>ldb N hx.1 underlying124);refine p_pt 3 70 w.heap.size 1 hS ?_;refine zD 4 71 (I U e.at') hS ?_ (hy:=by intro x hx;have l1:=zB hx.2.1 1 (I U e.at') rfl;go_simp;try rfl);refine kJ 5 72 170 #[.agg (zR c s),I U e.at'] ((yAI c s e.at' X4.drew).mono ?_);rintro r y1 ⟨rfl,o⟩;have l:Be X4 y1:=bt n o;clear hS;have hS:=KP y1 l;refine ⟨_,rfl,fun _=>hS,?_⟩;simp only [pz];rw [ac];refine zD 6 73 (.bool true) hS ?_;refine zD 7 74 (.bool true) hS ?_;refine xE 8 75 hS ?_;refine xE 9 76 hS ?_;refine xE 10 77 hS ?_;refine xE 11 78 hS ?_;refine xE 12 79 hS ?_;refine xE 13 80 hS ?_;refine xE 14 81 hS ?_;refine xE 15 82 hS ?_;refine xE 16 83 hS ?_;refine xE 17 84 hS ?_;refine xE 18 85 hS ?_;refine xE 19 86 hS ?_;refine zD 20 87 (.bool true) hS ?_;refine zD 21 88 (.bool true) hS ?_;refine xE 22 89 hS ?_;refine xE 23 90 hS ?_;refine xE 24 91 hS ?_;refine xE 25 92 hS ?_;refine xE 26 93 hS ?_;refine xE 27 94 hS ?_;refine xE 28 95 hS ?_;refine xE 29 96 hS ?_;refine xE 30 97 hS ?_;refine xE 31 98 hS ?_;refine xE 32 99 hS ?_;refine xE 33 100 hS ?_;refine zD 34 101 (.bool true) hS ?_;refine p_do ?_;go_wp2;go_ret;refine ⟨zL (by rw [HE.out]),s,?_⟩;rw [HE.out];exact (b.more l).pt.inb
     | true=>
      cases af:kH c.tree c.n Q.1 with
      | false=>
       have HE:Hid (R=(c,false)):=(by rw [ar.out];exact if_neg (fun h=>by rw [af] at h;cases h.2.1):R=_);refine p_rg (fun _=>true) (fun x=>Bx x N (zR c s) 124/\Bx x w.heap.size (evA e) 172/\Bx x f (qD B cv) 88) ?_;show zX prog _ _ _ _ _ (34+1) (Ac 35 false) _ _;have KP:∀ x,Be X4 x->Bx x N (zR c s) 124/\Bx x w.heap.size (evA e) 172/\Bx x f (qD B cv) 88:=fun x hb=>⟨(b.more hb).pt.inb.box,(b.more hb).pt.box,(b.more hb).blk⟩
       have n:=bw X4;have hS:=KP X4.drew n;refine p_pt 0 67 N 0 hS ?_;refine p_pt 1 68 N 0 hS ?_;refine zD 2 69 (.agg (zR c s)) hS ?_ (hy:=fun x hx=>ldb N hx.1 underlying124);refine p_pt 3 70 w.heap.size 1 hS ?_;refine zD 4 71 (I U e.at') hS ?_ (hy:=by intro x hx;have l1:=zB hx.2.1 1 (I U e.at') rfl;go_simp;try rfl);refine kJ 5 72 170 #[.agg (zR c s),I U e.at'] ((yAI c s e.at' X4.drew).mono ?_);rintro r y1 ⟨rfl,o⟩;have l:Be X4 y1:=bt n o;clear hS;have hS:=KP y1 l;refine ⟨_,rfl,fun _=>hS,?_⟩;simp only [pz];rw [ac];refine zD 6 73 (.bool false) hS ?_;refine zD 7 74 (.bool false) hS ?_;refine p_pt 8 75 N 0 hS ?_;refine p_pt 9 76 N 0 hS ?_;refine p_pt 10 77 N 3 hS ?_;refine zD 11 78 s.treeV hS ?_ (hy:=by intro x hx;have c3:=zB hx.1 3 s.treeV rfl;go_simp;try rfl);refine p_pt 12 79 N 0 hS ?_;refine p_pt 13 80 N 0 hS ?_;refine p_pt 14 81 N 0 hS ?_;refine zD 15 82 (I U c.n) hS ?_ (hy:=by intro x hx;have c0:=zB hx.1 0 (I U c.n) rfl;go_simp;try rfl);refine p_pt 16 83 f 3 hS ?_;refine zD 17 84 (.agg #[I U Q.1.1,I U Q.1.2.1,I U Q.1.2.2.1,I U Q.1.2.2.2]) hS ?_ (hy:=fun x hx=>by have hj:=blk_just hx.2.2;rw [ao.out] at hj;exact ldm f 3 _ hj underlying26);have a:=qcRight_s s.tree s.treeV c.n Q.1 y1 (b.more l).pt.inb.own.reads.tree (by have h:=d.ltree;rw [<- b.out.pt.inb.own.etree,yO] at h;omega) (by have:=d.n.1;omega) (by have:=d.n.2;omega) HQ.2;rw [b.out.pt.inb.own.etree] at a;refine kJ 18 85 118 #[s.treeV,I U c.n,.agg #[I U Q.1.1,I U Q.1.2.1,I U Q.1.2.2.1,I U Q.1.2.2.2]] ((a).mono ?_);rintro r y2 ⟨rfl,t⟩;have p:Be X4 y2:=bt l t;clear hS;have hS:=KP y2 p;refine ⟨_,rfl,fun _=>hS,?_⟩;simp only [pz];clear a;rw [af];refine zD 19 86 (.bool true) hS ?_;refine zD 20 87 (.bool true) hS ?_;refine zD 21 88 (.bool true) hS ?_;refine xE 22 89 hS ?_;refine xE 23 90 hS ?_;refine xE 24 91 hS ?_;refine xE 25 92 hS ?_;refine xE 26 93 hS ?_;refine xE 27 94 hS ?_;refine xE 28 95 hS ?_;refine xE 29 96 hS ?_;refine xE 30 97 hS ?_;refine xE 31 98 hS ?_;refine xE 32 99 hS ?_;refine xE 33 100 hS ?_;refine zD 34 101 (.bool true) hS ?_;refine p_do ?_;go_wp2;go_ret;refine ⟨zL (by rw [HE.out]),s,?_⟩;rw [HE.out];exact (b.more p).pt.inb
      | true=>
       cases aq:qV c.said Q.1 c.liars with
       | false=>
        have HE:Hid (R=(c,false)):=(by rw [ar.out];exact if_neg (fun h=>by rw [aq] at h;cases h.2.2.1):R=_);refine p_rg (fun _=>true) (fun x=>Bx x N (zR c s) 124/\Bx x w.heap.size (evA e) 172/\Bx x f (qD B cv) 88) ?_;show zX prog _ _ _ _ _ (34+1) (Ac 35 false) _ _;have KP:∀ x,Be X4 x->Bx x N (zR c s) 124/\Bx x w.heap.size (evA e) 172/\Bx x f (qD B cv) 88:=fun x hb=>⟨(b.more hb).pt.inb.box,(b.more hb).pt.box,(b.more hb).blk⟩
        have n:=bw X4;have hS:=KP X4.drew n;refine p_pt 0 67 N 0 hS ?_;refine p_pt 1 68 N 0 hS ?_;refine zD 2 69 (.agg (zR c s)) hS ?_ (hy:=fun x hx=>ldb N hx.1 underlying124);refine p_pt 3 70 w.heap.size 1 hS ?_;refine zD 4 71 (I U e.at') hS ?_ (hy:=by intro x hx;have l1:=zB hx.2.1 1 (I U e.at') rfl;go_simp;try rfl);refine kJ 5 72 170 #[.agg (zR c s),I U e.at'] ((yAI c s e.at' X4.drew).mono ?_);rintro r y1 ⟨rfl,o⟩;have l:Be X4 y1:=bt n o;clear hS;have hS:=KP y1 l;refine ⟨_,rfl,fun _=>hS,?_⟩;simp only [pz];rw [ac];refine zD 6 73 (.bool false) hS ?_;refine zD 7 74 (.bool false) hS ?_;refine p_pt 8 75 N 0 hS ?_;refine p_pt 9 76 N 0 hS ?_;refine p_pt 10 77 N 3 hS ?_;refine zD 11 78 s.treeV hS ?_ (hy:=by intro x hx;have c3:=zB hx.1 3 s.treeV rfl;go_simp;try rfl);refine p_pt 12 79 N 0 hS ?_;refine p_pt 13 80 N 0 hS ?_;refine p_pt 14 81 N 0 hS ?_;refine zD 15 82 (I U c.n) hS ?_ (hy:=by intro x hx;have c0:=zB hx.1 0 (I U c.n) rfl;go_simp;try rfl);refine p_pt 16 83 f 3 hS ?_;refine zD 17 84 (.agg #[I U Q.1.1,I U Q.1.2.1,I U Q.1.2.2.1,I U Q.1.2.2.2]) hS ?_ (hy:=fun x hx=>by have hj:=blk_just hx.2.2;rw [ao.out] at hj;exact ldm f 3 _ hj underlying26);have a:=qcRight_s s.tree s.treeV c.n Q.1 y1 (b.more l).pt.inb.own.reads.tree (by have h:=d.ltree;rw [<- b.out.pt.inb.own.etree,yO] at h;omega) (by have:=d.n.1;omega) (by have:=d.n.2;omega) HQ.2;rw [b.out.pt.inb.own.etree] at a;refine kJ 18 85 118 #[s.treeV,I U c.n,.agg #[I U Q.1.1,I U Q.1.2.1,I U Q.1.2.2.1,I U Q.1.2.2.2]] ((a).mono ?_);rintro r y2 ⟨rfl,t⟩;have p:Be X4 y2:=bt l t;clear hS;have hS:=KP y2 p;refine ⟨_,rfl,fun _=>hS,?_⟩;simp only [pz];clear a;rw [af];refine zD 19 86 (.bool false) hS ?_;refine zD 20 87 (.bool false) hS ?_;refine zD 21 88 (.bool false) hS ?_;refine p_pt 22 89 N 0 hS ?_;refine p_pt 23 90 N 0 hS ?_;refine p_pt 24 91 N 6 hS ?_;refine zD 25 92 s.said hS ?_ (hy:=by intro x hx;have c6:=zB hx.1 6 s.said rfl;go_simp;try rfl);refine p_pt 26 93 f 3 hS ?_;refine zD 27 94 (.agg #[I U Q.1.1,I U Q.1.2.1,I U Q.1.2.2.1,I U Q.1.2.2.2]) hS ?_ (hy:=fun x hx=>by have hj:=blk_just hx.2.2;rw [ao.out] at hj;exact ldm f 3 _ hj underlying26);refine p_pt 28 95 N 0 hS ?_;refine p_pt 29 96 N 0 hS ?_;refine p_pt 30 97 N 2 hS ?_;refine zD 31 98 (I U c.liars) hS ?_ (hy:=by intro x hx;have c2:=zB hx.1 2 (I U c.liars) rfl;go_simp;try rfl);refine kJ 32 99 226 #[s.said,.agg #[I U Q.1.1,I U Q.1.2.1,I U Q.1.2.2.1,I U Q.1.2.2.2],I U c.liars] ((proven_s c.said s.said Q.1 c.liars y2 (b.more p).pt.inb.own.reads.said (by have:=d.said;omega)).mono ?_);rintro r y3 ⟨rfl,y⟩;have v:Be X4 y3:=bt p y;clear hS;have hS:=KP y3 v;refine ⟨_,rfl,fun _=>hS,?_⟩;simp only [pz];rw [aq];refine zD 33 100 (.bool true) hS ?_;refine zD 34 101 (.bool true) hS ?_;refine p_do ?_;go_wp2;go_ret;refine ⟨zL (by rw [HE.out]),s,?_⟩;rw [HE.out];exact (b.more v).pt.inb
       | true=>
        have av:Hid (R=if ¬ zBE c.tree B < 0/\(jM (lieT c e) (lieL c e)).2=true then ((jM (lieT c e) (lieL c e)).1,true) else (c,false)):=(by rw [ar.out,ac,af,aq];simp only [true_and]:R=_);refine p_rg (fun _=>true) (fun x=>Bx x N (zR c s) 124/\Bx x w.heap.size (evA e) 172/\Bx x f (qD B cv) 88) ?_;show zX prog _ _ _ _ _ (34+1) (Ac 35 false) _ _;have KP:∀ x,Be X4 x->Bx x N (zR c s) 124/\Bx x w.heap.size (evA e) 172/\Bx x f (qD B cv) 88:=fun x hb=>⟨(b.more hb).pt.inb.box,(b.more hb).pt.box,(b.more hb).blk⟩
        have n:=bw X4;have hS:=KP X4.drew n;refine p_pt 0 67 N 0 hS ?_;refine p_pt 1 68 N 0 hS ?_;refine zD 2 69 (.agg (zR c s)) hS ?_ (hy:=fun x hx=>ldb N hx.1 underlying124);refine p_pt 3 70 w.heap.size 1 hS ?_;refine zD 4 71 (I U e.at') hS ?_ (hy:=by intro x hx;have l1:=zB hx.2.1 1 (I U e.at') rfl;go_simp;try rfl);refine kJ 5 72 170 #[.agg (zR c s),I U e.at'] ((yAI c s e.at' X4.drew).mono ?_);rintro r y1 ⟨rfl,o⟩;have l:Be X4 y1:=bt n o;clear hS;have hS:=KP y1 l;refine ⟨_,rfl,fun _=>hS,?_⟩;simp only [pz];rw [ac];refine zD 6 73 (.bool false) hS ?_;refine zD 7 74 (.bool false) hS ?_;refine p_pt 8 75 N 0 hS ?_;refine p_pt 9 76 N 0 hS ?_;refine p_pt 10 77 N 3 hS ?_;refine zD 11 78 s.treeV hS ?_ (hy:=by intro x hx;have c3:=zB hx.1 3 s.treeV rfl;go_simp;try rfl);refine p_pt 12 79 N 0 hS ?_;refine p_pt 13 80 N 0 hS ?_;refine p_pt 14 81 N 0 hS ?_;refine zD 15 82 (I U c.n) hS ?_ (hy:=by intro x hx;have c0:=zB hx.1 0 (I U c.n) rfl;go_simp;try rfl);refine p_pt 16 83 f 3 hS ?_;refine zD 17 84 (.agg #[I U Q.1.1,I U Q.1.2.1,I U Q.1.2.2.1,I U Q.1.2.2.2]) hS ?_ (hy:=fun x hx=>by have hj:=blk_just hx.2.2;rw [ao.out] at hj;exact ldm f 3 _ hj underlying26);have a:=qcRight_s s.tree s.treeV c.n Q.1 y1 (b.more l).pt.inb.own.reads.tree (by have h:=d.ltree;rw [<- b.out.pt.inb.own.etree,yO] at h;omega) (by have:=d.n.1;omega) (by have:=d.n.2;omega) HQ.2;rw [b.out.pt.inb.own.etree] at a;refine kJ 18 85 118 #[s.treeV,I U c.n,.agg #[I U Q.1.1,I U Q.1.2.1,I U Q.1.2.2.1,I U Q.1.2.2.2]] ((a).mono ?_);rintro r y2 ⟨rfl,t⟩;have p:Be X4 y2:=bt l t;clear hS;have hS:=KP y2 p;refine ⟨_,rfl,fun _=>hS,?_⟩;simp only [pz];clear a;rw [af];refine zD 19 86 (.bool false) hS ?_;refine zD 20 87 (.bool false) hS ?_;refine zD 21 88 (.bool false) hS ?_;refine p_pt 22 89 N 0 hS ?_;refine p_pt 23 90 N 0 hS ?_;refine p_pt 24 91 N 6 hS ?_;refine zD 25 92 s.said hS ?_ (hy:=by intro x hx;have c6:=zB hx.1 6 s.said rfl;go_simp;try rfl);refine p_pt 26 93 f 3 hS ?_;refine zD 27 94 (.agg #[I U Q.1.1,I U Q.1.2.1,I U Q.1.2.2.1,I U Q.1.2.2.2]) hS ?_ (hy:=fun x hx=>by have hj:=blk_just hx.2.2;rw [ao.out] at hj;exact ldm f 3 _ hj underlying26);refine p_pt 28 95 N 0 hS ?_;refine p_pt 29 96 N 0 hS ?_;refine p_pt 30 97 N 2 hS ?_;refine zD 31 98 (I U c.liars) hS ?_ (hy:=by intro x hx;have c2:=zB hx.1 2 (I U c.liars) rfl;go_simp;try rfl);refine kJ 32 99 226 #[s.said,.agg #[I U Q.1.1,I U Q.1.2.1,I U Q.1.2.2.1,I U Q.1.2.2.2],I U c.liars] ((proven_s c.said s.said Q.1 c.liars y2 (b.more p).pt.inb.own.reads.said (by have:=d.said;omega)).mono ?_);rintro r y3 ⟨rfl,y⟩;have v:Be X4 y3:=bt p y;clear hS;have hS:=KP y3 v;refine ⟨_,rfl,fun _=>hS,?_⟩;simp only [pz];rw [aq];refine zD 33 100 (.bool false) hS ?_;refine zD 34 101 (.bool false) hS ?_;refine p_do ?_;have u:Hid (PtB w y3 N lo c s e g8 f Q.1 B cv):=b.more v;clear hS KP n l p v o t y ar ac af aq b
        go_upto_region 14 with fail
        refine p_rg (fun _=>true) (fun x=>Bx x N (zR c s) 124/\Bx x f (qD B cv) 88) ?_;show zX prog _ _ _ _ _ (10+1) (Ac 11 false) _ _;have n:=bw y3;have hS:Bx y3.drew N (zR c s) 124/\Bx y3.drew f (qD B cv) 88:=⟨u.pt.inb.box,u.blk⟩;refine p_pt 0 103 N 0 hS ?_;refine p_pt 1 104 N 0 hS ?_;refine p_pt 2 105 N 3 hS ?_;refine zD 3 106 s.treeV hS ?_ (hy:=by intro x hx;have c3:=zB hx.1 3 s.treeV rfl;go_simp;try rfl);refine zD 4 107 (.agg (qD B cv)) hS ?_ (hy:=fun x hx=>ldb f hx.2 underlying88);have a:=putBlock_s s.tree s.treeV B cv y3.drew (u.more n).pt.inb.own.tree.read (u.more n).cmds (by rw [u.out.pt.inb.own.etree];exact d.out.tree) (by unfold okB;rw [b1.out];exact ⟨by simp,fun x hx=>by rcases List.mem_singleton.1 hx with rfl;exact hc⟩);rw [u.out.pt.inb.own.etree] at a;obtain ⟨PA,a5⟩:=nw (zBE c.tree B);rw [<- a5] at a av;refine kJ 5 108 140 #[s.treeV,.agg (qD B cv)] (a.mono ?_);clear a;rintro r X6 ⟨v1,qs,rfl,bq,bp,a0⟩;have m:Hid (PtB w X6 N lo c s e g8 f Q.1 B cv):=u.more (n.trans a0);have cq:Hid (xG lo y3.heap.size X6 c s):=u.pt.inb.own.below (n.trans a0);have am:Hid (xH X6 y3.heap.size v1 qs/\bks qs=zGE c.tree B/\y3.heap.size<=X6.heap.size/\lo<=y3.heap.size/\N < y3.heap.size):=⟨bp,bq,a0.size,Aa b4 u.pt.inb.fr.size,Ab cp u.pt.inb.fr.size⟩;refine ⟨_,rfl,fun _=>⟨m.pt.inb.box,m.blk⟩,?_⟩;simp only [pz];refine zD 6 102 (.tuple #[v1,I U PA]) ⟨m.pt.inb.box,m.blk⟩ ?_;refine zD 7 109 v1 ⟨m.pt.inb.box,m.blk⟩ ?_;refine zD 8 110 (I U PA) ⟨m.pt.inb.box,m.blk⟩ ?_;refine zD 9 11 v1 ⟨m.pt.inb.box,m.blk⟩ ?_;refine zD 10 12 (I U PA) ⟨m.pt.inb.box,m.blk⟩ ?_;refine p_do ?_;have cm:Hid (PA=zBE c.tree B):=a5;clear hS n bq bp a0 u a5
        by_cases hpa:PA < 0
        ·have HE:Hid (R=(c,false)):=(by rw [av.out];exact if_neg (fun h=>h.1 hpa):R=_);go_wp2;go_ret;refine ⟨zL (by rw [HE.out]),s,?_⟩;rw [HE.out];exact m.out.pt.inb
        ·have a4:Hid (R=if (jM (lieT c e) (lieL c e)).2=true then ((jM (lieT c e) (lieL c e)).1,true) else (c,false)):=(by
          rw [av.out]
          by_cases hh:(jM (lieT c e) (lieL c e)).2=true
          ·rw [if_pos ⟨hpa,hh⟩,if_pos hh]
          ·rw [if_neg (fun h=>hh h.2),if_neg hh]:R=_)
         clear av;obtain ⟨C1,a1⟩:∃ C1:CU,C1={ c with tree:=bks qs }:=⟨_,rfl⟩;obtain ⟨S1,bf⟩:∃ S1:CW,S1={ s with treeV:=v1,tree:=qs }:=⟨_,rfl⟩;obtain ⟨L,hL⟩:∃ L:LT,L=((1,e.at',e.to',VW,PA),Q.1,(0,0,0,0)):=⟨_,rfl⟩
         have az:Hid (lieT c e=C1/\lieL c e=L/\handOk C1/\fitQ L.2.1):=(by
          have h1:lieT c e=C1:=by rw [a1,am.out.2.1,a6.out];rfl
          refine ⟨h1,?_,by rw [<- h1];exact d.out.hand2 e,by rw [hL];exact HQ.out.2⟩;rw [hL,cm.out,a6.out,bo.out,HQ.out.1]
          rfl:_/\_)
         have ck:Hid (zQ L=#[I U 1,I U e.at',I U e.to',I U VW,I U PA,I U Q.1.1,I U Q.1.2.1,I U Q.1.2.2.1,I U Q.1.2.2.2,I U 0,I U 0,I U 0,I U 0]):=hid (by rw [hL];rfl);have ca:=hid (qad2 a1 bf);have cf:Hid ((zR c s).setIfInBounds 3 v1=zR C1 S1/\(zR C1 S1).setIfInBounds 3 s.treeV=zR c s):=hid (by rw [a1,bf];exact ⟨rfl,rfl⟩);rw [az.out.1,az.out.2.1] at a4;clear a1 bf hL;have c3:=zB m.pt.inb.box 3 s.treeV rfl
         go_wp2_with (first
          | (refine w_sc N 3 v1 m.pt.inb.box (by simp [zR]) (jI am.1.row) (zR C1 S1) cf.1 ?_;intro X7 hg hk;have aa:Hid (InB N lo w X7 C1 S1/\Bx X7 w.heap.size (evA e) 172/\Bx X7 g8 #[I U Q.1.1,I U Q.1.2.1,I U Q.1.2.2.1,I U Q.1.2.2.2] 26/\FrS (fun k=>k=N) X6 X7):=tree_in m am.1 am.2.2.2.1 am.2.2.2.2 ca.1 ca.2 hg hk cq;have l1:=zB aa.2.1 1 (I U e.at') rfl;have l2:=zB aa.2.1 2 (I U e.to') rfl;clear hg hk)
          | (refine w_ld g8 aa.2.2.1 underlying26 ?_))
         clear l1 l2 c3;have a:=hand_p C1 S1 N lo X7.heap.size L X7 aa.1.box aa.1.own (Aa b4 aa.1.fr.size) az.2.2.1 az.2.2.2;rw [ck.out] at a;refine a.mono ?_;clear a;rintro r X8 ⟨rfl,s8,a9,ch⟩;have aw:=hid (qad3 (aa.1.trans a9) (aa.2.2.2.trans a9.fr) ch);clear a9 ch aa
         cases ae:(jM C1 L).2 with
         | true=>
          have HE:Hid (R=((jM C1 L).1,true)):=(by rw [a4.out,if_pos ae]:R=_);go_wp2;go_ret;refine ⟨zL (by rw [HE.out]),s8,?_⟩;rw [HE.out];exact aw.out.1
         | false=>
          have HE:Hid (R=(c,false)):=(by rw [a4.out,if_neg (by rw [ae];decide)]:R=_);have cr:Hid (Bx X8 N (zR C1 S1) 124):=hid (by have h:=aw.1.box;rw [aw.out.2.2 ae,hand_no ae] at h;exact h)
          go_wp2_with (refine w_sc N 3 s.treeV cr (by simp [zR]) (jI m.pt.inb.own.tree.row) (zR c s) cf.2 ?_;intro z hg hk;have HZ:Hid (InB N lo w z c s):=(by
            have hf:FrS (fun k=>k=N) X6 z:=aw.2.1.trans (FrS.of_grown hg (fun k e=>by cases e;rfl))
            exact ⟨hk,(m.pt.inb.own.frs hf (fun i g hi hp e=>m.pt.inb.own.noBox m.pt.inb.box i hi (by rw [<- e];exact hp))).wide hf.size (nl _),m.pt.inb.fr.trans hf⟩:InB _ _ _ _ _ _);clear hg hk)
          go_ret;refine ⟨zL (by rw [HE.out]),s,?_⟩;rw [HE.out];exact HZ.out
end Go.Proofs.YtfnneillakdopacGreatR
