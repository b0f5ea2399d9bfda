/-
  A text of ours: LieBC.
-/
import Derived.Test.YtfnneillakdopacGreatRK1
import Derived.Test.YtfnneillakdopacGreatRK9
import Derived.Test.YtfnneillakdopacGreatRWaitCZ
set_option maxRecDepth 100000
set_option maxHeartbeats 32000000
namespace Go.Proofs.YtfnneillakdopacGreatR
open _root_.Go.Proofs.Tryz
open Go.Value renaming int->I,oneCell'->Ad
open Go.IntKind renaming i64->U
open Nat renaming le_trans->Aa,lt_of_lt_of_le->Ab
open _root_.Array renaming replicate->Ac
open Go.RowKit Num
variable {b:BK} {c:CU} {s:CW} {e:EV} {N lo:Nat} {cv:Value} {w x y:World}
structure PtE (w y:World) (N lo:Nat) (c:CU) (s:CW) (e:EV):Prop where
 inb:InB N lo w y c s
 box:Bx y w.heap.size (evA e) 172
theorem PtE.more (h:PtE w y N lo c s e) (hb:Be y x):PtE w x N lo c s e:=
 ⟨h.inb.more hb,bk hb h.box⟩
structure PtB (w y:World) (N lo:Nat) (c:CU) (s:CW) (e:EV) (g8 g10:Nat) (q:QC) (b:BK) (cv:Value):Prop where
 pt:PtE w y N lo c s e
 qc:Bx y g8 #[I U q.1,I U q.2.1,I U q.2.2.1,I U q.2.2.2] 26
 blk:Bx y g10 (qD b cv) 88
 cmds:yM y cv 3 kL b.2.1
theorem PtB.more {g8 g10:Nat} {q:QC} (h:PtB w y N lo c s e g8 g10 q b cv) (hb:Be y x):PtB w x N lo c s e g8 g10 q b cv:=
 ⟨h.pt.more hb,bk hb h.qc,bk hb h.blk,h.cmds.below hb⟩
theorem blk_just {g:Nat} (h:Bx x g (qD b cv) 88):x.rangeAt g 3 [I U b.2.2.1,I U b.2.2.2.1,I U b.2.2.2.2.1,I U b.2.2.2.2.2]:=fun k v hk=>by
 have a:=(List.getElem?_eq_some_iff.1 hk).1;refine zB h (3+k) v ?_
 match k,a,hk with
 | 0,_,h=>exact h
 | 1,_,h=>exact h
 | 2,_,h=>exact h
 | 3,_,h=>exact h
theorem ev_cmd {g:Nat} (h:Bx x g (evA e) 172):x.rangeAt g 4 (kL e.cmd):=fun k v hk=>by
 have a:=(List.getElem?_eq_some_iff.1 hk).1;refine zB h (4+k) v ?_
 match k,a,hk with
 | 0,_,h=>exact h
 | 1,_,h=>exact h
 | 2,_,h=>exact h
theorem tree_in {base:Nat} {C1:CU} {S1:CW} {g8 g10:Nat} {q:QC} {v1:Value} {qs:TL} (h:PtB w x N lo c s e g8 g10 q b cv) (ht:xH x base v1 qs) (hlb:lo<=base) (hN:N < base) (e1:C1={c with tree:=bks qs }) (e2:S1={s with treeV:=v1,tree:=qs })
  (hg:x.grownBy y (some N)) (hk:Bx y N (zR C1 S1) 124) (ho:xG lo base x c s):InB N lo w y C1 S1/\Bx y w.heap.size (evA e) 172/\Bx y g8 #[I U q.1,I U q.2.1,I U q.2.2.1,I U q.2.2.2] 26/\FrS (fun k=>k=N) x y:=by
 have hf:FrS (fun k=>k=N) x y:=FrS.of_grown hg (fun k e=>by cases e;rfl)
 have K:∀ (k:Nat) (A:Array Value) (T:TypeId),x.heap[k]?=some (.cells A T (0,0))->T ≠ 124->y.heap[k]?=some (.cells A T (0,0)):=fun k A T a hT=>gk hg a (fun e=>by
  have e:=Option.some.inj e;rw [e] at a;have h3:=a.symm.trans h.pt.inb.box;injection h3 with h3
  injection h3 with _ h3 _
  exact hT h3)
 refine ⟨⟨hk,?_,h.pt.inb.fr.trans hf⟩,K _ _ _ h.pt.box (by decide),K _ _ _ h.qc (by decide),hf⟩;rw [e1,e2];exact (ho.boxT h.pt.inb.box hg).setTree (Aa ho.size hg.size) (nl _) ((ht.frs hf (fun k hk e=>by have:=(zCE ht hk).1;omega)).base hlb) (fun k hk=>⟨(zCE ht hk).1,Ab (zCE ht hk).2 hg.size⟩) hlb
theorem lieBlock_p (c:CU) (s:CW) (N lo hi:Nat) (e:EV) (w:World) (hbox:Bx w N (zR c s) 124) (hown:xG lo hi w c s) (hlo:lo<=hi) (hok:lieOk c) (hn:0<=e.num) (hc:(e.cmd.2.1.size:Int)<=1048576) :
  Calls prog 203 #[.pointer (some ⟨N,0,none⟩),.agg (evA e)] w fun r w'=>r=.returned (.bool (zBC c e).2)/\∃ s',InB N lo w w' (zBC c e).1 s':=by
 have cb:Hid (lo<=w.heap.size):=Aa hlo hown.size;have d:=hid hok;obtain ⟨W,hW⟩:=nw (w.alloc (.cells (evA e) 172))
 have HW:Hid (PtE w W N lo c s e):=(by
  have hb:Be w W:=by rw [hW];exact yA _ _
  exact ⟨(InB.start hbox hown).more hb,by rw [hW];exact heap_alloc_new w _⟩:PtE _ _ _ _ _ _ _)
 have cs:Hid (N < w.heap.size):=(gl hbox);clear hbox hown hlo hok;obtain ⟨R,hR⟩:=nw (zBC c e);have HR:Hid (R=zBC c e):=hR;rw [<- hR];clear hR;obtain ⟨K,hK⟩:=nw (yBJ c e);have a3:=d.one;have bn:=d.ltree;have b8:Hid (0<=K/\K < (c.tree.length:Int)):=hid (by rw [hK];unfold yBJ;exact ⟨Int.emod_nonneg _ (by omega),Int.emod_lt_of_pos _ (by omega)⟩);have ai:Hid (K=yBJ c e/\e.num.tmod (c.tree.length:Int)=K):=⟨hK,by rw [hK];unfold yBJ;exact Int.tmod_eq_emod_of_nonneg hn⟩;clear hK;obtain ⟨at',ct,et,an⟩:=HW.inb.own.reads.viewCell;have b1:=hid an;have cj:Hid (s.treeV=.slice at' c.tree.length ct):=et;clear an et;go_enter func203,ntmps203
 go_upto_region 1 with (rw [<- hW];clear hW)
 try (rw [<- hW];clear hW)
 refine p_rg (fun _=>true) (fun x=>Bx x N (zR c s) 124/\Bx x w.heap.size (evA e) 172) ?_;show zX prog _ _ _ _ _ (8+1) (Ac 9 false) _ _;have hS:Bx W.drew N (zR c s) 124/\Bx W.drew w.heap.size (evA e) 172:=⟨HW.inb.box,HW.box⟩;have bo:¬ (c.tree.length:Int)=0:=by omega
 have ca:¬ c.tree.length=0:=by omega
 refine p_pt 0 14 w.heap.size 3 hS ?_;refine zD 1 15 (I U e.num) hS ?_ (hy:=by intro x hx;have l3:=zB hx.2 3 (I U e.num) rfl;go_simp;try rfl);refine p_pt 2 16 N 0 hS ?_;refine p_pt 3 17 N 0 hS ?_;refine p_pt 4 18 N 3 hS ?_;refine zD 5 19 (.slice at' c.tree.length ct) hS ?_ (hy:=by intro x hx;have c3:=zB hx.1 3 s.treeV rfl;rw [cj.out] at c3;go_simp;try rfl);refine zD 6 20 (I U (c.tree.length:Int)) hS ?_;refine zD 7 21 (I U K) hS ?_ (hy:=by intro x hx;have cw:=ai.2;go_simp;try rfl);refine zD 8 5 (I U K) hS ?_;refine p_do ?_;obtain ⟨X0,aw⟩:=nw W.drew;have aj:Hid (PtE w X0 N lo c s e):=(by rw [aw];exact HW.out.more (br _ _).drew:PtE _ _ _ _ _ _ _);have bm:Hid (Be W X0):=hid (by rw [aw];exact (br _ _).drew);rw [<- aw];clear aw hS HW;have c4:=zB aj.inb.box 4 s.peersV rfl;go_wp2_with fail
 clear c4;refine (far_s s.peers s.peersV X0 aj.inb.own.reads.peers (by have h:=d.lpeers;rw [<- aj.out.inb.own.epeers,yCI] at h;exact h)).mono ?_;rintro r X1 ⟨rfl,a7⟩;rw [aj.out.inb.own.epeers];have ae:Hid (PtE w X1 N lo c s e):=aj.more a7;have ck:Hid (Be W X1):=bt bm a7;clear a7 aj;obtain ⟨FV,ak⟩:=nw (yEH c.peers 0);have cf:-9223372036854775808<=FV:=by rw [ak];exact d.out.far.1
 have bq:FV < 9223372036854775807:=by rw [ak];exact d.out.far.2
 obtain ⟨j,hj⟩:∃ j:Nat,K=(j:Int):=⟨K.toNat,by have:=b8.1;omega⟩;subst hj;have ch:j < c.tree.length:=by have:=b8.2;omega
 obtain ⟨g,cc,rfl,b9,an⟩:=b1 j ch;obtain ⟨TV,ar⟩:=nw (yR c.tree (j:Int));have bu:-9223372036854775808<=TV:=by rw [ar];exact (d.views _).1
 have bx:TV < 9223372036854775807:=by rw [ar];exact (d.views _).2
 have q0:(0:Int)<=(j:Int):=by omega
 have q1:(j:Int) < (c.tree.length:Int):=by omega
 obtain ⟨VW,bc⟩:=nw (lieW c e);have cg:Hid (VW=if e.num % 2=1 then TV+1 else FV+1):=(by rw [bc,ar,ak,ai.out.1];rfl:VW=_);have b6:Hid (VW=lieW c e):=bc;have a8:e.num.tmod 2=e.num % 2:=Int.tmod_eq_emod_of_nonneg hn;have a6:0<=e.num % 2/\e.num % 2 < 2:=by omega
 rw [<- ak];have ap:Hid (W.cell? ⟨g,cc+j * 7+1,none⟩=some (I U TV)/\g < W.heap.size):=⟨by rw [ar];exact an,b9⟩;clear ak ar bc an b9 b1;have l3:=zB ae.box 3 (I U e.num) rfl
 go_upto_if 31 with fail
 go_cut [6] (fun v6 wx=>v6=I U VW/\wx=X1)
 case first=>
  have c3:=zB ae.inb.box 3 s.treeV rfl;rw [cj.out] at c3;have cp:X1.cell? ⟨g,cc+j * 7+1,none⟩=some (I U TV):=by rw [ck.out.cell (by exact ap.out.2)];exact ap.out.1
  by_cases h2:e.num % 2=1
  ·have b2:(e.num % 2 == 1)=true:=by simpa using h2
   have a4:Hid (VW=TV+1):=(by rw [cg.out,if_pos h2]:VW=_);clear h2 a8 a6 cf bq bo ca a3 bn hn hc l3;go_wp2
   go_meet
   case rel=>exact ⟨by rw [a4.out],rfl⟩
  ·have b2:(e.num % 2 == 1)=false:=by simpa using h2
   have a4:Hid (VW=FV+1):=(by rw [cg.out,if_neg h2]:VW=_);clear h2 a8 a6 bo ca a3 bn hn hc l3 c3 cp bu bx q0 q1 ch;go_wp2
   go_meet
   case rel=>exact ⟨by rw [a4.out],rfl⟩
 case rest=>
  obtain ⟨rfl,hw⟩:=hcut;obtain rfl:=hw.symm;clear hw l3 a8 a6 cf bq bu bx ap;obtain ⟨PH,av⟩:∃ PH:Int,PH=if c.chain=true then 4 else 1:=⟨_,rfl⟩
  have cq:Hid (PH=if c.chain=true then 4 else 1):=av;have c1:=zB ae.inb.box 1 (.bool c.chain) rfl
  go_upto_if 44 with fail
  go_cut [7] (fun v7 wx=>v7=I U PH/\wx=X1)
  case first=>
   cases bl:c.chain with
   | true=>
    have hp:PH=4:=by rw [av,if_pos bl]
    go_wp2
    go_meet
    case rel=>exact ⟨by rw [hp],rfl⟩
   | false=>
    have hp:PH=1:=by rw [av,if_neg (by rw [bl];decide)]
    go_wp2
    go_meet
    case rel=>exact ⟨by rw [hp],rfl⟩
  case rest=>
   obtain ⟨rfl,hw⟩:=hcut;obtain rfl:=hw.symm;clear hw c1 av;go_wp2_with (refine w_ld N ae.inb.box underlying124 ?_)
   have a:=lieQc_s c s PH (j:Int) X1 ae.inb.own.reads (by have:=d.ltree;omega) d.said d.n.1 (by have:=d.n.2;omega);obtain ⟨Q,hQ⟩:=nw (qM c PH (j:Int))
   have HQ:Hid (Q=lieQ c e/\fitQ Q.1):=(by
    refine ⟨?_,by rw [hQ];exact lieQc_fit _ _ _⟩;rw [hQ,cq.out,ai.out.1]
    rfl:_/\_)
   rw [<- hQ] at a;unfold zBF at a;refine a.mono ?_;clear a hQ;rintro r X2 ⟨rfl,ci⟩;have b5:Hid (PtE w X2 N lo c s e):=ae.more ci;clear ci ae
   go_upto_region 9 with (refine w_st X2.heap.size #[I U Q.1.1,I U Q.1.2.1,I U Q.1.2.2.1,I U Q.1.2.2.2] (heap_alloc_new X2 _) (by simp [Ad]) ?_;intro X3 hg hk hz;have bp:Be X2 X3:=yB hg;have ah:=hid (qad2 (b5.more bp) hk);clear hg hk hz bp)
   obtain ⟨g8,bi⟩:=nw X2.heap.size;rw [<- bi] at ah ⊢;clear bi b5;obtain ⟨ZB,ac⟩:=nw (!Q.2 && decide ((j:Int) ≠ 0))
   go_cut [9,59] (fun _ cn wx=>cn=.bool ZB/\wx=X3)
   case first=>
    cases bh:Q.2 with
    | true=>
     have hz:ZB=false:=by rw [ac,bh];rfl
     go_wp2
     go_meet
     case rel=>exact ⟨by rw [hz],rfl⟩
    | false=>
     by_cases hj0:(j:Int)=0
     ·have hz:ZB=false:=by rw [ac,bh];simp [hj0]
      have bj:((j:Int) != 0)=false:=by simpa using hj0
      go_wp2
      go_meet
      case rel=>exact ⟨by rw [hz],rfl⟩
     ·have hz:ZB=true:=by rw [ac,bh];simpa using hj0
      have bj:((j:Int) != 0)=true:=by simpa using hj0
      go_wp2
      go_meet
      case rel=>exact ⟨by rw [hz],rfl⟩
   case rest=>
    obtain ⟨rfl,hw⟩:=hcut;obtain rfl:=hw.symm;clear hw
    cases a9:ZB with
    | true=>
     have HE:Hid (R=(c,false)):=(by
      rw [HR.out];unfold zBC;rw [<- HQ.out.1,<- ai.out.1];rw [a9] at ac;have h:=ac.symm;simp only [Bool.and_eq_true,Bool.not_eq_true',decide_eq_true_eq] at h
      exact if_pos h:R=_)
     go_wp2;go_ret;refine ⟨zL (by rw [HE.out]),s,?_⟩;rw [HE.out];exact ah.out.1.inb
    | false=>
     have cd:Hid (¬ (Q.2=false/\(j:Int) ≠ 0)):=(by
      intro h;rw [a9,h.1,decide_eq_true h.2] at ac
      exact absurd ac (by decide):¬ _)
     clear ac a9;obtain ⟨B,hB⟩:∃ B:BK,B=(((j:Int),VW),([e.cmd],Q.1)):=⟨_,rfl⟩;have a5:Hid (B=lieB c e):=hid (by rw [hB,b6.out,HQ.out.1,ai.out.1];rfl);have am:Hid (B.2.2=Q.1):=hid (by rw [hB]);have b0:Hid (B.2.1=[e.cmd]):=(by rw [hB]:B.2.1=_);have bf:Hid (∀ cv:Value,#[Value.int U (j:Int),I U VW,cv,I U Q.1.1,I U Q.1.2.1,I U Q.1.2.2.1,I U Q.1.2.2.2]=qD B cv):=(by rw [hB];exact fun _=>rfl:∀ cv:Value,_)
     have au:Hid (R=if qZ c e.at'=true/\kH c.tree c.n Q.1=true/\qV c.said Q.1 c.liars=true/\¬ zBE c.tree B < 0/\(jM (lieT c e) (lieL c e)).2=true then ((jM (lieT c e) (lieL c e)).1,true) else (c,false)):=(by
      rw [HR.out];unfold zBC
      rw [<- HQ.out.1,<- ai.out.1,if_neg cd.out,a5.out]:R=_)
     clear hB HR cd;obtain ⟨Y,hY⟩:=nw (X3.alloc (.cells #[I U e.cmd.1,.string e.cmd.2.1,I U e.cmd.2.2] 139))
     have HY:Hid (PtE w Y N lo c s e/\Bx Y g8 #[I U Q.1.1,I U Q.1.2.1,I U Q.1.2.2.1,I U Q.1.2.2.2] 26/\yM Y (.slice (some ⟨X3.heap.size,0,none⟩) 1 1) 3 kL [e.cmd]):=(by
      have ce:Be X3 Y:=by rw [hY];exact yA _ _
      refine ⟨ah.1.more ce,bk ce ah.2,zW (xs:=[e.cmd]) kC (base:=X3.heap.size) (e:=139) ?_⟩;rw [hY]
      exact ⟨rfl,Or.inr ⟨X3.heap.size,1,_,rfl,nl _,heap_alloc_new X3 _,nl _,by unfold maxLen;omega,rfl,rfl⟩⟩:_/\_)
     go_upto_region 12 with (first
      | (rw [<- hY];clear hY)
      | (refine wpList_load_mid rfl _ _ rfl w.heap.size 4 rfl (kL e.cmd) _ (ev_cmd ah.1.box) underlying139 rfl (by kernel_rfl) ?_;unfold kL)
      | (refine w_ld g8 HY.2.1 underlying26 ?_)
      | (refine zC rfl _ _ _ rfl Y.heap.size (qD B (.slice (some ⟨X3.heap.size,0,none⟩) 1 1)) rfl (by rw [<- bf.out];rfl) 88 #[I U 0,I U 0,.slice none 0 0,I U 0,I U 0,I U 0,I U 0] (heap_alloc_new Y _) (by kernel_rfl) rfl (by rw [<- bf.out];simp [Ad]) ?_;intro X4 hg hk hz;have ax:Be Y X4:=yB hg;have b:Hid (PtB w X4 N lo c s e g8 Y.heap.size Q.1 B (.slice (some ⟨X3.heap.size,0,none⟩) 1 1)):=⟨HY.1.more ax,bk ax HY.2.1,hk,by rw [b0.out];exact HY.out.2.2.below ax⟩;clear hg hk hz ax))
     obtain ⟨f,aq⟩:=nw Y.heap.size;obtain ⟨cv,cl⟩:=nw (Value.slice (some ⟨X3.heap.size,0,none⟩) 1 1);rw [<- aq,<- cl] at b;rw [<- aq];clear aq HY bf ah
     cases ad:qZ c e.at' with
     | false=>
      have HE:Hid (R=(c,false)):=(by rw [au.out];exact if_neg (fun h=>by rw [ad] at h;cases h.1):R=_);refine p_rg (fun _=>true) (fun x=>Bx x N (zR c s) 124/\Bx x w.heap.size (evA e) 172/\Bx x f (qD B cv) 88) ?_;show zX prog _ _ _ _ _ (34+1) (Ac 35 false) _ _;have KP:∀ x,Be X4 x->Bx x N (zR c s) 124/\Bx x w.heap.size (evA e) 172/\Bx x f (qD B cv) 88:=fun x hb=>⟨(b.more hb).pt.inb.box,(b.more hb).pt.box,(b.more hb).blk⟩
      have n:=bw X4;have hS:=KP X4.drew n;refine p_pt 0 67 N 0 hS ?_;refine p_pt 1 68 N 0 hS ?_;refine zD 2 69 (.agg (zR c s)) hS ?_ (hy:=fun x hx=>ldb N hx.1 underlying124);refine p_pt 3 70 w.heap.size 1 hS ?_;refine zD 4 71 (I U e.at') hS ?_ (hy:=by intro x hx;have l1:=zB hx.2.1 1 (I U e.at') rfl;go_simp;try rfl);refine kJ 5 72 170 #[.agg (zR c s),I U e.at'] ((yAI c s e.at' X4.drew).mono ?_);rintro r y1 ⟨rfl,p⟩;have l:Be X4 y1:=bt n p;clear hS;have hS:=KP y1 l;refine ⟨_,rfl,fun _=>hS,?_⟩;simp only [pz];rw [ad];refine zD 6 73 (.bool true) hS ?_;refine zD 7 74 (.bool true) hS ?_;refine xE 8 75 hS ?_;refine xE 9 76 hS ?_;refine xE 10 77 hS ?_;refine xE 11 78 hS ?_;refine xE 12 79 hS ?_;refine xE 13 80 hS ?_;refine xE 14 81 hS ?_;refine xE 15 82 hS ?_;refine xE 16 83 hS ?_;refine xE 17 84 hS ?_;refine xE 18 85 hS ?_;refine xE 19 86 hS ?_;refine zD 20 87 (.bool true) hS ?_;refine zD 21 88 (.bool true) hS ?_;refine xE 22 89 hS ?_;refine xE 23 90 hS ?_;refine xE 24 91 hS ?_;refine xE 25 92 hS ?_;refine xE 26 93 hS ?_;refine xE 27 94 hS ?_;refine xE 28 95 hS ?_;refine xE 29 96 hS ?_;refine xE 30 97 hS ?_;refine xE 31 98 hS ?_;refine xE 32 99 hS ?_;refine xE 33 100 hS ?_;refine zD 34 101 (.bool true) hS ?_;refine p_do ?_;go_wp2;go_ret;refine ⟨zL (by rw [HE.out]),s,?_⟩;rw [HE.out];exact (b.more l).pt.inb
     | true=>
      cases ag:kH c.tree c.n Q.1 with
      | false=>
       have HE:Hid (R=(c,false)):=(by rw [au.out];exact if_neg (fun h=>by rw [ag] at h;cases h.2.1):R=_);refine p_rg (fun _=>true) (fun x=>Bx x N (zR c s) 124/\Bx x w.heap.size (evA e) 172/\Bx x f (qD B cv) 88) ?_;show zX prog _ _ _ _ _ (34+1) (Ac 35 false) _ _;have KP:∀ x,Be X4 x->Bx x N (zR c s) 124/\Bx x w.heap.size (evA e) 172/\Bx x f (qD B cv) 88:=fun x hb=>⟨(b.more hb).pt.inb.box,(b.more hb).pt.box,(b.more hb).blk⟩
       have n:=bw X4;have hS:=KP X4.drew n;refine p_pt 0 67 N 0 hS ?_;refine p_pt 1 68 N 0 hS ?_;refine zD 2 69 (.agg (zR c s)) hS ?_ (hy:=fun x hx=>ldb N hx.1 underlying124);refine p_pt 3 70 w.heap.size 1 hS ?_;refine zD 4 71 (I U e.at') hS ?_ (hy:=by intro x hx;have l1:=zB hx.2.1 1 (I U e.at') rfl;go_simp;try rfl);refine kJ 5 72 170 #[.agg (zR c s),I U e.at'] ((yAI c s e.at' X4.drew).mono ?_);rintro r y1 ⟨rfl,p⟩;have l:Be X4 y1:=bt n p;clear hS;have hS:=KP y1 l;refine ⟨_,rfl,fun _=>hS,?_⟩;simp only [pz];rw [ad];refine zD 6 73 (.bool false) hS ?_;refine zD 7 74 (.bool false) hS ?_;refine p_pt 8 75 N 0 hS ?_;refine p_pt 9 76 N 0 hS ?_;refine p_pt 10 77 N 3 hS ?_;refine zD 11 78 s.treeV hS ?_ (hy:=by intro x hx;have c3:=zB hx.1 3 s.treeV rfl;go_simp;try rfl);refine p_pt 12 79 N 0 hS ?_;refine p_pt 13 80 N 0 hS ?_;refine p_pt 14 81 N 0 hS ?_;refine zD 15 82 (I U c.n) hS ?_ (hy:=by intro x hx;have c0:=zB hx.1 0 (I U c.n) rfl;go_simp;try rfl);refine p_pt 16 83 f 3 hS ?_;refine zD 17 84 (.agg #[I U Q.1.1,I U Q.1.2.1,I U Q.1.2.2.1,I U Q.1.2.2.2]) hS ?_ (hy:=fun x hx=>by have hj:=blk_just hx.2.2;rw [am.out] at hj;exact ldm f 3 _ hj underlying26);have a:=qcRight_s s.tree s.treeV c.n Q.1 y1 (b.more l).pt.inb.own.reads.tree (by have h:=d.ltree;rw [<- b.out.pt.inb.own.etree,yO] at h;omega) (by have:=d.n.1;omega) (by have:=d.n.2;omega) HQ.2;rw [b.out.pt.inb.own.etree] at a;refine kJ 18 85 118 #[s.treeV,I U c.n,.agg #[I U Q.1.1,I U Q.1.2.1,I U Q.1.2.2.1,I U Q.1.2.2.2]] ((a).mono ?_);rintro r y2 ⟨rfl,t⟩;have o:Be X4 y2:=bt l t;clear hS;have hS:=KP y2 o;refine ⟨_,rfl,fun _=>hS,?_⟩;simp only [pz];clear a;rw [ag];refine zD 19 86 (.bool true) hS ?_;refine zD 20 87 (.bool true) hS ?_;refine zD 21 88 (.bool true) hS ?_;refine xE 22 89 hS ?_;refine xE 23 90 hS ?_;refine xE 24 91 hS ?_;refine xE 25 92 hS ?_;refine xE 26 93 hS ?_;refine xE 27 94 hS ?_;refine xE 28 95 hS ?_;refine xE 29 96 hS ?_;refine xE 30 97 hS ?_;refine xE 31 98 hS ?_;refine xE 32 99 hS ?_;refine xE 33 100 hS ?_;refine zD 34 101 (.bool true) hS ?_;refine p_do ?_;go_wp2;go_ret;refine ⟨zL (by rw [HE.out]),s,?_⟩;rw [HE.out];exact (b.more o).pt.inb
      | true=>
       cases ao:qV c.said Q.1 c.liars with
       | false=>
        have HE:Hid (R=(c,false)):=(by rw [au.out];exact if_neg (fun h=>by rw [ao] at h;cases h.2.2.1):R=_);refine p_rg (fun _=>true) (fun x=>Bx x N (zR c s) 124/\Bx x w.heap.size (evA e) 172/\Bx x f (qD B cv) 88) ?_;show zX prog _ _ _ _ _ (34+1) (Ac 35 false) _ _;have KP:∀ x,Be X4 x->Bx x N (zR c s) 124/\Bx x w.heap.size (evA e) 172/\Bx x f (qD B cv) 88:=fun x hb=>⟨(b.more hb).pt.inb.box,(b.more hb).pt.box,(b.more hb).blk⟩
        have n:=bw X4;have hS:=KP X4.drew n;refine p_pt 0 67 N 0 hS ?_;refine p_pt 1 68 N 0 hS ?_;refine zD 2 69 (.agg (zR c s)) hS ?_ (hy:=fun x hx=>ldb N hx.1 underlying124);refine p_pt 3 70 w.heap.size 1 hS ?_;refine zD 4 71 (I U e.at') hS ?_ (hy:=by intro x hx;have l1:=zB hx.2.1 1 (I U e.at') rfl;go_simp;try rfl);refine kJ 5 72 170 #[.agg (zR c s),I U e.at'] ((yAI c s e.at' X4.drew).mono ?_);rintro r y1 ⟨rfl,p⟩;have l:Be X4 y1:=bt n p;clear hS;have hS:=KP y1 l;refine ⟨_,rfl,fun _=>hS,?_⟩;simp only [pz];rw [ad];refine zD 6 73 (.bool false) hS ?_;refine zD 7 74 (.bool false) hS ?_;refine p_pt 8 75 N 0 hS ?_;refine p_pt 9 76 N 0 hS ?_;refine p_pt 10 77 N 3 hS ?_;refine zD 11 78 s.treeV hS ?_ (hy:=by intro x hx;have c3:=zB hx.1 3 s.treeV rfl;go_simp;try rfl);refine p_pt 12 79 N 0 hS ?_;refine p_pt 13 80 N 0 hS ?_;refine p_pt 14 81 N 0 hS ?_;refine zD 15 82 (I U c.n) hS ?_ (hy:=by intro x hx;have c0:=zB hx.1 0 (I U c.n) rfl;go_simp;try rfl);refine p_pt 16 83 f 3 hS ?_;refine zD 17 84 (.agg #[I U Q.1.1,I U Q.1.2.1,I U Q.1.2.2.1,I U Q.1.2.2.2]) hS ?_ (hy:=fun x hx=>by have hj:=blk_just hx.2.2;rw [am.out] at hj;exact ldm f 3 _ hj underlying26);have a:=qcRight_s s.tree s.treeV c.n Q.1 y1 (b.more l).pt.inb.own.reads.tree (by have h:=d.ltree;rw [<- b.out.pt.inb.own.etree,yO] at h;omega) (by have:=d.n.1;omega) (by have:=d.n.2;omega) HQ.2;rw [b.out.pt.inb.own.etree] at a;refine kJ 18 85 118 #[s.treeV,I U c.n,.agg #[I U Q.1.1,I U Q.1.2.1,I U Q.1.2.2.1,I U Q.1.2.2.2]] ((a).mono ?_);rintro r y2 ⟨rfl,t⟩;have o:Be X4 y2:=bt l t;clear hS;have hS:=KP y2 o;refine ⟨_,rfl,fun _=>hS,?_⟩;simp only [pz];clear a;rw [ag];refine zD 19 86 (.bool false) hS ?_;refine zD 20 87 (.bool false) hS ?_;refine zD 21 88 (.bool false) hS ?_;refine p_pt 22 89 N 0 hS ?_;refine p_pt 23 90 N 0 hS ?_;refine p_pt 24 91 N 6 hS ?_;refine zD 25 92 s.said hS ?_ (hy:=by intro x hx;have c6:=zB hx.1 6 s.said rfl;go_simp;try rfl);refine p_pt 26 93 f 3 hS ?_;refine zD 27 94 (.agg #[I U Q.1.1,I U Q.1.2.1,I U Q.1.2.2.1,I U Q.1.2.2.2]) hS ?_ (hy:=fun x hx=>by have hj:=blk_just hx.2.2;rw [am.out] at hj;exact ldm f 3 _ hj underlying26);refine p_pt 28 95 N 0 hS ?_;refine p_pt 29 96 N 0 hS ?_;refine p_pt 30 97 N 2 hS ?_;refine zD 31 98 (I U c.liars) hS ?_ (hy:=by intro x hx;have c2:=zB hx.1 2 (I U c.liars) rfl;go_simp;try rfl);refine kJ 32 99 226 #[s.said,.agg #[I U Q.1.1,I U Q.1.2.1,I U Q.1.2.2.1,I U Q.1.2.2.2],I U c.liars] ((proven_s c.said s.said Q.1 c.liars y2 (b.more o).pt.inb.own.reads.said (by have:=d.said;omega)).mono ?_);rintro r y3 ⟨rfl,ab⟩;have y:Be X4 y3:=bt o ab;clear hS;have hS:=KP y3 y;refine ⟨_,rfl,fun _=>hS,?_⟩;simp only [pz];rw [ao];refine zD 33 100 (.bool true) hS ?_;refine zD 34 101 (.bool true) hS ?_;refine p_do ?_;go_wp2;go_ret;refine ⟨zL (by rw [HE.out]),s,?_⟩;rw [HE.out];exact (b.more y).pt.inb
       | true=>
        have az:Hid (R=if ¬ zBE c.tree B < 0/\(jM (lieT c e) (lieL c e)).2=true then ((jM (lieT c e) (lieL c e)).1,true) else (c,false)):=(by rw [au.out,ad,ag,ao];simp only [true_and]:R=_);refine p_rg (fun _=>true) (fun x=>Bx x N (zR c s) 124/\Bx x w.heap.size (evA e) 172/\Bx x f (qD B cv) 88) ?_;show zX prog _ _ _ _ _ (34+1) (Ac 35 false) _ _;have KP:∀ x,Be X4 x->Bx x N (zR c s) 124/\Bx x w.heap.size (evA e) 172/\Bx x f (qD B cv) 88:=fun x hb=>⟨(b.more hb).pt.inb.box,(b.more hb).pt.box,(b.more hb).blk⟩
        have n:=bw X4;have hS:=KP X4.drew n;refine p_pt 0 67 N 0 hS ?_;refine p_pt 1 68 N 0 hS ?_;refine zD 2 69 (.agg (zR c s)) hS ?_ (hy:=fun x hx=>ldb N hx.1 underlying124);refine p_pt 3 70 w.heap.size 1 hS ?_;refine zD 4 71 (I U e.at') hS ?_ (hy:=by intro x hx;have l1:=zB hx.2.1 1 (I U e.at') rfl;go_simp;try rfl);refine kJ 5 72 170 #[.agg (zR c s),I U e.at'] ((yAI c s e.at' X4.drew).mono ?_);rintro r y1 ⟨rfl,p⟩;have l:Be X4 y1:=bt n p;clear hS;have hS:=KP y1 l;refine ⟨_,rfl,fun _=>hS,?_⟩;simp only [pz];rw [ad];refine zD 6 73 (.bool false) hS ?_;refine zD 7 74 (.bool false) hS ?_;refine p_pt 8 75 N 0 hS ?_;refine p_pt 9 76 N 0 hS ?_;refine p_pt 10 77 N 3 hS ?_;refine zD 11 78 s.treeV hS ?_ (hy:=by intro x hx;have c3:=zB hx.1 3 s.treeV rfl;go_simp;try rfl);refine p_pt 12 79 N 0 hS ?_;refine p_pt 13 80 N 0 hS ?_;refine p_pt 14 81 N 0 hS ?_;refine zD 15 82 (I U c.n) hS ?_ (hy:=by intro x hx;have c0:=zB hx.1 0 (I U c.n) rfl;go_simp;try rfl);refine p_pt 16 83 f 3 hS ?_;refine zD 17 84 (.agg #[I U Q.1.1,I U Q.1.2.1,I U Q.1.2.2.1,I U Q.1.2.2.2]) hS ?_ (hy:=fun x hx=>by have hj:=blk_just hx.2.2;rw [am.out] at hj;exact ldm f 3 _ hj underlying26);have a:=qcRight_s s.tree s.treeV c.n Q.1 y1 (b.more l).pt.inb.own.reads.tree (by have h:=d.ltree;rw [<- b.out.pt.inb.own.etree,yO] at h;omega) (by have:=d.n.1;omega) (by have:=d.n.2;omega) HQ.2;rw [b.out.pt.inb.own.etree] at a;refine kJ 18 85 118 #[s.treeV,I U c.n,.agg #[I U Q.1.1,I U Q.1.2.1,I U Q.1.2.2.1,I U Q.1.2.2.2]] ((a).mono ?_);rintro r y2 ⟨rfl,t⟩;have o:Be X4 y2:=bt l t;clear hS;have hS:=KP y2 o;refine ⟨_,rfl,fun _=>hS,?_⟩;simp only [pz];clear a;rw [ag];refine zD 19 86 (.bool false) hS ?_;refine zD 20 87 (.bool false) hS ?_;refine zD 21 88 (.bool false) hS ?_;refine p_pt 22 89 N 0 hS ?_;refine p_pt 23 90 N 0 hS ?_;refine p_pt 24 91 N 6 hS ?_;refine zD 25 92 s.said hS ?_ (hy:=by intro x hx;have c6:=zB hx.1 6 s.said rfl;go_simp;try rfl);refine p_pt 26 93 f 3 hS ?_;refine zD 27 94 (.agg #[I U Q.1.1,I U Q.1.2.1,I U Q.1.2.2.1,I U Q.1.2.2.2]) hS ?_ (hy:=fun x hx=>by have hj:=blk_just hx.2.2;rw [am.out] at hj;exact ldm f 3 _ hj underlying26);refine p_pt 28 95 N 0 hS ?_;refine p_pt 29 96 N 0 hS ?_;refine p_pt 30 97 N 2 hS ?_;refine zD 31 98 (I U c.liars) hS ?_ (hy:=by intro x hx;have c2:=zB hx.1 2 (I U c.liars) rfl;go_simp;try rfl);refine kJ 32 99 226 #[s.said,.agg #[I U Q.1.1,I U Q.1.2.1,I U Q.1.2.2.1,I U Q.1.2.2.2],I U c.liars] ((proven_s c.said s.said Q.1 c.liars y2 (b.more o).pt.inb.own.reads.said (by have:=d.said;omega)).mono ?_);rintro r y3 ⟨rfl,ab⟩;have y:Be X4 y3:=bt o ab;clear hS;have hS:=KP y3 y;refine ⟨_,rfl,fun _=>hS,?_⟩;simp only [pz];rw [ao];refine zD 33 100 (.bool false) hS ?_;refine zD 34 101 (.bool false) hS ?_;refine p_do ?_;have v:Hid (PtB w y3 N lo c s e g8 f Q.1 B cv):=b.more y;clear hS KP n l o y p t ab au ad ag ao b
        go_upto_region 14 with fail
        refine p_rg (fun _=>true) (fun x=>Bx x N (zR c s) 124/\Bx x f (qD B cv) 88) ?_;show zX prog _ _ _ _ _ (10+1) (Ac 11 false) _ _;have n:=bw y3;have hS:Bx y3.drew N (zR c s) 124/\Bx y3.drew f (qD B cv) 88:=⟨v.pt.inb.box,v.blk⟩;refine p_pt 0 103 N 0 hS ?_;refine p_pt 1 104 N 0 hS ?_;refine p_pt 2 105 N 3 hS ?_;refine zD 3 106 s.treeV hS ?_ (hy:=by intro x hx;have c3:=zB hx.1 3 s.treeV rfl;go_simp;try rfl);refine zD 4 107 (.agg (qD B cv)) hS ?_ (hy:=fun x hx=>ldb f hx.2 underlying88);have a:=putBlock_s s.tree s.treeV B cv y3.drew (v.more n).pt.inb.own.tree.read (v.more n).cmds (by rw [v.out.pt.inb.own.etree];exact d.out.tree) (by unfold okB;rw [b0.out];exact ⟨by simp,fun x hx=>by rcases List.mem_singleton.1 hx with rfl;exact hc⟩);rw [v.out.pt.inb.own.etree] at a;obtain ⟨PA,bd⟩:=nw (zBE c.tree B);rw [<- bd] at a az;refine kJ 5 108 140 #[s.treeV,.agg (qD B cv)] (a.mono ?_);clear a;rintro r X6 ⟨v1,qs,rfl,b3,bv,a1⟩;have m:Hid (PtB w X6 N lo c s e g8 f Q.1 B cv):=v.more (n.trans a1);have cm:Hid (xG lo y3.heap.size X6 c s):=v.pt.inb.own.below (n.trans a1);have al:Hid (xH X6 y3.heap.size v1 qs/\bks qs=zGE c.tree B/\y3.heap.size<=X6.heap.size/\lo<=y3.heap.size/\N < y3.heap.size):=⟨bv,b3,a1.size,Aa cb v.pt.inb.fr.size,Ab cs v.pt.inb.fr.size⟩;refine ⟨_,rfl,fun _=>⟨m.pt.inb.box,m.blk⟩,?_⟩;simp only [pz];refine zD 6 102 (.tuple #[v1,I U PA]) ⟨m.pt.inb.box,m.blk⟩ ?_;refine zD 7 109 v1 ⟨m.pt.inb.box,m.blk⟩ ?_;refine zD 8 110 (I U PA) ⟨m.pt.inb.box,m.blk⟩ ?_;refine zD 9 11 v1 ⟨m.pt.inb.box,m.blk⟩ ?_;refine zD 10 12 (I U PA) ⟨m.pt.inb.box,m.blk⟩ ?_;refine p_do ?_;have cr:Hid (PA=zBE c.tree B):=bd;clear hS n b3 bv a1 v bd
        by_cases hpa:PA < 0
        ·have HE:Hid (R=(c,false)):=(by rw [az.out];exact if_neg (fun h=>h.1 hpa):R=_);go_wp2;go_ret;refine ⟨zL (by rw [HE.out]),s,?_⟩;rw [HE.out];exact m.out.pt.inb
        ·have be:Hid (R=if (jM (lieT c e) (lieL c e)).2=true then ((jM (lieT c e) (lieL c e)).1,true) else (c,false)):=(by
          rw [az.out]
          by_cases hh:(jM (lieT c e) (lieL c e)).2=true
          ·rw [if_pos ⟨hpa,hh⟩,if_pos hh]
          ·rw [if_neg (fun h=>hh h.2),if_neg hh]:R=_)
         clear az;obtain ⟨C1,a0⟩:∃ C1:CU,C1={ c with tree:=bks qs }:=⟨_,rfl⟩;obtain ⟨S1,bg⟩:∃ S1:CW,S1={ s with treeV:=v1,tree:=qs }:=⟨_,rfl⟩;obtain ⟨L,hL⟩:∃ L:LT,L=((1,e.at',e.to',VW,PA),Q.1,(0,0,0,0)):=⟨_,rfl⟩
         have ay:Hid (lieT c e=C1/\lieL c e=L/\handOk C1/\fitQ L.2.1):=(by
          have h1:lieT c e=C1:=by rw [a0,al.out.2.1,a5.out];rfl
          refine ⟨h1,?_,by rw [<- h1];exact d.out.hand2 e,by rw [hL];exact HQ.out.2⟩;rw [hL,cr.out,a5.out,b6.out,HQ.out.1]
          rfl:_/\_)
         have cu:Hid (zQ L=#[I U 1,I U e.at',I U e.to',I U VW,I U PA,I U Q.1.1,I U Q.1.2.1,I U Q.1.2.2.1,I U Q.1.2.2.2,I U 0,I U 0,I U 0,I U 0]):=hid (by rw [hL];rfl);have bz:=hid (qad2 a0 bg);have b4:Hid ((zR c s).setIfInBounds 3 v1=zR C1 S1/\(zR C1 S1).setIfInBounds 3 s.treeV=zR c s):=hid (by rw [a0,bg];exact ⟨rfl,rfl⟩);rw [ay.out.1,ay.out.2.1] at be;clear a0 bg hL;have c3:=zB m.pt.inb.box 3 s.treeV rfl
         go_wp2_with (first
          | (refine w_sc N 3 v1 m.pt.inb.box (by simp [zR]) (jI al.1.row) (zR C1 S1) b4.1 ?_;intro X7 hg hk;have aa:Hid (InB N lo w X7 C1 S1/\Bx X7 w.heap.size (evA e) 172/\Bx X7 g8 #[I U Q.1.1,I U Q.1.2.1,I U Q.1.2.2.1,I U Q.1.2.2.2] 26/\FrS (fun k=>k=N) X6 X7):=tree_in m al.1 al.2.2.2.1 al.2.2.2.2 bz.1 bz.2 hg hk cm;have l1:=zB aa.2.1 1 (I U e.at') rfl;have l2:=zB aa.2.1 2 (I U e.to') rfl;clear hg hk)
          | (refine w_ld g8 aa.2.2.1 underlying26 ?_))
         clear l1 l2 c3;have a:=hand_p C1 S1 N lo X7.heap.size L X7 aa.1.box aa.1.own (Aa cb aa.1.fr.size) ay.2.2.1 ay.2.2.2;rw [cu.out] at a;refine a.mono ?_;clear a;rintro r X8 ⟨rfl,s8,bb,b7⟩;have a2:=hid (qad3 (aa.1.trans bb) (aa.2.2.2.trans bb.fr) b7);clear bb b7 aa
         cases af:(jM C1 L).2 with
         | true=>
          have HE:Hid (R=((jM C1 L).1,true)):=(by rw [be.out,if_pos af]:R=_);go_wp2;go_ret;refine ⟨zL (by rw [HE.out]),s8,?_⟩;rw [HE.out];exact a2.out.1
         | false=>
          have HE:Hid (R=(c,false)):=(by rw [be.out,if_neg (by rw [af];decide)]:R=_);have co:Hid (Bx X8 N (zR C1 S1) 124):=hid (by have h:=a2.1.box;rw [a2.out.2.2 af,hand_no af] at h;exact h)
          go_wp2_with (refine w_sc N 3 s.treeV co (by simp [zR]) (jI m.pt.inb.own.tree.row) (zR c s) b4.2 ?_;intro z hg hk;have HZ:Hid (InB N lo w z c s):=(by
            have hf:FrS (fun k=>k=N) X6 z:=a2.2.1.trans (FrS.of_grown hg (fun k e=>by cases e;rfl))
            exact ⟨hk,(m.pt.inb.own.frs hf (fun i g hi hp e=>m.pt.inb.own.noBox m.pt.inb.box i hi (by rw [<- e];exact hp))).wide hf.size (nl _),m.pt.inb.fr.trans hf⟩:InB _ _ _ _ _ _);clear hg hk)
          go_ret;refine ⟨zL (by rw [HE.out]),s,?_⟩;rw [HE.out];exact HZ.out
end Go.Proofs.YtfnneillakdopacGreatR
