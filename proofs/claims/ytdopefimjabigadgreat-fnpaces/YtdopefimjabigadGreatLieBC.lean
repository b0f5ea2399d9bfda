/-
  A text of ours: LieBC.
-/
import Derived.Test.YtdopefimjabigadGreatK1
import Derived.Test.YtdopefimjabigadGreatK9
import Derived.Test.YtdopefimjabigadGreatWaitC
set_option maxRecDepth 100000
set_option maxHeartbeats 32000000
namespace Go.Proofs.YtdopefimjabigadGreat
open Go.RowKit Num
structure PtE (w y:World) (N lo:Nat) (c:CU) (s:CW) (e:EV):Prop where
 inb:InB N lo w y c s
 box:Bx y w.heap.size (evA e) 132
theorem PtE.more {w y x:World} {N lo:Nat} {c:CU} {s:CW} {e:EV} (h:PtE w y N lo c s e) (hb:Below y.heap.size y x):PtE w x N lo c s e:=
 ⟨h.inb.more hb,(hb.block _ (gl h.box)).trans h.box⟩
structure PtB (w y:World) (N lo:Nat) (c:CU) (s:CW) (e:EV) (g8 g10:Nat) (q:QC) (b:BK) (cv:Value):Prop where
 pt:PtE w y N lo c s e
 qc:Bx y g8 #[.int .i64 q.1,.int .i64 q.2.1,.int .i64 q.2.2.1,.int .i64 q.2.2.2] 26
 blk:Bx y g10 (qD b cv) 76
 cmds:yM y cv 3 kL b.2.1
theorem PtB.more {w y x:World} {N lo:Nat} {c:CU} {s:CW} {e:EV} {g8 g10:Nat} {q:QC} {b:BK} {cv:Value} (h:PtB w y N lo c s e g8 g10 q b cv) (hb:Below y.heap.size y x):PtB w x N lo c s e g8 g10 q b cv:=
 ⟨h.pt.more hb,(hb.block _ (gl h.qc)).trans h.qc,(hb.block _ (gl h.blk)).trans h.blk,h.cmds.below hb⟩
theorem blk_just {x:World} {g:Nat} {b:BK} {cv:Value} (h:Bx x g (qD b cv) 76):x.rangeAt g 3 [.int .i64 b.2.2.1,.int .i64 b.2.2.2.1,.int .i64 b.2.2.2.2.1,.int .i64 b.2.2.2.2.2]:=fun k v hk=>by
 have hk4:=(List.getElem?_eq_some_iff.1 hk).1;refine zB h (3+k) v ?_
 match k,hk4,hk with
 | 0,_,h=>exact h
 | 1,_,h=>exact h
 | 2,_,h=>exact h
 | 3,_,h=>exact h
theorem ev_cmd {x:World} {g:Nat} {e:EV} (h:Bx x g (evA e) 132):x.rangeAt g 4 (kL e.cmd):=fun k v hk=>by
 have hk3:=(List.getElem?_eq_some_iff.1 hk).1;refine zB h (4+k) v ?_
 match k,hk3,hk with
 | 0,_,h=>exact h
 | 1,_,h=>exact h
 | 2,_,h=>exact h
theorem tree_in {N lo base:Nat} {w x y:World} {c C1:CU} {s S1:CW} {e:EV} {g8 g10:Nat} {q:QC} {b:BK} {cv v1:Value} {qs:TL} (h:PtB w x N lo c s e g8 g10 q b cv) (ht:xH x base v1 qs) (hlb:lo<=base) (hN:N < base) (e1:C1={ c with tree:=bks qs }) (e2:S1={ s with treeV:=v1,tree:=qs })
  (hg:x.grownBy y (some N)) (hk:Bx y N (zR C1 S1) 90) (ho:xG lo base x c s):InB N lo w y C1 S1/\Bx y w.heap.size (evA e) 132/\Bx y g8 #[.int .i64 q.1,.int .i64 q.2.1,.int .i64 q.2.2.1,.int .i64 q.2.2.2] 26/\FrS (fun k=>k=N) x y:=by
 have hf:FrS (fun k=>k=N) x y:=FrS.of_grown hg (fun k e=>by cases e;rfl)
 have K:∀ (k:Nat) (A:Array Value) (T:TypeId),x.heap[k]?=some (.cells A T (0,0))->T ≠ 90->y.heap[k]?=some (.cells A T (0,0)):=fun k A T hk2 hT=>(hg.block _ (gl hk2) (fun e=>by
  have e:=Option.some.inj e;rw [e] at hk2;have h3:=hk2.symm.trans h.pt.inb.box;injection h3 with h3
  injection h3 with _ h3 _
  exact hT h3)).trans hk2
 refine ⟨⟨hk,?_,h.pt.inb.fr.trans hf⟩,K _ _ _ h.pt.box (by decide),K _ _ _ h.qc (by decide),hf⟩;rw [e1,e2];exact (ho.boxT h.pt.inb.box hg).setTree (Nat.le_trans ho.size hg.size) (nl _) ((ht.frs hf (fun k hk e=>by have:=(zCE ht hk).1;omega)).base hlb) (fun k hk=>⟨(zCE ht hk).1,Nat.lt_of_lt_of_le (zCE ht hk).2 hg.size⟩) hlb
theorem lieBlock_p (c:CU) (s:CW) (N lo hi:Nat) (e:EV) (w:World) (hbox:Bx w N (zR c s) 90) (hown:xG lo hi w c s) (hlo:lo<=hi) (hok:lieOk c) (hn:0<=e.num) (hc:(e.cmd.2.1.size:Int)<=1048576) :
  Calls Tryz.prog 192 #[.pointer (some ⟨N,0,none⟩),.agg (evA e)] w fun r w'=>r=.returned (.bool (zBC c e).2)/\∃ s',InB N lo w w' (zBC c e).1 s':=by
 have HLO:Hid (lo<=w.heap.size):=Nat.le_trans hlo hown.size;have HOK:=hid hok;obtain ⟨W,hW⟩:∃ W,W=w.alloc (.cells (evA e) 132):=⟨_,rfl⟩
 have HW:Hid (PtE w W N lo c s e):=(by
  have hb:Below w.heap.size w W:=by rw [hW];exact yA _ _
  exact ⟨(InB.start hbox hown).more hb,by rw [hW];exact heap_alloc_new w _⟩:PtE _ _ _ _ _ _ _)
 have HNW:Hid (N < w.heap.size):=(gl hbox);clear hbox hown hlo hok;obtain ⟨R,hR⟩:∃ R,R=zBC c e:=⟨_,rfl⟩;have HR:Hid (R=zBC c e):=hR;rw [<- hR];clear hR;obtain ⟨K,hK⟩:∃ K,K=yBJ c e:=⟨_,rfl⟩;have hlt1:=HOK.out.one;have hll:=HOK.out.ltree;have HKB:Hid (0<=K/\K < (c.tree.length:Int)):=hid (by rw [hK];unfold yBJ;exact ⟨Int.emod_nonneg _ (by omega),Int.emod_lt_of_pos _ (by omega)⟩);have HKK:Hid (K=yBJ c e/\e.num.tmod (c.tree.length:Int)=K):=⟨hK,by rw [hK];unfold yBJ;exact Int.tmod_eq_emod_of_nonneg hn⟩;clear hK;obtain ⟨at',ct,et,hvc⟩:=HW.out.inb.own.reads.viewCell;have HVC:=hid hvc;have HET:Hid (s.treeV=.slice at' c.tree.length ct):=et;clear hvc et;go_enter Tryz.func192,Tryz.ntmps192
 go_upto_region 1 with (rw [<- hW];clear hW)
 try (rw [<- hW];clear hW)
 refine zT (fun _=>true) (fun x=>Bx x N (zR c s) 90/\Bx x w.heap.size (evA e) 132) (by kernel_rfl) ?_;show zX Tryz.prog _ _ _ _ _ (8+1) (Array.replicate 9 false) _ _;have hS:Bx W.drew N (zR c s) 90/\Bx W.drew w.heap.size (evA e) 132:=⟨HW.out.inb.box,HW.out.box⟩;have hl0:¬ (c.tree.length:Int)=0:=by omega
 have hl1:¬ c.tree.length=0:=by omega
 refine zD 0 14 (.pointer (some ⟨w.heap.size,3,none⟩)) hS ?_;refine zD 1 15 (.int .i64 e.num) hS ?_ (hy:=by intro x hx;have l3:=zB hx.2 3 (.int .i64 e.num) rfl;go_simp;try with_reducible rfl);refine zD 2 16 (.pointer (some ⟨N,0,none⟩)) hS ?_;refine zD 3 17 (.pointer (some ⟨N,0,none⟩)) hS ?_;refine zD 4 18 (.pointer (some ⟨N,3,none⟩)) hS ?_;refine zD 5 19 (.slice at' c.tree.length ct) hS ?_ (hy:=by intro x hx;have c3:=zB hx.1 3 s.treeV rfl;rw [HET.out] at c3;go_simp;try with_reducible rfl);refine zD 6 20 (.int .i64 (c.tree.length:Int)) hS ?_;refine zD 7 21 (.int .i64 K) hS ?_ (hy:=by intro x hx;have hkk:=HKK.out.2;go_simp;try with_reducible rfl);refine zD 8 5 (.int .i64 K) hS ?_;refine zK (by kernel_rfl) ?_ _;obtain ⟨X0,hX0⟩:∃ X0,X0=W.drew:=⟨_,rfl⟩;have HX0:Hid (PtE w X0 N lo c s e):=(by rw [hX0];exact HW.out.more (br _ _).drew:PtE _ _ _ _ _ _ _);have HWX0:Hid (Below W.heap.size W X0):=hid (by rw [hX0];exact (br _ _).drew);rw [<- hX0];clear hX0 hS HW;have c4:=zB HX0.out.inb.box 4 s.peersV rfl;go_wp2_with fail
 clear c4;refine (far_s s.peers s.peersV X0 HX0.out.inb.own.reads.peers (by have h:=HOK.out.lpeers;rw [<- HX0.out.inb.own.epeers,yCI] at h;exact h)).mono ?_;rintro r X1 ⟨rfl,hb1⟩;rw [HX0.out.inb.own.epeers];have HX1:Hid (PtE w X1 N lo c s e):=HX0.out.more hb1;have HWX:Hid (Below W.heap.size W X1):=bt HWX0.out hb1;clear hb1 HX0;obtain ⟨FV,hFV⟩:∃ FV,FV=yEH c.peers 0:=⟨_,rfl⟩;have hf0:-9223372036854775808<=FV:=by rw [hFV];exact HOK.out.far.1
 have hf1:FV < 9223372036854775807:=by rw [hFV];exact HOK.out.far.2
 obtain ⟨j,hj⟩:∃ j:Nat,K=(j:Int):=⟨K.toNat,by have:=HKB.out.1;omega⟩;subst hj;have hjn:j < c.tree.length:=by have:=HKB.out.2;omega
 obtain ⟨g,off,rfl,hgl,hvc⟩:=HVC.out j hjn;obtain ⟨TV,hTV⟩:∃ TV,TV=yR c.tree (j:Int):=⟨_,rfl⟩;have ht0:-9223372036854775808<=TV:=by rw [hTV];exact (HOK.out.views _).1
 have ht1:TV < 9223372036854775807:=by rw [hTV];exact (HOK.out.views _).2
 have q0:(0:Int)<=(j:Int):=by omega
 have q1:(j:Int) < (c.tree.length:Int):=by omega
 obtain ⟨VW,hVW⟩:∃ VW,VW=lieW c e:=⟨_,rfl⟩;have HVW:Hid (VW=if e.num % 2=1 then TV+1 else FV+1):=(by rw [hVW,hTV,hFV,HKK.out.1];rfl:VW=_);have HVV:Hid (VW=lieW c e):=hVW;have hm2:e.num.tmod 2=e.num % 2:=Int.tmod_eq_emod_of_nonneg hn;have hmb:0<=e.num % 2/\e.num % 2 < 2:=by omega
 rw [<- hFV];have HVCW:Hid (W.cell? ⟨g,off+j * 7+1,none⟩=some (.int .i64 TV)/\g < W.heap.size):=⟨by rw [hTV];exact hvc,hgl⟩;clear hFV hTV hVW hvc hgl HVC;have l3:=zB HX1.out.box 3 (.int .i64 e.num) rfl
 go_upto_if 31 with fail
 go_cut [6] (fun v6 wx=>v6=.int .i64 VW/\wx=X1)
 case first=>
  have c3:=zB HX1.out.inb.box 3 s.treeV rfl;rw [HET.out] at c3;have hvw:X1.cell? ⟨g,off+j * 7+1,none⟩=some (.int .i64 TV):=by rw [HWX.out.cell (by exact HVCW.out.2)];exact HVCW.out.1
  by_cases h2:e.num % 2=1
  ·have b2:(e.num % 2 == 1)=true:=by simpa using h2
   have hv2:Hid (VW=TV+1):=(by rw [HVW.out,if_pos h2]:VW=_);clear h2 hm2 hmb hf0 hf1 hl0 hl1 hlt1 hll hn hc l3;go_wp2
   go_meet
   case rel=>exact ⟨by rw [hv2.out],rfl⟩
  ·have b2:(e.num % 2 == 1)=false:=by simpa using h2
   have hv2:Hid (VW=FV+1):=(by rw [HVW.out,if_neg h2]:VW=_);clear h2 hm2 hmb hl0 hl1 hlt1 hll hn hc l3 c3 hvw ht0 ht1 q0 q1 hjn;go_wp2
   go_meet
   case rel=>exact ⟨by rw [hv2.out],rfl⟩
 case rest=>
  obtain ⟨rfl,hw⟩:=hcut;obtain rfl:=hw.symm;clear hw l3 hm2 hmb hf0 hf1 ht0 ht1 HVCW;obtain ⟨PH,hPH⟩:∃ PH:Int,PH=if c.chain=true then 4 else 1:=⟨_,rfl⟩
  have HPH:Hid (PH=if c.chain=true then 4 else 1):=hPH;have c1:=zB HX1.out.inb.box 1 (.bool c.chain) rfl
  go_upto_if 44 with fail
  go_cut [7] (fun v7 wx=>v7=.int .i64 PH/\wx=X1)
  case first=>
   cases hch:c.chain with
   | true=>
    have hp:PH=4:=by rw [hPH,if_pos hch]
    go_wp2
    go_meet
    case rel=>exact ⟨by rw [hp],rfl⟩
   | false=>
    have hp:PH=1:=by rw [hPH,if_neg (by rw [hch];decide)]
    go_wp2
    go_meet
    case rel=>exact ⟨by rw [hp],rfl⟩
  case rest=>
   obtain ⟨rfl,hw⟩:=hcut;obtain rfl:=hw.symm;clear hw c1 hPH;go_wp2_with (refine w_ld N HX1.out.inb.box Tryz.underlying90 ?_)
   have hcon:=lieQc_s c s PH (j:Int) X1 HX1.out.inb.own.reads (by have:=HOK.out.ltree;omega) HOK.out.said HOK.out.n.1 (by have:=HOK.out.n.2;omega);obtain ⟨Q,hQ⟩:∃ Q,Q=qM c PH (j:Int):=⟨_,rfl⟩
   have HQ:Hid (Q=lieQ c e/\fitQ Q.1):=(by
    refine ⟨?_,by rw [hQ];exact lieQc_fit _ _ _⟩;rw [hQ,HPH.out,HKK.out.1]
    rfl:_/\_)
   rw [<- hQ] at hcon;unfold zBF at hcon;refine hcon.mono ?_;clear hcon hQ;rintro r X2 ⟨rfl,hb2⟩;have HX2:Hid (PtE w X2 N lo c s e):=HX1.out.more hb2;clear hb2 HX1
   go_upto_region 9 with (refine w_st X2.heap.size #[.int .i64 Q.1.1,.int .i64 Q.1.2.1,.int .i64 Q.1.2.2.1,.int .i64 Q.1.2.2.2] (heap_alloc_new X2 _) (by simp [Value.oneCell']) ?_;intro X3 hg hk hz;have hb3:Below X2.heap.size X2 X3:=yB hg;have HX3:Hid (PtE w X3 N lo c s e/\Bx X3 X2.heap.size #[.int .i64 Q.1.1,.int .i64 Q.1.2.1,.int .i64 Q.1.2.2.1,.int .i64 Q.1.2.2.2] 26):=⟨HX2.out.more hb3,hk⟩;clear hg hk hz hb3)
   obtain ⟨g8,hg8⟩:∃ g8,g8=X2.heap.size:=⟨_,rfl⟩;rw [<- hg8] at HX3 ⊢;clear hg8 HX2;obtain ⟨ZB,hZB⟩:∃ ZB,ZB=(!Q.2 && decide ((j:Int) ≠ 0)):=⟨_,rfl⟩
   go_cut [9,59] (fun _ v59 wx=>v59=.bool ZB/\wx=X3)
   case first=>
    cases hq2:Q.2 with
    | true=>
     have hz:ZB=false:=by rw [hZB,hq2];rfl
     go_wp2
     go_meet
     case rel=>exact ⟨by rw [hz],rfl⟩
    | false=>
     by_cases hj0:(j:Int)=0
     ·have hz:ZB=false:=by rw [hZB,hq2];simp [hj0]
      have bj:((j:Int) != 0)=false:=by simpa using hj0
      go_wp2
      go_meet
      case rel=>exact ⟨by rw [hz],rfl⟩
     ·have hz:ZB=true:=by rw [hZB,hq2];simpa using hj0
      have bj:((j:Int) != 0)=true:=by simpa using hj0
      go_wp2
      go_meet
      case rel=>exact ⟨by rw [hz],rfl⟩
   case rest=>
    obtain ⟨rfl,hw⟩:=hcut;obtain rfl:=hw.symm;clear hw
    cases hzb:ZB with
    | true=>
     have HE:Hid (R=(c,false)):=(by
      rw [HR.out];unfold zBC;rw [<- HQ.out.1,<- HKK.out.1];rw [hzb] at hZB;have h:=hZB.symm;simp only [Bool.and_eq_true,Bool.not_eq_true',decide_eq_true_eq] at h
      exact if_pos h:R=_)
     go_wp2;go_ret;refine ⟨zL (by rw [HE.out]),s,?_⟩;rw [HE.out];exact HX3.out.1.inb
    | false=>
     have HNQ:Hid (¬ (Q.2=false/\(j:Int) ≠ 0)):=(by
      intro h;rw [hzb,h.1,decide_eq_true h.2] at hZB
      exact absurd hZB (by decide):¬ _)
     clear hZB hzb;obtain ⟨B,hB⟩:∃ B:BK,B=(((j:Int),VW),([e.cmd],Q.1)):=⟨_,rfl⟩;have HBB:Hid (B=lieB c e):=hid (by rw [hB,HVV.out,HQ.out.1,HKK.out.1];rfl);have HBQ:Hid (B.2.2=Q.1):=hid (by rw [hB]);have HBC:Hid (B.2.1=[e.cmd]):=(by rw [hB]:B.2.1=_);have HBV:Hid (∀ cv:Value,#[Value.int .i64 (j:Int),.int .i64 VW,cv,.int .i64 Q.1.1,.int .i64 Q.1.2.1,.int .i64 Q.1.2.2.1,.int .i64 Q.1.2.2.2]=qD B cv):=(by rw [hB];exact fun _=>rfl:∀ cv:Value,_)
     have HRE:Hid (R=if qZ c e.at'=true/\kH c.tree c.n Q.1=true/\qV c.said Q.1 c.liars=true/\¬ zBE c.tree B < 0/\(jM (lieT c e) (lieL c e)).2=true then ((jM (lieT c e) (lieL c e)).1,true) else (c,false)):=(by
      rw [HR.out];unfold zBC
      rw [<- HQ.out.1,<- HKK.out.1,if_neg HNQ.out,HBB.out]:R=_)
     clear hB HR HNQ;obtain ⟨Y,hY⟩:∃ Y,Y=X3.alloc (.cells #[.int .i64 e.cmd.1,.string e.cmd.2.1,.int .i64 e.cmd.2.2] 130):=⟨_,rfl⟩
     have HY:Hid (PtE w Y N lo c s e/\Bx Y g8 #[.int .i64 Q.1.1,.int .i64 Q.1.2.1,.int .i64 Q.1.2.2.1,.int .i64 Q.1.2.2.2] 26/\yM Y (.slice (some ⟨X3.heap.size,0,none⟩) 1 1) 3 kL [e.cmd]):=(by
      have hby:Below X3.heap.size X3 Y:=by rw [hY];exact yA _ _
      refine ⟨HX3.out.1.more hby,(hby.block _ (gl HX3.out.2)).trans HX3.out.2,zW (xs:=[e.cmd]) kC (base:=X3.heap.size) (e:=130) ?_⟩;rw [hY]
      exact ⟨rfl,Or.inr ⟨X3.heap.size,1,_,rfl,nl _,heap_alloc_new X3 _,nl _,by unfold maxLen;omega,rfl,rfl⟩⟩:_/\_)
     go_upto_region 12 with (first
      | (rw [<- hY];clear hY)
      | (refine wpList_load_mid rfl _ _ rfl w.heap.size 4 rfl (kL e.cmd) _ (ev_cmd HX3.out.1.box) Tryz.underlying130 rfl (by kernel_rfl) ?_;unfold kL)
      | (refine w_ld g8 HY.out.2.1 Tryz.underlying26 ?_)
      | (refine zC rfl _ _ _ rfl Y.heap.size (qD B (.slice (some ⟨X3.heap.size,0,none⟩) 1 1)) rfl (by rw [<- HBV.out];rfl) 76 #[.int .i64 0,.int .i64 0,.slice none 0 0,.int .i64 0,.int .i64 0,.int .i64 0,.int .i64 0] (heap_alloc_new Y _) (by kernel_rfl) rfl (by rw [<- HBV.out];simp [Value.oneCell']) ?_;intro X4 hg hk hz;have hb4:Below Y.heap.size Y X4:=yB hg;have HX4:Hid (PtB w X4 N lo c s e g8 Y.heap.size Q.1 B (.slice (some ⟨X3.heap.size,0,none⟩) 1 1)):=⟨HY.out.1.more hb4,(hb4.block _ (gl HY.out.2.1)).trans HY.out.2.1,hk,by rw [HBC.out];exact HY.out.2.2.below hb4⟩;clear hg hk hz hb4))
     obtain ⟨g10,hg10⟩:∃ g10,g10=Y.heap.size:=⟨_,rfl⟩;obtain ⟨cv,hcv⟩:∃ cv,cv=Value.slice (some ⟨X3.heap.size,0,none⟩) 1 1:=⟨_,rfl⟩;rw [<- hg10,<- hcv] at HX4;rw [<- hg10];clear hg10 HY HBV HX3
     cases hlz:qZ c e.at' with
     | false=>
      have HE:Hid (R=(c,false)):=(by rw [HRE.out];exact if_neg (fun h=>by rw [hlz] at h;cases h.1):R=_);refine zT (fun _=>true) (fun x=>Bx x N (zR c s) 90/\Bx x w.heap.size (evA e) 132/\Bx x g10 (qD B cv) 76) (by kernel_rfl) ?_;show zX Tryz.prog _ _ _ _ _ (34+1) (Array.replicate 35 false) _ _;have KP:∀ x,Below X4.heap.size X4 x->Bx x N (zR c s) 90/\Bx x w.heap.size (evA e) 132/\Bx x g10 (qD B cv) 76:=fun x hb=>⟨(HX4.out.more hb).pt.inb.box,(HX4.out.more hb).pt.box,(HX4.out.more hb).blk⟩
      have hd0:Below X4.heap.size X4 X4.drew:=(br _ _).drew;have hS:=KP X4.drew hd0;refine zD 0 67 (.pointer (some ⟨N,0,none⟩)) hS ?_;refine zD 1 68 (.pointer (some ⟨N,0,none⟩)) hS ?_;refine zD 2 69 (.agg (zR c s)) hS ?_ (hy:=fun x hx=>zM _ _ rfl N rfl _ _ _ _ hx.1 Tryz.underlying90 rfl (by kernel_rfl));refine zD 3 70 (.pointer (some ⟨w.heap.size,1,none⟩)) hS ?_;refine zD 4 71 (.int .i64 e.at') hS ?_ (hy:=by intro x hx;have l1:=zB hx.2.1 1 (.int .i64 e.at') rfl;go_simp;try with_reducible rfl);refine kJ 5 72 148 #[.agg (zR c s),.int .i64 e.at'] ((yAI c s e.at' X4.drew).mono ?_);rintro r y1 ⟨rfl,hb0y1⟩;have hby1:Below X4.heap.size X4 y1:=bt hd0 hb0y1;clear hS;have hS:=KP y1 hby1;refine ⟨_,rfl,fun _=>hS,?_⟩;simp only [pz];rw [hlz];refine zD 6 73 (.bool true) hS ?_;refine zD 7 74 (.bool true) hS ?_;refine xE 8 75 hS ?_;refine xE 9 76 hS ?_;refine xE 10 77 hS ?_;refine xE 11 78 hS ?_;refine xE 12 79 hS ?_;refine xE 13 80 hS ?_;refine xE 14 81 hS ?_;refine xE 15 82 hS ?_;refine xE 16 83 hS ?_;refine xE 17 84 hS ?_;refine xE 18 85 hS ?_;refine xE 19 86 hS ?_;refine zD 20 87 (.bool true) hS ?_;refine zD 21 88 (.bool true) hS ?_;refine xE 22 89 hS ?_;refine xE 23 90 hS ?_;refine xE 24 91 hS ?_;refine xE 25 92 hS ?_;refine xE 26 93 hS ?_;refine xE 27 94 hS ?_;refine xE 28 95 hS ?_;refine xE 29 96 hS ?_;refine xE 30 97 hS ?_;refine xE 31 98 hS ?_;refine xE 32 99 hS ?_;refine xE 33 100 hS ?_;refine zD 34 101 (.bool true) hS ?_;refine zK (by kernel_rfl) ?_ _;go_wp2;go_ret;refine ⟨zL (by rw [HE.out]),s,?_⟩;rw [HE.out];exact (HX4.out.more hby1).pt.inb
     | true=>
      cases hrz:kH c.tree c.n Q.1 with
      | false=>
       have HE:Hid (R=(c,false)):=(by rw [HRE.out];exact if_neg (fun h=>by rw [hrz] at h;cases h.2.1):R=_);refine zT (fun _=>true) (fun x=>Bx x N (zR c s) 90/\Bx x w.heap.size (evA e) 132/\Bx x g10 (qD B cv) 76) (by kernel_rfl) ?_;show zX Tryz.prog _ _ _ _ _ (34+1) (Array.replicate 35 false) _ _;have KP:∀ x,Below X4.heap.size X4 x->Bx x N (zR c s) 90/\Bx x w.heap.size (evA e) 132/\Bx x g10 (qD B cv) 76:=fun x hb=>⟨(HX4.out.more hb).pt.inb.box,(HX4.out.more hb).pt.box,(HX4.out.more hb).blk⟩
       have hd0:Below X4.heap.size X4 X4.drew:=(br _ _).drew;have hS:=KP X4.drew hd0;refine zD 0 67 (.pointer (some ⟨N,0,none⟩)) hS ?_;refine zD 1 68 (.pointer (some ⟨N,0,none⟩)) hS ?_;refine zD 2 69 (.agg (zR c s)) hS ?_ (hy:=fun x hx=>zM _ _ rfl N rfl _ _ _ _ hx.1 Tryz.underlying90 rfl (by kernel_rfl));refine zD 3 70 (.pointer (some ⟨w.heap.size,1,none⟩)) hS ?_;refine zD 4 71 (.int .i64 e.at') hS ?_ (hy:=by intro x hx;have l1:=zB hx.2.1 1 (.int .i64 e.at') rfl;go_simp;try with_reducible rfl);refine kJ 5 72 148 #[.agg (zR c s),.int .i64 e.at'] ((yAI c s e.at' X4.drew).mono ?_);rintro r y1 ⟨rfl,hb0y1⟩;have hby1:Below X4.heap.size X4 y1:=bt hd0 hb0y1;clear hS;have hS:=KP y1 hby1;refine ⟨_,rfl,fun _=>hS,?_⟩;simp only [pz];rw [hlz];refine zD 6 73 (.bool false) hS ?_;refine zD 7 74 (.bool false) hS ?_;refine zD 8 75 (.pointer (some ⟨N,0,none⟩)) hS ?_;refine zD 9 76 (.pointer (some ⟨N,0,none⟩)) hS ?_;refine zD 10 77 (.pointer (some ⟨N,3,none⟩)) hS ?_;refine zD 11 78 s.treeV hS ?_ (hy:=by intro x hx;have c3:=zB hx.1 3 s.treeV rfl;go_simp;try with_reducible rfl);refine zD 12 79 (.pointer (some ⟨N,0,none⟩)) hS ?_;refine zD 13 80 (.pointer (some ⟨N,0,none⟩)) hS ?_;refine zD 14 81 (.pointer (some ⟨N,0,none⟩)) hS ?_;refine zD 15 82 (.int .i64 c.n) hS ?_ (hy:=by intro x hx;have c0:=zB hx.1 0 (.int .i64 c.n) rfl;go_simp;try with_reducible rfl);refine zD 16 83 (.pointer (some ⟨g10,3,none⟩)) hS ?_;refine zD 17 84 (.agg #[.int .i64 Q.1.1,.int .i64 Q.1.2.1,.int .i64 Q.1.2.2.1,.int .i64 Q.1.2.2.2]) hS ?_ (hy:=fun x hx=>by have hj:=blk_just hx.2.2;rw [HBQ.out] at hj;exact xB _ _ rfl g10 3 rfl _ _ hj Tryz.underlying26 rfl (by kernel_rfl));have hcon:=qcRight_s s.tree s.treeV c.n Q.1 y1 (HX4.out.more hby1).pt.inb.own.reads.tree (by have h:=HOK.out.ltree;rw [<- HX4.out.pt.inb.own.etree,yO] at h;omega) (by have:=HOK.out.n.1;omega) (by have:=HOK.out.n.2;omega) HQ.out.2;rw [HX4.out.pt.inb.own.etree] at hcon;refine kJ 18 85 79 #[s.treeV,.int .i64 c.n,.agg #[.int .i64 Q.1.1,.int .i64 Q.1.2.1,.int .i64 Q.1.2.2.1,.int .i64 Q.1.2.2.2]] ((hcon).mono ?_);rintro r y2 ⟨rfl,hb0y2⟩;have hby2:Below X4.heap.size X4 y2:=bt hby1 hb0y2;clear hS;have hS:=KP y2 hby2;refine ⟨_,rfl,fun _=>hS,?_⟩;simp only [pz];clear hcon;rw [hrz];refine zD 19 86 (.bool true) hS ?_;refine zD 20 87 (.bool true) hS ?_;refine zD 21 88 (.bool true) hS ?_;refine xE 22 89 hS ?_;refine xE 23 90 hS ?_;refine xE 24 91 hS ?_;refine xE 25 92 hS ?_;refine xE 26 93 hS ?_;refine xE 27 94 hS ?_;refine xE 28 95 hS ?_;refine xE 29 96 hS ?_;refine xE 30 97 hS ?_;refine xE 31 98 hS ?_;refine xE 32 99 hS ?_;refine xE 33 100 hS ?_;refine zD 34 101 (.bool true) hS ?_;refine zK (by kernel_rfl) ?_ _;go_wp2;go_ret;refine ⟨zL (by rw [HE.out]),s,?_⟩;rw [HE.out];exact (HX4.out.more hby2).pt.inb
      | true=>
       cases hpz:qV c.said Q.1 c.liars with
       | false=>
        have HE:Hid (R=(c,false)):=(by rw [HRE.out];exact if_neg (fun h=>by rw [hpz] at h;cases h.2.2.1):R=_);refine zT (fun _=>true) (fun x=>Bx x N (zR c s) 90/\Bx x w.heap.size (evA e) 132/\Bx x g10 (qD B cv) 76) (by kernel_rfl) ?_;show zX Tryz.prog _ _ _ _ _ (34+1) (Array.replicate 35 false) _ _;have KP:∀ x,Below X4.heap.size X4 x->Bx x N (zR c s) 90/\Bx x w.heap.size (evA e) 132/\Bx x g10 (qD B cv) 76:=fun x hb=>⟨(HX4.out.more hb).pt.inb.box,(HX4.out.more hb).pt.box,(HX4.out.more hb).blk⟩
        have hd0:Below X4.heap.size X4 X4.drew:=(br _ _).drew;have hS:=KP X4.drew hd0;refine zD 0 67 (.pointer (some ⟨N,0,none⟩)) hS ?_;refine zD 1 68 (.pointer (some ⟨N,0,none⟩)) hS ?_;refine zD 2 69 (.agg (zR c s)) hS ?_ (hy:=fun x hx=>zM _ _ rfl N rfl _ _ _ _ hx.1 Tryz.underlying90 rfl (by kernel_rfl));refine zD 3 70 (.pointer (some ⟨w.heap.size,1,none⟩)) hS ?_;refine zD 4 71 (.int .i64 e.at') hS ?_ (hy:=by intro x hx;have l1:=zB hx.2.1 1 (.int .i64 e.at') rfl;go_simp;try with_reducible rfl);refine kJ 5 72 148 #[.agg (zR c s),.int .i64 e.at'] ((yAI c s e.at' X4.drew).mono ?_);rintro r y1 ⟨rfl,hb0y1⟩;have hby1:Below X4.heap.size X4 y1:=bt hd0 hb0y1;clear hS;have hS:=KP y1 hby1;refine ⟨_,rfl,fun _=>hS,?_⟩;simp only [pz];rw [hlz];refine zD 6 73 (.bool false) hS ?_;refine zD 7 74 (.bool false) hS ?_;refine zD 8 75 (.pointer (some ⟨N,0,none⟩)) hS ?_;refine zD 9 76 (.pointer (some ⟨N,0,none⟩)) hS ?_;refine zD 10 77 (.pointer (some ⟨N,3,none⟩)) hS ?_;refine zD 11 78 s.treeV hS ?_ (hy:=by intro x hx;have c3:=zB hx.1 3 s.treeV rfl;go_simp;try with_reducible rfl);refine zD 12 79 (.pointer (some ⟨N,0,none⟩)) hS ?_;refine zD 13 80 (.pointer (some ⟨N,0,none⟩)) hS ?_;refine zD 14 81 (.pointer (some ⟨N,0,none⟩)) hS ?_;refine zD 15 82 (.int .i64 c.n) hS ?_ (hy:=by intro x hx;have c0:=zB hx.1 0 (.int .i64 c.n) rfl;go_simp;try with_reducible rfl);refine zD 16 83 (.pointer (some ⟨g10,3,none⟩)) hS ?_;refine zD 17 84 (.agg #[.int .i64 Q.1.1,.int .i64 Q.1.2.1,.int .i64 Q.1.2.2.1,.int .i64 Q.1.2.2.2]) hS ?_ (hy:=fun x hx=>by have hj:=blk_just hx.2.2;rw [HBQ.out] at hj;exact xB _ _ rfl g10 3 rfl _ _ hj Tryz.underlying26 rfl (by kernel_rfl));have hcon:=qcRight_s s.tree s.treeV c.n Q.1 y1 (HX4.out.more hby1).pt.inb.own.reads.tree (by have h:=HOK.out.ltree;rw [<- HX4.out.pt.inb.own.etree,yO] at h;omega) (by have:=HOK.out.n.1;omega) (by have:=HOK.out.n.2;omega) HQ.out.2;rw [HX4.out.pt.inb.own.etree] at hcon;refine kJ 18 85 79 #[s.treeV,.int .i64 c.n,.agg #[.int .i64 Q.1.1,.int .i64 Q.1.2.1,.int .i64 Q.1.2.2.1,.int .i64 Q.1.2.2.2]] ((hcon).mono ?_);rintro r y2 ⟨rfl,hb0y2⟩;have hby2:Below X4.heap.size X4 y2:=bt hby1 hb0y2;clear hS;have hS:=KP y2 hby2;refine ⟨_,rfl,fun _=>hS,?_⟩;simp only [pz];clear hcon;rw [hrz];refine zD 19 86 (.bool false) hS ?_;refine zD 20 87 (.bool false) hS ?_;refine zD 21 88 (.bool false) hS ?_;refine zD 22 89 (.pointer (some ⟨N,0,none⟩)) hS ?_;refine zD 23 90 (.pointer (some ⟨N,0,none⟩)) hS ?_;refine zD 24 91 (.pointer (some ⟨N,6,none⟩)) hS ?_;refine zD 25 92 s.said hS ?_ (hy:=by intro x hx;have c6:=zB hx.1 6 s.said rfl;go_simp;try with_reducible rfl);refine zD 26 93 (.pointer (some ⟨g10,3,none⟩)) hS ?_;refine zD 27 94 (.agg #[.int .i64 Q.1.1,.int .i64 Q.1.2.1,.int .i64 Q.1.2.2.1,.int .i64 Q.1.2.2.2]) hS ?_ (hy:=fun x hx=>by have hj:=blk_just hx.2.2;rw [HBQ.out] at hj;exact xB _ _ rfl g10 3 rfl _ _ hj Tryz.underlying26 rfl (by kernel_rfl));refine zD 28 95 (.pointer (some ⟨N,0,none⟩)) hS ?_;refine zD 29 96 (.pointer (some ⟨N,0,none⟩)) hS ?_;refine zD 30 97 (.pointer (some ⟨N,2,none⟩)) hS ?_;refine zD 31 98 (.int .i64 c.liars) hS ?_ (hy:=by intro x hx;have c2:=zB hx.1 2 (.int .i64 c.liars) rfl;go_simp;try with_reducible rfl);refine kJ 32 99 220 #[s.said,.agg #[.int .i64 Q.1.1,.int .i64 Q.1.2.1,.int .i64 Q.1.2.2.1,.int .i64 Q.1.2.2.2],.int .i64 c.liars] ((proven_s c.said s.said Q.1 c.liars y2 (HX4.out.more hby2).pt.inb.own.reads.said (by have:=HOK.out.said;omega)).mono ?_);rintro r y3 ⟨rfl,hb0y3⟩;have hby3:Below X4.heap.size X4 y3:=bt hby2 hb0y3;clear hS;have hS:=KP y3 hby3;refine ⟨_,rfl,fun _=>hS,?_⟩;simp only [pz];rw [hpz];refine zD 33 100 (.bool true) hS ?_;refine zD 34 101 (.bool true) hS ?_;refine zK (by kernel_rfl) ?_ _;go_wp2;go_ret;refine ⟨zL (by rw [HE.out]),s,?_⟩;rw [HE.out];exact (HX4.out.more hby3).pt.inb
       | true=>
        have HRF:Hid (R=if ¬ zBE c.tree B < 0/\(jM (lieT c e) (lieL c e)).2=true then ((jM (lieT c e) (lieL c e)).1,true) else (c,false)):=(by rw [HRE.out,hlz,hrz,hpz];simp only [true_and]:R=_);refine zT (fun _=>true) (fun x=>Bx x N (zR c s) 90/\Bx x w.heap.size (evA e) 132/\Bx x g10 (qD B cv) 76) (by kernel_rfl) ?_;show zX Tryz.prog _ _ _ _ _ (34+1) (Array.replicate 35 false) _ _;have KP:∀ x,Below X4.heap.size X4 x->Bx x N (zR c s) 90/\Bx x w.heap.size (evA e) 132/\Bx x g10 (qD B cv) 76:=fun x hb=>⟨(HX4.out.more hb).pt.inb.box,(HX4.out.more hb).pt.box,(HX4.out.more hb).blk⟩
        have hd0:Below X4.heap.size X4 X4.drew:=(br _ _).drew;have hS:=KP X4.drew hd0;refine zD 0 67 (.pointer (some ⟨N,0,none⟩)) hS ?_;refine zD 1 68 (.pointer (some ⟨N,0,none⟩)) hS ?_;refine zD 2 69 (.agg (zR c s)) hS ?_ (hy:=fun x hx=>zM _ _ rfl N rfl _ _ _ _ hx.1 Tryz.underlying90 rfl (by kernel_rfl));refine zD 3 70 (.pointer (some ⟨w.heap.size,1,none⟩)) hS ?_;refine zD 4 71 (.int .i64 e.at') hS ?_ (hy:=by intro x hx;have l1:=zB hx.2.1 1 (.int .i64 e.at') rfl;go_simp;try with_reducible rfl);refine kJ 5 72 148 #[.agg (zR c s),.int .i64 e.at'] ((yAI c s e.at' X4.drew).mono ?_);rintro r y1 ⟨rfl,hb0y1⟩;have hby1:Below X4.heap.size X4 y1:=bt hd0 hb0y1;clear hS;have hS:=KP y1 hby1;refine ⟨_,rfl,fun _=>hS,?_⟩;simp only [pz];rw [hlz];refine zD 6 73 (.bool false) hS ?_;refine zD 7 74 (.bool false) hS ?_;refine zD 8 75 (.pointer (some ⟨N,0,none⟩)) hS ?_;refine zD 9 76 (.pointer (some ⟨N,0,none⟩)) hS ?_;refine zD 10 77 (.pointer (some ⟨N,3,none⟩)) hS ?_;refine zD 11 78 s.treeV hS ?_ (hy:=by intro x hx;have c3:=zB hx.1 3 s.treeV rfl;go_simp;try with_reducible rfl);refine zD 12 79 (.pointer (some ⟨N,0,none⟩)) hS ?_;refine zD 13 80 (.pointer (some ⟨N,0,none⟩)) hS ?_;refine zD 14 81 (.pointer (some ⟨N,0,none⟩)) hS ?_;refine zD 15 82 (.int .i64 c.n) hS ?_ (hy:=by intro x hx;have c0:=zB hx.1 0 (.int .i64 c.n) rfl;go_simp;try with_reducible rfl);refine zD 16 83 (.pointer (some ⟨g10,3,none⟩)) hS ?_;refine zD 17 84 (.agg #[.int .i64 Q.1.1,.int .i64 Q.1.2.1,.int .i64 Q.1.2.2.1,.int .i64 Q.1.2.2.2]) hS ?_ (hy:=fun x hx=>by have hj:=blk_just hx.2.2;rw [HBQ.out] at hj;exact xB _ _ rfl g10 3 rfl _ _ hj Tryz.underlying26 rfl (by kernel_rfl));have hcon:=qcRight_s s.tree s.treeV c.n Q.1 y1 (HX4.out.more hby1).pt.inb.own.reads.tree (by have h:=HOK.out.ltree;rw [<- HX4.out.pt.inb.own.etree,yO] at h;omega) (by have:=HOK.out.n.1;omega) (by have:=HOK.out.n.2;omega) HQ.out.2;rw [HX4.out.pt.inb.own.etree] at hcon;refine kJ 18 85 79 #[s.treeV,.int .i64 c.n,.agg #[.int .i64 Q.1.1,.int .i64 Q.1.2.1,.int .i64 Q.1.2.2.1,.int .i64 Q.1.2.2.2]] ((hcon).mono ?_);rintro r y2 ⟨rfl,hb0y2⟩;have hby2:Below X4.heap.size X4 y2:=bt hby1 hb0y2;clear hS;have hS:=KP y2 hby2;refine ⟨_,rfl,fun _=>hS,?_⟩;simp only [pz];clear hcon;rw [hrz];refine zD 19 86 (.bool false) hS ?_;refine zD 20 87 (.bool false) hS ?_;refine zD 21 88 (.bool false) hS ?_;refine zD 22 89 (.pointer (some ⟨N,0,none⟩)) hS ?_;refine zD 23 90 (.pointer (some ⟨N,0,none⟩)) hS ?_;refine zD 24 91 (.pointer (some ⟨N,6,none⟩)) hS ?_;refine zD 25 92 s.said hS ?_ (hy:=by intro x hx;have c6:=zB hx.1 6 s.said rfl;go_simp;try with_reducible rfl);refine zD 26 93 (.pointer (some ⟨g10,3,none⟩)) hS ?_;refine zD 27 94 (.agg #[.int .i64 Q.1.1,.int .i64 Q.1.2.1,.int .i64 Q.1.2.2.1,.int .i64 Q.1.2.2.2]) hS ?_ (hy:=fun x hx=>by have hj:=blk_just hx.2.2;rw [HBQ.out] at hj;exact xB _ _ rfl g10 3 rfl _ _ hj Tryz.underlying26 rfl (by kernel_rfl));refine zD 28 95 (.pointer (some ⟨N,0,none⟩)) hS ?_;refine zD 29 96 (.pointer (some ⟨N,0,none⟩)) hS ?_;refine zD 30 97 (.pointer (some ⟨N,2,none⟩)) hS ?_;refine zD 31 98 (.int .i64 c.liars) hS ?_ (hy:=by intro x hx;have c2:=zB hx.1 2 (.int .i64 c.liars) rfl;go_simp;try with_reducible rfl);refine kJ 32 99 220 #[s.said,.agg #[.int .i64 Q.1.1,.int .i64 Q.1.2.1,.int .i64 Q.1.2.2.1,.int .i64 Q.1.2.2.2],.int .i64 c.liars] ((proven_s c.said s.said Q.1 c.liars y2 (HX4.out.more hby2).pt.inb.own.reads.said (by have:=HOK.out.said;omega)).mono ?_);rintro r y3 ⟨rfl,hb0y3⟩;have hby3:Below X4.heap.size X4 y3:=bt hby2 hb0y3;clear hS;have hS:=KP y3 hby3;refine ⟨_,rfl,fun _=>hS,?_⟩;simp only [pz];rw [hpz];refine zD 33 100 (.bool false) hS ?_;refine zD 34 101 (.bool false) hS ?_;refine zK (by kernel_rfl) ?_ _;have HX5:Hid (PtB w y3 N lo c s e g8 g10 Q.1 B cv):=HX4.out.more hby3;clear hS KP hd0 hby1 hby2 hby3 hb0y1 hb0y2 hb0y3 HRE hlz hrz hpz HX4
        go_upto_region 14 with fail
        refine zT (fun _=>true) (fun x=>Bx x N (zR c s) 90/\Bx x g10 (qD B cv) 76) (by kernel_rfl) ?_;show zX Tryz.prog _ _ _ _ _ (10+1) (Array.replicate 11 false) _ _;have hd0:Below y3.heap.size y3 y3.drew:=(br _ _).drew;have hS:Bx y3.drew N (zR c s) 90/\Bx y3.drew g10 (qD B cv) 76:=⟨HX5.out.pt.inb.box,HX5.out.blk⟩;refine zD 0 103 (.pointer (some ⟨N,0,none⟩)) hS ?_;refine zD 1 104 (.pointer (some ⟨N,0,none⟩)) hS ?_;refine zD 2 105 (.pointer (some ⟨N,3,none⟩)) hS ?_;refine zD 3 106 s.treeV hS ?_ (hy:=by intro x hx;have c3:=zB hx.1 3 s.treeV rfl;go_simp;try with_reducible rfl);refine zD 4 107 (.agg (qD B cv)) hS ?_ (hy:=fun x hx=>zM _ _ rfl g10 rfl _ _ _ _ hx.2 Tryz.underlying76 rfl (by kernel_rfl));have hcon:=putBlock_s s.tree s.treeV B cv y3.drew (HX5.out.more hd0).pt.inb.own.tree.read (HX5.out.more hd0).cmds (by rw [HX5.out.pt.inb.own.etree];exact HOK.out.tree) (by unfold okB;rw [HBC.out];exact ⟨by simp,fun x hx=>by rcases List.mem_singleton.1 hx with rfl;exact hc⟩);rw [HX5.out.pt.inb.own.etree] at hcon;obtain ⟨PA,hPA⟩:∃ PA,PA=zBE c.tree B:=⟨_,rfl⟩;rw [<- hPA] at hcon HRF;refine kJ 5 108 208 #[s.treeV,.agg (qD B cv)] (hcon.mono ?_);clear hcon;rintro r X6 ⟨v1,qs,rfl,hqs,hot,hb6⟩;have HX6:Hid (PtB w X6 N lo c s e g8 g10 Q.1 B cv):=HX5.out.more (hd0.trans hb6);have HOC:Hid (xG lo y3.heap.size X6 c s):=HX5.out.pt.inb.own.below (hd0.trans hb6);have HOT:Hid (xH X6 y3.heap.size v1 qs/\bks qs=zGE c.tree B/\y3.heap.size<=X6.heap.size/\lo<=y3.heap.size/\N < y3.heap.size):=⟨hot,hqs,hb6.size,Nat.le_trans HLO.out HX5.out.pt.inb.fr.size,Nat.lt_of_lt_of_le HNW.out HX5.out.pt.inb.fr.size⟩;refine ⟨_,rfl,fun _=>⟨HX6.out.pt.inb.box,HX6.out.blk⟩,?_⟩;simp only [pz];refine zD 6 102 (.tuple #[v1,.int .i64 PA]) ⟨HX6.out.pt.inb.box,HX6.out.blk⟩ ?_;refine zD 7 109 v1 ⟨HX6.out.pt.inb.box,HX6.out.blk⟩ ?_;refine zD 8 110 (.int .i64 PA) ⟨HX6.out.pt.inb.box,HX6.out.blk⟩ ?_;refine zD 9 11 v1 ⟨HX6.out.pt.inb.box,HX6.out.blk⟩ ?_;refine zD 10 12 (.int .i64 PA) ⟨HX6.out.pt.inb.box,HX6.out.blk⟩ ?_;refine zK (by kernel_rfl) ?_ _;have HPA:Hid (PA=zBE c.tree B):=hPA;clear hS hd0 hqs hot hb6 HX5 hPA
        by_cases hpa:PA < 0
        ·have HE:Hid (R=(c,false)):=(by rw [HRF.out];exact if_neg (fun h=>h.1 hpa):R=_);go_wp2;go_ret;refine ⟨zL (by rw [HE.out]),s,?_⟩;rw [HE.out];exact HX6.out.pt.inb
        ·have HRG:Hid (R=if (jM (lieT c e) (lieL c e)).2=true then ((jM (lieT c e) (lieL c e)).1,true) else (c,false)):=(by
          rw [HRF.out]
          by_cases hh:(jM (lieT c e) (lieL c e)).2=true
          ·rw [if_pos ⟨hpa,hh⟩,if_pos hh]
          ·rw [if_neg (fun h=>hh h.2),if_neg hh]:R=_)
         clear HRF;obtain ⟨C1,hC1⟩:∃ C1:CU,C1={ c with tree:=bks qs }:=⟨_,rfl⟩;obtain ⟨S1,hS1⟩:∃ S1:CW,S1={ s with treeV:=v1,tree:=qs }:=⟨_,rfl⟩;obtain ⟨L,hL⟩:∃ L:LT,L=((1,e.at',e.to',VW,PA),Q.1,(0,0,0,0)):=⟨_,rfl⟩
         have HCT:Hid (lieT c e=C1/\lieL c e=L/\handOk C1/\fitQ L.2.1):=(by
          have h1:lieT c e=C1:=by rw [hC1,HOT.out.2.1,HBB.out];rfl
          refine ⟨h1,?_,by rw [<- h1];exact HOK.out.hand2 e,by rw [hL];exact HQ.out.2⟩;rw [hL,HPA.out,HBB.out,HVV.out,HQ.out.1]
          rfl:_/\_)
         have HLA:Hid (zQ L=#[.int .i64 1,.int .i64 e.at',.int .i64 e.to',.int .i64 VW,.int .i64 PA,.int .i64 Q.1.1,.int .i64 Q.1.2.1,.int .i64 Q.1.2.2.1,.int .i64 Q.1.2.2.2,.int .i64 0,.int .i64 0,.int .i64 0,.int .i64 0]):=hid (by rw [hL];rfl);have HCS:Hid (C1={ c with tree:=bks qs }/\S1={ s with treeV:=v1,tree:=qs }):=⟨hC1,hS1⟩;have HAR:Hid ((zR c s).setIfInBounds 3 v1=zR C1 S1/\(zR C1 S1).setIfInBounds 3 s.treeV=zR c s):=hid (by rw [hC1,hS1];exact ⟨rfl,rfl⟩);rw [HCT.out.1,HCT.out.2.1] at HRG;clear hC1 hS1 hL;have c3:=zB HX6.out.pt.inb.box 3 s.treeV rfl
         go_wp2_with (first
          | (refine zU rfl _ _ _ rfl N 3 v1 rfl rfl _ _ HX6.out.pt.inb.box (by kernel_rfl) (by simp [zR]) (jI HOT.out.1.row) (zR C1 S1) HAR.out.1 ?_;intro X7 hg hk;have HX7:Hid (InB N lo w X7 C1 S1/\Bx X7 w.heap.size (evA e) 132/\Bx X7 g8 #[.int .i64 Q.1.1,.int .i64 Q.1.2.1,.int .i64 Q.1.2.2.1,.int .i64 Q.1.2.2.2] 26/\FrS (fun k=>k=N) X6 X7):=tree_in HX6.out HOT.out.1 HOT.out.2.2.2.1 HOT.out.2.2.2.2 HCS.out.1 HCS.out.2 hg hk HOC.out;have l1:=zB HX7.out.2.1 1 (.int .i64 e.at') rfl;have l2:=zB HX7.out.2.1 2 (.int .i64 e.to') rfl;clear hg hk)
          | (refine w_ld g8 HX7.out.2.2.1 Tryz.underlying26 ?_))
         clear l1 l2 c3;have hcon:=hand_p C1 S1 N lo X7.heap.size L X7 HX7.out.1.box HX7.out.1.own (Nat.le_trans HLO.out HX7.out.1.fr.size) HCT.out.2.2.1 HCT.out.2.2.2;rw [HLA.out] at hcon;refine hcon.mono ?_;clear hcon;rintro r X8 ⟨rfl,s8,hin,hfs⟩;have HX8:Hid (InB N lo w X8 (jM C1 L).1 s8/\FrS (fun k=>k=N) X6 X8/\((jM C1 L).2=false->s8=S1)):=⟨HX7.out.1.trans hin,HX7.out.2.2.2.trans hin.fr,hfs⟩;clear hin hfs HX7
         cases hok2:(jM C1 L).2 with
         | true=>
          have HE:Hid (R=((jM C1 L).1,true)):=(by rw [HRG.out,if_pos hok2]:R=_);go_wp2;go_ret;refine ⟨zL (by rw [HE.out]),s8,?_⟩;rw [HE.out];exact HX8.out.1
         | false=>
          have HE:Hid (R=(c,false)):=(by rw [HRG.out,if_neg (by rw [hok2];decide)]:R=_);have HX9:Hid (Bx X8 N (zR C1 S1) 90):=hid (by have h:=HX8.out.1.box;rw [HX8.out.2.2 hok2,hand_no hok2] at h;exact h)
          go_wp2_with (refine zU rfl _ _ _ rfl N 3 s.treeV rfl rfl _ _ HX9.out (by kernel_rfl) (by simp [zR]) (jI HX6.out.pt.inb.own.tree.row) (zR c s) HAR.out.2 ?_;intro z hg hk;have HZ:Hid (InB N lo w z c s):=(by
            have hf:FrS (fun k=>k=N) X6 z:=HX8.out.2.1.trans (FrS.of_grown hg (fun k e=>by cases e;rfl))
            exact ⟨hk,(HX6.out.pt.inb.own.frs hf (fun i g hi hp e=>HX6.out.pt.inb.own.noBox HX6.out.pt.inb.box i hi (by rw [<- e];exact hp))).wide hf.size (nl _),HX6.out.pt.inb.fr.trans hf⟩:InB _ _ _ _ _ _);clear hg hk)
          go_ret;refine ⟨zL (by rw [HE.out]),s,?_⟩;rw [HE.out];exact HZ.out
end Go.Proofs.YtdopefimjabigadGreat
