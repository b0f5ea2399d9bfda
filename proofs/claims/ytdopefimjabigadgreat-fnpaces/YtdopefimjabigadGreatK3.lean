/-
  Texts of ours that later ones lean on, in one: AnsS, VoteS, QcS.
-/
import Derived.Test.YtdopefimjabigadGreatK1
import Derived.Test.YtdopefimjabigadGreatK2
set_option maxRecDepth 100000
set_option maxHeartbeats 32000000
namespace Go.Proofs.YtdopefimjabigadGreat
open Go.RowKit Num
def zQ (l:LT):Array Value:=#[.int .i64 l.1.1,.int .i64 l.1.2.1,.int .i64 l.1.2.2.1,.int .i64 l.1.2.2.2.1,.int .i64 l.1.2.2.2.2,.int .i64 l.2.1.1,.int .i64 l.2.1.2.1,.int .i64 l.2.1.2.2.1,.int .i64 l.2.1.2.2.2,.int .i64 l.2.2.1,.int .i64 l.2.2.2.1,.int .i64 l.2.2.2.2.1,.int .i64 l.2.2.2.2.2]
theorem kD (l:LT):(zQ l).all (·.oneCell')=true:=by simp [zQ,Value.oneCell']
def kX (p:PE) (kind to:Int) (q:QC) (v:VT):LT:=if kind=2 then ((kind,p.id,to,v.2.1,0),(0,0,0,0),v) else ((kind,p.id,to,p.view,0),q,(0,0,0,0))
theorem alloc4 (w:World) (A B C D:Obj):((((w.alloc A).alloc B).alloc C).alloc D).heap[w.heap.size]?=some A∧((((w.alloc A).alloc B).alloc C).alloc D).heap[w.heap.size+1]?=some B∧((((w.alloc A).alloc B).alloc C).alloc D).heap[w.heap.size+1+1]?=some C∧((((w.alloc A).alloc B).alloc C).alloc D).heap[w.heap.size+1+1+1]?=some D:=by
 have h:=zJH w A B C;have hb:Below (((w.alloc A).alloc B).alloc C).heap.size (((w.alloc A).alloc B).alloc C) ((((w.alloc A).alloc B).alloc C).alloc D):=(br _ _).alloc (nl _) D;refine ⟨(hb.block _ (by simp;omega)).trans h.1,(hb.block _ (by simp)).trans h.2.1,(hb.block _ (by simp)).trans h.2.2,?_⟩;have:=heap_alloc_new (((w.alloc A).alloc B).alloc C) D
 simpa using this
structure AnsB (w y:World) (N:Nat) (Q V L:Array Value):Prop where
 below:Below w.heap.size w y
 qc:Bx y (w.heap.size+1) Q 26
 vote:Bx y (w.heap.size+1+1) V 28
 zero:Bx y (w.heap.size+1+1+1) (zQ ((0,0,0,0,0),(0,0,0,0),(0,0,0,0))) 37
 letter:Bx y N L 37
 far:w.heap.size+1+1+1 < N
theorem AnsB.put {w y x:World} {N:Nat} {Q V L L':Array Value} (h:AnsB w y N Q V L) (hg:y.grownBy x (some N)) (hk:Bx x N L' 37):AnsB w x N Q V L':=by
 have:=h.far;have h1:=(gl h.letter);exact ⟨h.below.grown hg h.below.size (fun k hk=>by cases hk;omega),(hg.block _ (by omega) (fun e=>by have:=Option.some.inj e;omega)).trans h.qc,(hg.block _ (by omega) (fun e=>by have:=Option.some.inj e;omega)).trans h.vote,(hg.block _ (by omega) (fun e=>by have:=Option.some.inj e;omega)).trans h.zero,hk,h.far⟩
theorem answered_s (p:PE) (s:PV) (kind to:Int) (q:QC) (v:VT) (w:World) :
  Calls Tryz.prog 63 #[yZ p s,.int .i64 kind,.int .i64 to,.agg #[.int .i64 q.1,.int .i64 q.2.1,.int .i64 q.2.2.1,.int .i64 q.2.2.2],.agg #[.int .i64 v.1,.int .i64 v.2.1,.int .i64 v.2.2.1,.int .i64 v.2.2.2]] w fun e w'=>e=.returned (letV (kX p kind to q v))∧Below w.heap.size w w':=by
 obtain ⟨q0,q1,q2,q3⟩:=q;obtain ⟨v0,v1,v2,v3⟩:=v;simp only;obtain ⟨W,hW⟩:∃ W,W=(((w.alloc (.cells (zA p s) 35)).alloc (.cells #[.int .i64 q0,.int .i64 q1,.int .i64 q2,.int .i64 q3] 26)).alloc (.cells #[.int .i64 v0,.int .i64 v1,.int .i64 v2,.int .i64 v3] 28)).alloc (.cells (zQ ((0,0,0,0,0),(0,0,0,0),(0,0,0,0))) 37):=⟨_,rfl⟩
 have HC:Hid (Below w.heap.size w W∧Bx W w.heap.size (zA p s) 35∧Bx W (w.heap.size+1) #[.int .i64 q0,.int .i64 q1,.int .i64 q2,.int .i64 q3] 26∧Bx W (w.heap.size+1+1) #[.int .i64 v0,.int .i64 v1,.int .i64 v2,.int .i64 v3] 28∧Bx W (w.heap.size+1+1+1) (zQ ((0,0,0,0,0),(0,0,0,0),(0,0,0,0))) 37):=by
  rw [hW];exact ⟨ba (ba (ba (ba (br _ _) _) _) _) _,alloc4 w _ _ _ _⟩
 have HWS:Hid (W.heap.size=w.heap.size+1+1+1+1):=hid (by rw [hW];simp);have c0:=zB HC.out.2.1 0 (.int .i64 p.id) rfl;have c1:=zB HC.out.2.1 1 (.int .i64 p.view) rfl;unfold zQ at hW;simp only at hW
 by_cases hk:kind=2
 ·have HE:Hid (kX p kind to (q0,q1,q2,q3) (v0,v1,v2,v3)=((kind,p.id,to,v1,0),(0,0,0,0),(v0,v1,v2,v3))):=(by unfold kX;rw [if_pos hk]:kX p kind to (q0,q1,q2,q3) (v0,v1,v2,v3)=_);have b2:(kind == 2)=true:=by simpa using hk
  clear hk;go_enter Tryz.func63,Tryz.ntmps63
  go_wp2_with (first
   | (refine w_st W.heap.size (zQ (((kind,p.id,to,p.view,0),(0,0,0,0),(0,0,0,0)))) (heap_alloc_new W _) (kD _) ?_;intro y1 hg hk hz;have hb:Below W.heap.size W y1:=yB hg;have HY1:Hid (AnsB w y1 W.heap.size #[.int .i64 q0,.int .i64 q1,.int .i64 q2,.int .i64 q3] #[.int .i64 v0,.int .i64 v1,.int .i64 v2,.int .i64 v3] (zQ (((kind,p.id,to,p.view,0),(0,0,0,0),(0,0,0,0))))):=⟨bt HC.out.1 hb,(hb.block _ (gl HC.out.2.2.1)).trans HC.out.2.2.1,(hb.block _ (gl HC.out.2.2.2.1)).trans HC.out.2.2.2.1,(hb.block _ (gl HC.out.2.2.2.2)).trans HC.out.2.2.2.2,hk,(by have:=HWS.out;omega)⟩;clear hg hk hz hb c0 c1;have c1:=zB HY1.out.vote 1 (.int .i64 v1) rfl)
   | (rw [← hW];clear hW)
   | (refine w_ld (w.heap.size+1+1) HY1.out.vote Tryz.underlying28 ?_)
   | (refine yY rfl _ _ _ rfl W.heap.size 9 #[.int .i64 v0,.int .i64 v1,.int .i64 v2,.int .i64 v3] rfl rfl _ _ HY1.out.letter (by kernel_rfl) (by simp [zQ]) (by simp [Value.oneCell']) (zQ (((kind,p.id,to,p.view,0),(0,0,0,0),(v0,v1,v2,v3)))) rfl ?_;intro y2 hg hk;have HY2:Hid (AnsB w y2 W.heap.size #[.int .i64 q0,.int .i64 q1,.int .i64 q2,.int .i64 q3] #[.int .i64 v0,.int .i64 v1,.int .i64 v2,.int .i64 v3] (zQ (((kind,p.id,to,p.view,0),(0,0,0,0),(v0,v1,v2,v3))))):=HY1.out.put hg hk;clear hg hk HY1;clear c1;have c1:=zB HY2.out.vote 1 (.int .i64 v1) rfl)
   | (refine zU rfl _ _ _ rfl W.heap.size 3 (.int .i64 v1) rfl rfl _ _ HY2.out.letter (by kernel_rfl) (by simp [zQ]) rfl (zQ (((kind,p.id,to,v1,0),(0,0,0,0),(v0,v1,v2,v3)))) rfl ?_;intro y3 hg hk;have HY3:Hid (AnsB w y3 W.heap.size #[.int .i64 q0,.int .i64 q1,.int .i64 q2,.int .i64 q3] #[.int .i64 v0,.int .i64 v1,.int .i64 v2,.int .i64 v3] (zQ (((kind,p.id,to,v1,0),(0,0,0,0),(v0,v1,v2,v3))))):=HY2.out.put hg hk;clear hg hk HY2 c1)
   | (refine w_ld W.heap.size HY3.out.letter Tryz.underlying37 ?_)
   | (refine w_st (w.heap.size+1+1+1) (zQ (((kind,p.id,to,v1,0),(0,0,0,0),(v0,v1,v2,v3)))) HY3.out.zero (kD _) ?_;intro z hg hk hz;have HZ:Hid (Below w.heap.size w z∧Bx z (w.heap.size+1+1+1) (zQ (((kind,p.id,to,v1,0),(0,0,0,0),(v0,v1,v2,v3)))) 37):=⟨HY3.out.below.grown hg HY3.out.below.size (fun k hk=>by cases hk;omega),hk⟩;clear hg hk hz HY3))
  refine bodyPost_ret (v:=.agg (zQ (((kind,p.id,to,v1,0),(0,0,0,0),(v0,v1,v2,v3))))) (results_cell_row Tryz.results63 _ _ (w.heap.size+1+1+1) 37 _ (0,0) _ rfl HZ.out.2 Tryz.underlying37 rfl (by kernel_rfl)) rfl ?_;exact ⟨by rw [HE.out];rfl,HZ.out.1⟩
 ·have HE:Hid (kX p kind to (q0,q1,q2,q3) (v0,v1,v2,v3)=((kind,p.id,to,p.view,0),(q0,q1,q2,q3),(0,0,0,0))):=(by unfold kX;rw [if_neg hk]:kX p kind to (q0,q1,q2,q3) (v0,v1,v2,v3)=_);have b2:(kind == 2)=false:=by simpa using hk
  clear hk;go_enter Tryz.func63,Tryz.ntmps63
  go_wp2_with (first
   | (refine w_st W.heap.size (zQ (((kind,p.id,to,p.view,0),(0,0,0,0),(0,0,0,0)))) (heap_alloc_new W _) (kD _) ?_;intro y1 hg hk hz;have hb:Below W.heap.size W y1:=yB hg;have HY1:Hid (AnsB w y1 W.heap.size #[.int .i64 q0,.int .i64 q1,.int .i64 q2,.int .i64 q3] #[.int .i64 v0,.int .i64 v1,.int .i64 v2,.int .i64 v3] (zQ (((kind,p.id,to,p.view,0),(0,0,0,0),(0,0,0,0))))):=⟨bt HC.out.1 hb,(hb.block _ (gl HC.out.2.2.1)).trans HC.out.2.2.1,(hb.block _ (gl HC.out.2.2.2.1)).trans HC.out.2.2.2.1,(hb.block _ (gl HC.out.2.2.2.2)).trans HC.out.2.2.2.2,hk,(by have:=HWS.out;omega)⟩;clear hg hk hz hb c0 c1;have c1:=zB HY1.out.vote 1 (.int .i64 v1) rfl)
   | (rw [← hW];clear hW)
   | (refine w_ld (w.heap.size+1) HY1.out.qc Tryz.underlying26 ?_)
   | (refine yY rfl _ _ _ rfl W.heap.size 5 #[.int .i64 q0,.int .i64 q1,.int .i64 q2,.int .i64 q3] rfl rfl _ _ HY1.out.letter (by kernel_rfl) (by simp [zQ]) (by simp [Value.oneCell']) (zQ (((kind,p.id,to,p.view,0),(q0,q1,q2,q3),(0,0,0,0)))) rfl ?_;intro y2 hg hk;have HY2:Hid (AnsB w y2 W.heap.size #[.int .i64 q0,.int .i64 q1,.int .i64 q2,.int .i64 q3] #[.int .i64 v0,.int .i64 v1,.int .i64 v2,.int .i64 v3] (zQ (((kind,p.id,to,p.view,0),(q0,q1,q2,q3),(0,0,0,0))))):=HY1.out.put hg hk;clear hg hk HY1)
   | (refine w_ld W.heap.size HY2.out.letter Tryz.underlying37 ?_)
   | (refine w_st (w.heap.size+1+1+1) (zQ (((kind,p.id,to,p.view,0),(q0,q1,q2,q3),(0,0,0,0)))) HY2.out.zero (kD _) ?_;intro z hg hk hz;have HZ:Hid (Below w.heap.size w z∧Bx z (w.heap.size+1+1+1) (zQ (((kind,p.id,to,p.view,0),(q0,q1,q2,q3),(0,0,0,0)))) 37):=⟨HY2.out.below.grown hg HY2.out.below.size (fun k hk=>by cases hk;omega),hk⟩;clear hg hk hz HY2))
  refine bodyPost_ret (v:=.agg (zQ (((kind,p.id,to,p.view,0),(q0,q1,q2,q3),(0,0,0,0))))) (results_cell_row Tryz.results63 _ _ (w.heap.size+1+1+1) 37 _ (0,0) _ rfl HZ.out.2 Tryz.underlying37 rfl (by kernel_rfl)) rfl ?_;exact ⟨by rw [HE.out];rfl,HZ.out.1⟩
theorem jU {x a b:Int} {r:Bool} (h:inB x a b=r) (w:World):Calls Tryz.prog 42 #[.int .i64 x,.int .i64 a,.int .i64 b] w fun e w'=>e=.returned (.bool r)∧w'=w:=by rw [← h];exact yS x a b w
theorem zZ {w:World} {N:Nat} {a b c d:Value} {t:TypeId} (h:w.heap[N]?=some (.cells #[a,b,c,d] t (0,0))):w.cell? ⟨N,0,none⟩=some a∧w.cell? ⟨N,1,none⟩=some b∧w.cell? ⟨N,2,none⟩=some c∧w.cell? ⟨N,3,none⟩=some d:=by
 refine ⟨?_,?_,?_,?_⟩
 ·rw [cell_of_row w N 0 _ _ (0,0) h];rfl
 ·rw [cell_of_row w N 1 _ _ (0,0) h];rfl
 ·rw [cell_of_row w N 2 _ _ (0,0) h];rfl
 ·rw [cell_of_row w N 3 _ _ (0,0) h];rfl
theorem voteOk_s (ps:TL) (va:Value) (n:Int) (v:VT) (w:World) (hT:jB w va ps) (hl:(ps.length:Int)≤1048576) :
  Calls Tryz.prog 80 #[va,.int .i64 n,voteV v] w fun e w'=>e=.returned (.bool (zCI (bks ps) n v))∧Below w.heap.size w w':=by
 obtain ⟨a,cap,rfl,hr⟩:=zAI hT;have HR:=hid hr;have hbl:=yO ps;obtain ⟨p,vw,bl,by'⟩:=v;unfold voteV;simp only;obtain ⟨W1,hW1⟩:∃ W1,W1=w.alloc (.cells #[.int .i64 p,.int .i64 vw,.int .i64 bl,.int .i64 by'] 28):=⟨_,rfl⟩
 have HW:Hid (Bx W1 w.heap.size #[.int .i64 p,.int .i64 vw,.int .i64 bl,.int .i64 by'] 28∧Below w.heap.size w W1):=by
  rw [hW1];exact ⟨heap_alloc_new w _,ba (br _ _) _⟩
 have l0:w.heap.size < W1.heap.size:=(gl HW.out.1);have HX:Hid (∀ w',Below W1.heap.size W1 w'→Bx w' w.heap.size #[.int .i64 p,.int .i64 vw,.int .i64 bl,.int .i64 by'] 28):=fun w' h'=>(h'.block _ l0).trans HW.out.1
 have hne:=yX W1;have y0:∀ x:Bw W1,x.to.cell? ⟨w.heap.size,0,none⟩=some (.int .i64 p):=fun x=>(zZ (HX.out _ x.below)).1
 have y1:∀ x:Bw W1,x.to.cell? ⟨w.heap.size,1,none⟩=some (.int .i64 vw):=fun x=>(zZ (HX.out _ x.below)).2.1
 have y2:∀ x:Bw W1,x.to.cell? ⟨w.heap.size,2,none⟩=some (.int .i64 bl):=fun x=>(zZ (HX.out _ x.below)).2.2.1
 have y3:∀ x:Bw W1,x.to.cell? ⟨w.heap.size,3,none⟩=some (.int .i64 by'):=fun x=>(zZ (HX.out _ x.below)).2.2.2
 clear hr hT
 cases e0:inB n 1 7 with
 | false=>
  have HE:Hid (zCI (bks ps) n (p,vw,bl,by')=false):=hid (by unfold zCI;simp only [hbl];rw [e0];simp);go_enter Tryz.func80,Tryz.ntmps80;go_wp2;rw [← hW1];clear hW1;refine rb ?_;repeat (go_big_quiet_step (first | (with_reducible refine zI (jU e0 _)) | (refine zI (yS _ _ _ _))))
  refine wpQuiet_nil ?_;intro _ hw';obtain ⟨x,rfl⟩:=hw';go_wp2;go_ret;exact ⟨zL HE.out.symm,bt HW.out.2 x.below⟩
 | true=>
  cases e1:inB p 1 4 with
  | false=>
   have HE:Hid (zCI (bks ps) n (p,vw,bl,by')=false):=hid (by unfold zCI;simp only [hbl];rw [e0,e1];simp);go_enter Tryz.func80,Tryz.ntmps80;go_wp2;rw [← hW1];clear hW1;refine rb ?_;repeat (go_big_quiet_step (first | (with_reducible refine zI (jU e0 _)) | (with_reducible refine zI (jU e1 _)) | (refine zI (yS _ _ _ _))))
   refine wpQuiet_nil ?_;intro _ hw';obtain ⟨x,rfl⟩:=hw';go_wp2;go_ret;exact ⟨zL HE.out.symm,bt HW.out.2 x.below⟩
  | true=>
   cases e2:inB vw 1 900 with
   | false=>
    have HE:Hid (zCI (bks ps) n (p,vw,bl,by')=false):=hid (by unfold zCI;simp only [hbl];rw [e0,e1,e2];simp);go_enter Tryz.func80,Tryz.ntmps80;go_wp2;rw [← hW1];clear hW1;refine rb ?_;repeat (go_big_quiet_step (first | (with_reducible refine zI (jU e0 _)) | (with_reducible refine zI (jU e1 _)) | (with_reducible refine zI (jU e2 _)) | (refine zI (yS _ _ _ _))))
    refine wpQuiet_nil ?_;intro _ hw';obtain ⟨x,rfl⟩:=hw';go_wp2;go_ret;exact ⟨zL HE.out.symm,bt HW.out.2 x.below⟩
   | true=>
    cases e3:inB bl 1 ((ps.length:Int) - 1) with
    | false=>
     have HE:Hid (zCI (bks ps) n (p,vw,bl,by')=false):=hid (by unfold zCI;simp only [hbl];rw [e0,e1,e2,e3];simp);go_enter Tryz.func80,Tryz.ntmps80;go_wp2;rw [← hW1];clear hW1;refine rb ?_;repeat (go_big_quiet_step (first | (with_reducible refine zI (jU e0 _)) | (with_reducible refine zI (jU e1 _)) | (with_reducible refine zI (jU e2 _)) | (with_reducible refine zI (jU e3 _)) | (refine zI (yS _ _ _ _))))
     refine wpQuiet_nil ?_;intro _ hw';obtain ⟨x,rfl⟩:=hw';go_wp2;go_ret;exact ⟨zL HE.out.symm,bt HW.out.2 x.below⟩
    | true=>
     obtain ⟨n0,n1⟩:=zDF e0;obtain ⟨p0,p1⟩:=zDF e3;obtain ⟨j,rfl⟩:=Int.eq_ofNat_of_zero_le (show 0≤bl by omega);have hj:j < ps.length:=by omega
     have q0:(0:Int)≤(j:Int):=by omega
     have q1:(j:Int) < ps.length:=by omega
     obtain ⟨g,off,rfl,hg,hc⟩:=HR.out (by omega);have HV:Hid (yR (bks ps) (j:Int)=ps[j].1.1.2):=hid (by rw [viewAt_at (by rw [hbl];exact hj),bks_at hj]);have z1:∀ x:Bw W1,x.to.cell? ⟨g,off+j * 7+1,none⟩=some (.int .i64 ps[j].1.1.2):=fun x=>by rw [(bt HW.out.2 x.below).cell (by exact hg)];exact (hc j hj).2.1
     clear hc
     by_cases hv:ps[j].1.1.2=vw
     ·have d0:(ps[j].1.1.2 == vw)=true:=by simpa using hv
      have HE:Hid (zCI (bks ps) n (p,vw,(j:Int),by')=inB by' 0 (n - 1)):=hid (by unfold zCI;simp only [hbl];rw [e0,e1,e2,e3,HV.out,decide_eq_true hv];simp);clear hv;go_enter Tryz.func80,Tryz.ntmps80;go_wp2;rw [← hW1];clear hW1;refine rb ?_;repeat (go_big_quiet_step (first | (with_reducible refine zI (jU e0 _)) | (with_reducible refine zI (jU e1 _)) | (with_reducible refine zI (jU e2 _)) | (with_reducible refine zI (jU e3 _)) | (refine zI (yS _ _ _ _))))
      refine wpQuiet_nil ?_;intro _ hw';obtain ⟨x,rfl⟩:=hw';go_wp2;go_ret;exact ⟨zL HE.out.symm,bt HW.out.2 x.below⟩
     ·have d0:(ps[j].1.1.2 == vw)=false:=by simpa using hv
      have HE:Hid (zCI (bks ps) n (p,vw,(j:Int),by')=false):=hid (by unfold zCI;simp only [hbl];rw [e0,e1,e2,e3,HV.out,decide_eq_false hv];simp);clear hv;go_enter Tryz.func80,Tryz.ntmps80;go_wp2;rw [← hW1];clear hW1;refine rb ?_;repeat (go_big_quiet_step (first | (with_reducible refine zI (jU e0 _)) | (with_reducible refine zI (jU e1 _)) | (with_reducible refine zI (jU e2 _)) | (with_reducible refine zI (jU e3 _)) | (refine zI (yS _ _ _ _))))
      refine wpQuiet_nil ?_;intro _ hw';obtain ⟨x,rfl⟩:=hw';go_wp2;go_ret;exact ⟨zL HE.out.symm,bt HW.out.2 x.below⟩
def zBF (q:QC):Value:=.agg #[.int .i64 q.1,.int .i64 q.2.1,.int .i64 q.2.2.1,.int .i64 q.2.2.2]
def fitQ (q:QC):Prop:=-9223372036854775808≤q.2.2.2∧q.2.2.2≤9223372036854775807
theorem pow_peers {n:Nat} (h:n≤7):(1:Int)≤2 ^ n∧(2:Int) ^ n≤128:=by
 match n,h with
 | 0,_=>decide
 | 1,_=>decide
 | 2,_=>decide
 | 3,_=>decide
 | 4,_=>decide
 | 5,_=>decide
 | 6,_=>decide
 | 7,_=>decide
theorem blk_four {w:World} {N:Nat} {u0 u1 u2 u3:Value} {t:TypeId} (h:w.heap[N]?=some (.cells #[u0,u1,u2,u3] t (0,0))) (a b c d:Value) :
  (w.cell? ⟨N,0,none⟩=some u0∧w.frozen? ⟨N,0,none⟩=false)∧((w.setCell ⟨N,0,none⟩ a).cell? ⟨N,1,none⟩=some u1∧(w.setCell ⟨N,0,none⟩ a).frozen? ⟨N,1,none⟩=false)∧
   (((w.setCell ⟨N,0,none⟩ a).setCell ⟨N,1,none⟩ b).cell? ⟨N,2,none⟩=some u2∧((w.setCell ⟨N,0,none⟩ a).setCell ⟨N,1,none⟩ b).frozen? ⟨N,2,none⟩=false)∧
   ((((w.setCell ⟨N,0,none⟩ a).setCell ⟨N,1,none⟩ b).setCell ⟨N,2,none⟩ c).cell? ⟨N,3,none⟩=some u3∧(((w.setCell ⟨N,0,none⟩ a).setCell ⟨N,1,none⟩ b).setCell ⟨N,2,none⟩ c).frozen? ⟨N,3,none⟩=false)∧
   ((((w.setCell ⟨N,0,none⟩ a).setCell ⟨N,1,none⟩ b).setCell ⟨N,2,none⟩ c).setCell ⟨N,3,none⟩ d).heap[N]?=some (.cells #[a,b,c,d] t (0,0))∧
   w.grownBy ((((w.setCell ⟨N,0,none⟩ a).setCell ⟨N,1,none⟩ b).setCell ⟨N,2,none⟩ c).setCell ⟨N,3,none⟩ d) (some N):=by
 have h0:(w.setCell ⟨N,0,none⟩ a).heap[N]?=some (.cells #[a,u1,u2,u3] t (0,0)):=heap_setCell_same w N 0 _ t a h;have h1:((w.setCell ⟨N,0,none⟩ a).setCell ⟨N,1,none⟩ b).heap[N]?=some (.cells #[a,b,u2,u3] t (0,0)):=heap_setCell_same _ N 1 _ t b h0;have h2:(((w.setCell ⟨N,0,none⟩ a).setCell ⟨N,1,none⟩ b).setCell ⟨N,2,none⟩ c).heap[N]?=some (.cells #[a,b,c,u3] t (0,0)):=heap_setCell_same _ N 2 _ t c h1;have h3:((((w.setCell ⟨N,0,none⟩ a).setCell ⟨N,1,none⟩ b).setCell ⟨N,2,none⟩ c).setCell ⟨N,3,none⟩ d).heap[N]?=some (.cells #[a,b,c,d] t (0,0)):=heap_setCell_same _ N 3 _ t d h2;refine ⟨⟨?_,frozen_of_row w N 0 _ _ h⟩,⟨?_,frozen_of_row _ N 1 _ _ h0⟩,⟨?_,frozen_of_row _ N 2 _ _ h1⟩,⟨?_,frozen_of_row _ N 3 _ _ h2⟩,h3,zP (zP (zP (yK w N 0 a) (yK _ N 1 b)) (yK _ N 2 c)) (yK _ N 3 d)⟩
 ·rw [cell_of_row w N 0 _ _ (0,0) h];rfl
 ·rw [cell_of_row _ N 1 _ _ (0,0) h0];rfl
 ·rw [cell_of_row _ N 2 _ _ (0,0) h1];rfl
 ·rw [cell_of_row _ N 3 _ _ (0,0) h2];rfl
theorem yAF (a b:QC) (w:World) :
  Calls Tryz.prog 34 #[zBF a,zBF b] w fun e w'=>e=.returned (zBF (yF a b))∧Below w.heap.size w w':=by
 obtain ⟨a0,a1,a2,a3⟩:=a;obtain ⟨b0,b1,b2,b3⟩:=b;unfold zBF;simp only
 by_cases h:a1 < b1
 ·have HE:Hid (yF (a0,a1,a2,a3) (b0,b1,b2,b3)=(b0,b1,b2,b3)):=if_pos h;go_enter Tryz.func34,Tryz.ntmps34;go_wp2;refine bodyPost_ret (v:=.agg #[.int .i64 b0,.int .i64 b1,.int .i64 b2,.int .i64 b3]) (by simp [results,Tryz.results34,go_sem]) rfl ⟨by rw [HE.out],?_⟩;exact ba (ba (ba (br _ _) _) _) _
 ·have HE:Hid (yF (a0,a1,a2,a3) (b0,b1,b2,b3)=(a0,a1,a2,a3)):=if_neg h;go_enter Tryz.func34,Tryz.ntmps34;go_wp2;refine bodyPost_ret (v:=.agg #[.int .i64 a0,.int .i64 a1,.int .i64 a2,.int .i64 a3]) (by simp [results,Tryz.results34,go_sem]) rfl ⟨by rw [HE.out],?_⟩;exact ba (ba (ba (br _ _) _) _) _
theorem qcOf_s (l:List VT) (va:Value) (p v b n:Int) (w:World) (ha:yM w va 4 xD l) (hl:(l.length:Int)≤1048576) (hn0:-9223372036854775808≤n) (hn1:n≤9223372036854775807) :
  Calls Tryz.prog 163 #[va,.int .i64 p,.int .i64 v,.int .i64 b,.int .i64 n] w fun e w'=>e=.returned (.tuple #[zBF (zHE l p v b n).1,.bool (zHE l p v b n).2])∧Below w.heap.size w w':=by
 have HA:=hid ha;clear ha;obtain ⟨W1,hW1⟩:∃ W1,W1=w.alloc (.cells #[.int .i64 0,.int .i64 0,.int .i64 0,.int .i64 0] 26):=⟨_,rfl⟩;have HX:Hid (Bx W1 w.heap.size #[.int .i64 0,.int .i64 0,.int .i64 0,.int .i64 0] 26):=hid (by rw [hW1];exact heap_alloc_new w _);have HBW:Hid (Below w.heap.size w W1):=hid (by rw [hW1];exact ba (br _ _) _);have l0:w.heap.size < W1.heap.size:=(gl HX.out);go_enter Tryz.func163,Tryz.ntmps163;go_wp2_with fail
 rw [← hW1];clear hW1;refine (signers_s l va p v b W1 (HA.out.below HBW.out) hl).mono ?_;rintro e w2 ⟨rfl,hb2⟩;have HX2:Hid (Bx w2 w.heap.size #[.int .i64 0,.int .i64 0,.int .i64 0,.int .i64 0] 26):=(hb2.block _ l0).trans HX.out;have HB2:Hid (Below w.heap.size w w2):=bt HBW.out hb2;have l2:w.heap.size < w2.heap.size:=(gl HX2.out);clear hb2;obtain ⟨s0,s1⟩:=signersT_bounds l p v b;obtain ⟨s,hs⟩:∃ s,s=jP l p v b:=⟨_,rfl⟩;have HS:=hid hs.symm;rw [← hs] at s0 s1 ⊢;clear hs;obtain ⟨W3,hW3⟩:∃ W3,W3=w2.alloc (.cells #[.int .i64 p,.int .i64 v,.int .i64 b,.int .i64 s] 26):=⟨_,rfl⟩;have HB3:Hid (Below w2.heap.size w2 W3):=hid (by rw [hW3];exact ba (br _ _) _);have HX3:Hid (Bx W3 w.heap.size #[.int .i64 0,.int .i64 0,.int .i64 0,.int .i64 0] 26):=(HB3.out.block _ l2).trans HX2.out;have HY3:Hid (Bx W3 w2.heap.size #[.int .i64 p,.int .i64 v,.int .i64 b,.int .i64 s] 26):=hid (by rw [hW3];exact heap_alloc_new w2 _);go_wp2_with fail
 rw [← hW3];clear hW3;obtain ⟨y0,y1,y2,y3⟩:=zZ HY3.out;refine (count_s s W3 (by omega) (by omega)).mono ?_;rintro e w' ⟨rfl,hw⟩;obtain rfl:=hw.symm;clear hw;go_wp2_with fail
 refine (quorum_s n W3 hn0 hn1).mono ?_;rintro e w' ⟨rfl,hw⟩;obtain rfl:=hw.symm;clear hw;obtain ⟨c,hc⟩:∃ c,c=zFH s:=⟨_,rfl⟩;obtain ⟨q,hq⟩:∃ q,q=zBD n:=⟨_,rfl⟩;have HC:=hid hc.symm;have HQ:=hid hq.symm;rw [← hc,← hq];clear hc hq;obtain ⟨x0,x1,x2,x3⟩:=zZ HX3.out
 by_cases hlt:c < q
 ·have HE:Hid (zHE l p v b n=((0,0,0,0),false)):=hid (by unfold zHE;rw [HS.out,HC.out,HQ.out,if_pos hlt]);obtain ⟨⟨a0,g0⟩,⟨a1,g1⟩,⟨a2,g2⟩,⟨a3,g3⟩,hk,hg⟩:=blk_four HX3.out (.int .i64 0) (.int .i64 0) (.int .i64 0) (.int .i64 0);have HG:=hid hg;obtain ⟨z0,z1,z2,z3⟩:=zZ hk;clear hg hk;go_wp2;refine bodyPost_ret (v:=.tuple #[.agg #[.int .i64 0,.int .i64 0,.int .i64 0,.int .i64 0],.bool false]) (by simp [results,Tryz.results163,go_sem,z0,z1,z2,z3]) rfl ?_;exact ⟨by rw [HE.out];rfl,(bt HB2.out HB3.out).grown HG.out (bt HB2.out HB3.out).size (fun y hy=>by cases hy;exact nl _)⟩
 ·have HE:Hid (zHE l p v b n=((p,v,b,s),true)):=hid (by unfold zHE;rw [HS.out,HC.out,HQ.out,if_neg hlt]);obtain ⟨⟨a0,g0⟩,⟨a1,g1⟩,⟨a2,g2⟩,⟨a3,g3⟩,hk,hg⟩:=blk_four HX3.out (.int .i64 p) (.int .i64 v) (.int .i64 b) (.int .i64 s);have HG:=hid hg;obtain ⟨z0,z1,z2,z3⟩:=zZ hk;clear hg hk;go_wp2;refine bodyPost_ret (v:=.tuple #[.agg #[.int .i64 p,.int .i64 v,.int .i64 b,.int .i64 s],.bool true]) (by simp [results,Tryz.results163,go_sem,z0,z1,z2,z3]) rfl ?_;exact ⟨by rw [HE.out];rfl,(bt HB2.out HB3.out).grown HG.out (bt HB2.out HB3.out).size (fun y hy=>by cases hy;exact nl _)⟩
theorem qcRight_s (ps:TL) (va:Value) (n:Int) (q:QC) (w:World) (hT:jB w va ps) (hl:(ps.length:Int)≤1048576) (hn0:-9223372036854775808≤n) (hn1:n≤9223372036854775807) (hq:fitQ q) :
  Calls Tryz.prog 79 #[va,.int .i64 n,zBF q] w fun e w'=>e=.returned (.bool (kH (bks ps) n q))∧Below w.heap.size w w':=by
 have HT:=hid hT;clear hT;have E:=eqQ q (0,0,0,0);have G:=guardQ;obtain ⟨q0,q1,q2,q3⟩:=q;unfold zBF;simp only at E ⊢;have f0:=hq.1;have f1:=hq.2;simp only at f0 f1;clear hq;have HB1:Hid (Below w.heap.size w (w.alloc (.cells #[.int .i64 q0,.int .i64 q1,.int .i64 q2,.int .i64 q3] 26))):=ba (br _ _) _
 by_cases hz:(q0,q1,q2,q3)=((0,0,0,0):QC)
 ·have HE:Hid (kH (bks ps) n (q0,q1,q2,q3)=true):=if_pos hz;rw [decide_eq_true hz] at E;clear hz;go_enter Tryz.func79,Tryz.ntmps79;go_wp2;go_ret;exact ⟨zL HE.out.symm,HB1.out⟩
 ·have HE:Hid (kH (bks ps) n (q0,q1,q2,q3)=(zCI (bks ps) n (q0,q1,q2,0) && (inB q3 0 ((2:Int) ^ n.toNat - 1) && decide (zBD n≤zFH q3)))):=if_neg hz;rw [decide_eq_false hz] at E;clear hz;go_enter Tryz.func79,Tryz.ntmps79;obtain ⟨W1,hW1⟩:∃ W1,W1=w.alloc (.cells #[.int .i64 q0,.int .i64 q1,.int .i64 q2,.int .i64 q3] 26):=⟨_,rfl⟩;have HX:Hid (Bx W1 w.heap.size #[.int .i64 q0,.int .i64 q1,.int .i64 q2,.int .i64 q3] 26):=hid (by rw [hW1];exact heap_alloc_new w _);have HBW:Hid (Below w.heap.size w W1):=hid (by rw [hW1];exact HB1.out);have l0:w.heap.size < W1.heap.size:=(gl HX.out);go_wp2_with fail
  rw [← hW1];clear hW1 HB1 E G;refine (voteOk_s ps va n (q0,q1,q2,0) W1 (HT.out.below HBW.out) hl).mono ?_;rintro e w2 ⟨rfl,hb2⟩;have HB2:Hid (Below w.heap.size w w2):=bt HBW.out hb2;obtain ⟨_,_,_,y3⟩:=zZ ((hb2.block _ l0).trans HX.out);clear hb2
  cases hv:zCI (bks ps) n (q0,q1,q2,0) with
  | false=>
   have HF:Hid (kH (bks ps) n (q0,q1,q2,q3)=false):=hid (by rw [HE.out,hv];rfl);clear hv;go_wp2;go_ret;exact ⟨zL HF.out.symm,HB2.out⟩
  | true=>
   have hn7:inB n 1 7=true:=by
    unfold zCI at hv;simp only [Bool.and_eq_true] at hv;exact hv.1
   obtain ⟨n0,n1⟩:=zDF hn7;obtain ⟨m,rfl⟩:=Int.eq_ofNat_of_zero_le (show 0≤n by omega);obtain ⟨w0,w1⟩:=pow_peers (n:=m) (by omega);have HF:Hid (kH (bks ps) (m:Int) (q0,q1,q2,q3)=(inB q3 0 ((2:Int) ^ m - 1) && decide (zBD (m:Int)≤zFH q3))):=hid (by rw [HE.out,hv];rfl);clear hv hn7;go_wp2_with fail
   refine (yS q3 0 ((2:Int) ^ m - 1) w2).mono ?_;rintro e w' ⟨rfl,hw⟩;obtain rfl:=hw.symm;clear hw
   cases hi:inB q3 0 ((2:Int) ^ m - 1) with
   | false=>
    have HG:Hid (kH (bks ps) (m:Int) (q0,q1,q2,q3)=false):=hid (by rw [HF.out,hi];rfl);clear hi;go_wp2;go_ret;exact ⟨zL HG.out.symm,HB2.out⟩
   | true=>
    have HG:Hid (kH (bks ps) (m:Int) (q0,q1,q2,q3)=decide (zBD (m:Int)≤zFH q3)):=hid (by rw [HF.out,hi];rfl);clear hi;go_wp2_with fail
    refine (count_s q3 w2 f0 f1).mono ?_;rintro e w' ⟨rfl,hw⟩;obtain rfl:=hw.symm;clear hw;go_wp2_with fail
    refine (quorum_s (m:Int) w2 hn0 hn1).mono ?_;rintro e w' ⟨rfl,hw⟩;obtain rfl:=hw.symm;clear hw;go_wp2;go_ret;exact ⟨zL HG.out.symm,HB2.out⟩
theorem prov_yes {l:List VT} {q:QC} {liars:Int} (h0:¬ q.2.1=0) (h:provTo (jP l q.1 q.2.1 q.2.2.1) q.2.2.2 liars 7):qV l q liars=(decide (0≤q.2.2.2) && decide (q.2.2.2 < 128)):=by
 unfold qV;rw [if_neg h0]
 have:((List.range 7).all fun i=>!(decide (zAA q.2.2.2 i ≠ 0) && (decide (zAA liars i=0) && decide (zAA (jP l q.1 q.2.1 q.2.2.1) i=0))))=true:=List.all_eq_true.2 fun i hi=>by
  have:=h i (List.mem_range.1 hi);simp only [Bool.not_eq_true',Bool.and_eq_false_iff,decide_eq_false_iff_not];omega
 rw [this,Bool.true_and]
theorem prov_no {l:List VT} {q:QC} {liars:Int} {i:Nat} (h0:¬ q.2.1=0) (hi:i < 7) (h1:zAA q.2.2.2 i ≠ 0) (h2:zAA liars i=0) (h3:zAA (jP l q.1 q.2.1 q.2.2.1) i=0):qV l q liars=false:=by
 unfold qV;rw [if_neg h0];have:((List.range 7).all fun i=>!(decide (zAA q.2.2.2 i ≠ 0) && (decide (zAA liars i=0) && decide (zAA (jP l q.1 q.2.1 q.2.2.1) i=0))))=false:=List.all_eq_false.2 ⟨i,List.mem_range.2 hi,by simp [h1,h2,h3]⟩;rw [this,Bool.false_and]
theorem prov_next {said s liars:Int} {k:Nat} (h:provTo said s liars k) (hk:¬ (zAA s k ≠ 0∧zAA liars k=0∧zAA said k=0)):provTo said s liars (k+1):=fun i hi=>by
 by_cases e:i=k
 ·subst e;exact hk
 ·exact h i (by omega)
theorem bit_neq (x:Int) (k:Nat):((x / 2 ^ k).tmod 2 != 0)=decide (zAA x k ≠ 0):=by
 by_cases h:zAA x k=0
 ·rw [(shr_odd x k).2 h,h];rfl
 ·have h2:¬ (x / 2 ^ k).tmod 2=0:=fun e=>h ((shr_odd x k).1 e)
  rw [decide_eq_true h];simpa using h2
theorem bit_eql (x:Int) (k:Nat):((x / 2 ^ k).tmod 2 == 0)=decide (zAA x k=0):=by
 by_cases h:zAA x k=0
 ·rw [(shr_odd x k).2 h,decide_eq_true h];rfl
 ·have h2:¬ (x / 2 ^ k).tmod 2=0:=fun e=>h ((shr_odd x k).1 e)
  rw [decide_eq_false h];simpa using h2
theorem proven_s (l:List VT) (va:Value) (q:QC) (liars:Int) (w:World) (ha:yM w va 4 xD l) (hl:(l.length:Int)≤1048576) :
  Calls Tryz.prog 220 #[va,zBF q,.int .i64 liars] w fun e w'=>e=.returned (.bool (qV l q liars))∧Below w.heap.size w w':=by
 have HA:=hid ha;clear ha;obtain ⟨q0,q1,q2,q3⟩:=q;unfold zBF;simp only;have HB1:Hid (Below w.heap.size w (w.alloc (.cells #[.int .i64 q0,.int .i64 q1,.int .i64 q2,.int .i64 q3] 26))):=ba (br _ _) _
 by_cases hz:q1=0
 ·have HE:Hid (qV l (q0,q1,q2,q3) liars=true):=if_pos hz;have d0:(q1 == 0)=true:=by simpa using hz
  clear hz;go_enter Tryz.func220,Tryz.ntmps220;go_wp2;go_ret;exact ⟨zL HE.out.symm,HB1.out⟩
 ·have HZ:=hid hz;have d0:(q1 == 0)=false:=by simpa using hz
  obtain ⟨W1,hW1⟩:∃ W1,W1=w.alloc (.cells #[.int .i64 q0,.int .i64 q1,.int .i64 q2,.int .i64 q3] 26):=⟨_,rfl⟩;have HX:Hid (Bx W1 w.heap.size #[.int .i64 q0,.int .i64 q1,.int .i64 q2,.int .i64 q3] 26):=hid (by rw [hW1];exact heap_alloc_new w _);have HBW:Hid (Below w.heap.size w W1):=hid (by rw [hW1];exact HB1.out);have l0:w.heap.size < W1.heap.size:=(gl HX.out);clear hz;go_enter Tryz.func220,Tryz.ntmps220;go_wp2_with fail
  rw [← hW1];clear hW1 HB1 d0;refine (signers_s l va q0 q1 q2 W1 (HA.out.below HBW.out) hl).mono ?_;rintro e w2 ⟨rfl,hb2⟩;have HB2:Hid (Below w.heap.size w w2):=bt HBW.out hb2;obtain ⟨_,_,_,y3⟩:=zZ ((hb2.block _ l0).trans HX.out);clear hb2;obtain ⟨s,hs⟩:∃ s,s=jP l q0 q1 q2:=⟨_,rfl⟩;have HS:=hid hs.symm;rw [← hs];clear hs;go_wp2
  go_loop [8] (fun i=>∃ k:Nat,k≤7∧i=.int .i64 (k:Int)∧Hid (provTo s q3 liars k)) (fun i=>7 - (intOf i).toNat)
  case atStart=>exact ⟨0,by omega,rfl,fun i h=>by omega⟩
  case round=>
   obtain ⟨k,hk,rfl,HP⟩:=hrel
   by_cases hlt:(k:Int) < 7
   ·have b1:=bit_neq q3 k;have b2:=bit_eql liars k;have b3:=bit_eql s k
    by_cases h1:zAA q3 k=0
    ·rw [decide_eq_false (fun h=>h h1)] at b1;have HN:Hid (provTo s q3 liars (k+1)):=prov_next HP.out fun h=>h.1 h1
     clear h1;go_wp2
     go_round
     case rel=>exact ⟨k+1,by omega,by go_num,HN⟩
     case measure=>simp [intOf];omega
    ·rw [decide_eq_true h1] at b1
     by_cases h2:zAA liars k=0
     ·rw [decide_eq_true h2] at b2
      by_cases h3:zAA s k=0
      ·rw [decide_eq_true h3] at b3;have HF:Hid (qV l (q0,q1,q2,q3) liars=false):=prov_no (q:=(q0,q1,q2,q3)) HZ.out (by omega) h1 h2 (by rw [HS.out];exact h3);clear h1 h2 h3;go_wp2;go_ret;exact ⟨zL HF.out.symm,HB2.out⟩
      ·rw [decide_eq_false h3] at b3;have HN:Hid (provTo s q3 liars (k+1)):=prov_next HP.out fun h=>h3 h.2.2
       clear h1 h2 h3;go_wp2
       go_round
       case rel=>exact ⟨k+1,by omega,by go_num,HN⟩
       case measure=>simp [intOf];omega
     ·rw [decide_eq_false h2] at b2;have HN:Hid (provTo s q3 liars (k+1)):=prov_next HP.out fun h=>h2 h.2.1
      clear h1 h2;go_wp2
      go_round
      case rel=>exact ⟨k+1,by omega,by go_num,HN⟩
      case measure=>simp [intOf];omega
   ·have hk7:k=7:=by omega
    have HF:Hid (qV l (q0,q1,q2,q3) liars=(decide (0≤q3) && decide (q3 < 128))):=prov_yes (q:=(q0,q1,q2,q3)) HZ.out (by rw [HS.out];have:=HP.out;rw [hk7] at this;exact this);clear hk7
    by_cases h0:0≤q3
    ·have HG:Hid (qV l (q0,q1,q2,q3) liars=decide (q3 < 128)):=hid (by rw [HF.out,decide_eq_true h0,Bool.true_and]);go_wp2;go_ret;exact ⟨zL HG.out.symm,HB2.out⟩
    ·have HG:Hid (qV l (q0,q1,q2,q3) liars=false):=hid (by rw [HF.out,decide_eq_false h0,Bool.false_and]);go_wp2;go_ret;exact ⟨zL HG.out.symm,HB2.out⟩
end Go.Proofs.YtdopefimjabigadGreat
