/-
  Texts of ours that later ones lean on, in one: AnsS, VoteS, QcS.
-/
import Derived.Test.YtfnneillakdopacGreatRK1
import Derived.Test.YtfnneillakdopacGreatRK2
set_option maxRecDepth 100000
set_option maxHeartbeats 32000000
namespace Go.Proofs.YtfnneillakdopacGreatR
open _root_.Go.Proofs.Tryz
open Go.Value renaming int->I,oneCell'->Ac
open Go.IntKind renaming i64->U
open Option renaming none->Aa,some->Ab
open Go.RowKit Num
variable {liars:Int} {N:Nat} {w:World}
def zQ (l:LT):Array Value:=#[I U l.1.1,I U l.1.2.1,I U l.1.2.2.1,I U l.1.2.2.2.1,I U l.1.2.2.2.2,I U l.2.1.1,I U l.2.1.2.1,I U l.2.1.2.2.1,I U l.2.1.2.2.2,I U l.2.2.1,I U l.2.2.2.1,I U l.2.2.2.2.1,I U l.2.2.2.2.2]
theorem kD (l:LT):(zQ l).all (·.oneCell')=true:=by simp [zQ,Ac]
def kX (p:PE) (kind to:Int) (q:QC) (v:VT):LT:=if kind=2 then ((kind,p.id,to,v.2.1,0),(0,0,0,0),v) else ((kind,p.id,to,p.view,0),q,(0,0,0,0))
theorem alloc4 (w:World) (A B C D:Obj):((((w.alloc A).alloc B).alloc C).alloc D).heap[w.heap.size]?=some A/\((((w.alloc A).alloc B).alloc C).alloc D).heap[w.heap.size+1]?=some B/\((((w.alloc A).alloc B).alloc C).alloc D).heap[w.heap.size+1+1]?=some C/\((((w.alloc A).alloc B).alloc C).alloc D).heap[w.heap.size+1+1+1]?=some D:=by
 have h:=zJH w A B C;have hb:Below (((w.alloc A).alloc B).alloc C).heap.size (((w.alloc A).alloc B).alloc C) ((((w.alloc A).alloc B).alloc C).alloc D):=(br _ _).alloc (nl _) D;refine ⟨(hb.block _ (by simp;omega)).trans h.1,(hb.block _ (by simp)).trans h.2.1,(hb.block _ (by simp)).trans h.2.2,?_⟩;have:=heap_alloc_new (((w.alloc A).alloc B).alloc C) D
 simpa using this
structure AnsB (w y:World) (N:Nat) (Q V L:Array Value):Prop where
 below:Be w y
 qc:Bx y (w.heap.size+1) Q 26
 vote:Bx y (w.heap.size+1+1) V 28
 zero:Bx y (w.heap.size+1+1+1) (zQ ((0,0,0,0,0),(0,0,0,0),(0,0,0,0))) 61
 letter:Bx y N L 61
 far:w.heap.size+1+1+1 < N
theorem AnsB.put {y x:World} {Q V L L':Array Value} (h:AnsB w y N Q V L) (hg:y.grownBy x (some N)) (hk:Bx x N L' 61):AnsB w x N Q V L':=by
 have:=h.far;have h1:=(gl h.letter);exact ⟨h.below.grown hg h.below.size (qkk (by omega)),(hg.block _ (by omega) (qsn (by omega))).trans h.qc,(hg.block _ (by omega) (qsn (by omega))).trans h.vote,(hg.block _ (by omega) (qsn (by omega))).trans h.zero,hk,h.far⟩
theorem answered_s (p:PE) (s:PV) (kind to:Int) (q:QC) (v:VT) (w:World) :
  Calls prog 40 #[yZ p s,I U kind,I U to,.agg #[I U q.1,I U q.2.1,I U q.2.2.1,I U q.2.2.2],.agg #[I U v.1,I U v.2.1,I U v.2.2.1,I U v.2.2.2]] w fun e w'=>e=.returned (letV (kX p kind to q v))/\Be w w':=by
 obtain ⟨q0,q1,q2,q3⟩:=q;obtain ⟨v0,v1,v2,v3⟩:=v;simp only;obtain ⟨W,hW⟩:=nw ((((w.alloc (.cells (zA p s) 35)).alloc (.cells #[I U q0,I U q1,I U q2,I U q3] 26)).alloc (.cells #[I U v0,I U v1,I U v2,I U v3] 28)).alloc (.cells (zQ ((0,0,0,0,0),(0,0,0,0),(0,0,0,0))) 61))
 have HC:Hid (Be w W/\Bx W w.heap.size (zA p s) 35/\Bx W (w.heap.size+1) #[I U q0,I U q1,I U q2,I U q3] 26/\Bx W (w.heap.size+1+1) #[I U v0,I U v1,I U v2,I U v3] 28/\Bx W (w.heap.size+1+1+1) (zQ ((0,0,0,0,0),(0,0,0,0),(0,0,0,0))) 61):=by
  rw [hW];exact ⟨ba (ba (ba (ba (br _ _) _) _) _) _,alloc4 w _ _ _ _⟩
 have d:Hid (W.heap.size=w.heap.size+1+1+1+1):=hid (by rw [hW];simp);have c0:=zB HC.2.1 0 (I U p.id) rfl;have c1:=zB HC.2.1 1 (I U p.view) rfl;unfold zQ at hW;simp only at hW
 by_cases hk:kind=2
 ·have HE:Hid (kX p kind to (q0,q1,q2,q3) (v0,v1,v2,v3)=((kind,p.id,to,v1,0),(0,0,0,0),(v0,v1,v2,v3))):=(by unfold kX;rw [if_pos hk]:kX p kind to (q0,q1,q2,q3) (v0,v1,v2,v3)=_);have b2:(kind == 2)=true:=by simpa using hk
  clear hk;go_enter func40,ntmps40
  go_wp2_with (first
   | (refine w_st W.heap.size (zQ (((kind,p.id,to,p.view,0),(0,0,0,0),(0,0,0,0)))) (heap_alloc_new W _) (kD _) ?_;intro y1 hg hk hz;have hb:Be W y1:=yB hg;have a:Hid (AnsB w y1 W.heap.size #[I U q0,I U q1,I U q2,I U q3] #[I U v0,I U v1,I U v2,I U v3] (zQ (((kind,p.id,to,p.view,0),(0,0,0,0),(0,0,0,0))))):=⟨bt HC.1 hb,bk hb HC.2.2.1,bk hb HC.2.2.2.1,bk hb HC.2.2.2.2,hk,(by have:=d.out;omega)⟩;clear hg hk hz hb c0 c1;have c1:=zB a.vote 1 (I U v1) rfl)
   | (rw [<- hW];clear hW)
   | (refine w_ld (w.heap.size+1+1) a.vote underlying28 ?_)
   | (refine yY rfl _ _ _ rfl W.heap.size 9 #[I U v0,I U v1,I U v2,I U v3] rfl rfl _ _ a.letter (by kernel_rfl) (by simp [zQ]) (by simp [Ac]) (zQ (((kind,p.id,to,p.view,0),(0,0,0,0),(v0,v1,v2,v3)))) rfl ?_;intro y2 hg hk;have b:Hid (AnsB w y2 W.heap.size #[I U q0,I U q1,I U q2,I U q3] #[I U v0,I U v1,I U v2,I U v3] (zQ (((kind,p.id,to,p.view,0),(0,0,0,0),(v0,v1,v2,v3))))):=a.put hg hk;clear hg hk a;clear c1;have c1:=zB b.vote 1 (I U v1) rfl)
   | (refine w_sc W.heap.size 3 (I U v1) b.letter (by simp [zQ]) rfl (zQ (((kind,p.id,to,v1,0),(0,0,0,0),(v0,v1,v2,v3)))) rfl ?_;intro y3 hg hk;have c:Hid (AnsB w y3 W.heap.size #[I U q0,I U q1,I U q2,I U q3] #[I U v0,I U v1,I U v2,I U v3] (zQ (((kind,p.id,to,v1,0),(0,0,0,0),(v0,v1,v2,v3))))):=b.put hg hk;clear hg hk b c1)
   | (refine w_ld W.heap.size c.letter underlying61 ?_)
   | (refine w_st (w.heap.size+1+1+1) (zQ (((kind,p.id,to,v1,0),(0,0,0,0),(v0,v1,v2,v3)))) c.zero (kD _) ?_;intro z hg hk hz;have HZ:=hid (qad2 (c.below.grown hg c.below.size (qkk (by omega))) hk);clear hg hk hz c))
  refine b_cr (.agg (zQ (((kind,p.id,to,v1,0),(0,0,0,0),(v0,v1,v2,v3))))) results40 HZ.2 underlying61 ?_;exact ⟨by rw [HE.out];rfl,HZ.1⟩
 ·have HE:Hid (kX p kind to (q0,q1,q2,q3) (v0,v1,v2,v3)=((kind,p.id,to,p.view,0),(q0,q1,q2,q3),(0,0,0,0))):=(by unfold kX;rw [if_neg hk]:kX p kind to (q0,q1,q2,q3) (v0,v1,v2,v3)=_);have b2:(kind == 2)=false:=by simpa using hk
  clear hk;go_enter func40,ntmps40
  go_wp2_with (first
   | (refine w_st W.heap.size (zQ (((kind,p.id,to,p.view,0),(0,0,0,0),(0,0,0,0)))) (heap_alloc_new W _) (kD _) ?_;intro y1 hg hk hz;have hb:Be W y1:=yB hg;have a:Hid (AnsB w y1 W.heap.size #[I U q0,I U q1,I U q2,I U q3] #[I U v0,I U v1,I U v2,I U v3] (zQ (((kind,p.id,to,p.view,0),(0,0,0,0),(0,0,0,0))))):=⟨bt HC.1 hb,bk hb HC.2.2.1,bk hb HC.2.2.2.1,bk hb HC.2.2.2.2,hk,(by have:=d.out;omega)⟩;clear hg hk hz hb c0 c1;have c1:=zB a.vote 1 (I U v1) rfl)
   | (rw [<- hW];clear hW)
   | (refine w_ld (w.heap.size+1) a.qc underlying26 ?_)
   | (refine yY rfl _ _ _ rfl W.heap.size 5 #[I U q0,I U q1,I U q2,I U q3] rfl rfl _ _ a.letter (by kernel_rfl) (by simp [zQ]) (by simp [Ac]) (zQ (((kind,p.id,to,p.view,0),(q0,q1,q2,q3),(0,0,0,0)))) rfl ?_;intro y2 hg hk;have b:Hid (AnsB w y2 W.heap.size #[I U q0,I U q1,I U q2,I U q3] #[I U v0,I U v1,I U v2,I U v3] (zQ (((kind,p.id,to,p.view,0),(q0,q1,q2,q3),(0,0,0,0))))):=a.put hg hk;clear hg hk a)
   | (refine w_ld W.heap.size b.letter underlying61 ?_)
   | (refine w_st (w.heap.size+1+1+1) (zQ (((kind,p.id,to,p.view,0),(q0,q1,q2,q3),(0,0,0,0)))) b.zero (kD _) ?_;intro z hg hk hz;have HZ:=hid (qad2 (b.below.grown hg b.below.size (qkk (by omega))) hk);clear hg hk hz b))
  refine b_cr (.agg (zQ (((kind,p.id,to,p.view,0),(q0,q1,q2,q3),(0,0,0,0))))) results40 HZ.2 underlying61 ?_;exact ⟨by rw [HE.out];rfl,HZ.1⟩
theorem jU {x a b:Int} {r:Bool} (h:inB x a b=r) (w:World):Calls prog 57 #[I U x,I U a,I U b] w fun e w'=>e=.returned (.bool r)/\w'=w:=by rw [<- h];exact yS x a b w
theorem zZ {a b c d:Value} {t:TypeId} (h:w.heap[N]?=Ab (.cells #[a,b,c,d] t (0,0))):w.cell? ⟨N,0,Aa⟩=some a/\w.cell? ⟨N,1,Aa⟩=some b/\w.cell? ⟨N,2,Aa⟩=some c/\w.cell? ⟨N,3,Aa⟩=some d:=by
 refine ⟨?_,?_,?_,?_⟩
 ·rw [cell_of_row w N 0 _ _ (0,0) h];rfl
 ·rw [cell_of_row w N 1 _ _ (0,0) h];rfl
 ·rw [cell_of_row w N 2 _ _ (0,0) h];rfl
 ·rw [cell_of_row w N 3 _ _ (0,0) h];rfl
theorem voteOk_s (ps:TL) (va:Value) (n:Int) (v:VT) (w:World) (hT:jB w va ps) (hl:(ps.length:Int)<=1048576) :
  Calls prog 119 #[va,I U n,voteV v] w fun e w'=>e=.returned (.bool (zCI (bks ps) n v))/\Be w w':=by
 obtain ⟨a,cap,rfl,hr⟩:=zAI hT;have HR:=hid hr;have d:=yO ps;obtain ⟨p,vw,bl,c⟩:=v;unfold voteV;simp only;obtain ⟨W1,b⟩:=nw (w.alloc (.cells #[I U p,I U vw,I U bl,I U c] 28))
 have HW:Hid (Bx W1 w.heap.size #[I U p,I U vw,I U bl,I U c] 28/\Be w W1):=by
  rw [b];exact ⟨heap_alloc_new w _,ba (br _ _) _⟩
 have l0:w.heap.size < W1.heap.size:=(gl HW.1);have HX:Hid (∀ w',Be W1 w'->Bx w' w.heap.size #[I U p,I U vw,I U bl,I U c] 28):=fun w' h'=>(h'.block _ l0).trans HW.1
 have h:=yX W1;have y0:∀ x:Bw W1,x.to.cell? ⟨w.heap.size,0,Aa⟩=Ab (I U p):=fun x=>(zZ (HX _ x.below)).1
 have y1:∀ x:Bw W1,x.to.cell? ⟨w.heap.size,1,Aa⟩=Ab (I U vw):=fun x=>(zZ (HX _ x.below)).2.1
 have y2:∀ x:Bw W1,x.to.cell? ⟨w.heap.size,2,Aa⟩=Ab (I U bl):=fun x=>(zZ (HX _ x.below)).2.2.1
 have y3:∀ x:Bw W1,x.to.cell? ⟨w.heap.size,3,Aa⟩=Ab (I U c):=fun x=>(zZ (HX _ x.below)).2.2.2
 clear hr hT
 cases e0:inB n 1 7 with
 | false=>
  have HE:Hid (zCI (bks ps) n (p,vw,bl,c)=false):=hid (by unfold zCI;simp only [d];rw [e0];simp);go_enter func119,ntmps119;go_wp2;rw [<- b];clear b;refine rb ?_;repeat (go_big_quiet_step (first | (with_reducible refine zI (jU e0 _)) | (refine zI (yS _ _ _ _))))
  refine qnn fun x=>?_
  go_wp2;go_ret;exact ⟨zL HE.symm,bt HW.2 x.below⟩
 | true=>
  cases e1:inB p 1 4 with
  | false=>
   have HE:Hid (zCI (bks ps) n (p,vw,bl,c)=false):=hid (by unfold zCI;simp only [d];rw [e0,e1];simp);go_enter func119,ntmps119;go_wp2;rw [<- b];clear b;refine rb ?_;repeat (go_big_quiet_step (first | (with_reducible refine zI (jU e0 _)) | (with_reducible refine zI (jU e1 _)) | (refine zI (yS _ _ _ _))))
   refine qnn fun x=>?_
   go_wp2;go_ret;exact ⟨zL HE.symm,bt HW.2 x.below⟩
  | true=>
   cases e2:inB vw 1 900 with
   | false=>
    have HE:Hid (zCI (bks ps) n (p,vw,bl,c)=false):=hid (by unfold zCI;simp only [d];rw [e0,e1,e2];simp);go_enter func119,ntmps119;go_wp2;rw [<- b];clear b;refine rb ?_;repeat (go_big_quiet_step (first | (with_reducible refine zI (jU e0 _)) | (with_reducible refine zI (jU e1 _)) | (with_reducible refine zI (jU e2 _)) | (refine zI (yS _ _ _ _))))
    refine qnn fun x=>?_
    go_wp2;go_ret;exact ⟨zL HE.symm,bt HW.2 x.below⟩
   | true=>
    cases e3:inB bl 1 ((ps.length:Int) - 1) with
    | false=>
     have HE:Hid (zCI (bks ps) n (p,vw,bl,c)=false):=hid (by unfold zCI;simp only [d];rw [e0,e1,e2,e3];simp);go_enter func119,ntmps119;go_wp2;rw [<- b];clear b;refine rb ?_;repeat (go_big_quiet_step (first | (with_reducible refine zI (jU e0 _)) | (with_reducible refine zI (jU e1 _)) | (with_reducible refine zI (jU e2 _)) | (with_reducible refine zI (jU e3 _)) | (refine zI (yS _ _ _ _))))
     refine qnn fun x=>?_
     go_wp2;go_ret;exact ⟨zL HE.symm,bt HW.2 x.below⟩
    | true=>
     obtain ⟨n0,n1⟩:=zDF e0;obtain ⟨p0,p1⟩:=zDF e3;obtain ⟨j,rfl⟩:=Int.eq_ofNat_of_zero_le (show 0<=bl by omega);have hj:j < ps.length:=by omega
     have q0:(0:Int)<=(j:Int):=by omega
     have q1:(j:Int) < ps.length:=by omega
     obtain ⟨g,f,rfl,hg,hc⟩:=HR (by omega);have HV:Hid (yR (bks ps) (j:Int)=ps[j].1.1.2):=hid (by rw [viewAt_at (by rw [d];exact hj),bks_at hj]);have z1:∀ x:Bw W1,x.to.cell? ⟨g,f+j * 7+1,Aa⟩=Ab (I U ps[j].1.1.2):=fun x=>by rw [(bt HW.2 x.below).cell (by exact hg)];exact (hc j hj).2.1
     clear hc
     by_cases hv:ps[j].1.1.2=vw
     ·have d0:(ps[j].1.1.2 == vw)=true:=by simpa using hv
      have HE:Hid (zCI (bks ps) n (p,vw,(j:Int),c)=inB c 0 (n - 1)):=hid (by unfold zCI;simp only [d];rw [e0,e1,e2,e3,HV.out,decide_eq_true hv];simp);clear hv;go_enter func119,ntmps119;go_wp2;rw [<- b];clear b;refine rb ?_;repeat (go_big_quiet_step (first | (with_reducible refine zI (jU e0 _)) | (with_reducible refine zI (jU e1 _)) | (with_reducible refine zI (jU e2 _)) | (with_reducible refine zI (jU e3 _)) | (refine zI (yS _ _ _ _))))
      refine qnn fun x=>?_
      go_wp2;go_ret;exact ⟨zL HE.symm,bt HW.2 x.below⟩
     ·have d0:(ps[j].1.1.2 == vw)=false:=by simpa using hv
      have HE:Hid (zCI (bks ps) n (p,vw,(j:Int),c)=false):=hid (by unfold zCI;simp only [d];rw [e0,e1,e2,e3,HV.out,decide_eq_false hv];simp);clear hv;go_enter func119,ntmps119;go_wp2;rw [<- b];clear b;refine rb ?_;repeat (go_big_quiet_step (first | (with_reducible refine zI (jU e0 _)) | (with_reducible refine zI (jU e1 _)) | (with_reducible refine zI (jU e2 _)) | (with_reducible refine zI (jU e3 _)) | (refine zI (yS _ _ _ _))))
      refine qnn fun x=>?_
      go_wp2;go_ret;exact ⟨zL HE.symm,bt HW.2 x.below⟩
def zBF (q:QC):Value:=.agg #[I U q.1,I U q.2.1,I U q.2.2.1,I U q.2.2.2]
def fitQ (q:QC):Prop:=-9223372036854775808<=q.2.2.2/\q.2.2.2<=9223372036854775807
theorem pow_peers {n:Nat} (h:n<=7):(1:Int)<=2 ^ n/\(2:Int) ^ n<=128:=by
 match n,h with
 | 0,_=>decide
 | 1,_=>decide
 | 2,_=>decide
 | 3,_=>decide
 | 4,_=>decide
 | 5,_=>decide
 | 6,_=>decide
 | 7,_=>decide
theorem blk_four {u0 u1 u2 u3:Value} {t:TypeId} (h:w.heap[N]?=Ab (.cells #[u0,u1,u2,u3] t (0,0))) (a b c d:Value) :
  (w.cell? ⟨N,0,Aa⟩=some u0/\w.frozen? ⟨N,0,Aa⟩=false)/\((w.setCell ⟨N,0,Aa⟩ a).cell? ⟨N,1,Aa⟩=some u1/\(w.setCell ⟨N,0,Aa⟩ a).frozen? ⟨N,1,Aa⟩=false)/\
   (((w.setCell ⟨N,0,Aa⟩ a).setCell ⟨N,1,Aa⟩ b).cell? ⟨N,2,Aa⟩=some u2/\((w.setCell ⟨N,0,Aa⟩ a).setCell ⟨N,1,Aa⟩ b).frozen? ⟨N,2,Aa⟩=false)/\
   ((((w.setCell ⟨N,0,Aa⟩ a).setCell ⟨N,1,Aa⟩ b).setCell ⟨N,2,Aa⟩ c).cell? ⟨N,3,Aa⟩=some u3/\(((w.setCell ⟨N,0,Aa⟩ a).setCell ⟨N,1,Aa⟩ b).setCell ⟨N,2,Aa⟩ c).frozen? ⟨N,3,Aa⟩=false)/\
   ((((w.setCell ⟨N,0,Aa⟩ a).setCell ⟨N,1,Aa⟩ b).setCell ⟨N,2,Aa⟩ c).setCell ⟨N,3,Aa⟩ d).heap[N]?=Ab (.cells #[a,b,c,d] t (0,0))/\
   w.grownBy ((((w.setCell ⟨N,0,Aa⟩ a).setCell ⟨N,1,Aa⟩ b).setCell ⟨N,2,Aa⟩ c).setCell ⟨N,3,Aa⟩ d) (some N):=by
 have h0:(w.setCell ⟨N,0,Aa⟩ a).heap[N]?=Ab (.cells #[a,u1,u2,u3] t (0,0)):=heap_setCell_same w N 0 _ t a h;have h1:((w.setCell ⟨N,0,Aa⟩ a).setCell ⟨N,1,Aa⟩ b).heap[N]?=Ab (.cells #[a,b,u2,u3] t (0,0)):=heap_setCell_same _ N 1 _ t b h0;have h2:(((w.setCell ⟨N,0,Aa⟩ a).setCell ⟨N,1,Aa⟩ b).setCell ⟨N,2,Aa⟩ c).heap[N]?=Ab (.cells #[a,b,c,u3] t (0,0)):=heap_setCell_same _ N 2 _ t c h1;have h3:((((w.setCell ⟨N,0,Aa⟩ a).setCell ⟨N,1,Aa⟩ b).setCell ⟨N,2,Aa⟩ c).setCell ⟨N,3,Aa⟩ d).heap[N]?=Ab (.cells #[a,b,c,d] t (0,0)):=heap_setCell_same _ N 3 _ t d h2;refine ⟨⟨?_,frozen_of_row w N 0 _ _ h⟩,⟨?_,frozen_of_row _ N 1 _ _ h0⟩,⟨?_,frozen_of_row _ N 2 _ _ h1⟩,⟨?_,frozen_of_row _ N 3 _ _ h2⟩,h3,zP (zP (zP (yK w N 0 a) (yK _ N 1 b)) (yK _ N 2 c)) (yK _ N 3 d)⟩
 ·rw [cell_of_row w N 0 _ _ (0,0) h];rfl
 ·rw [cell_of_row _ N 1 _ _ (0,0) h0];rfl
 ·rw [cell_of_row _ N 2 _ _ (0,0) h1];rfl
 ·rw [cell_of_row _ N 3 _ _ (0,0) h2];rfl
theorem yAF (a b:QC) (w:World) :
  Calls prog 159 #[zBF a,zBF b] w fun e w'=>e=.returned (zBF (yF a b))/\Be w w':=by
 obtain ⟨a0,a1,a2,a3⟩:=a;obtain ⟨b0,b1,b2,b3⟩:=b;unfold zBF;simp only
 by_cases h:a1 < b1
 ·have HE:Hid (yF (a0,a1,a2,a3) (b0,b1,b2,b3)=(b0,b1,b2,b3)):=if_pos h;go_enter func159,ntmps159;go_wp2;refine bodyPost_ret (v:=.agg #[I U b0,I U b1,I U b2,I U b3]) (by simp [results,results159,go_sem]) rfl ⟨by rw [HE.out],?_⟩;exact ba (ba (ba (br _ _) _) _) _
 ·have HE:Hid (yF (a0,a1,a2,a3) (b0,b1,b2,b3)=(a0,a1,a2,a3)):=if_neg h;go_enter func159,ntmps159;go_wp2;refine bodyPost_ret (v:=.agg #[I U a0,I U a1,I U a2,I U a3]) (by simp [results,results159,go_sem]) rfl ⟨by rw [HE.out],?_⟩;exact ba (ba (ba (br _ _) _) _) _
theorem qcOf_s (l:List VT) (va:Value) (p v b n:Int) (w:World) (ha:yM w va 4 xD l) (hl:(l.length:Int)<=1048576) (hn0:-9223372036854775808<=n) (hn1:n<=9223372036854775807) :
  Calls prog 158 #[va,I U p,I U v,I U b,I U n] w fun e w'=>e=.returned (.tuple #[zBF (zHE l p v b n).1,.bool (zHE l p v b n).2])/\Be w w':=by
 have HA:=hid ha;clear ha;obtain ⟨W1,g⟩:=nw (w.alloc (.cells #[I U 0,I U 0,I U 0,I U 0] 26));have HX:Hid (Bx W1 w.heap.size #[I U 0,I U 0,I U 0,I U 0] 26):=hid (by rw [g];exact heap_alloc_new w _);have j:Hid (Be w W1):=hid (by rw [g];exact ba (br _ _) _);have l0:w.heap.size < W1.heap.size:=(gl HX);go_enter func158,ntmps158;go_wp2_with fail
 rw [<- g];clear g;refine (signers_s l va p v b W1 (HA.below j) hl).mono ?_;rintro e w2 ⟨rfl,i⟩;have k:Hid (Bx w2 w.heap.size #[I U 0,I U 0,I U 0,I U 0] 26):=(i.block _ l0).trans HX;have f:Hid (Be w w2):=bt j i;have l2:w.heap.size < w2.heap.size:=(gl k);clear i;obtain ⟨s0,s1⟩:=signersT_bounds l p v b;obtain ⟨s,hs⟩:=nw (jP l p v b);have HS:=hid hs.symm;rw [<- hs] at s0 s1 ⊢;clear hs;obtain ⟨W3,d⟩:=nw (w2.alloc (.cells #[I U p,I U v,I U b,I U s] 26));have a:Hid (Be w2 W3):=hid (by rw [d];exact ba (br _ _) _);have h:Hid (Bx W3 w.heap.size #[I U 0,I U 0,I U 0,I U 0] 26):=(a.block _ l2).trans k;have m:Hid (Bx W3 w2.heap.size #[I U p,I U v,I U b,I U s] 26):=hid (by rw [d];exact heap_alloc_new w2 _);go_wp2_with fail
 rw [<- d];clear d;obtain ⟨y0,y1,y2,y3⟩:=zZ m;refine (count_s s W3 (by omega) (by omega)).mono ?_;rintro e w' ⟨rfl,hw⟩;obtain rfl:=hw.symm;clear hw;go_wp2_with fail
 refine (quorum_s n W3 hn0 hn1).mono ?_;rintro e w' ⟨rfl,hw⟩;obtain rfl:=hw.symm;clear hw;obtain ⟨c,hc⟩:=nw (zFH s);obtain ⟨q,hq⟩:=nw (zBD n);have HC:=hid hc.symm;have HQ:=hid hq.symm;rw [<- hc,<- hq];clear hc hq;obtain ⟨x0,x1,x2,x3⟩:=zZ h
 by_cases hlt:c < q
 ·have HE:Hid (zHE l p v b n=((0,0,0,0),false)):=hid (by unfold zHE;rw [HS.out,HC.out,HQ.out,if_pos hlt]);obtain ⟨⟨a0,g0⟩,⟨a1,g1⟩,⟨a2,g2⟩,⟨a3,g3⟩,hk,hg⟩:=blk_four h (I U 0) (I U 0) (I U 0) (I U 0);have HG:=hid hg;obtain ⟨z0,z1,z2,z3⟩:=zZ hk;clear hg hk;go_wp2;refine bodyPost_ret (v:=.tuple #[.agg #[I U 0,I U 0,I U 0,I U 0],.bool false]) (by simp [results,results158,go_sem,z0,z1,z2,z3]) rfl ?_;exact ⟨by rw [HE.out];rfl,(bt f a).grown HG (bt f a).size (fun y hy=>by cases hy;exact nl _)⟩
 ·have HE:Hid (zHE l p v b n=((p,v,b,s),true)):=hid (by unfold zHE;rw [HS.out,HC.out,HQ.out,if_neg hlt]);obtain ⟨⟨a0,g0⟩,⟨a1,g1⟩,⟨a2,g2⟩,⟨a3,g3⟩,hk,hg⟩:=blk_four h (I U p) (I U v) (I U b) (I U s);have HG:=hid hg;obtain ⟨z0,z1,z2,z3⟩:=zZ hk;clear hg hk;go_wp2;refine bodyPost_ret (v:=.tuple #[.agg #[I U p,I U v,I U b,I U s],.bool true]) (by simp [results,results158,go_sem,z0,z1,z2,z3]) rfl ?_;exact ⟨by rw [HE.out];rfl,(bt f a).grown HG (bt f a).size (fun y hy=>by cases hy;exact nl _)⟩
theorem qcRight_s (ps:TL) (va:Value) (n:Int) (q:QC) (w:World) (hT:jB w va ps) (hl:(ps.length:Int)<=1048576) (hn0:-9223372036854775808<=n) (hn1:n<=9223372036854775807) (hq:fitQ q) :
  Calls prog 118 #[va,I U n,zBF q] w fun e w'=>e=.returned (.bool (kH (bks ps) n q))/\Be w w':=by
 have HT:=hid hT;clear hT;have E:=eqQ q (0,0,0,0);have G:=guardQ;obtain ⟨q0,q1,q2,q3⟩:=q;unfold zBF;simp only at E ⊢;have f0:=hq.1;have f1:=hq.2;simp only at f0 f1;clear hq;have d:Hid (Be w (w.alloc (.cells #[I U q0,I U q1,I U q2,I U q3] 26))):=ba (br _ _) _
 by_cases hz:(q0,q1,q2,q3)=((0,0,0,0):QC)
 ·have HE:Hid (kH (bks ps) n (q0,q1,q2,q3)=true):=if_pos hz;rw [decide_eq_true hz] at E;clear hz;go_enter func118,ntmps118;go_wp2;go_ret;exact ⟨zL HE.symm,d⟩
 ·have HE:Hid (kH (bks ps) n (q0,q1,q2,q3)=(zCI (bks ps) n (q0,q1,q2,0) && (inB q3 0 ((2:Int) ^ n.toNat - 1) && decide (zBD n<=zFH q3)))):=if_neg hz;rw [decide_eq_false hz] at E;clear hz;go_enter func118,ntmps118;obtain ⟨W1,a⟩:=nw (w.alloc (.cells #[I U q0,I U q1,I U q2,I U q3] 26));have HX:Hid (Bx W1 w.heap.size #[I U q0,I U q1,I U q2,I U q3] 26):=hid (by rw [a];exact heap_alloc_new w _);have f:Hid (Be w W1):=hid (by rw [a];exact d.out);have l0:w.heap.size < W1.heap.size:=(gl HX);go_wp2_with fail
  rw [<- a];clear a d E G;refine (voteOk_s ps va n (q0,q1,q2,0) W1 (HT.below f) hl).mono ?_;rintro e w2 ⟨rfl,c⟩;have b:Hid (Be w w2):=bt f c;obtain ⟨_,_,_,y3⟩:=zZ ((c.block _ l0).trans HX);clear c
  cases hv:zCI (bks ps) n (q0,q1,q2,0) with
  | false=>
   have HF:Hid (kH (bks ps) n (q0,q1,q2,q3)=false):=hid (by rw [HE.out,hv];rfl);clear hv;go_wp2;go_ret;exact ⟨zL HF.symm,b⟩
  | true=>
   have g:inB n 1 7=true:=by
    unfold zCI at hv;simp only [Bool.and_eq_true] at hv;exact hv.1
   obtain ⟨n0,n1⟩:=zDF g;obtain ⟨m,rfl⟩:=Int.eq_ofNat_of_zero_le (show 0<=n by omega);obtain ⟨w0,w1⟩:=pow_peers (n:=m) (by omega);have HF:Hid (kH (bks ps) (m:Int) (q0,q1,q2,q3)=(inB q3 0 ((2:Int) ^ m - 1) && decide (zBD (m:Int)<=zFH q3))):=hid (by rw [HE.out,hv];rfl);clear hv g;go_wp2_with fail
   refine (yS q3 0 ((2:Int) ^ m - 1) w2).mono ?_;rintro e w' ⟨rfl,hw⟩;obtain rfl:=hw.symm;clear hw
   cases hi:inB q3 0 ((2:Int) ^ m - 1) with
   | false=>
    have HG:Hid (kH (bks ps) (m:Int) (q0,q1,q2,q3)=false):=hid (by rw [HF.out,hi];rfl);clear hi;go_wp2;go_ret;exact ⟨zL HG.symm,b⟩
   | true=>
    have HG:Hid (kH (bks ps) (m:Int) (q0,q1,q2,q3)=decide (zBD (m:Int)<=zFH q3)):=hid (by rw [HF.out,hi];rfl);clear hi;go_wp2_with fail
    refine (count_s q3 w2 f0 f1).mono ?_;rintro e w' ⟨rfl,hw⟩;obtain rfl:=hw.symm;clear hw;go_wp2_with fail
    refine (quorum_s (m:Int) w2 hn0 hn1).mono ?_;rintro e w' ⟨rfl,hw⟩;obtain rfl:=hw.symm;clear hw;go_wp2;go_ret;exact ⟨zL HG.symm,b⟩
theorem prov_yes {l:List VT} {q:QC} (h0:¬ q.2.1=0) (h:provTo (jP l q.1 q.2.1 q.2.2.1) q.2.2.2 liars 7):qV l q liars=(decide (0<=q.2.2.2) && decide (q.2.2.2 < 128)):=by
 unfold qV;rw [if_neg h0]
 have:((List.range 7).all fun i=>!(decide (zAA q.2.2.2 i ≠ 0) && (decide (zAA liars i=0) && decide (zAA (jP l q.1 q.2.1 q.2.2.1) i=0))))=true:=List.all_eq_true.2 fun i hi=>by
  have:=h i (List.mem_range.1 hi);simp only [Bool.not_eq_true',Bool.and_eq_false_iff,decide_eq_false_iff_not];omega
 rw [this,Bool.true_and]
theorem prov_no {l:List VT} {q:QC} {i:Nat} (h0:¬ q.2.1=0) (hi:i < 7) (h1:zAA q.2.2.2 i ≠ 0) (h2:zAA liars i=0) (h3:zAA (jP l q.1 q.2.1 q.2.2.1) i=0):qV l q liars=false:=by
 unfold qV;rw [if_neg h0];have:((List.range 7).all fun i=>!(decide (zAA q.2.2.2 i ≠ 0) && (decide (zAA liars i=0) && decide (zAA (jP l q.1 q.2.1 q.2.2.1) i=0))))=false:=List.all_eq_false.2 ⟨i,List.mem_range.2 hi,by simp [h1,h2,h3]⟩;rw [this,Bool.false_and]
theorem prov_next {said s:Int} {k:Nat} (h:provTo said s liars k) (hk:¬ (zAA s k ≠ 0/\zAA liars k=0/\zAA said k=0)):provTo said s liars (k+1):=fun i hi=>by
 by_cases e:i=k
 ·subst e;exact hk
 ·exact h i (by omega)
theorem bit_neq (x:Int) (k:Nat):((x / 2 ^ k).tmod 2 != 0)=decide (zAA x k ≠ 0):=by
 by_cases h:zAA x k=0
 ·rw [(shr_odd x k).2 h,h];rfl
 ·have h2:¬ (x / 2 ^ k).tmod 2=0:=fun e=>h ((shr_odd x k).1 e)
  rw [decide_eq_true h];simpa using h2
theorem bit_eql (x:Int) (k:Nat):((x / 2 ^ k).tmod 2 == 0)=decide (zAA x k=0):=by
 by_cases h:zAA x k=0
 ·rw [(shr_odd x k).2 h,decide_eq_true h];rfl
 ·have h2:¬ (x / 2 ^ k).tmod 2=0:=fun e=>h ((shr_odd x k).1 e)
  rw [decide_eq_false h];simpa using h2
theorem proven_s (l:List VT) (va:Value) (q:QC) (liars:Int) (w:World) (ha:yM w va 4 xD l) (hl:(l.length:Int)<=1048576) :
  Calls prog 226 #[va,zBF q,I U liars] w fun e w'=>e=.returned (.bool (qV l q liars))/\Be w w':=by
 have HA:=hid ha;clear ha;obtain ⟨q0,q1,q2,q3⟩:=q;unfold zBF;simp only;have d:Hid (Be w (w.alloc (.cells #[I U q0,I U q1,I U q2,I U q3] 26))):=ba (br _ _) _
 by_cases hz:q1=0
 ·have HE:Hid (qV l (q0,q1,q2,q3) liars=true):=if_pos hz;have d0:(q1 == 0)=true:=by simpa using hz
  clear hz;go_enter func226,ntmps226;go_wp2;go_ret;exact ⟨zL HE.symm,d⟩
 ·have HZ:=hid hz;have d0:(q1 == 0)=false:=by simpa using hz
  obtain ⟨W1,a⟩:=nw (w.alloc (.cells #[I U q0,I U q1,I U q2,I U q3] 26));have HX:Hid (Bx W1 w.heap.size #[I U q0,I U q1,I U q2,I U q3] 26):=hid (by rw [a];exact heap_alloc_new w _);have f:Hid (Be w W1):=hid (by rw [a];exact d.out);have l0:w.heap.size < W1.heap.size:=(gl HX);clear hz;go_enter func226,ntmps226;go_wp2_with fail
  rw [<- a];clear a d d0;refine (signers_s l va q0 q1 q2 W1 (HA.below f) hl).mono ?_;rintro e w2 ⟨rfl,c⟩;have b:Hid (Be w w2):=bt f c;obtain ⟨_,_,_,y3⟩:=zZ ((c.block _ l0).trans HX);clear c;obtain ⟨s,hs⟩:=nw (jP l q0 q1 q2);have HS:=hid hs.symm;rw [<- hs];clear hs;go_wp2
  go_loop [8] (fun i=>∃ k:Nat,k<=7/\i=I U (k:Int)/\Hid (provTo s q3 liars k)) (fun i=>7 - (intOf i).toNat)
  case atStart=>exact ⟨0,by omega,rfl,fun i h=>by omega⟩
  case round=>
   obtain ⟨k,hk,rfl,HP⟩:=hrel
   by_cases hlt:(k:Int) < 7
   ·have b1:=bit_neq q3 k;have b2:=bit_eql liars k;have b3:=bit_eql s k
    by_cases h1:zAA q3 k=0
    ·rw [decide_eq_false (fun h=>h h1)] at b1;have HN:Hid (provTo s q3 liars (k+1)):=prov_next HP fun h=>h.1 h1
     clear h1;go_wp2
     go_round
     case rel=>exact ⟨k+1,by omega,by go_num,HN⟩
     case measure=>simp [intOf];omega
    ·rw [decide_eq_true h1] at b1
     by_cases h2:zAA liars k=0
     ·rw [decide_eq_true h2] at b2
      by_cases h3:zAA s k=0
      ·rw [decide_eq_true h3] at b3;have HF:Hid (qV l (q0,q1,q2,q3) liars=false):=prov_no (q:=(q0,q1,q2,q3)) HZ (by omega) h1 h2 (by rw [HS.out];exact h3);clear h1 h2 h3;go_wp2;go_ret;exact ⟨zL HF.symm,b⟩
      ·rw [decide_eq_false h3] at b3;have HN:Hid (provTo s q3 liars (k+1)):=prov_next HP fun h=>h3 h.2.2
       clear h1 h2 h3;go_wp2
       go_round
       case rel=>exact ⟨k+1,by omega,by go_num,HN⟩
       case measure=>simp [intOf];omega
     ·rw [decide_eq_false h2] at b2;have HN:Hid (provTo s q3 liars (k+1)):=prov_next HP fun h=>h2 h.2.1
      clear h1 h2;go_wp2
      go_round
      case rel=>exact ⟨k+1,by omega,by go_num,HN⟩
      case measure=>simp [intOf];omega
   ·have g:k=7:=by omega
    have HF:Hid (qV l (q0,q1,q2,q3) liars=(decide (0<=q3) && decide (q3 < 128))):=prov_yes (q:=(q0,q1,q2,q3)) HZ (by rw [HS.out];have:=HP.out;rw [g] at this;exact this);clear g
    by_cases h0:0<=q3
    ·have HG:Hid (qV l (q0,q1,q2,q3) liars=decide (q3 < 128)):=hid (by rw [HF.out,decide_eq_true h0,Bool.true_and]);go_wp2;go_ret;exact ⟨zL HG.symm,b⟩
    ·have HG:Hid (qV l (q0,q1,q2,q3) liars=false):=hid (by rw [HF.out,decide_eq_false h0,Bool.false_and]);go_wp2;go_ret;exact ⟨zL HG.symm,b⟩
end Go.Proofs.YtfnneillakdopacGreatR
