/-
  A text of ours: ReadyS.
-/
import Derived.Test.YtfnneillakdopacGreatRK2
import Derived.Test.YtfnneillakdopacGreatRK1
set_option maxRecDepth 100000
set_option maxHeartbeats 32000000
namespace Go.Proofs.YtfnneillakdopacGreatR
open _root_.Go.Proofs.Tryz
open Go.Value renaming int->I
open Go.IntKind renaming i64->U
open Go.RowKit Num
def readyB (p:PE) (n:Int) (chain:Bool):Bool:=
 if xQ p.view n=p.id/\p.shown < p.view then decide (zBD n<=p.news.length) || (decide (p.view=1) || (chain && decide (p.high.2.1=p.view - 1))) else false
theorem xR {view n r:Int} (h:xQ view n=r) (hn0:-9223372036854775808<=n) (hn1:n<=9223372036854775807) (hv0:-9223372036854775808<=view) (hv1:view<=9223372036854775807) (w:World) :
  Calls prog 121 #[I U view,I U n] w fun e w'=>e=.returned (I U r)/\w'=w:=by rw [<- h];exact leader_s view n w hn0 hn1 hv0 hv1
theorem zJD {n r:Int} (h:zBD n=r) (hn0:-9223372036854775808<=n) (hn1:n<=9223372036854775807) (w:World) :
  Calls prog 155 #[I U n] w fun e w'=>e=.returned (I U r)/\w'=w:=by rw [<- h];exact quorum_s n w hn0 hn1
theorem ready_s (p:PE) (s:PV) (n:Int) (chain:Bool) (w:World) (hg:yDG p) (hwn:(Lit.int U n).wf=true) (hR:jS w p s) :
  Calls prog 171 #[yZ p s,I U n,.bool chain] w fun e w'=>e=.returned (.bool (readyB p n chain))/\Be w w':=by
 obtain ⟨c,d⟩:=bounds_i64 hwn;obtain ⟨g,i⟩:=bounds_i64 hg.gview;obtain ⟨y,ab⟩:=bounds_i64 hg.gshown;obtain ⟨a,cap,er,-⟩:=hR.news;obtain ⟨W1,b⟩:=nw (w.alloc (.cells (zA p s) 35))
 have HW:Hid (Bx W1 w.heap.size (zA p s) 35/\Be w W1):=by
  rw [b];exact ⟨heap_alloc_new w _,ba (br _ _) _⟩
 have l0:w.heap.size < W1.heap.size:=(gl HW.1);have HX:Hid (∀ w',Be W1 w'->Bx w' w.heap.size (zA p s) 35):=fun w' h'=>(h'.block _ l0).trans HW.1
 have v:=yX W1;have y0:∀ x:Bw W1,x.to.cell? ⟨w.heap.size,0,none⟩=some (I U p.id):=fun x=>zB (HX _ x.below) 0 _ rfl
 have y1:∀ x:Bw W1,x.to.cell? ⟨w.heap.size,1,none⟩=some (I U p.view):=fun x=>zB (HX _ x.below) 1 _ rfl
 have aa:∀ x:Bw W1,x.to.cell? ⟨w.heap.size,20,none⟩=some (I U p.shown):=fun x=>zB (HX _ x.below) 20 _ rfl
 clear hR hg hwn;obtain ⟨ld,e1⟩:∃ ld,xQ p.view n=ld:=⟨_,rfl⟩;obtain ⟨qn,e3⟩:∃ qn,zBD n=qn:=⟨_,rfl⟩;obtain ⟨RB,l⟩:=nw (readyB p n chain);have f:Hid (RB=if ld=p.id/\p.shown < p.view then decide (qn<=p.news.length) || (decide (p.view=1) || (chain && decide (p.high.2.1=p.view - 1))) else false):=(by rw [l,<- e1,<- e3];rfl:RB=_);rw [<- l];clear l
 by_cases h1:ld=p.id
 ·have b1:(ld != p.id)=false:=by simpa using h1
  by_cases h2:p.shown < p.view
  ·have b2:¬ p.shown ≥ p.view:=by omega
   have t:¬ p.view<=p.shown:=by omega
   have f:Hid (RB=(decide (qn<=p.news.length) || (decide (p.view=1) || (chain && decide (p.high.2.1=p.view - 1))))):=(by rw [f.out,if_pos ⟨h1,h2⟩]:RB=_);have u:IntKind.i64.wrap (p.view - 1)=p.view - 1:=(by rw [IntKind.wrap_i64];omega);clear h1
   by_cases h3:qn<=p.news.length
   ·have r:(p.news.length:Int) ≥ qn:=h3;have d3:decide (qn<=(p.news.length:Int))=true:=decide_eq_true h3;have HE:Hid (RB=true):=hid (by rw [f.out,decide_eq_true h3];rfl);go_enter func171,ntmps171;go_wp2;rw [<- b];clear b;refine rb ?_;repeat (go_big_quiet_step (first | (with_reducible refine zI (xR e1 c d g i _))))
    refine qnn fun x=>?_
    go_wp2;have k:=yX x.to;have m:∀ z:Bw x.to,z.to.cell? ⟨w.heap.size,1,none⟩=some (I U p.view):=fun z=>zB (HX _ (x.below.trans (z.below.mono x.below.size))) 1 _ rfl
    have o:∀ z:Bw x.to,z.to.cell? ⟨w.heap.size,3,none⟩=some (I U p.high.2.1):=fun z=>zB (HX _ (x.below.trans (z.below.mono x.below.size))) 3 _ rfl
    have j:∀ z:Bw x.to,z.to.cell? ⟨w.heap.size,19,none⟩=some (.slice a p.news.length cap):=fun z=>by rw [<- er];exact zB (HX _ (x.below.trans (z.below.mono x.below.size))) 19 _ rfl
    refine rb ?_;repeat (go_big_quiet_step (first | (with_reducible refine zI (zJD e3 c d _))))
    refine qnn fun x2=>?_
    go_wp2;go_ret;exact ⟨zL HE.symm,bt HW.2 (x.below.trans (x2.below.mono x.below.size))⟩
   ·have r:¬ (p.news.length:Int) ≥ qn:=h3;have d3:decide (qn<=(p.news.length:Int))=false:=decide_eq_false h3
    by_cases h4:p.view=1
    ·have b4:(p.view == 1)=true:=by simpa using h4
     have HE:Hid (RB=true):=hid (by rw [f.out,decide_eq_true h4];simp);have d4:decide (p.view=1)=true:=decide_eq_true h4;clear h4;go_enter func171,ntmps171;go_wp2;rw [<- b];clear b;refine rb ?_;repeat (go_big_quiet_step (first | (with_reducible refine zI (xR e1 c d g i _))))
     refine qnn fun x=>?_
     go_wp2;have k:=yX x.to;have m:∀ z:Bw x.to,z.to.cell? ⟨w.heap.size,1,none⟩=some (I U p.view):=fun z=>zB (HX _ (x.below.trans (z.below.mono x.below.size))) 1 _ rfl
     have o:∀ z:Bw x.to,z.to.cell? ⟨w.heap.size,3,none⟩=some (I U p.high.2.1):=fun z=>zB (HX _ (x.below.trans (z.below.mono x.below.size))) 3 _ rfl
     have j:∀ z:Bw x.to,z.to.cell? ⟨w.heap.size,19,none⟩=some (.slice a p.news.length cap):=fun z=>by rw [<- er];exact zB (HX _ (x.below.trans (z.below.mono x.below.size))) 19 _ rfl
     refine rb ?_;repeat (go_big_quiet_step (first | (with_reducible refine zI (zJD e3 c d _))))
     refine qnn fun x2=>?_
     go_wp2;go_ret;exact ⟨zL HE.symm,bt HW.2 (x.below.trans (x2.below.mono x.below.size))⟩
    ·have b4:(p.view == 1)=false:=by simpa using h4
     have d4:decide (p.view=1)=false:=decide_eq_false h4
     cases chain with
     | false=>
      have HE:Hid (RB=false):=hid (by rw [f.out,decide_eq_false h3,decide_eq_false h4];rfl);go_enter func171,ntmps171;go_wp2;rw [<- b];clear b;refine rb ?_;repeat (go_big_quiet_step (first | (with_reducible refine zI (xR e1 c d g i _))))
      refine qnn fun x=>?_
      go_wp2;have k:=yX x.to;have m:∀ z:Bw x.to,z.to.cell? ⟨w.heap.size,1,none⟩=some (I U p.view):=fun z=>zB (HX _ (x.below.trans (z.below.mono x.below.size))) 1 _ rfl
      have o:∀ z:Bw x.to,z.to.cell? ⟨w.heap.size,3,none⟩=some (I U p.high.2.1):=fun z=>zB (HX _ (x.below.trans (z.below.mono x.below.size))) 3 _ rfl
      have j:∀ z:Bw x.to,z.to.cell? ⟨w.heap.size,19,none⟩=some (.slice a p.news.length cap):=fun z=>by rw [<- er];exact zB (HX _ (x.below.trans (z.below.mono x.below.size))) 19 _ rfl
      refine rb ?_;repeat (go_big_quiet_step (first | (with_reducible refine zI (zJD e3 c d _))))
      refine qnn fun x2=>?_
      go_wp2;go_ret;exact ⟨zL HE.symm,bt HW.2 (x.below.trans (x2.below.mono x.below.size))⟩
     | true=>
      have HE:Hid (RB=(p.high.2.1 == p.view - 1)):=hid (by rw [f.out,decide_eq_false h3,decide_eq_false h4];simp only [Bool.false_or,Bool.true_and];by_cases hq:p.high.2.1=p.view - 1 <;> simp [hq]);go_enter func171,ntmps171;go_wp2;rw [<- b];clear b;refine rb ?_;repeat (go_big_quiet_step (first | (with_reducible refine zI (xR e1 c d g i _))))
      refine qnn fun x=>?_
      go_wp2;have k:=yX x.to;have m:∀ z:Bw x.to,z.to.cell? ⟨w.heap.size,1,none⟩=some (I U p.view):=fun z=>zB (HX _ (x.below.trans (z.below.mono x.below.size))) 1 _ rfl
      have o:∀ z:Bw x.to,z.to.cell? ⟨w.heap.size,3,none⟩=some (I U p.high.2.1):=fun z=>zB (HX _ (x.below.trans (z.below.mono x.below.size))) 3 _ rfl
      have j:∀ z:Bw x.to,z.to.cell? ⟨w.heap.size,19,none⟩=some (.slice a p.news.length cap):=fun z=>by rw [<- er];exact zB (HX _ (x.below.trans (z.below.mono x.below.size))) 19 _ rfl
      refine rb ?_;repeat (go_big_quiet_step (first | (with_reducible refine zI (zJD e3 c d _))))
      refine qnn fun x2=>?_
      go_wp2;go_ret;exact ⟨zL HE.symm,bt HW.2 (x.below.trans (x2.below.mono x.below.size))⟩
  ·have b2:p.shown ≥ p.view:=by omega
   have t:p.view<=p.shown:=by omega
   have HE:Hid (RB=false):=hid (by rw [f.out,if_neg (fun h=>h2 h.2)]);clear h1;go_enter func171,ntmps171;go_wp2;rw [<- b];clear b;refine rb ?_;repeat (go_big_quiet_step (first | (with_reducible refine zI (xR e1 c d g i _))))
   refine qnn fun x=>?_
   go_wp2;go_ret;exact ⟨zL HE.symm,bt HW.2 x.below⟩
 ·have b1:(ld != p.id)=true:=by simpa using h1
  have HE:Hid (RB=false):=hid (by rw [f.out,if_neg (fun h=>h1 h.1)]);go_enter func171,ntmps171;go_wp2;rw [<- b];clear b;refine rb ?_;repeat (go_big_quiet_step (first | (with_reducible refine zI (xR e1 c d g i _))))
  refine qnn fun x=>?_
  go_wp2;go_ret;exact ⟨zL HE.symm,bt HW.2 x.below⟩
end Go.Proofs.YtfnneillakdopacGreatR
