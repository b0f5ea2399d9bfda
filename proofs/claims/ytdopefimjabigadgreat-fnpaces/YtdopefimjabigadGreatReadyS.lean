/-
  A text of ours: ReadyS.
-/
import Derived.Test.YtdopefimjabigadGreatK2
import Derived.Test.YtdopefimjabigadGreatK1
set_option maxRecDepth 100000
set_option maxHeartbeats 32000000
namespace Go.Proofs.YtdopefimjabigadGreat
open Go.RowKit Num
def readyB (p:PE) (n:Int) (chain:Bool):Bool:=
 if xQ p.view n=p.id∧p.shown < p.view then decide (zBD n≤p.news.length) || (decide (p.view=1) || (chain && decide (p.high.2.1=p.view - 1))) else false
theorem xR {view n r:Int} (h:xQ view n=r) (hn0:-9223372036854775808≤n) (hn1:n≤9223372036854775807) (hv0:-9223372036854775808≤view) (hv1:view≤9223372036854775807) (w:World) :
  Calls Tryz.prog 13 #[.int .i64 view,.int .i64 n] w fun e w'=>e=.returned (.int .i64 r)∧w'=w:=by rw [← h];exact leader_s view n w hn0 hn1 hv0 hv1
theorem zJD {n r:Int} (h:zBD n=r) (hn0:-9223372036854775808≤n) (hn1:n≤9223372036854775807) (w:World) :
  Calls Tryz.prog 121 #[.int .i64 n] w fun e w'=>e=.returned (.int .i64 r)∧w'=w:=by rw [← h];exact quorum_s n w hn0 hn1
theorem ready_s (p:PE) (s:PV) (n:Int) (chain:Bool) (w:World) (hg:yDG p) (hwn:(Lit.int .i64 n).wf=true) (hR:jS w p s) :
  Calls Tryz.prog 150 #[yZ p s,.int .i64 n,.bool chain] w fun e w'=>e=.returned (.bool (readyB p n chain))∧Below w.heap.size w w':=by
 obtain ⟨hn0,hn1⟩:=bounds_i64 hwn;obtain ⟨hv0,hv1⟩:=bounds_i64 hg.gview;obtain ⟨hs0,hs1⟩:=bounds_i64 hg.gshown;obtain ⟨a,cap,er,-⟩:=hR.news;obtain ⟨W1,hW1⟩:∃ W1,W1=w.alloc (.cells (zA p s) 35):=⟨_,rfl⟩
 have HW:Hid (Bx W1 w.heap.size (zA p s) 35∧Below w.heap.size w W1):=by
  rw [hW1];exact ⟨heap_alloc_new w _,ba (br _ _) _⟩
 have l0:w.heap.size < W1.heap.size:=(gl HW.out.1);have HX:Hid (∀ w',Below W1.heap.size W1 w'→Bx w' w.heap.size (zA p s) 35):=fun w' h'=>(h'.block _ l0).trans HW.out.1
 have hne:=yX W1;have y0:∀ x:Bw W1,x.to.cell? ⟨w.heap.size,0,none⟩=some (.int .i64 p.id):=fun x=>zB (HX.out _ x.below) 0 _ rfl
 have y1:∀ x:Bw W1,x.to.cell? ⟨w.heap.size,1,none⟩=some (.int .i64 p.view):=fun x=>zB (HX.out _ x.below) 1 _ rfl
 have y20:∀ x:Bw W1,x.to.cell? ⟨w.heap.size,20,none⟩=some (.int .i64 p.shown):=fun x=>zB (HX.out _ x.below) 20 _ rfl
 clear hR hg hwn;obtain ⟨ld,e1⟩:∃ ld,xQ p.view n=ld:=⟨_,rfl⟩;obtain ⟨qn,e3⟩:∃ qn,zBD n=qn:=⟨_,rfl⟩;obtain ⟨RB,hRB⟩:∃ RB,RB=readyB p n chain:=⟨_,rfl⟩;have HRB:Hid (RB=if ld=p.id∧p.shown < p.view then decide (qn≤p.news.length) || (decide (p.view=1) || (chain && decide (p.high.2.1=p.view - 1))) else false):=(by rw [hRB,← e1,← e3];rfl:RB=_);rw [← hRB];clear hRB
 by_cases h1:ld=p.id
 ·have b1:(ld != p.id)=false:=by simpa using h1
  by_cases h2:p.shown < p.view
  ·have b2:¬ p.shown ≥ p.view:=by omega
   have b2':¬ p.view≤p.shown:=by omega
   have HRB:Hid (RB=(decide (qn≤p.news.length) || (decide (p.view=1) || (chain && decide (p.high.2.1=p.view - 1))))):=(by rw [HRB.out,if_pos ⟨h1,h2⟩]:RB=_);have hsub:IntKind.i64.wrap (p.view - 1)=p.view - 1:=(by rw [IntKind.wrap_i64];omega);clear h1
   by_cases h3:qn≤p.news.length
   ·have h3':(p.news.length:Int) ≥ qn:=h3;have d3:decide (qn≤(p.news.length:Int))=true:=decide_eq_true h3;have HE:Hid (RB=true):=hid (by rw [HRB.out,decide_eq_true h3];rfl);go_enter Tryz.func150,Tryz.ntmps150;go_wp2;rw [← hW1];clear hW1;refine rb ?_;repeat (go_big_quiet_step (first | (with_reducible refine zI (xR e1 hn0 hn1 hv0 hv1 _))))
    refine wpQuiet_nil ?_;intro _ hw';obtain ⟨x,rfl⟩:=hw';go_wp2;have hne2:=yX x.to;have y1':∀ z:Bw x.to,z.to.cell? ⟨w.heap.size,1,none⟩=some (.int .i64 p.view):=fun z=>zB (HX.out _ (x.below.trans (z.below.mono x.below.size))) 1 _ rfl
    have y3':∀ z:Bw x.to,z.to.cell? ⟨w.heap.size,3,none⟩=some (.int .i64 p.high.2.1):=fun z=>zB (HX.out _ (x.below.trans (z.below.mono x.below.size))) 3 _ rfl
    have y19':∀ z:Bw x.to,z.to.cell? ⟨w.heap.size,19,none⟩=some (.slice a p.news.length cap):=fun z=>by rw [← er];exact zB (HX.out _ (x.below.trans (z.below.mono x.below.size))) 19 _ rfl
    refine rb ?_;repeat (go_big_quiet_step (first | (with_reducible refine zI (zJD e3 hn0 hn1 _))))
    refine wpQuiet_nil ?_;intro _ hw2;obtain ⟨x2,rfl⟩:=hw2;go_wp2;go_ret;exact ⟨zL HE.out.symm,bt HW.out.2 (x.below.trans (x2.below.mono x.below.size))⟩
   ·have h3':¬ (p.news.length:Int) ≥ qn:=h3;have d3:decide (qn≤(p.news.length:Int))=false:=decide_eq_false h3
    by_cases h4:p.view=1
    ·have b4:(p.view == 1)=true:=by simpa using h4
     have HE:Hid (RB=true):=hid (by rw [HRB.out,decide_eq_true h4];simp);have d4:decide (p.view=1)=true:=decide_eq_true h4;clear h4;go_enter Tryz.func150,Tryz.ntmps150;go_wp2;rw [← hW1];clear hW1;refine rb ?_;repeat (go_big_quiet_step (first | (with_reducible refine zI (xR e1 hn0 hn1 hv0 hv1 _))))
     refine wpQuiet_nil ?_;intro _ hw';obtain ⟨x,rfl⟩:=hw';go_wp2;have hne2:=yX x.to;have y1':∀ z:Bw x.to,z.to.cell? ⟨w.heap.size,1,none⟩=some (.int .i64 p.view):=fun z=>zB (HX.out _ (x.below.trans (z.below.mono x.below.size))) 1 _ rfl
     have y3':∀ z:Bw x.to,z.to.cell? ⟨w.heap.size,3,none⟩=some (.int .i64 p.high.2.1):=fun z=>zB (HX.out _ (x.below.trans (z.below.mono x.below.size))) 3 _ rfl
     have y19':∀ z:Bw x.to,z.to.cell? ⟨w.heap.size,19,none⟩=some (.slice a p.news.length cap):=fun z=>by rw [← er];exact zB (HX.out _ (x.below.trans (z.below.mono x.below.size))) 19 _ rfl
     refine rb ?_;repeat (go_big_quiet_step (first | (with_reducible refine zI (zJD e3 hn0 hn1 _))))
     refine wpQuiet_nil ?_;intro _ hw2;obtain ⟨x2,rfl⟩:=hw2;go_wp2;go_ret;exact ⟨zL HE.out.symm,bt HW.out.2 (x.below.trans (x2.below.mono x.below.size))⟩
    ·have b4:(p.view == 1)=false:=by simpa using h4
     have d4:decide (p.view=1)=false:=decide_eq_false h4
     cases chain with
     | false=>
      have HE:Hid (RB=false):=hid (by rw [HRB.out,decide_eq_false h3,decide_eq_false h4];rfl);go_enter Tryz.func150,Tryz.ntmps150;go_wp2;rw [← hW1];clear hW1;refine rb ?_;repeat (go_big_quiet_step (first | (with_reducible refine zI (xR e1 hn0 hn1 hv0 hv1 _))))
      refine wpQuiet_nil ?_;intro _ hw';obtain ⟨x,rfl⟩:=hw';go_wp2;have hne2:=yX x.to;have y1':∀ z:Bw x.to,z.to.cell? ⟨w.heap.size,1,none⟩=some (.int .i64 p.view):=fun z=>zB (HX.out _ (x.below.trans (z.below.mono x.below.size))) 1 _ rfl
      have y3':∀ z:Bw x.to,z.to.cell? ⟨w.heap.size,3,none⟩=some (.int .i64 p.high.2.1):=fun z=>zB (HX.out _ (x.below.trans (z.below.mono x.below.size))) 3 _ rfl
      have y19':∀ z:Bw x.to,z.to.cell? ⟨w.heap.size,19,none⟩=some (.slice a p.news.length cap):=fun z=>by rw [← er];exact zB (HX.out _ (x.below.trans (z.below.mono x.below.size))) 19 _ rfl
      refine rb ?_;repeat (go_big_quiet_step (first | (with_reducible refine zI (zJD e3 hn0 hn1 _))))
      refine wpQuiet_nil ?_;intro _ hw2;obtain ⟨x2,rfl⟩:=hw2;go_wp2;go_ret;exact ⟨zL HE.out.symm,bt HW.out.2 (x.below.trans (x2.below.mono x.below.size))⟩
     | true=>
      have HE:Hid (RB=(p.high.2.1 == p.view - 1)):=hid (by rw [HRB.out,decide_eq_false h3,decide_eq_false h4];simp only [Bool.false_or,Bool.true_and];by_cases hq:p.high.2.1=p.view - 1 <;> simp [hq]);go_enter Tryz.func150,Tryz.ntmps150;go_wp2;rw [← hW1];clear hW1;refine rb ?_;repeat (go_big_quiet_step (first | (with_reducible refine zI (xR e1 hn0 hn1 hv0 hv1 _))))
      refine wpQuiet_nil ?_;intro _ hw';obtain ⟨x,rfl⟩:=hw';go_wp2;have hne2:=yX x.to;have y1':∀ z:Bw x.to,z.to.cell? ⟨w.heap.size,1,none⟩=some (.int .i64 p.view):=fun z=>zB (HX.out _ (x.below.trans (z.below.mono x.below.size))) 1 _ rfl
      have y3':∀ z:Bw x.to,z.to.cell? ⟨w.heap.size,3,none⟩=some (.int .i64 p.high.2.1):=fun z=>zB (HX.out _ (x.below.trans (z.below.mono x.below.size))) 3 _ rfl
      have y19':∀ z:Bw x.to,z.to.cell? ⟨w.heap.size,19,none⟩=some (.slice a p.news.length cap):=fun z=>by rw [← er];exact zB (HX.out _ (x.below.trans (z.below.mono x.below.size))) 19 _ rfl
      refine rb ?_;repeat (go_big_quiet_step (first | (with_reducible refine zI (zJD e3 hn0 hn1 _))))
      refine wpQuiet_nil ?_;intro _ hw2;obtain ⟨x2,rfl⟩:=hw2;go_wp2;go_ret;exact ⟨zL HE.out.symm,bt HW.out.2 (x.below.trans (x2.below.mono x.below.size))⟩
  ·have b2:p.shown ≥ p.view:=by omega
   have b2':p.view≤p.shown:=by omega
   have HE:Hid (RB=false):=hid (by rw [HRB.out,if_neg (fun h=>h2 h.2)]);clear h1;go_enter Tryz.func150,Tryz.ntmps150;go_wp2;rw [← hW1];clear hW1;refine rb ?_;repeat (go_big_quiet_step (first | (with_reducible refine zI (xR e1 hn0 hn1 hv0 hv1 _))))
   refine wpQuiet_nil ?_;intro _ hw';obtain ⟨x,rfl⟩:=hw';go_wp2;go_ret;exact ⟨zL HE.out.symm,bt HW.out.2 x.below⟩
 ·have b1:(ld != p.id)=true:=by simpa using h1
  have HE:Hid (RB=false):=hid (by rw [HRB.out,if_neg (fun h=>h1 h.1)]);go_enter Tryz.func150,Tryz.ntmps150;go_wp2;rw [← hW1];clear hW1;refine rb ?_;repeat (go_big_quiet_step (first | (with_reducible refine zI (xR e1 hn0 hn1 hv0 hv1 _))))
  refine wpQuiet_nil ?_;intro _ hw';obtain ⟨x,rfl⟩:=hw';go_wp2;go_ret;exact ⟨zL HE.out.symm,bt HW.out.2 x.below⟩
end Go.Proofs.YtdopefimjabigadGreat
