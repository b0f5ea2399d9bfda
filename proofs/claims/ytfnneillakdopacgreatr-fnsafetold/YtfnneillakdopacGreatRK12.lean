/-
  Texts of ours that later ones lean on, in one: VotedI, BackwI.
-/
import Derived.Test.YtfnneillakdopacGreatRK1
import Derived.Test.YtfnneillakdopacGreatRPeerCIZ
import Derived.Test.YtfnneillakdopacGreatRK4
import Derived.RangeFuncNested
import Derived.RangeFuncBound
import Derived.RangeFuncCalls
import Derived.RangeFuncLeaves
import Derived.Shelf.Abstract
import Derived.Shelf.RegionOpen
import Derived.WalkKit
import Derived.OwnWalkIn
import Derived.TacticsInMore
import Derived.LoopNIn
import Derived.LoopIn
set_option maxRecDepth 100000
set_option maxHeartbeats 32000000
namespace Go.Proofs.YtfnneillakdopacGreatR
open _root_.Go.Proofs.Tryz
open Option renaming none->Aa,some->Ab
open List renaming length_cons->Ac
open Go.RowKit Num
theorem enteredR_i (p:PE) (s:PV) (view:Int) (w:World) (hR:jS w p s) (hs:yC p) :
  Calls prog 27 #[yZ p s,.int .i64 view] w fun e w'=>∃ s',e=.returned (yZ (yI p view) s')/\zO w.heap.size w'.heap.size w' (yI p view) s'/\Be w w':=by
 have HR:=hid hR;have HS:=hid hs;clear hR hs;obtain ⟨W,hW⟩:=nw ((w.alloc (.cells (zA p s) 35)).alloc (.cells zF 35));have HW:Hid (Bx2 w W (zA p s) zF):=hid (by rw [hW];exact two_boxes w _ _);unfold zF at hW;go_enter func27,ntmps27;go_wp2_with (rw [<- hW];clear hW;(refine w_ld w.heap.size HW.box underlying35 ?_))
 refine (copyPeer_i p s W (HR.below HW.below) HS).mono ?_;rintro e x1 ⟨s1,rfl,ho,hb⟩;have d:Hid (zO w.heap.size x1.heap.size x1 p s1):=ho.low HW.below.size;have b:Hid (Bx2 w x1 (zA p s) zF):=HW.more hb;clear ho hb HW
 by_cases hin:view > p.view/\view<=900
 ·have h1:view > p.view:=hin.1;have x:p.view < view:=hin.1;have h2:view<=900:=hin.2;obtain ⟨q,hq⟩:∃ q:PE,q={ p with view:=view,votes:=[],news:=[] }:=⟨_,rfl⟩;have HE:Hid (yI p view=q):=(by unfold yI;rw [if_pos hin,hq]:yI p view=_);obtain ⟨s2,o⟩:∃ s2:PV,s2={ s1 with votes:=.slice none 0 0,news:=.slice none 0 0 }:=⟨_,rfl⟩;clear hin
  go_wp2_with (first
   | (refine w_st w.heap.size (zA p s1) b.box (zJ d.1) ?_;intro y1 hg hk hz;have a:Hid (Bx2 w y1 (zA p s1) zF):=b.put hg hk;have c:Hid (zO w.heap.size y1.heap.size y1 p s1):=(d.boxed b.box hg).wide hg.size (nl _);clear hg hk hz b d;have c1:=zB a.box 1 (.int .i64 p.view) rfl)
   | (refine w_sc w.heap.size 1 (.int .i64 view) a.box (by simp [zA]) rfl (zA { p with view:=view } s1) rfl ?_;intro y2 hg hk;have n:Hid (Bx2 w y2 (zA { p with view:=view } s1) zF):=a.put hg hk;have t:Hid (zO w.heap.size y2.heap.size y2 p s1):=(c.boxed a.box hg).wide hg.size (nl _);clear hg hk a c c1)
   | (refine w_sc w.heap.size 18 (.slice none 0 0) n.box (by simp [zA]) rfl (zA { p with view:=view } { s1 with votes:=.slice none 0 0 }) rfl ?_;intro y3 hg hk;have m:Hid (Bx2 w y3 (zA { p with view:=view } { s1 with votes:=.slice none 0 0 }) zF):=n.put hg hk;have v:Hid (zO w.heap.size y3.heap.size y3 p s1):=(t.boxed n.box hg).wide hg.size (nl _);clear hg hk n t)
   | (refine w_sc w.heap.size 19 (.slice none 0 0) m.box (by simp [zA]) rfl (zA q s2) (by rw [hq,o];rfl) ?_;intro y4 hg hk;have f:Hid (Bx2 w y4 (zA q s2) zF):=m.put hg hk;have r:Hid (zO w.heap.size y4.heap.size y4 q s2):=hid (by rw [hq,o];exact (zO.setNews (l:=[]) (zO.setVotes (l:=[]) (((v.boxed m.box hg).wide hg.size (nl _)).other (q:={ p with view:=view }) rfl rfl rfl rfl rfl rfl) (nl _) (nl _) (World.ownsRow_nil _ _ _ _) (fun g e=>by cases e) (fun g e=>by cases e)) (nl _) (nl _) (World.ownsRow_nil _ _ _ _) (fun g e=>by cases e) (fun g e=>by cases e)));clear hg hk m v hq o)
   | (refine w_ld w.heap.size f.box underlying35 ?_)
   | (refine w_st (w.heap.size+1) (zA q s2) f.zero (zJ r.1) ?_;intro z hg hk hz;have j:Hid (Be w z):=f.below.grown hg f.below.size (qkk (by omega));have i:Hid (Bx z (w.heap.size+1) (zA q s2) 35):=hk;have k:Hid (zO w.heap.size z.heap.size z q s2):=(r.boxed f.zero hg).wide hg.size (nl _);clear hg hk hz r f))
  refine b_cr (.agg (zA q s2)) results27 i underlying35 ?_;rw [HE.out];exact ⟨_,rfl,k,j⟩
 ·have HE:Hid (yI p view=p):=hid (by unfold yI;rw [if_neg hin])
  by_cases h1:p.view < view
  ·have h2:¬ view<=900:=fun h=>hin ⟨h1,h⟩
   clear hin
   go_wp2_with (first
    | (refine w_st w.heap.size (zA p s1) b.box (zJ d.1) ?_;intro y1 hg hk hz;have a:Hid (Bx2 w y1 (zA p s1) zF):=b.put hg hk;have c:Hid (zO w.heap.size y1.heap.size y1 p s1):=(d.boxed b.box hg).wide hg.size (nl _);clear hg hk hz b d;have c1:=zB a.box 1 (.int .i64 p.view) rfl)
    | (refine w_ld w.heap.size a.box underlying35 ?_)
    | (refine w_st (w.heap.size+1) (zA p s1) a.zero (zJ c.1) ?_;intro z hg hk hz;have j:Hid (Be w z):=a.below.grown hg a.below.size (qkk (by omega));have i:Hid (Bx z (w.heap.size+1) (zA p s1) 35):=hk;have k:Hid (zO w.heap.size z.heap.size z p s1):=(c.boxed a.zero hg).wide hg.size (nl _);clear hg hk hz c a))
   refine b_cr (.agg (zA p s1)) results27 i underlying35 ?_;rw [HE.out];exact ⟨_,rfl,k,j⟩
  ·clear hin
   go_wp2_with (first
    | (refine w_st w.heap.size (zA p s1) b.box (zJ d.1) ?_;intro y1 hg hk hz;have a:Hid (Bx2 w y1 (zA p s1) zF):=b.put hg hk;have c:Hid (zO w.heap.size y1.heap.size y1 p s1):=(d.boxed b.box hg).wide hg.size (nl _);clear hg hk hz b d;have c1:=zB a.box 1 (.int .i64 p.view) rfl)
    | (refine w_ld w.heap.size a.box underlying35 ?_)
    | (refine w_st (w.heap.size+1) (zA p s1) a.zero (zJ c.1) ?_;intro z hg hk hz;have j:Hid (Be w z):=a.below.grown hg a.below.size (qkk (by omega));have i:Hid (Bx z (w.heap.size+1) (zA p s1) 35):=hk;have k:Hid (zO w.heap.size z.heap.size z p s1):=(c.boxed a.zero hg).wide hg.size (nl _);clear hg hk hz c a))
   refine b_cr (.agg (zA p s1)) results27 i underlying35 ?_;rw [HE.out];exact ⟨_,rfl,k,j⟩
open Go.Shelf
attribute [local go_sem] Oper.semAt_some
abbrev US:={ u:UN // (u.1.size:Int)<=1048576 }
abbrev BI:=Nat × US
def us0:US:=⟨(ByteArray.empty,false,0),by decide⟩
def encB (x:BI):Array Value:=#[.int .i64 (x.1:Int),undoV x.2.1]
def backAt (us:List US) (k:Nat):BI:=(us.length - 1 - k,us[us.length - 1 - k]?.getD us0)
def backTo (us:List US) (k:Nat):List BI:=(List.range k).map (backAt us)
theorem backTo_succ (us:List US) (k:Nat):backTo us (k+1)=backTo us k ++ [backAt us k]:=by simp [backTo,List.range_succ]
theorem backTo_len (us:List US) (k:Nat):(backTo us k).length=k:=by simp [backTo]
def KpB (n₀ Bs:Nat) (A B:World):Prop:=Below n₀ A B/\B.heap[Bs]?=A.heap[Bs]?
theorem kpB_refl (n₀ Bs:Nat) (A:World):KpB n₀ Bs A A:=⟨br _ _,rfl⟩
theorem kpB_t {n₀ Bs:Nat} {A B C:World} (h:KpB n₀ Bs A B) (k:KpB n₀ Bs B C):KpB n₀ Bs A C:=⟨h.1.trans k.1,k.2.trans h.2⟩
theorem kpB_b {n₀ Bs:Nat} {w:World} (hn:n₀<=w.heap.size) (hB:Bs < w.heap.size) (W:World) (l:Nat) (o o':Obj) (hl:w.heap.size<=l) (h:W.heap[l]?=some o) (h1:o.isCells=false) (h2:o.isWalk=false):KpB n₀ Bs W (W.putObj l o'):=
 ⟨belowK_b hn W l o o' hl h h1 h2,World.putObj_heap_other (by omega)⟩
theorem back1_in (F:Fence) (n:Nat) (hf:F.fn 173) (hro:F.round=none) (hn:1<=n) (l Bs n₀ b off cap:Nat) (us:List US) (hlen:(us.length:Int)<=1048576) (hb:b < n₀) (J Jx:List BI->World->Prop)
  (hY:∀ pre x W,J pre W->pre.length < us.length->YieldAt F (n - 1) prog l (encB x) W fun e W'=>
   (e=.returned (.bool true)/\J (pre ++ [x]) W'/\KpB n₀ Bs W W')∨(e=.returned (.bool false)/\Jx (pre ++ [x]) W'))
  (W:World) (hBs:W.cell? ⟨Bs,0,Aa⟩=Ab (.slice (Ab ⟨b,off,Aa⟩) us.length cap)) (hc:∀ j (h:j < us.length) i,i < 3->W.cell? ⟨b,off+j * 3+i,Aa⟩=(kK us[j].1)[i]?) (h0:J [] W) :
  CallsIn F n prog 173 #[.func (.yield l) #[] #[],.pointer (Ab ⟨Bs,0,Aa⟩)] W fun e W'=>(∃ v,e=.returned v)/\
   ((∃ ys,ys=backTo us us.length/\J ys W')∨(∃ pre,(∃ k,k<=us.length/\pre=backTo us k)/\Jx pre W')):=by
 refine callsIn_of_wp func173 rfl hf ?_ hro;simp only [ntmps173,List.size_toArray,Ac,List.length_nil,Nat.reduceAdd,Nat.reduceSub,Array.replicate_succ,Array.replicate_zero,List.push_toArray,List.append_toArray,List.nil_append,List.cons_append];have HC:Hid (∀ j (h:j < us.length) i,i < 3->W.cell? ⟨b,off+j * 3+i,Aa⟩=(kK us[j].1)[i]?):=hc;have HB:Hid (W.cell? ⟨Bs,0,Aa⟩=Ab (.slice (Ab ⟨b,off,Aa⟩) us.length cap)):=hBs;clear hc
 gi_wp2
 clear hBs
 gi_loopw [3] (fun i wr=>∃ k:Nat,k<=us.length/\i=.int .i64 ((k:Int) - 1)/\J (backTo us (us.length - k)) wr/\KpB n₀ Bs W wr)
  (fun i _=>(intOf i+1).toNat)
 case atStart=>exact ⟨us.length,nl _,rfl,by rw [Nat.sub_self];exact h0,kpB_refl _ _ _⟩
 case round=>
  obtain ⟨k,hk,rfl,g,a⟩:=hrel
  cases k with
  | zero=>
   rw [show (((0:Nat):Int) - 1)=-1 from rfl]
   gi_wp2
   go_end0
   exact ⟨⟨_,rfl⟩,.inl ⟨_,rfl,g⟩⟩
  | succ j=>
   have hj:j < us.length:=by omega
   have s:wr.cell? ⟨Bs,0,Aa⟩=Ab (.slice (Ab ⟨b,off,Aa⟩) us.length cap):=by rw [World.cell?_of_block (w:=W) a.2];exact HB.out
   have c0:wr.cell? ⟨b,off+j * 3,Aa⟩=Ab (.string us[j].1.1):=by rw [a.1.cell (by exact hb)];exact HC.out j hj 0 (by omega)
   have c1:wr.cell? ⟨b,off+j * 3+1,Aa⟩=Ab (.bool us[j].1.2.1):=by rw [a.1.cell (by exact hb)];exact HC.out j hj 1 (by omega)
   have c2:wr.cell? ⟨b,off+j * 3+2,Aa⟩=Ab (.int .i64 us[j].1.2.2):=by rw [a.1.cell (by exact hb)];exact HC.out j hj 2 (by omega)
   have d:backAt us (us.length - (j+1))=(j,us[j]):=by
    unfold backAt;rw [show us.length - 1 - (us.length - (j+1))=j by omega,List.getElem?_eq_getElem hj];rfl
   obtain ⟨fn,t,m,r,hy,hR⟩:=hY _ (j,us[j]) wr g (by rw [backTo_len];omega);unfold encB undoV at hy
   dsimp only at hy
   rw [show (((j+1:Nat):Int) - 1)=(j:Int) by omega];have q0:(0:Int)<=(j:Int):=by omega
   have q1:(j:Int) < us.length:=by omega
   have HN:=hid a;have f:Hid (backAt us (us.length - (j+1))=(j,us[j])):=d;clear a d
   gi_wp2
   refine hR.mono ?_;rintro e W3 (⟨rfl,o,p⟩ | ⟨rfl,c⟩)
   ·gi_wp2
    go_roundw
    case rel=>exact ⟨j,by omega,rfl,by rw [show us.length - j=us.length - (j+1)+1 by omega,backTo_succ,f.out];exact o,kpB_t HN p⟩
    case measure=>simp [intOf]
   ·gi_wp2
    refine bodyPost_ret (results_none rfl _ _ _) rfl ?_;exact ⟨⟨_,rfl⟩,.inr ⟨_,⟨us.length - (j+1)+1,by omega,by rw [backTo_succ,f.out]⟩,c⟩⟩
theorem back1_nil_in (F:Fence) (n:Nat) (hf:F.fn 173) (hro:F.round=none) (l Bs:Nat) (a:Option Addr) (cap:Nat) (J:List BI->World->Prop) (W:World) (hBs:W.cell? ⟨Bs,0,Aa⟩=Ab (.slice a 0 cap)) (h0:J [] W) :
  CallsIn F n prog 173 #[.func (.yield l) #[] #[],.pointer (Ab ⟨Bs,0,Aa⟩)] W fun e W'=>(∃ v,e=.returned v)/\J [] W':=by
 refine callsIn_of_wp func173 rfl hf ?_ hro;simp only [ntmps173,List.size_toArray,Ac,List.length_nil,Nat.reduceAdd,Nat.reduceSub,Array.replicate_succ,Array.replicate_zero,List.push_toArray,List.append_toArray,List.nil_append,List.cons_append]
 gi_wp2
 gi_loopw [3] (fun i wr=>i=.int .i64 (-1)/\J [] wr) (fun _ _=>0)
 case atStart=>exact ⟨rfl,h0⟩
 case round=>
  obtain ⟨rfl,b⟩:=hrel
  gi_wp2
  go_end0
  exact ⟨⟨_,rfl⟩,b⟩
theorem backward_in (F:Fence) (n:Nat) (hf:F.fn 126) (hro:F.round=none) (a:Option Addr) (len cap:Nat) (w:World) :
  CallsIn F n prog 126 #[.slice a len cap] w fun e w'=>e=.returned (.func (.func 173) #[] #[.pointer (Ab ⟨w.heap.size,0,Aa⟩)])/\w'=w.alloc (.cells #[.slice a len cap] 31):=by
 refine callsIn_of_wp func126 rfl hf ?_ hro;simp only [ntmps126,List.size_toArray,Ac,List.length_nil,Nat.reduceAdd,Nat.reduceSub,Array.replicate_succ,Array.replicate_zero,List.push_toArray,List.append_toArray,List.nil_append,List.cons_append]
 gi_wp2
 go_ret;exact ⟨rfl,rfl⟩
theorem backward_stops (F:Fence) (n:Nat) (hf:F.fn 173) (hro:F.round=none) (hn:1<=n) (Bs n₀:Nat) (a:Option Addr) (cap:Nat) (us:List US) (hlen:(us.length:Int)<=1048576) (w:World) (hBs:Bs < w.heap.size) (hn₀:n₀<=w.heap.size)
  (hc:w.cell? ⟨Bs,0,Aa⟩=Ab (.slice a us.length cap)) (hI:0 < us.length->∃ g off,a=Ab ⟨g,off,Aa⟩/\g < n₀/\∀ j (h:j < us.length) i,i < 3->w.cell? ⟨g,off+j * 3+i,Aa⟩=(kK us[j].1)[i]?) :
  SeqStopsK F n prog 173 #[.pointer (Ab ⟨Bs,0,Aa⟩)] encB (KpB n₀ Bs) (fun ys=>ys=backTo us us.length) (fun pre=>∃ k,k<=us.length/\pre=backTo us k) us.length w:=fun l J Jx W hW _ _ hY h0=>by
 have b:=(hW.cell (p:=⟨Bs,0,Aa⟩) hBs).trans hc
 by_cases h:0 < us.length
 ·obtain ⟨g,off,rfl,hg,c⟩:=hI h;exact back1_in F n hf hro hn l Bs n₀ g off cap us hlen hg J Jx hY W b (fun j hj i hi=>((hW.mono hn₀).cell (p:=⟨g,off+j * 3+i,Aa⟩) hg).trans (c j hj i hi)) h0
 ·have e:us.length=0:=by omega
  rw [e] at b;exact (back1_nil_in F n hf hro l Bs a cap J W b h0).mono fun e' W' ⟨he,hj⟩=>⟨he,.inl ⟨_,rfl,by rw [e];exact hj⟩⟩
end Go.Proofs.YtfnneillakdopacGreatR
