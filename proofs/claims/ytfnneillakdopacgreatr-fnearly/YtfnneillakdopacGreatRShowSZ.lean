/-
  A text of ours: ShowS.
-/
import Derived.Test.YtfnneillakdopacGreatRK1
import Derived.Test.YtfnneillakdopacGreatRK3
import Derived.Test.YtfnneillakdopacGreatRK4
import Derived.Deep.AppendLies
set_option maxRecDepth 100000
set_option maxHeartbeats 32000000
namespace Go.Proofs.YtfnneillakdopacGreatR
open _root_.Go.Proofs.Tryz
open Go.Value renaming int->I
open Go.IntKind renaming i64->U
open Go.RowKit Num
variable {A Q:Array Value} {N:Nat} {w x y:World}
def justOr (t:List BK) (k:Int):QC:=if 0<=k/\k<=(t.length:Int) - 1 then (t[k.toNat]?.getD kE).2.2 else (0,0,0,0)
def shownL (p:PE) (k:Int) (q:QC) (i:Nat):LT:=((1,p.id,(i:Int),p.view,k),q,(0,0,0,0))
def qX (p:PE) (k:Int) (q:QC):Nat->List LT
 | 0=>[]
 | i+1=>qX p k q i ++ [shownL p k q i]
def qN (n:Int):Nat:=if n < 7 then n.toNat else 7
def zCA (t:List BK) (p:PE) (k n:Int):List LT:=qX p k (justOr t k) (qN n)
theorem zJG (p:PE) (k:Int) (q:QC):∀ i,(qX p k q i).length=i
 | 0=>rfl
 | i+1=>by unfold qX;rw [List.length_append,zJG p k q i];rfl
theorem many_le (n:Int):qN n<=7:=by unfold qN;split <;> omega
structure ShB (w y:World) (N:Nat) (A Q:Array Value):Prop where
 below:Be w y
 box:Bx y w.heap.size A 35
 qc:Bx y N Q 26
 far:w.heap.size < N
theorem ShB.lt (h:ShB w y N A Q):N < y.heap.size:=(gl h.qc)
theorem ShB.more (h:ShB w y N A Q) (hb:Be y x):ShB w x N A Q:=by
 have:=h.lt;have:=h.far;exact ⟨bt h.below hb,(hb.block _ (by omega)).trans h.box,(hb.block _ (by omega)).trans h.qc,h.far⟩
theorem ShB.put {Q':Array Value} (h:ShB w y N A Q) (hg:y.grownBy x (some N)) (hk:Bx x N Q' 26):ShB w x N A Q':=by
 have:=h.lt;have:=h.far;exact ⟨h.below.grown hg h.below.size (qkk (by omega)),(hg.block _ (by omega) (qsn (by omega))).trans h.box,hk,h.far⟩
theorem ShB.grow {base n m:Nat} {e:TypeId} {v:Value} {xs:List Value} (h:ShB w y N A Q) (ho:y.ownsRow base e m v n xs) (h1:e ≠ 35) (h2:e ≠ 26) (hb:w.heap.size<=base) (hg:y.grownBy x v.ownBlock):ShB w x N A Q:=by
 have:=h.lt;have:=h.far
 have ne:∀ {B:Nat} {T:TypeId} {A:Array Value},y.heap[B]?=some (.cells A T (0,0))->e ≠ T->some B ≠ v.ownBlock:=fun hB hT e2=>by
  rcases zH ho hB hT with h | h
  ·rw [h] at e2;cases e2
  ·exact h e2.symm
 exact ⟨h.below.grown hg h.below.size (fun k hk=>Nat.le_trans hb (ho.lt k hk).1),(hg.block _ (by omega) (ne h.box h1)).trans h.box,(hg.block _ (by omega) (ne h.qc h2)).trans h.qc,h.far⟩
theorem shownTo_s (ps:TL) (v:Value) (p:PE) (s:PV) (k n:Int) (w:World) (hT:jB w v ps) (hl:(ps.length:Int)<=1048576) :
  Calls prog 192 #[v,yZ p s,I U k,I U n] w fun e w'=>∃ v',e=.returned v'/\w'.ownsRow w.heap.size 61 13 v' (zCA (bks ps) p k n).length (zE yE (zCA (bks ps) p k n))/\Be w w':=by
 have HT:=hid hT;have ac:Hid ((bks ps).length=ps.length):=yO ps;obtain ⟨i0,hi,ae,ad,af⟩:=info_parts zBJ;obtain ⟨a,cap,rfl,hr⟩:=hT.1;have ag:=hid hr;clear hT hr;obtain ⟨W,hW⟩:=nw (((w.alloc (.cells (zA p s) 35)).alloc (.cells #[] 61)).alloc (.cells #[I U 0,I U 0,I U 0,I U 0] 26))
 have HC:Hid (ShB w W (w.heap.size+1+1) (zA p s) #[I U 0,I U 0,I U 0,I U 0]/\W.ownsRow w.heap.size 61 13 (.slice (some ⟨w.heap.size+1,0,none⟩) 0 0) 0 []):=by
  have h:=zN (yH (w.alloc (.cells (zA p s) 35)) 61 13) (show w.heap.size<=(w.alloc (.cells (zA p s) 35)).heap.size by simp);have h':=zS h ((br _ _).alloc (nl _) (.cells #[I U 0,I U 0,I U 0,I U 0] 26));rw [hW];exact ⟨⟨ba (ba (ba (br _ _) _) _) _,(zJH w _ _ _).1,(zJH w _ _ _).2.2,by omega⟩,by simpa using h'⟩
 go_enter func192,ntmps192;go_wp2_with fail
 rw [<- hW];clear hW
 by_cases hin:0<=k/\k<=(ps.length:Int) - 1
 ·refine (jU (kY hin) W).mono ?_;rintro e x0 ⟨rfl,hw⟩;obtain rfl:=hw.symm;clear hw;obtain ⟨kn,rfl⟩:∃ kn:Nat,k=(kn:Int):=⟨k.toNat,by omega⟩;have r:kn < ps.length:=by omega
  have k0:(0:Int)<=(kn:Int):=by omega
  have k1:(kn:Int) < ps.length:=by omega
  obtain ⟨gt,ot,rfl,f,j⟩:=ag (by omega);obtain ⟨jq,c⟩:∃ jq:QC,jq=ps[kn].1.2.2:=⟨_,rfl⟩;have HE:Hid (zCA (bks ps) p (kn:Int) n=qX p (kn:Int) jq (qN n)):=(by unfold zCA justOr;rw [if_pos (by rw [ac.out];exact hin),c];simp [bks,r]:zCA (bks ps) p (kn:Int) n=_);have d0:W.cell? ⟨gt,ot+kn * 7+3,none⟩=some (I U jq.1):=by rw [HC.out.1.below.cell (by exact f),c];exact j kn r 3 (by omega)
  have d1:W.cell? ⟨gt,ot+kn * 7+3+1,none⟩=some (I U jq.2.1):=by rw [HC.out.1.below.cell (by exact f),c];exact j kn r 4 (by omega)
  have d2:W.cell? ⟨gt,ot+kn * 7+3+2,none⟩=some (I U jq.2.2.1):=by rw [HC.out.1.below.cell (by exact f),c];exact j kn r 5 (by omega)
  have d3:W.cell? ⟨gt,ot+kn * 7+3+3,none⟩=some (I U jq.2.2.2):=by rw [HC.out.1.below.cell (by exact f),c];exact j kn r 6 (by omega)
  clear j f c hin;go_wp2_with (refine w_st (w.heap.size+1+1) #[I U jq.1,I U jq.2.1,I U jq.2.2.1,I U jq.2.2.2] HC.1.qc (by simp [Value.oneCell']) ?_;intro y1 hg hk hz;have y:Hid (ShB w y1 (w.heap.size+1+1) (zA p s) #[I U jq.1,I U jq.2.1,I U jq.2.2.1,I U jq.2.2.2]):=HC.1.put hg hk;have x:Hid (y1.ownsRow w.heap.size 61 13 (.slice (some ⟨w.heap.size+1,0,none⟩) 0 0) 0 []):=World.ownsRow.kept HC.2 hg (zH HC.2 HC.1.qc (by decide));clear hg hk hz HC d0 d1 d2 d3)
  go_loopw [9,11] (fun o i wr=>∃ m:Nat,m<=qN n/\i=I U (m:Int)/\Hid (ShB w wr (w.heap.size+1+1) (zA p s) #[I U jq.1,I U jq.2.1,I U jq.2.2.1,I U jq.2.2.2])/\Hid (wr.ownsRow w.heap.size 61 13 o m (zE yE (qX p (kn:Int) jq m)))) (fun _ i _=>qN n - (intOf i).toNat)
  case atStart=>exact ⟨0,Nat.zero_le _,rfl,y,x⟩
  case round=>
   obtain ⟨m,hm,rfl,HY,HO⟩:=hrel;have c0:=zB HY.box 0 (I U p.id) rfl;have c1:=zB HY.box 1 (I U p.view) rfl;have l:=many_le n
   by_cases hlt:m < qN n
   ·have g1:(m:Int) < n:=by unfold qN at hlt;split at hlt <;> omega
    have g2:(m:Int) < 7:=by omega
    have d:Hid (Be wr (wr.alloc (.cells (zQ (shownL p (kn:Int) jq m)) 61))):=(Below.refl wr.heap.size wr).alloc (nl _) _
    go_wp2_with (first
     | (at_builtin;refine wpList_append_lies _ rfl (.tmp 33) (.tmp 42) 33 rfl w.heap.size 61 i0 _ 13 104 underlying33 hi ae ad af rfl (by decide) u9 _ _ rfl (zS HO d) ⟨wr.heap.size,0,none⟩ 1 1 (yE (shownL p (kn:Int) jq m)) rfl rfl (World.news_of_block (heap_alloc_new wr _)) (kF _) (by decide) (by unfold maxLen;omega) (by omega) (by have:=HY.below.size;simp;omega) _ rfl ?_;intro g3 t y3 ho hg aa u;have z:Hid (ShB w y3 (w.heap.size+1+1) (zA p s) #[I U jq.1,I U jq.2.1,I U jq.2.2.1,I U jq.2.2.2]):=(HY.more d).grow (zS HO d) (by decide) (by decide) (nl _) hg;have ab:Hid (y3.ownsRow w.heap.size 61 13 (.slice (some ⟨g3,0,none⟩) (m+1) t) (m+1) (zE yE (qX p (kn:Int) jq (m+1)))):=(by unfold qX;rw [zY];simpa [zE] using ho:y3.ownsRow _ _ _ _ _ _);clear ho hg aa u c0 c1)
     | (refine w_ld (w.heap.size+1+1) HY.qc underlying26 ?_))
    go_roundw
    case rel=>exact ⟨m+1,by omega,by go_num,z,ab⟩
    case measure=>simp [intOf];omega
   ·have b:m=qN n:=by omega
    have g:=hid b;clear c0 c1
    by_cases g1:(m:Int) < n
    ·have g2:¬ (m:Int) < 7:=by unfold qN at b;split at b <;> omega
     clear b hlt hm l;go_wp2;go_ret;rw [HE.out,zJG,<- g.out];exact ⟨_,rfl,HO,HY.below⟩
    ·clear b hlt hm l;go_wp2;go_ret;rw [HE.out,zJG,<- g.out];exact ⟨_,rfl,HO,HY.below⟩
 ·refine (jU (zAB hin) W).mono ?_;rintro e x0 ⟨rfl,hw⟩;obtain rfl:=hw.symm;clear hw;have HE:Hid (zCA (bks ps) p k n=qX p k (0,0,0,0) (qN n)):=(by unfold zCA justOr;rw [if_neg (by rw [ac.out];exact hin)]:zCA (bks ps) p k n=_);obtain ⟨jq,c⟩:∃ jq:QC,jq=(0,0,0,0):=⟨_,rfl⟩;have y:Hid (ShB w W (w.heap.size+1+1) (zA p s) #[I U jq.1,I U jq.2.1,I U jq.2.2.1,I U jq.2.2.2]):=hid (by rw [c];exact HC.out.1);have x:=hid HC.out.2;rw [<- c] at HE;clear hin HC c;go_wp2
  go_loopw [9,11] (fun o i wr=>∃ m:Nat,m<=qN n/\i=I U (m:Int)/\Hid (ShB w wr (w.heap.size+1+1) (zA p s) #[I U jq.1,I U jq.2.1,I U jq.2.2.1,I U jq.2.2.2])/\Hid (wr.ownsRow w.heap.size 61 13 o m (zE yE (qX p k jq m)))) (fun _ i _=>qN n - (intOf i).toNat)
  case atStart=>exact ⟨0,Nat.zero_le _,rfl,y,x⟩
  case round=>
   obtain ⟨m,hm,rfl,HY,HO⟩:=hrel;have c0:=zB HY.box 0 (I U p.id) rfl;have c1:=zB HY.box 1 (I U p.view) rfl;have l:=many_le n
   by_cases hlt:m < qN n
   ·have g1:(m:Int) < n:=by unfold qN at hlt;split at hlt <;> omega
    have g2:(m:Int) < 7:=by omega
    have d:Hid (Be wr (wr.alloc (.cells (zQ (shownL p k jq m)) 61))):=(Below.refl wr.heap.size wr).alloc (nl _) _
    go_wp2_with (first
     | (at_builtin;refine wpList_append_lies _ rfl (.tmp 33) (.tmp 42) 33 rfl w.heap.size 61 i0 _ 13 104 underlying33 hi ae ad af rfl (by decide) u9 _ _ rfl (zS HO d) ⟨wr.heap.size,0,none⟩ 1 1 (yE (shownL p k jq m)) rfl rfl (World.news_of_block (heap_alloc_new wr _)) (kF _) (by decide) (by unfold maxLen;omega) (by omega) (by have:=HY.below.size;simp;omega) _ rfl ?_;intro g3 t y3 ho hg aa u;have z:Hid (ShB w y3 (w.heap.size+1+1) (zA p s) #[I U jq.1,I U jq.2.1,I U jq.2.2.1,I U jq.2.2.2]):=(HY.more d).grow (zS HO d) (by decide) (by decide) (nl _) hg;have ab:Hid (y3.ownsRow w.heap.size 61 13 (.slice (some ⟨g3,0,none⟩) (m+1) t) (m+1) (zE yE (qX p k jq (m+1)))):=(by unfold qX;rw [zY];simpa [zE] using ho:y3.ownsRow _ _ _ _ _ _);clear ho hg aa u c0 c1)
     | (refine w_ld (w.heap.size+1+1) HY.qc underlying26 ?_))
    go_roundw
    case rel=>exact ⟨m+1,by omega,by go_num,z,ab⟩
    case measure=>simp [intOf];omega
   ·have b:m=qN n:=by omega
    have g:=hid b;clear c0 c1
    by_cases g1:(m:Int) < n
    ·have g2:¬ (m:Int) < 7:=by unfold qN at b;split at b <;> omega
     clear b hlt hm l;go_wp2;go_ret;rw [HE.out,zJG,<- g.out];exact ⟨_,rfl,HO,HY.below⟩
    ·clear b hlt hm l;go_wp2;go_ret;rw [HE.out,zJG,<- g.out];exact ⟨_,rfl,HO,HY.below⟩
end Go.Proofs.YtfnneillakdopacGreatR
