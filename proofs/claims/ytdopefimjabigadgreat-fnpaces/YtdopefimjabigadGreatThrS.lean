/-
  A text of ours: ThrS.
-/
import Derived.Test.YtdopefimjabigadGreatK1
import Derived.Test.YtdopefimjabigadGreatK4
set_option maxRecDepth 100000
set_option maxHeartbeats 32000000
namespace Go.Proofs.YtdopefimjabigadGreat
open Go.RowKit Num
theorem downN_mem (t:List BK):∀ (n k:Nat) (l:List Nat),zAD t n k=some l→∀ x∈l,x < t.length
 | n,0,l,h=>by cases n <;> (simp [zAD] at h;subst h;intro x hx;cases hx)
 | 0,k+1,l,h=>by simp [zAD] at h
 | n+1,k+1,l,h=>by
  unfold zAD at h
  split at h
  ·rename_i hc
   rw [Option.map_eq_some_iff] at h;obtain ⟨l',h1,rfl⟩:=h;intro x hx
   rcases List.mem_cons.1 hx with rfl | hx
   ·exact hc.1
   ·exact downN_mem t n _ l' h1 x hx
  ·cases h
theorem row_mem {t:List BK} {k x:Int} (h:x∈rowI t k):∃ j:Nat,x=(j:Int)∧j < t.length:=by
 cases hd:qH t k with
 | none=>rw [zJE hd] at h;cases h
 | some l=>
  rw [zJF hd] at h;unfold qG at h;obtain ⟨j,hj,rfl⟩:=List.mem_map.1 h;refine ⟨j,rfl,?_⟩;unfold qH at hd
  split at hd
  ·exact downN_mem t _ _ l hd j (List.mem_reverse.1 hj)
  ·cases hd
theorem after_mem {t:List BK} {k u x:Int} (h:x∈kB t k u):∃ j:Nat,x=(j:Int)∧j < t.length:=by
 unfold kB at h
 split at h
 ·exact row_mem (List.mem_filter.1 h).1
 ·cases h
theorem zDA (t:List BK) (k u:Int):(kB t k u).length≤t.length:=by
 unfold kB
 split
 ·refine Nat.le_trans (List.length_filter_le _ _) ?_
  cases hd:qH t k with
  | none=>rw [zJE hd];simp
  | some l=>rw [zJF hd];unfold qG;simpa using down_len hd
 ·simp
theorem ne_own {v:Value} {N:Nat} (h:v.ownBlock=none∨v.ownBlock ≠ some N):some N ≠ v.ownBlock:=fun e=>by
 rcases h with h | h
 ·rw [h] at e;cases e
 ·exact h e.symm
theorem Bx3.grow {w y x:World} {N base n m:Nat} {A Z O:Array Value} {e:TypeId} {v:Value} {xs:List Value} (h:Bx3 w y N A Z O) (ho:y.ownsRow base e m v n xs) (hne:e ≠ 35) (hb:w.heap.size≤base) (hg:y.grownBy x v.ownBlock):Bx3 w x N A Z O:=by
 have:=h.lt;have:=h.far;exact ⟨h.below.grown hg h.below.size (fun k hk=>Nat.le_trans hb (ho.lt k hk).1),(hg.block _ (by omega) (ne_own (zH ho h.box hne))).trans h.box,(hg.block _ (by omega) (ne_own (zH ho h.zero hne))).trans h.zero,(hg.block _ (by omega) (ne_own (zH ho h.out hne))).trans h.out,h.far⟩
theorem zO.addRow {lo hi:Nat} {y x:World} {p:PE} {s:PV} {j:Int} {g cap:Nat} (h:zO lo hi y p s) (hg:y.grownBy x s.row.ownBlock) (ho:x.ownsRow lo 3 1 (.slice (some ⟨g,0,none⟩) (p.row.length+1) cap) (p.row.length+1) (zE xJ p.row ++ [.int .i64 j])) (hw:s.row.ownBlock=some g∨hi≤g) (hl:g < x.heap.size) :
  zO lo x.heap.size x { p with row:=p.row ++ [j] } { s with row:=.slice (some ⟨g,0,none⟩) (p.row.length+1) cap }:=by
 have ha:=h.2.1;refine ⟨⟨?_,World.ownsRow.kept h.1.cells hg ha.a10.ne,World.ownsRow.kept h.1.early hg ha.a20.ne,World.ownsRow.kept h.1.undos hg ha.a30.ne,World.ownsRow.kept h.1.votes hg ha.a40.ne,World.ownsRow.kept h.1.news hg ha.a50.ne⟩,ha.setRow (Nat.le_trans h.2.2 hg.size) (fun g' e=>⟨(ho.lt g' e).1,by cases e;exact hl⟩) (fun g' e=>by cases e;exact hw),nl _⟩;rw [zY]
 simpa [xJ,zE] using ho
def jW (t:List BK) (p:PE) (l:List Int):PE:={ p with row:=p.row ++ l,cells:=zGF t p.cells l }
theorem thr_own {lo hi:Nat} {w:World} {q:PE} {s:PV} (t:List BK) (L:List Int) (h:zO lo hi w q s):zO lo hi w (jW t q (L.take 0)) s:=h.other (by simp [jW]) (by simp [jW,zGF]) rfl rfl rfl rfl
theorem thr_step {ps:TL} {q:PE} {L:List Int} {m j:Nat} (hm:m < L.length) (hj:L[m]=(j:Int)) (hjn:j < ps.length) :
  { ({ jW (bks ps) q (L.take m) with row:=(jW (bks ps) q (L.take m)).row ++ [(j:Int)] }:PE) with cells:=yD (jW (bks ps) q (L.take m)).cells ps[j].1.2.1 }=jW (bks ps) q (L.take (m+1)):=by
 have hc:kN (bks ps) (j:Int)=ps[j].1.2.1:=by unfold kN;rw [if_pos ⟨by omega,by rw [yO];omega⟩];simp [bks,hjn]
 have hr:=rowC_take (bks ps) L q.cells m hm;rw [hj,hc] at hr;have ht:L.take (m+1)=L.take m ++ [(j:Int)]:=by rw [List.take_add_one,List.getElem?_eq_getElem hm,hj];rfl
 unfold jW;simp only [hr];rw [ht,List.append_assoc]
def kO (t:List BK) (p:PE) (k:Int):PE:=if yBI t k (qS p.row)=true then jW t (jC p) (kB t k (qS p.row)) else p
theorem through_s (ps:TL) (v:Value) (p:PE) (s:PV) (k:Int) (w:World) (hT:jB w v ps) (hk:okT (bks ps)) (hR:jS w p s) (hs:yC p) :
  Calls Tryz.prog 52 #[v,yZ p s,.int .i64 k] w fun e w'=>∃ s',e=.returned (yZ (kO (bks ps) p k) s')∧zO w.heap.size w'.heap.size w' (kO (bks ps) p k) s'∧Below w.heap.size w w':=by
 have HT:=hid hT;have HK:=hid hk;have HR:=hid hR;have HS:=hid hs;have hpl:(ps.length:Int)≤1048576:=by have:=hk.1;rw [yO] at this;exact this
 have hrl:=hs.row;have HBL:Hid ((bks ps).length=ps.length):=yO ps;obtain ⟨ii,ihi,ihz0,ihz1,ihz2⟩:=info_parts infoIntL;obtain ⟨at0,ct0,rfl,-⟩:=HT.out.1;clear hT hk hR hs;obtain ⟨W,hW⟩:∃ W,W=(w.alloc (.cells (zA p s) 35)).alloc (.cells zF 35):=⟨_,rfl⟩
 have HC:Hid (Below w.heap.size w W∧Bx W w.heap.size (zA p s) 35∧Bx W (w.heap.size+1) zF 35):=by
  rw [hW];exact ⟨ba (ba (br _ _) _) _,qK w _ _⟩
 have HWS:Hid (W.heap.size=w.heap.size+1+1):=hid (by rw [hW];simp);unfold zF at hW;go_enter Tryz.func52,Tryz.ntmps52;go_wp2_with (rw [← hW];clear hW;refine w_ld w.heap.size HC.out.2.1 Tryz.underlying35 ?_)
 refine (zHJ p s W (HR.out.below HC.out.1) HS.out).mono ?_;rintro e x1 ⟨s1,rfl,ho,hb⟩;have HO1:Hid (zO W.heap.size x1.heap.size x1 p s1):=ho.toD;have HB1:Hid (Below W.heap.size W x1):=hb;clear ho hb
 go_wp2_with (first
  | (refine w_st x1.heap.size (zA p s1) (heap_alloc_new x1 _) (zJ HO1.out.1) ?_;intro y1 hg hk hz;have hb1:Below x1.heap.size x1 y1:=yB hg;have HY1:Hid (Bx3 w y1 x1.heap.size (zA p s) zF (zA p s1)):=⟨bt HC.out.1 (bt HB1.out hb1),(hb1.block _ (by have:=HB1.out.size;have:=HWS.out;omega)).trans ((HB1.out.block _ (by have:=HWS.out;omega)).trans HC.out.2.1),(hb1.block _ (by have:=HB1.out.size;have:=HWS.out;omega)).trans ((HB1.out.block _ (by have:=HWS.out;omega)).trans HC.out.2.2),hk,(by have:=HB1.out.size;have:=HWS.out;omega)⟩;have HD1:Hid (zO W.heap.size x1.heap.size y1 p s1):=HO1.out.below hb1;clear hg hk hz hb1 HO1)
  | (refine w_ld w.heap.size HY1.out.box Tryz.underlying35 ?_))
 refine (last_s p s y1 (HR.out.below HY1.out.below) hrl).mono ?_;rintro e x2 ⟨rfl,hb⟩;have HY2:Hid (Bx3 w x2 x1.heap.size (zA p s) zF (zA p s1)):=HY1.out.more hb;have HD2:Hid (zO W.heap.size x1.heap.size x2 p s1):=HD1.out.below hb;clear hb HY1 HD1;obtain ⟨u,hu⟩:∃ u,u=qS p.row:=⟨_,rfl⟩;have HU:Hid (qS p.row=u):=hu.symm;rw [← hu];clear hu;go_wp2_with fail
 refine (extends_s ps _ k u x2 (HT.out.below HY2.out.below) hpl).mono ?_;rintro e x2' ⟨rfl,hw⟩;obtain rfl:=hw.symm;clear hw
 by_cases hx:yBI (bks ps) k u=true
 ·have HE:Hid (kO (bks ps) p k=jW (bks ps) (jC p) (kB (bks ps) k u)):=(by unfold kO;rw [HU.out,if_pos hx]:kO (bks ps) p k=_);rw [hx];clear hx;go_wp2_with fail
  refine (back_s p s1 x1.heap.size W.heap.size x1.heap.size x2 HD2.out HY2.out.out (by have:=HB1.out.size;have:=HY2.out.lt;omega) HS.out).mono ?_;rintro e x3 ⟨⟨r0,rfl⟩,hg,s3,hk3,hd3⟩;have HL3:Hid (W.heap.size≤x1.heap.size∧x1.heap.size < x2.heap.size∧x2.heap.size≤x3.heap.size):=⟨HB1.out.size,HY2.out.lt,hg.size⟩;have HY3:Hid (Bx3 w x3 x1.heap.size (zA p s) zF (zA (jC p) s3)):=HY2.out.put hg hk3;have HD3:Hid (zO W.heap.size x3.heap.size x3 (jC p) s3):=hd3;clear hg hk3 hd3 HY2 HD2;go_wp2_with (refine w_ld w.heap.size HY3.out.box Tryz.underlying35 ?_)
  refine (last_s p s x3 (HR.out.below HY3.out.below) hrl).mono ?_;rintro e x4 ⟨rfl,hb⟩;rw [HU.out];have HY4:Hid (Bx3 w x4 x1.heap.size (zA p s) zF (zA (jC p) s3)):=HY3.out.more hb;have HD4:Hid (zO W.heap.size x3.heap.size x4 (jC p) s3):=HD3.out.below hb;have HL4:Hid (x3.heap.size≤x4.heap.size):=hb.size;clear hb HY3 HD3;go_wp2_with fail
  refine (rowAfter_s ps _ k u x4 (HT.out.below HY4.out.below) hpl).mono ?_;rintro e x5 ⟨v5,rfl,ho,hb⟩;obtain ⟨L,hL⟩:∃ L,L=kB (bks ps) k u:=⟨_,rfl⟩;have HLM:Hid (∀ x∈L,∃ j:Nat,x=(j:Int)∧j < ps.length):=hid (by rw [hL];intro x hx;have:=after_mem hx;rw [HBL.out] at this;exact this);have hll:(L.length:Int)≤1048576:=by have:=zDA (bks ps) k u;rw [← hL,HBL.out] at this;omega
  rw [← hL] at HE ho;have HM5:Hid (x5.ownsRow x4.heap.size 3 1 v5 L.length (zE xJ L)):=ho;have HY5:Hid (Bx3 w x5 x1.heap.size (zA p s) zF (zA (jC p) s3)):=HY4.out.more hb;have HD5:Hid (zO W.heap.size x3.heap.size x5 (jC p) s3):=HD4.out.below hb;have HL5:Hid (x4.heap.size≤x5.heap.size):=hb.size;obtain ⟨a5,c5,rfl,hr5⟩:=zW jG ho;clear hr5;clear hL ho hb HY4 HD4;obtain ⟨q,hq⟩:∃ q,q=jC p:=⟨_,rfl⟩;have HQR:Hid (q.row=p.row∧okL q.cells):=hid (by rw [hq];exact ⟨rfl,okL_back HS.out⟩);rw [← hq] at HE HY5 HD5;clear hq;go_wp2
  go_loopw [9] (fun i wr=>∃ (m:Nat) (tm:PV),m≤L.length∧i=.int .i64 (m:Int)∧Hid (Bx3 w wr x1.heap.size (zA p s) zF (zA (jW (bks ps) q (L.take m)) tm))∧Hid (zO W.heap.size wr.heap.size wr (jW (bks ps) q (L.take m)) tm)∧Hid (wr.ownsRow x4.heap.size 3 1 (.slice a5 L.length c5) L.length (zE xJ L))∧Hid (apart tm.row (.slice a5 L.length c5))∧Hid (x5.heap.size≤wr.heap.size)) (fun i _=>L.length - (intOf i).toNat)
  case atStart=>exact ⟨0,s3,Nat.zero_le _,rfl,HY5.out,thr_own _ _ (HD5.out.wide (by have:=HL4.out;have:=HL5.out;omega) (nl _)),HM5.out,yQ HD5.out.2.1.l0 (fun g e=>⟨(HM5.out.lt g e).1,(HM5.out.lt g e).2⟩) (Or.inl HL4.out),nl _⟩
  case round=>
   obtain ⟨m,tm,hm,rfl,HYm,HDm,HMm,HAm,HSm⟩:=hrel
   by_cases hlt:(m:Int) < L.length
   ·have hmn:m < L.length:=by omega
    obtain ⟨j,hj,hjn⟩:=HLM.out L[m] (List.getElem_mem hmn);have HJ:=hid hj;have q0:(0:Int)≤(m:Int):=by omega
    have j0:(0:Int)≤(j:Int):=by omega
    have j1:(j:Int) < ps.length:=by omega
    obtain ⟨a5',c5',e5,hr5⟩:=zW jG HMm.out;injection e5 with e51 _ e53
    subst e51 e53;obtain ⟨g5,o5,rfl,hg5,hc5⟩:=hr5 (by omega);have HC5:Hid (g5 < wr.heap.size∧wr.cell? ⟨g5,o5+m,none⟩=some (.int .i64 (j:Int))):=⟨hg5,by have:=hc5 m hmn 0 (by omega);rw [HJ.out] at this;simpa [xJ] using this⟩;clear hc5 hg5 hr5 hj;have HRN:Hid ((jW (bks ps) q (L.take m)).row.length=p.row.length+m):=hid (by unfold jW;simp [HQR.out.1];omega);go_wp2;refine zT (fun i=>i != 9) (fun x=>Bx x x1.heap.size (zA (jW (bks ps) q (L.take m)) tm) 35∧x.cell? ⟨g5,o5+m,none⟩=some (.int .i64 (j:Int))) (by kernel_rfl) ?_;show zX Tryz.prog _ _ _ _ _ (9+1) (Array.replicate 10 false) _ _;have hS:Bx wr.drew x1.heap.size (zA (jW (bks ps) q (L.take m)) tm) 35∧wr.drew.cell? ⟨g5,o5+m,none⟩=some (.int .i64 (j:Int)):=⟨HYm.out.out,HC5.out.2⟩;refine zD 0 31 (.pointer (some ⟨x1.heap.size,14,none⟩)) hS ?_;refine zD 1 32 tm.row hS ?_ (hy:=by intro x hx;have c:=zB hx.1 14 tm.row rfl;go_simp;try with_reducible rfl);refine zD 2 33 (.slice (some ⟨g5,o5,none⟩) L.length c5) hS ?_;refine zD 3 34 (.int .i64 (m:Int)) hS ?_;refine zD 4 35 (.pointer (some ⟨g5,o5+m,none⟩)) hS ?_;refine zD 5 36 (.int .i64 (j:Int)) hS ?_ (hy:=by intro x hx;have c:=hx.2;go_simp;try with_reducible rfl);obtain ⟨y1,hy1⟩:∃ y1,y1=wr.drew.alloc (.cells #[.int .i64 (j:Int)] 3):=⟨_,rfl⟩;have hby:Below wr.heap.size wr y1:=(by rw [hy1];exact ((Below.refl wr.heap.size wr).drew).alloc (show wr.heap.size≤wr.drew.heap.size from nl _) _:Below wr.heap.size wr y1);have HY1:Hid (Bx3 w y1 x1.heap.size (zA p s) zF (zA (jW (bks ps) q (L.take m)) tm)):=HYm.out.more hby;have HD1:Hid (zO W.heap.size wr.heap.size y1 (jW (bks ps) q (L.take m)) tm):=HDm.out.below hby;have HM1:Hid (y1.ownsRow x4.heap.size 3 1 (.slice (some ⟨g5,o5,none⟩) L.length c5) L.length (zE xJ L)):=zS HMm.out hby;have HZ1:Hid (y1.heap.size=wr.heap.size+1∧Bx y1 wr.heap.size #[.int .i64 (j:Int)] 3):=(by rw [hy1];exact ⟨by simp,heap_alloc_new wr.drew _⟩:y1.heap.size=wr.heap.size+1∧_);have hS1:Bx y1 x1.heap.size (zA (jW (bks ps) q (L.take m)) tm) 35∧y1.cell? ⟨g5,o5+m,none⟩=some (.int .i64 (j:Int)):=⟨HY1.out.out,by rw [hby.cell (by exact HC5.out.1)];exact HC5.out.2⟩;refine p_run (s:=6) (e':=some 37) rfl rfl rfl (by kernel_rfl) (.slice (some ⟨wr.heap.size,0,none⟩) 1 1) y1 ?_ ⟨fun _=>hS1,?_⟩
    ·rw [hy1];go_simp
     try with_reducible rfl
    clear hy1 hS hby;simp only [pz];refine qO (s:=7) (e':=some 38) rfl rfl rfl (.tmp 32) (.tmp 37) 29 rfl (by kernel_rfl) W.heap.size 3 ii _ 1 8 Tryz.underlying29 ihi ihz0 ihz1 ihz2 rfl (by decide) tm.row _ _ rfl HD1.out.1.row ⟨wr.heap.size,0,none⟩ 1 1 [.int .i64 (j:Int)] rfl rfl (World.news_of_block HZ1.out.2) (by intro x hx;simp at hx;subst hx;rfl) (by decide) (by rw [HRN.out];unfold maxLen;omega) (by rw [HRN.out];omega) (by have:=HL3.out;have:=HZ1.out.1;have:=HSm.out;have:=HL4.out;have:=HL5.out;omega) _ HZ1.out.1 ?_;intro g2 cap2 y2 ho2 hg2 hwh hlt2;have hne5:some g5 ≠ tm.row.ownBlock:=fun e=>HAm.out g5 e.symm rfl
    have HY2:Hid (Bx3 w y2 x1.heap.size (zA p s) zF (zA (jW (bks ps) q (L.take m)) tm)):=HY1.out.grow HD1.out.1.row (by decide) HC.out.1.size hg2;have HM2:Hid (y2.ownsRow x4.heap.size 3 1 (.slice (some ⟨g5,o5,none⟩) L.length c5) L.length (zE xJ L)):=World.ownsRow.kept HM1.out hg2 HAm.out.symm.ne;have HD2:Hid (zO W.heap.size y2.heap.size y2 { jW (bks ps) q (L.take m) with row:=(jW (bks ps) q (L.take m)).row ++ [(j:Int)] } { tm with row:=.slice (some ⟨g2,0,none⟩) ((jW (bks ps) q (L.take m)).row.length+1) cap2 }):=HD1.out.addRow hg2 ho2 (hwh.imp id (fun e=>by omega)) hlt2
    have HA2:Hid (apart (.slice (some ⟨g2,0,none⟩) ((jW (bks ps) q (L.take m)).row.length+1) cap2) (.slice (some ⟨g5,o5,none⟩) L.length c5)):=(by
     intro g e e2
     cases e
     rcases hwh with h | h
     ·exact HAm.out _ h e2
     ·have e2:=Option.some.inj e2;have:=HC5.out.1;simp at e2;omega:apart _ _)
    have HZ2:Hid (y1.heap.size≤y2.heap.size):=hg2.size;have hS2:Bx y2 x1.heap.size (zA (jW (bks ps) q (L.take m)) tm) 35∧y2.cell? ⟨g5,o5+m,none⟩=some (.int .i64 (j:Int)):=⟨HY2.out.out,by rw [hg2.cell_far ⟨g5,o5+m,none⟩ (by show g5 < y1.heap.size;have:=HC5.out.1;have:=HZ1.out.1;omega) hne5];exact hS1.2⟩;clear ho2 hg2 hwh hlt2 hne5 hS1 HY1 HD1 HM1;refine ⟨fun _=>hS2,?_⟩;simp only [pz];refine zD 8 39 (.pointer (some ⟨x1.heap.size,14,none⟩)) hS2 ?_;refine kT (s:=9) (N:=x1.heap.size) (o:=14) (u:=.slice (some ⟨g2,0,none⟩) ((jW (bks ps) q (L.take m)).row.length+1) cap2) (old:=zA (jW (bks ps) q (L.take m)) tm) (new:=zA { jW (bks ps) q (L.take m) with row:=(jW (bks ps) q (L.take m)).row ++ [(j:Int)] } { tm with row:=.slice (some ⟨g2,0,none⟩) ((jW (bks ps) q (L.take m)).row.length+1) cap2 }) rfl rfl rfl rfl (by kernel_rfl) rfl rfl hS2.1 (by kernel_rfl) (by simp [zA]) rfl rfl ?_;intro y3 hg hk;have HY3:Hid (Bx3 w y3 x1.heap.size (zA p s) zF (zA { jW (bks ps) q (L.take m) with row:=(jW (bks ps) q (L.take m)).row ++ [(j:Int)] } { tm with row:=.slice (some ⟨g2,0,none⟩) ((jW (bks ps) q (L.take m)).row.length+1) cap2 })):=HY2.out.put hg hk;have HD3:Hid (zO W.heap.size y3.heap.size y3 { jW (bks ps) q (L.take m) with row:=(jW (bks ps) q (L.take m)).row ++ [(j:Int)] } { tm with row:=.slice (some ⟨g2,0,none⟩) ((jW (bks ps) q (L.take m)).row.length+1) cap2 }):=(HD2.out.boxed hS2.1 hg).wide hg.size (nl _);have HM3:Hid (y3.ownsRow x4.heap.size 3 1 (.slice (some ⟨g5,o5,none⟩) L.length c5) L.length (zE xJ L)):=World.ownsRow.kept HM2.out hg (zH HM2.out hS2.1 (by decide));have HC3:Hid (g5 < y3.heap.size∧y3.cell? ⟨g5,o5+m,none⟩=some (.int .i64 (j:Int))):=⟨by have:=HC5.out.1;have:=HZ1.out.1;have:=HZ2.out;have:=hg.size;omega,by rw [hg.cell_far ⟨g5,o5+m,none⟩ (by show g5 < y2.heap.size;have:=HC5.out.1;have:=HZ1.out.1;have:=HZ2.out;omega) (fun e=>(zH HM2.out hS2.1 (by decide)).elim (fun h=>by cases h) (fun h=>h e))];exact hS2.2⟩;have HS3:Hid (x5.heap.size≤y3.heap.size):=hid (by have:=HSm.out;have:=HZ1.out.1;have:=HZ2.out;have:=hg.size;omega);clear hg hk hS2 HY2 HD2 HM2 HYm HDm HMm HAm HSm HC5 HZ1 HZ2;refine ⟨fun h=>(by cases h),?_⟩;refine zK (by kernel_rfl) ?_ _;obtain ⟨q1,hq1⟩:∃ q1:PE,q1={ jW (bks ps) q (L.take m) with row:=(jW (bks ps) q (L.take m)).row ++ [(j:Int)] }:=⟨_,rfl⟩;obtain ⟨t1,ht1⟩:∃ t1:PV,t1={ tm with row:=.slice (some ⟨g2,0,none⟩) ((jW (bks ps) q (L.take m)).row.length+1) cap2 }:=⟨_,rfl⟩;have HA3:Hid (apart t1.row (.slice (some ⟨g5,o5,none⟩) L.length c5)):=(by rw [ht1];exact HA2.out:apart t1.row _);have HQ1:Hid ({ q1 with cells:=yD q1.cells ps[j].1.2.1 }=jW (bks ps) q (L.take (m+1))∧okL q1.cells):=(by rw [hq1];exact ⟨thr_step hmn HJ.out hjn,rowC_ok HK.out _ _ HQR.out.2⟩:_∧okL q1.cells);rw [← hq1,← ht1] at HY3 HD3;clear hq1 ht1 HA2 HRN;obtain ⟨at1,ct1,et,htr⟩:=(HT.out.below HY3.out.below).1;injection et with et1 _ et3
    subst et1 et3;obtain ⟨gt,ot,rfl,hgt,hct⟩:=htr (by omega);obtain ⟨cv,hcv⟩:∃ cv,cv=ps[j].2:=⟨_,rfl⟩;have HCV:Hid (yM y3 cv 3 kL ps[j].1.2.1∧okB ps[j].1):=hid (by rw [hcv];exact ⟨(HT.out.below HY3.out.below).2 ps[j] (List.getElem_mem hjn),okT_at HK.out hjn⟩);have HTC:Hid (gt < y3.heap.size∧y3.cell? ⟨gt,ot+j * 7+2,none⟩=some cv):=⟨hgt,by rw [hcv];exact hct j hjn 2 (by omega)⟩;clear hgt hct hcv htr;go_wp2;refine zT (fun i=>decide (i < 11)) (fun x=>Bx x x1.heap.size (zA q1 t1) 35∧x.cell? ⟨g5,o5+m,none⟩=some (.int .i64 (j:Int))∧x.cell? ⟨gt,ot+j * 7+2,none⟩=some cv) (by kernel_rfl) ?_;show zX Tryz.prog _ _ _ _ _ (15+1) (Array.replicate 16 false) _ _;have hS:Bx y3.drew x1.heap.size (zA q1 t1) 35∧y3.drew.cell? ⟨g5,o5+m,none⟩=some (.int .i64 (j:Int))∧y3.drew.cell? ⟨gt,ot+j * 7+2,none⟩=some cv:=⟨HY3.out.out,HC3.out.2,HTC.out.2⟩;refine zD 0 41 (.pointer (some ⟨x1.heap.size,15,none⟩)) hS ?_;refine zD 1 42 t1.cells hS ?_ (hy:=by intro x hx;have c:=zB hx.1 15 t1.cells rfl;go_simp;try with_reducible rfl);refine zD 2 43 (.slice (some ⟨gt,ot,none⟩) ps.length ct0) hS ?_;refine zD 3 44 (.slice (some ⟨g5,o5,none⟩) L.length c5) hS ?_;refine zD 4 45 (.int .i64 (m:Int)) hS ?_;refine zD 5 46 (.pointer (some ⟨g5,o5+m,none⟩)) hS ?_;refine zD 6 47 (.int .i64 (j:Int)) hS ?_ (hy:=by intro x hx;have c:=hx.2.1;go_simp;try with_reducible rfl);refine zD 7 48 (.pointer (some ⟨gt,ot+j * 7,none⟩)) hS ?_;refine zD 8 49 (.pointer (some ⟨gt,ot+j * 7+2,none⟩)) hS ?_;refine zD 9 50 cv hS ?_ (hy:=by intro x hx;have c:=hx.2.2;go_simp;try with_reducible rfl);refine kJ 10 51 96 #[t1.cells,cv] ((doneAll_s q1.cells ps[j].1.2.1 t1.cells cv y3.drew (HD3.out.reads.cells.below (br _ _).drew) (HCV.out.1.below (br _ _).drew) HQ1.out.2 HCV.out.2.1 HCV.out.2.2).mono ?_);rintro e y4 ⟨w1,w2,rfl,ho,-,hb0⟩;have hb:Below y3.heap.size y3 y4:=((br _ _).drew).trans hb0;have HO4:Hid (y4.ownsRow y3.heap.size 108 2 w1 (yD q1.cells ps[j].1.2.1).length (kM (yD q1.cells ps[j].1.2.1))):=ho;have HY4:Hid (Bx3 w y4 x1.heap.size (zA p s) zF (zA q1 t1)):=HY3.out.more hb;have HD4:Hid (zO W.heap.size y3.heap.size y4 q1 t1):=HD3.out.below hb;have HM4:Hid (y4.ownsRow x4.heap.size 3 1 (.slice (some ⟨g5,o5,none⟩) L.length c5) L.length (zE xJ L)):=zS HM3.out hb;have HZ4:Hid (y3.heap.size≤y4.heap.size):=hb.size;have hS4:Bx y4 x1.heap.size (zA q1 t1) 35∧y4.cell? ⟨g5,o5+m,none⟩=some (.int .i64 (j:Int))∧y4.cell? ⟨gt,ot+j * 7+2,none⟩=some cv:=⟨HY4.out.out,by rw [hb.cell (by exact HC3.out.1)];exact HC3.out.2,by rw [hb.cell (by exact HTC.out.1)];exact HTC.out.2⟩;clear ho hb hb0 hS HY3 HD3 HM3 HC3 HTC HCV;refine ⟨_,rfl,fun _=>hS4,?_⟩;simp only [pz];refine xM (j:=11) (e':=some 40) (v:=.tuple #[w1,w2]) rfl rfl (by kernel_rfl) (by kernel_rfl) (by kernel_rfl) (by rfl) (fun _ _ _ h=>h) (Or.inl ⟨by rfl,?_⟩) ?_
    ·intro x hx;go_simp
     try with_reducible rfl
    simp only [pz];refine xM (j:=12) (e':=some 52) (v:=w1) rfl rfl (by kernel_rfl) (by kernel_rfl) (by kernel_rfl) (by rfl) (fun _ _ _ h=>h) (Or.inl ⟨by rfl,?_⟩) ?_
    ·intro x hx;go_simp
     try with_reducible rfl
    simp only [pz];refine xM (j:=13) (e':=some 53) (v:=w2) rfl rfl (by kernel_rfl) (by kernel_rfl) (by kernel_rfl) (by rfl) (fun _ _ _ h=>h) (Or.inl ⟨by rfl,?_⟩) ?_
    ·intro x hx;go_simp
     try with_reducible rfl
    simp only [pz];refine xM (j:=14) (e':=some 54) (v:=.pointer (some ⟨x1.heap.size,15,none⟩)) rfl rfl (by kernel_rfl) (by kernel_rfl) (by kernel_rfl) (by rfl) (fun _ _ _ h=>h) (Or.inl ⟨by rfl,?_⟩) ?_
    ·intro x hx;go_simp
     try with_reducible rfl
    simp only [pz];refine kT (s:=15) (N:=x1.heap.size) (o:=15) (u:=w1) (old:=zA q1 t1) (new:=zA { q1 with cells:=yD q1.cells ps[j].1.2.1 } { t1 with cells:=w1 }) rfl rfl rfl rfl (by kernel_rfl) rfl rfl hS4.1 (by kernel_rfl) (by simp [zA]) (zDH HO4.out) rfl ?_;intro y5 hg hk;have HY5:Hid (Bx3 w y5 x1.heap.size (zA p s) zF (zA { q1 with cells:=yD q1.cells ps[j].1.2.1 } { t1 with cells:=w1 })):=HY4.out.put hg hk;have HD5:Hid (zO W.heap.size y5.heap.size y5 { q1 with cells:=yD q1.cells ps[j].1.2.1 } { t1 with cells:=w1 }):=(HD4.out.boxed hS4.1 hg).setCells (Nat.le_trans HZ4.out hg.size) (nl _) (zN (World.ownsRow.kept HO4.out hg (zH HO4.out hS4.1 (by decide))) (by have:=HL3.out;have:=HL4.out;have:=HL5.out;have:=HS3.out;omega)) (fun g e=>Nat.lt_of_lt_of_le (HO4.out.lt g e).2 hg.size) (fun g e=>Or.inr (HO4.out.lt g e).1);have HM5:Hid (y5.ownsRow x4.heap.size 3 1 (.slice (some ⟨g5,o5,none⟩) L.length c5) L.length (zE xJ L)):=World.ownsRow.kept HM4.out hg (zH HM4.out hS4.1 (by decide));have HZ5:Hid (x5.heap.size≤y5.heap.size):=Nat.le_trans HS3.out (Nat.le_trans HZ4.out hg.size);rw [HQ1.out.1] at HY5 HD5;clear hg hk hS4 HY4 HD4 HM4 HO4;refine ⟨fun h=>absurd h (by decide),?_⟩;refine zK (by kernel_rfl) ?_ _;go_wp2
    go_roundw
    case rel=>exact ⟨m+1,{ t1 with cells:=w1 },by omega,by go_num,HY5.out,HD5.out,HM5.out,HA3.out,HZ5.out⟩
    case measure=>simp [intOf];omega
   ·have hml:m=L.length:=by omega
    subst hml;rw [List.take_length] at HYm HDm;obtain ⟨QQ,hQQ⟩:∃ QQ,QQ=jW (bks ps) q L:=⟨_,rfl⟩;rw [← hQQ] at HYm HDm HE;clear hQQ
    go_wp2_with (first
     | (refine w_ld x1.heap.size HYm.out.out Tryz.underlying35 ?_)
     | (refine w_st (w.heap.size+1) (zA QQ tm) HYm.out.zero (zJ HDm.out.1) ?_;intro z hg hk hz;have HBz:Hid (Below w.heap.size w z):=HYm.out.below.grown hg HYm.out.below.size (fun k hk=>by cases hk;omega);have HKz:Hid (Bx z (w.heap.size+1) (zA QQ tm) 35):=hk;have HFz:Hid (zO W.heap.size z.heap.size z QQ tm):=(HDm.out.boxed HYm.out.zero hg).wide hg.size (nl _);clear hg hk hz HYm HDm))
    refine bodyPost_ret (v:=.agg (zA QQ tm)) (results_cell_row Tryz.results52 _ _ (w.heap.size+1) 35 _ (0,0) _ rfl HKz.out Tryz.underlying35 rfl (by kernel_rfl)) rfl ?_;rw [HE.out];exact ⟨_,rfl,HFz.out.low HC.out.1.size,HBz.out⟩
 ·have hx:yBI (bks ps) k u=false:=by simpa using hx
  have HE:Hid (kO (bks ps) p k=p):=hid (by unfold kO;rw [HU.out,if_neg (by rw [hx];decide)]);rw [hx];clear hx
  go_wp2_with (first
   | (refine w_ld x1.heap.size HY2.out.out Tryz.underlying35 ?_)
   | (refine w_st (w.heap.size+1) (zA p s1) HY2.out.zero (zJ HD2.out.1) ?_;intro z hg hk hz;have HBz:Hid (Below w.heap.size w z):=HY2.out.below.grown hg HY2.out.below.size (fun k hk=>by cases hk;omega);have HKz:Hid (Bx z (w.heap.size+1) (zA p s1) 35):=hk;have HFz:Hid (zO W.heap.size x1.heap.size z p s1):=HD2.out.boxed HY2.out.zero hg;have HSz:Hid (x1.heap.size≤z.heap.size):=Nat.le_trans (Nat.le_of_lt HY2.out.lt) hg.size;clear hg hk hz HY2 HD2))
  refine bodyPost_ret (v:=.agg (zA p s1)) (results_cell_row Tryz.results52 _ _ (w.heap.size+1) 35 _ (0,0) _ rfl HKz.out Tryz.underlying35 rfl (by kernel_rfl)) rfl ?_;rw [HE.out];exact ⟨_,rfl,(HFz.out.wide HSz.out (nl _)).low HC.out.1.size,HBz.out⟩
end Go.Proofs.YtdopefimjabigadGreat
