/-
  A text of ours: ChainLS.
-/
import Derived.Test.YtjdddcldbfhbiacGreatRK1
import Derived.Test.YtjdddcldbfhbiacGreatRK6
import Derived.Test.YtjdddcldbfhbiacGreatREarS
import Derived.Test.YtjdddcldbfhbiacGreatRK3
import Derived.Test.YtjdddcldbfhbiacGreatRK4
set_option maxRecDepth 100000
set_option maxHeartbeats 32000000
namespace Go.Proofs.YtjdddcldbfhbiacGreatR
open Go.RowKit Num
theorem Bx3.lo {w y:World} {N:Nat} {A Z O:Array Value} (h:Bx3 w y N A Z O):w.heap.size≤y.heap.size:=h.below.size
theorem zII (ps:TL) (v:Value) (p:PE) (s:PV) (k:Int) (w:World) (hT:jB w v ps) (hk:okT (bks ps)) (hR:jS w p s) (hs:yC p) (hl:jZ p+wtB (bks ps)≤1048576) :
  Calls Tryz.prog 212 #[v,yZ p s,.int .i64 k] w fun e w'=>∃ s',e=.returned (yZ (jN (bks ps) p k) s')∧zO w.heap.size w'.heap.size w' (jN (bks ps) p k) s'∧Below w.heap.size w w':=by
 have HT:=hid hT
 have HK:=hid hk
 have HR:=hid hR
 have HS:=hid hs
 have HLW:=hid hl
 have hpl:(ps.length:Int)≤1048576:=by have:=hk.1;rw [yO] at this;exact this
 have HBL:Hid ((bks ps).length=ps.length):=yO ps
 obtain ⟨at0,ct0,rfl,-⟩:=HT.out.1
 clear hT hk hR hs hl
 obtain ⟨W,hW⟩:∃ W,W=(w.alloc (.cells (zA p s) 35)).alloc (.cells zF 35):=⟨_,rfl⟩
 have HC:Hid (Below w.heap.size w W∧Bx W w.heap.size (zA p s) 35∧Bx W (w.heap.size+1) zF 35):=by
  rw [hW];exact ⟨ba (ba (br _ _) _) _,qK w _ _⟩
 have HWS:Hid (W.heap.size=w.heap.size+1+1):=hid (by rw [hW];simp)
 unfold zF at hW
 go_enter Tryz.func212,Tryz.ntmps212
 go_wp2_with (rw [← hW];clear hW;refine wpList_load_row rfl _ _ rfl w.heap.size rfl 35 _ (0,0) _ HC.out.2.1 Tryz.underlying35 rfl (by kernel_rfl) ?_)
 refine (zHJ p s W (HR.out.below HC.out.1) HS.out).mono ?_
 rintro e x1 ⟨s1,rfl,ho,hb⟩
 have HO1:Hid (zO W.heap.size x1.heap.size x1 p s1):=ho.toD
 have HB1:Hid (Below W.heap.size W x1):=hb
 clear ho hb
 go_wp2_with (refine zC rfl _ _ _ rfl x1.heap.size (zA p s1) rfl rfl 35 zF (heap_alloc_new x1 _) (by kernel_rfl) rfl (zJ HO1.out.1) ?_;intro y1 hg hk hz;have hb1:Below x1.heap.size x1 y1:=yB hg;have HY1:Hid (Bx3 w y1 x1.heap.size (zA p s) zF (zA p s1)):=⟨bt HC.out.1 (bt HB1.out hb1),(hb1.block _ (by have:=HB1.out.size;have:=HWS.out;omega)).trans ((HB1.out.block _ (by have:=HWS.out;omega)).trans HC.out.2.1),(hb1.block _ (by have:=HB1.out.size;have:=HWS.out;omega)).trans ((HB1.out.block _ (by have:=HWS.out;omega)).trans HC.out.2.2),hk,(by have:=HB1.out.size;have:=HWS.out;omega)⟩;have HD1:Hid (zO w.heap.size y1.heap.size y1 p s1):=((HO1.out.below hb1).wide (Nat.le_of_lt (gl hk)) (nl _)).low HC.out.1.size;clear hg hk hz hb1 HO1 HB1)
 clear HC HWS
 refine (three_s ps _ k y1 (HT.out.below HY1.out.below) hpl).mono ?_
 rintro e x2 ⟨rfl,hw⟩
 obtain rfl:=hw.symm
 clear hw
 cases h3:zGG (bks ps) k with
 | none=>
  have HE:Hid (jN (bks ps) p k=p):=hid (by unfold jN;rw [h3])
  clear h3
  go_wp2_with (first
   | (refine wpList_load_row rfl _ _ rfl x1.heap.size rfl 35 _ (0,0) _ HY1.out.out Tryz.underlying35 rfl (by kernel_rfl) ?_)
   | (refine zC rfl _ _ _ rfl (w.heap.size+1) (zA p s1) rfl rfl 35 zF HY1.out.zero (by kernel_rfl) rfl (zJ HD1.out.1) ?_;intro z hg hk hz;have HBz:Hid (Below w.heap.size w z):=HY1.out.below.grown hg HY1.out.below.size (fun k hk=>by cases hk;omega);have HKz:Hid (Bx z (w.heap.size+1) (zA p s1) 35):=hk;have HFz:Hid (zO w.heap.size z.heap.size z p s1):=(HD1.out.boxed HY1.out.zero hg).wide hg.size (nl _);clear hg hk hz HY1 HD1))
  refine bodyPost_ret (v:=.agg (zA p s1)) (results_cell_row Tryz.results212 _ _ (w.heap.size+1) 35 _ (0,0) _ rfl HKz.out Tryz.underlying35 rfl (by kernel_rfl)) rfl ?_
  rw [HE.out]
  exact ⟨_,rfl,HFz.out,HBz.out⟩
 | some bcd=>
  obtain ⟨b,c,d⟩:=bcd
  have HE:Hid (jN (bks ps) p k=yDH (bks ps) (zGC (bks ps) (yDI (bks ps) p k b) k) b c):=(by unfold jN;rw [h3]:jN (bks ps) p k=_)
  have hin:=threeT_in h3
  rw [HBL.out] at hin
  have HI3:=hid hin
  clear h3 hin
  obtain ⟨kn,rfl⟩:∃ kn:Nat,k=(kn:Int):=⟨k.toNat,by have:=HI3.out.1;omega⟩
  obtain ⟨bn,rfl⟩:∃ bn:Nat,b=(bn:Int):=⟨b.toNat,by have:=HI3.out.2.1;omega⟩
  have hknn:kn < ps.length:=by have:=HI3.out.1;omega
  have hbnn:bn < ps.length:=by have:=HI3.out.2.1;omega
  have k0:(0:Int)≤(kn:Int):=by omega
  have k1:(kn:Int) < ps.length:=by omega
  have b0:(0:Int)≤(bn:Int):=by omega
  have b1:(bn:Int) < ps.length:=by omega
  obtain ⟨at1,ct1,et,htr⟩:=HT.out.1
  injection et with et1 _ et3
  subst et1 et3
  obtain ⟨gt,ot,rfl,hgt,hct⟩:=htr (by omega)
  obtain ⟨jk,hjk⟩:∃ jk:QC,jk=ps[kn].1.2.2:=⟨_,rfl⟩
  obtain ⟨jb,hjb⟩:∃ jb:QC,jb=ps[bn].1.2.2:=⟨_,rfl⟩
  have HJ1:Hid (∀ x:World,Below w.heap.size w x→x.cell? ⟨gt,ot+kn * 7+3,none⟩=some (.int .i64 jk.1)∧x.cell? ⟨gt,ot+kn * 7+4,none⟩=some (.int .i64 jk.2.1)∧x.cell? ⟨gt,ot+kn * 7+5,none⟩=some (.int .i64 jk.2.2.1)∧x.cell? ⟨gt,ot+kn * 7+6,none⟩=some (.int .i64 jk.2.2.2)):=fun x hb=>by
   refine ⟨?_,?_,?_,?_⟩ <;> rw [hb.cell (by exact hgt),hjk]
   ·exact hct kn hknn 3 (by omega)
   ·exact hct kn hknn 4 (by omega)
   ·exact hct kn hknn 5 (by omega)
   ·exact hct kn hknn 6 (by omega)
  have HJ2:Hid (∀ x:World,Below w.heap.size w x→x.cell? ⟨gt,ot+bn * 7+3,none⟩=some (.int .i64 jb.1)∧x.cell? ⟨gt,ot+bn * 7+4,none⟩=some (.int .i64 jb.2.1)∧x.cell? ⟨gt,ot+bn * 7+5,none⟩=some (.int .i64 jb.2.2.1)∧x.cell? ⟨gt,ot+bn * 7+6,none⟩=some (.int .i64 jb.2.2.2)):=fun x hb=>by
   refine ⟨?_,?_,?_,?_⟩ <;> rw [hb.cell (by exact hgt),hjb]
   ·exact hct bn hbnn 3 (by omega)
   ·exact hct bn hbnn 4 (by omega)
   ·exact hct bn hbnn 5 (by omega)
   ·exact hct bn hbnn 6 (by omega)
  obtain ⟨q1,hq1⟩:∃ q1:PE,q1={ p with high:=yF p.high jk }:=⟨_,rfl⟩
  obtain ⟨q2,hq2⟩:∃ q2:PE,q2={ q1 with lock:=yF q1.lock jb }:=⟨_,rfl⟩
  have HQ2:Hid (yDI (bks ps) p (kn:Int) (bn:Int)=q2∧yC q2∧yC (zGC (bks ps) q2 (kn:Int))):=(by
   have e1:zIF (bks ps) (kn:Int)=jk:=by rw [hjk];unfold zIF;simp [bks,hknn]
   have e2:zIF (bks ps) (bn:Int)=jb:=by rw [hjb];unfold zIF;simp [bks,hbnn]
   have e3:yDI (bks ps) p (kn:Int) (bn:Int)=q2:=by unfold yDI;rw [e1,e2,hq2,hq1]
   have e4:yC q2:=by rw [← e3];exact learnQ_small HS.out
   refine ⟨e3,e4,learnR_small e4 HK.out ?_⟩
   rw [← e3];exact HLW.out:_∧_∧_)
  rw [HQ2.out.1] at HE
  clear hjk hjb hgt hct htr
  go_wp2
  refine zT (fun i=>decide (i < 9)) (fun x=>Bx x x1.heap.size (zA p s1) 35∧x.cell? ⟨gt,ot+kn * 7+3,none⟩=some (.int .i64 jk.1)∧x.cell? ⟨gt,ot+kn * 7+4,none⟩=some (.int .i64 jk.2.1)∧x.cell? ⟨gt,ot+kn * 7+5,none⟩=some (.int .i64 jk.2.2.1)∧x.cell? ⟨gt,ot+kn * 7+6,none⟩=some (.int .i64 jk.2.2.2)) (by kernel_rfl) ?_
  show zX Tryz.prog _ _ _ _ _ (9+1) (Array.replicate 10 false) _ _
  have hS:Bx y1.drew x1.heap.size (zA p s1) 35∧y1.drew.cell? ⟨gt,ot+kn * 7+3,none⟩=some (.int .i64 jk.1)∧y1.drew.cell? ⟨gt,ot+kn * 7+4,none⟩=some (.int .i64 jk.2.1)∧y1.drew.cell? ⟨gt,ot+kn * 7+5,none⟩=some (.int .i64 jk.2.2.1)∧y1.drew.cell? ⟨gt,ot+kn * 7+6,none⟩=some (.int .i64 jk.2.2.2):=⟨HY1.out.out,HJ1.out y1.drew (HY1.out.below.trans (br _ _).drew)⟩
  refine zD 0 27 (.pointer (some ⟨x1.heap.size,2,none⟩)) hS ?_
  refine zD 1 28 (.agg #[.int .i64 p.high.1,.int .i64 p.high.2.1,.int .i64 p.high.2.2.1,.int .i64 p.high.2.2.2]) hS ?_ (hy:=by intro x hx;have d0:=zB hx.1 2 (.int .i64 p.high.1) rfl;have d1:=zB hx.1 3 (.int .i64 p.high.2.1) rfl;have d2:=zB hx.1 4 (.int .i64 p.high.2.2.1) rfl;have d3:=zB hx.1 5 (.int .i64 p.high.2.2.2) rfl;go_simp;try with_reducible rfl)
  refine zD 2 29 (.slice (some ⟨gt,ot,none⟩) ps.length ct0) hS ?_
  refine zD 3 30 (.int .i64 (kn:Int)) hS ?_
  refine zD 4 31 (.pointer (some ⟨gt,ot+kn * 7,none⟩)) hS ?_
  refine zD 5 32 (.pointer (some ⟨gt,ot+kn * 7+3,none⟩)) hS ?_
  refine zD 6 33 (.agg #[.int .i64 jk.1,.int .i64 jk.2.1,.int .i64 jk.2.2.1,.int .i64 jk.2.2.2]) hS ?_ (hy:=by intro x hx;have d0:=hx.2.1;have d1:=hx.2.2.1;have d2:=hx.2.2.2.1;have d3:=hx.2.2.2.2;go_simp;try with_reducible rfl)
  refine kJ 7 34 159 #[.agg #[.int .i64 p.high.1,.int .i64 p.high.2.1,.int .i64 p.high.2.2.1,.int .i64 p.high.2.2.2],.agg #[.int .i64 jk.1,.int .i64 jk.2.1,.int .i64 jk.2.2.1,.int .i64 jk.2.2.2]] ((yAF (p.high) jk y1.drew).mono ?_)
  rintro e x2 ⟨rfl,hb0⟩
  have hb:Below y1.heap.size y1 x2:=((br _ _).drew).trans hb0
  have HX1:Hid (Bx3 w x2 x1.heap.size (zA p s) zF (zA p s1)):=HY1.out.more hb
  have HE1:Hid (zO w.heap.size x2.heap.size x2 p s1):=(HD1.out.below hb).wide hb.size (nl _)
  have hS1:Bx x2 x1.heap.size (zA p s1) 35∧x2.cell? ⟨gt,ot+kn * 7+3,none⟩=some (.int .i64 jk.1)∧x2.cell? ⟨gt,ot+kn * 7+4,none⟩=some (.int .i64 jk.2.1)∧x2.cell? ⟨gt,ot+kn * 7+5,none⟩=some (.int .i64 jk.2.2.1)∧x2.cell? ⟨gt,ot+kn * 7+6,none⟩=some (.int .i64 jk.2.2.2):=⟨HX1.out.out,HJ1.out x2 HX1.out.below⟩
  clear hb hb0 hS HY1 HD1
  refine ⟨_,rfl,fun _=>hS1,?_⟩
  simp only [pz]
  refine zD 8 35 (.pointer (some ⟨x1.heap.size,2,none⟩)) hS1 ?_
  refine xW (s:=9) (N:=x1.heap.size) (o:=2) (cells:=#[.int .i64 (yF (p.high) jk).1,.int .i64 (yF (p.high) jk).2.1,.int .i64 (yF (p.high) jk).2.2.1,.int .i64 (yF (p.high) jk).2.2.2]) (old:=zA p s1) (new:=zA q1 s1) rfl rfl rfl rfl (by kernel_rfl) rfl rfl HX1.out.out (by kernel_rfl) (by simp [zA]) (by simp [Value.oneCell']) (by rw [hq1];rfl) ?_
  intro y2 hg hk
  have HY2:Hid (Bx3 w y2 x1.heap.size (zA p s) zF (zA q1 s1)):=HX1.out.put hg hk
  have HD2:Hid (zO w.heap.size y2.heap.size y2 q1 s1):=hid (by rw [hq1];exact ((HE1.out.boxed HX1.out.out hg).wide hg.size (nl _)).other rfl rfl rfl rfl rfl rfl)
  clear hg hk hS1 HX1 HE1
  refine ⟨fun h=>absurd h (by decide),?_⟩
  refine zK (by kernel_rfl) ?_ _
  go_wp2
  refine zT (fun i=>decide (i < 9)) (fun x=>Bx x x1.heap.size (zA q1 s1) 35∧x.cell? ⟨gt,ot+bn * 7+3,none⟩=some (.int .i64 jb.1)∧x.cell? ⟨gt,ot+bn * 7+4,none⟩=some (.int .i64 jb.2.1)∧x.cell? ⟨gt,ot+bn * 7+5,none⟩=some (.int .i64 jb.2.2.1)∧x.cell? ⟨gt,ot+bn * 7+6,none⟩=some (.int .i64 jb.2.2.2)) (by kernel_rfl) ?_
  show zX Tryz.prog _ _ _ _ _ (9+1) (Array.replicate 10 false) _ _
  have hS:Bx y2.drew x1.heap.size (zA q1 s1) 35∧y2.drew.cell? ⟨gt,ot+bn * 7+3,none⟩=some (.int .i64 jb.1)∧y2.drew.cell? ⟨gt,ot+bn * 7+4,none⟩=some (.int .i64 jb.2.1)∧y2.drew.cell? ⟨gt,ot+bn * 7+5,none⟩=some (.int .i64 jb.2.2.1)∧y2.drew.cell? ⟨gt,ot+bn * 7+6,none⟩=some (.int .i64 jb.2.2.2):=⟨HY2.out.out,HJ2.out y2.drew (HY2.out.below.trans (br _ _).drew)⟩
  refine zD 0 36 (.pointer (some ⟨x1.heap.size,6,none⟩)) hS ?_
  refine zD 1 37 (.agg #[.int .i64 q1.lock.1,.int .i64 q1.lock.2.1,.int .i64 q1.lock.2.2.1,.int .i64 q1.lock.2.2.2]) hS ?_ (hy:=by intro x hx;have d0:=zB hx.1 6 (.int .i64 q1.lock.1) rfl;have d1:=zB hx.1 7 (.int .i64 q1.lock.2.1) rfl;have d2:=zB hx.1 8 (.int .i64 q1.lock.2.2.1) rfl;have d3:=zB hx.1 9 (.int .i64 q1.lock.2.2.2) rfl;go_simp;try with_reducible rfl)
  refine zD 2 38 (.slice (some ⟨gt,ot,none⟩) ps.length ct0) hS ?_
  refine zD 3 39 (.int .i64 (bn:Int)) hS ?_
  refine zD 4 40 (.pointer (some ⟨gt,ot+bn * 7,none⟩)) hS ?_
  refine zD 5 41 (.pointer (some ⟨gt,ot+bn * 7+3,none⟩)) hS ?_
  refine zD 6 42 (.agg #[.int .i64 jb.1,.int .i64 jb.2.1,.int .i64 jb.2.2.1,.int .i64 jb.2.2.2]) hS ?_ (hy:=by intro x hx;have d0:=hx.2.1;have d1:=hx.2.2.1;have d2:=hx.2.2.2.1;have d3:=hx.2.2.2.2;go_simp;try with_reducible rfl)
  refine kJ 7 43 159 #[.agg #[.int .i64 q1.lock.1,.int .i64 q1.lock.2.1,.int .i64 q1.lock.2.2.1,.int .i64 q1.lock.2.2.2],.agg #[.int .i64 jb.1,.int .i64 jb.2.1,.int .i64 jb.2.2.1,.int .i64 jb.2.2.2]] ((yAF (q1.lock) jb y2.drew).mono ?_)
  rintro e x3 ⟨rfl,hb0⟩
  have hb:Below y2.heap.size y2 x3:=((br _ _).drew).trans hb0
  have HX2:Hid (Bx3 w x3 x1.heap.size (zA p s) zF (zA q1 s1)):=HY2.out.more hb
  have HE2:Hid (zO w.heap.size x3.heap.size x3 q1 s1):=(HD2.out.below hb).wide hb.size (nl _)
  have hS1:Bx x3 x1.heap.size (zA q1 s1) 35∧x3.cell? ⟨gt,ot+bn * 7+3,none⟩=some (.int .i64 jb.1)∧x3.cell? ⟨gt,ot+bn * 7+4,none⟩=some (.int .i64 jb.2.1)∧x3.cell? ⟨gt,ot+bn * 7+5,none⟩=some (.int .i64 jb.2.2.1)∧x3.cell? ⟨gt,ot+bn * 7+6,none⟩=some (.int .i64 jb.2.2.2):=⟨HX2.out.out,HJ2.out x3 HX2.out.below⟩
  clear hb hb0 hS HY2 HD2
  refine ⟨_,rfl,fun _=>hS1,?_⟩
  simp only [pz]
  refine zD 8 44 (.pointer (some ⟨x1.heap.size,6,none⟩)) hS1 ?_
  refine xW (s:=9) (N:=x1.heap.size) (o:=6) (cells:=#[.int .i64 (yF (q1.lock) jb).1,.int .i64 (yF (q1.lock) jb).2.1,.int .i64 (yF (q1.lock) jb).2.2.1,.int .i64 (yF (q1.lock) jb).2.2.2]) (old:=zA q1 s1) (new:=zA q2 s1) rfl rfl rfl rfl (by kernel_rfl) rfl rfl HX2.out.out (by kernel_rfl) (by simp [zA]) (by simp [Value.oneCell']) (by rw [hq2];rfl) ?_
  intro y3 hg hk
  have HY3:Hid (Bx3 w y3 x1.heap.size (zA p s) zF (zA q2 s1)):=HX2.out.put hg hk
  have HD3:Hid (zO w.heap.size y3.heap.size y3 q2 s1):=hid (by rw [hq2];exact ((HE2.out.boxed HX2.out.out hg).wide hg.size (nl _)).other rfl rfl rfl rfl rfl rfl)
  clear hg hk hS1 HX2 HE2
  refine ⟨fun h=>absurd h (by decide),?_⟩
  refine zK (by kernel_rfl) ?_ _
  clear hq1 hq2 HJ1 HJ2
  go_wp2_with fail
  refine (threeRow_s ps _ (kn:Int) y3 (HT.out.below HY3.out.below) hpl).mono ?_
  rintro e x4 ⟨rfl,hb⟩
  have HY4:Hid (Bx3 w x4 x1.heap.size (zA p s) zF (zA q2 s1)):=HY3.out.more hb
  have HD4:Hid (zO w.heap.size x4.heap.size x4 q2 s1):=(HD3.out.below hb).wide hb.size (nl _)
  clear hb HY3 HD3
  cases hr:zCH (bks ps) (kn:Int) with
  | none=>
   have HR3:Hid (zGC (bks ps) q2 (kn:Int)=q2):=hid (by unfold zGC;rw [hr])
   rw [HR3.out] at HE HQ2
   unfold rowAns
   clear hr
   go_wp2_with fail
   refine (next_s ps _ (bn:Int) c x4 (HT.out.below HY4.out.below) HI3.out.2.1 HI3.out.2.2.1).mono ?_
   rintro e x6 ⟨rfl,hb⟩
   have HY6:Hid (Bx3 w x6 x1.heap.size (zA p s) zF (zA q2 s1)):=HY4.out.more hb
   have HD6:Hid (zO w.heap.size x6.heap.size x6 q2 s1):=(HD4.out.below hb).wide hb.size (nl _)
   clear hb HY4 HD4
   by_cases hn:zFB (bks ps) (bn:Int) c=true
   ·obtain ⟨q6,hq6⟩:∃ q6,q6=yDF (bks ps) q2 c:=⟨_,rfl⟩
    have HE:Hid (jN (bks ps) p (kn:Int)=q6):=hid (by rw [HE.out];unfold yDH;rw [if_pos hn,hq6])
    rw [hn]
    clear hn
    go_wp2_with (refine wpList_load_row rfl _ _ rfl x1.heap.size rfl 35 _ (0,0) _ HY6.out.out Tryz.underlying35 rfl (by kernel_rfl) ?_)
    refine (tooEarly_s ps _ q2 s1 c x6 (HT.out.below HY6.out.below) HK.out HD6.out.reads HQ2.out.2.1).mono ?_
    rw [← hq6]
    rintro e x7 ⟨s7,rfl,ho,hb⟩
    have HO7:Hid (zO w.heap.size x7.heap.size x7 q6 s7):=ho.low HY6.out.below.size
    have HX7:Hid (Bx3 w x7 x1.heap.size (zA p s) zF (zA q2 s1)):=HY6.out.more hb
    clear ho hb HY6 HD6 hq6
    go_wp2_with (first
     | (refine zC rfl _ _ _ rfl x1.heap.size (zA q6 s7) rfl rfl 35 (zA q2 s1) HX7.out.out (by kernel_rfl) rfl (zJ HO7.out.1) ?_;intro y7 hg hk hz;have HY7:Hid (Bx3 w y7 x1.heap.size (zA p s) zF (zA q6 s7)):=HX7.out.put hg hk;have HD7:Hid (zO w.heap.size y7.heap.size y7 q6 s7):=(HO7.out.boxed HX7.out.out hg).wide hg.size (nl _);clear hg hk hz HX7 HO7)
     | (refine wpList_load_row rfl _ _ rfl x1.heap.size rfl 35 _ (0,0) _ HY7.out.out Tryz.underlying35 rfl (by kernel_rfl) ?_)
     | (refine zC rfl _ _ _ rfl (w.heap.size+1) (zA q6 s7) rfl rfl 35 zF HY7.out.zero (by kernel_rfl) rfl (zJ HD7.out.1) ?_;intro z hg hk hz;have HBz:Hid (Below w.heap.size w z):=HY7.out.below.grown hg HY7.out.below.size (fun k hk=>by cases hk;omega);have HKz:Hid (Bx z (w.heap.size+1) (zA q6 s7) 35):=hk;have HFz:Hid (zO w.heap.size z.heap.size z q6 s7):=(HD7.out.boxed HY7.out.zero hg).wide hg.size (nl _);clear hg hk hz HY7 HD7))
    refine bodyPost_ret (v:=.agg (zA q6 s7)) (results_cell_row Tryz.results212 _ _ (w.heap.size+1) 35 _ (0,0) _ rfl HKz.out Tryz.underlying35 rfl (by kernel_rfl)) rfl ?_
    rw [HE.out]
    exact ⟨_,rfl,HFz.out,HBz.out⟩
   ·have hn:zFB (bks ps) (bn:Int) c=false:=Bool.eq_false_iff.2 hn
    have HE:Hid (jN (bks ps) p (kn:Int)=q2):=hid (by rw [HE.out];unfold yDH;rw [if_neg (by rw [hn];decide)])
    rw [hn]
    clear hn
    go_wp2_with (first
     | (refine wpList_load_row rfl _ _ rfl x1.heap.size rfl 35 _ (0,0) _ HY6.out.out Tryz.underlying35 rfl (by kernel_rfl) ?_)
     | (refine zC rfl _ _ _ rfl (w.heap.size+1) (zA q2 s1) rfl rfl 35 zF HY6.out.zero (by kernel_rfl) rfl (zJ HD6.out.1) ?_;intro z hg hk hz;have HBz:Hid (Below w.heap.size w z):=HY6.out.below.grown hg HY6.out.below.size (fun k hk=>by cases hk;omega);have HKz:Hid (Bx z (w.heap.size+1) (zA q2 s1) 35):=hk;have HFz:Hid (zO w.heap.size z.heap.size z q2 s1):=(HD6.out.boxed HY6.out.zero hg).wide hg.size (nl _);clear hg hk hz HY6 HD6))
    refine bodyPost_ret (v:=.agg (zA q2 s1)) (results_cell_row Tryz.results212 _ _ (w.heap.size+1) 35 _ (0,0) _ rfl HKz.out Tryz.underlying35 rfl (by kernel_rfl)) rfl ?_
    rw [HE.out]
    exact ⟨_,rfl,HFz.out,HBz.out⟩
  | some dd=>
   obtain ⟨q5,hq5⟩:∃ q5,q5=kO (bks ps) q2 dd:=⟨_,rfl⟩
   have HR3:Hid (zGC (bks ps) q2 (kn:Int)=q5):=hid (by unfold zGC;rw [hr,hq5])
   rw [HR3.out] at HE HQ2
   unfold rowAns
   clear hr
   go_wp2_with (refine wpList_load_row rfl _ _ rfl x1.heap.size rfl 35 _ (0,0) _ HY4.out.out Tryz.underlying35 rfl (by kernel_rfl) ?_)
   refine (through_s ps _ q2 s1 dd x4 (HT.out.below HY4.out.below) HK.out HD4.out.reads HQ2.out.2.1).mono ?_
   rw [← hq5]
   rintro e x5 ⟨s5,rfl,ho,hb⟩
   have HO5:Hid (zO w.heap.size x5.heap.size x5 q5 s5):=ho.low HY4.out.below.size
   have HX5:Hid (Bx3 w x5 x1.heap.size (zA p s) zF (zA q2 s1)):=HY4.out.more hb
   clear ho hb HY4 HD4 hq5
   go_wp2_with (refine zC rfl _ _ _ rfl x1.heap.size (zA q5 s5) rfl rfl 35 (zA q2 s1) HX5.out.out (by kernel_rfl) rfl (zJ HO5.out.1) ?_;intro y5 hg hk hz;have HY5:Hid (Bx3 w y5 x1.heap.size (zA p s) zF (zA q5 s5)):=HX5.out.put hg hk;have HD5:Hid (zO w.heap.size y5.heap.size y5 q5 s5):=(HO5.out.boxed HX5.out.out hg).wide hg.size (nl _);clear hg hk hz HX5 HO5)
   refine (next_s ps _ (bn:Int) c y5 (HT.out.below HY5.out.below) HI3.out.2.1 HI3.out.2.2.1).mono ?_
   rintro e x6 ⟨rfl,hb⟩
   have HY6:Hid (Bx3 w x6 x1.heap.size (zA p s) zF (zA q5 s5)):=HY5.out.more hb
   have HD6:Hid (zO w.heap.size x6.heap.size x6 q5 s5):=(HD5.out.below hb).wide hb.size (nl _)
   clear hb HY5 HD5
   by_cases hn:zFB (bks ps) (bn:Int) c=true
   ·obtain ⟨q6,hq6⟩:∃ q6,q6=yDF (bks ps) q5 c:=⟨_,rfl⟩
    have HE:Hid (jN (bks ps) p (kn:Int)=q6):=hid (by rw [HE.out];unfold yDH;rw [if_pos hn,hq6])
    rw [hn]
    clear hn
    go_wp2_with (refine wpList_load_row rfl _ _ rfl x1.heap.size rfl 35 _ (0,0) _ HY6.out.out Tryz.underlying35 rfl (by kernel_rfl) ?_)
    refine (tooEarly_s ps _ q5 s5 c x6 (HT.out.below HY6.out.below) HK.out HD6.out.reads HQ2.out.2.2).mono ?_
    rw [← hq6]
    rintro e x7 ⟨s7,rfl,ho,hb⟩
    have HO7:Hid (zO w.heap.size x7.heap.size x7 q6 s7):=ho.low HY6.out.below.size
    have HX7:Hid (Bx3 w x7 x1.heap.size (zA p s) zF (zA q5 s5)):=HY6.out.more hb
    clear ho hb HY6 HD6 hq6
    go_wp2_with (first
     | (refine zC rfl _ _ _ rfl x1.heap.size (zA q6 s7) rfl rfl 35 (zA q5 s5) HX7.out.out (by kernel_rfl) rfl (zJ HO7.out.1) ?_;intro y7 hg hk hz;have HY7:Hid (Bx3 w y7 x1.heap.size (zA p s) zF (zA q6 s7)):=HX7.out.put hg hk;have HD7:Hid (zO w.heap.size y7.heap.size y7 q6 s7):=(HO7.out.boxed HX7.out.out hg).wide hg.size (nl _);clear hg hk hz HX7 HO7)
     | (refine wpList_load_row rfl _ _ rfl x1.heap.size rfl 35 _ (0,0) _ HY7.out.out Tryz.underlying35 rfl (by kernel_rfl) ?_)
     | (refine zC rfl _ _ _ rfl (w.heap.size+1) (zA q6 s7) rfl rfl 35 zF HY7.out.zero (by kernel_rfl) rfl (zJ HD7.out.1) ?_;intro z hg hk hz;have HBz:Hid (Below w.heap.size w z):=HY7.out.below.grown hg HY7.out.below.size (fun k hk=>by cases hk;omega);have HKz:Hid (Bx z (w.heap.size+1) (zA q6 s7) 35):=hk;have HFz:Hid (zO w.heap.size z.heap.size z q6 s7):=(HD7.out.boxed HY7.out.zero hg).wide hg.size (nl _);clear hg hk hz HY7 HD7))
    refine bodyPost_ret (v:=.agg (zA q6 s7)) (results_cell_row Tryz.results212 _ _ (w.heap.size+1) 35 _ (0,0) _ rfl HKz.out Tryz.underlying35 rfl (by kernel_rfl)) rfl ?_
    rw [HE.out]
    exact ⟨_,rfl,HFz.out,HBz.out⟩
   ·have hn:zFB (bks ps) (bn:Int) c=false:=Bool.eq_false_iff.2 hn
    have HE:Hid (jN (bks ps) p (kn:Int)=q5):=hid (by rw [HE.out];unfold yDH;rw [if_neg (by rw [hn];decide)])
    rw [hn]
    clear hn
    go_wp2_with (first
     | (refine wpList_load_row rfl _ _ rfl x1.heap.size rfl 35 _ (0,0) _ HY6.out.out Tryz.underlying35 rfl (by kernel_rfl) ?_)
     | (refine zC rfl _ _ _ rfl (w.heap.size+1) (zA q5 s5) rfl rfl 35 zF HY6.out.zero (by kernel_rfl) rfl (zJ HD6.out.1) ?_;intro z hg hk hz;have HBz:Hid (Below w.heap.size w z):=HY6.out.below.grown hg HY6.out.below.size (fun k hk=>by cases hk;omega);have HKz:Hid (Bx z (w.heap.size+1) (zA q5 s5) 35):=hk;have HFz:Hid (zO w.heap.size z.heap.size z q5 s5):=(HD6.out.boxed HY6.out.zero hg).wide hg.size (nl _);clear hg hk hz HY6 HD6))
    refine bodyPost_ret (v:=.agg (zA q5 s5)) (results_cell_row Tryz.results212 _ _ (w.heap.size+1) 35 _ (0,0) _ rfl HKz.out Tryz.underlying35 rfl (by kernel_rfl)) rfl ?_
    rw [HE.out]
    exact ⟨_,rfl,HFz.out,HBz.out⟩
end Go.Proofs.YtjdddcldbfhbiacGreatR
