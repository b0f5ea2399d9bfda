/-
  The walk of the law FnExactTwiceAt: the specification's answer and the program's are the same; what came in is as it was; the program's answer owns its memory. (Made by gl15.py.)
-/
import Derived.Test.YtjieklilojmifauGreatRClusC
import Derived.Test.YtjieklilojmifauGreatRVotedS
import Derived.Test.YtjieklilojmifauGreatRRegH
namespace Go.Proofs.YtjieklilojmifauGreatR.WFnExactTwiceAt
open Go.RowKit Num

set_option maxRecDepth 100000 in
set_option maxHeartbeats 16000000 in
theorem walk_of (F : CU → Int → CU × Bool) (HF : Fit F) (HSp : Con 19 F) (HI : Con 20 F) (w : World) (c : CU) (s : CW) (hR : ClusR w c s) (hg : goodC c) (k : Int) (hwk : (Lit.int .i64 k).wf = true) :
    Calls Tryz.prog 5 #[clusV c s, .int .i64 k] w fun e w' => e = .returned (.bool true) ∧ Below w.heap.size w w' := by
  have HR : Hid (ClusR w c s) := hR
  have HG : Hid (goodC c) := hg
  have HWk : Hid ((Lit.int .i64 k).wf = true) := hwk
  clear hR hg hwk
  obtain ⟨X, hX⟩ : ∃ X, X = w.alloc (.cells (clusA c s) 28) := ⟨_, rfl⟩
  have HB : Hid (Below w.heap.size w X) := (by rw [hX]; exact ba (Below.refl _ _) _ : Below w.heap.size w X)
  have HKa : Hid (X.heap[w.heap.size]? = Option.some (.cells (clusA c s) 28 (0, 0))) := (by rw [hX]; exact heap_alloc_new w _ : X.heap[w.heap.size]? = _)
  have HZ0 : Hid (w.heap.size < X.heap.size) := (Array.getElem?_eq_some_iff.1 HKa.out).1
  go_enter Tryz.func5, Tryz.ntmps5
  go_wp2_with (first | (rw [← hX]; clear hX; (refine wpList_load_row rfl _ _ rfl w.heap.size rfl 28 _ (0, 0) _ HKa.out Tryz.underlying28 rfl (by kernel_rfl) ?_)) | (refine wpList_load_row rfl _ _ rfl w.heap.size rfl 28 _ (0, 0) _ HKa.out Tryz.underlying28 rfl (by kernel_rfl) ?_))
  refine (szCluster_any c s 1048576 X (by decide) (by decide) (HR.out.below HB.out) HG.out).mono ?_
  rintro e x1 ⟨z, rfl, hz, hb⟩
  have HBN : Hid (Below w.heap.size w x1) := bt HB.out hb
  have HKaN : Hid (x1.heap[w.heap.size]? = Option.some (.cells (clusA c s) 28 (0, 0))) := (hb.block _ (Array.getElem?_eq_some_iff.1 HKa.out).1).trans HKa.out
  have HZ1 : Hid (X.heap.size ≤ x1.heap.size) := hb.size
  clear HB HKa
  have HB := HBN
  clear HBN
  have HKa := HKaN
  clear HKaN
  clear hb
  rcases hz with rfl | ⟨z0, hsum, hok⟩
  · go_wp2
    go_ret
    exact ⟨rfl, HB.out⟩
  have HO : Hid (okC c) := hok
  have HWT : Hid (wtCl c ≤ 1048576) := (by omega : wtCl c ≤ 1048576)
  have hzn : ¬ z < 0 := by omega
  clear hok hsum
  have HFQ : Hid (okC (F c k).1 ∧ wtCl (F c k).1 ≤ 1200000) := HF c k HO.out HWT.out
  obtain ⟨Q, hQ⟩ : ∃ Q, Q = (F c k).1 := ⟨_, rfl⟩
  obtain ⟨B, hBB⟩ : ∃ B, B = (F c k).2 := ⟨_, rfl⟩
  have HQ : Hid ((F c k).1 = Q ∧ (F c k).2 = B) := ⟨hQ.symm, hBB.symm⟩
  rw [← hQ] at HFQ
  clear hQ hBB
  have hqq : (B != B) = false := by simp
  go_wp2_with (first | (refine wpList_load_row rfl _ _ rfl w.heap.size rfl 28 _ (0, 0) _ HKa.out Tryz.underlying28 rfl (by kernel_rfl) ?_) | (refine wpList_load_row_w (by first | rfl | simp [Region.wanted, yielded] | simp [Region.wanted, yielded, hk0]) _ _ rfl w.heap.size rfl 28 _ (0, 0) _ HKa.out Tryz.underlying28 rfl (by kernel_rfl) ?_))
  refine (toCluster_any c s x1 (HR.out.below HB.out) HO.out).mono ?_
  rintro e x2 ⟨s1, rfl, ho, hb⟩
  have HCaA : Hid (OwnC x1.heap.size x2.heap.size x2 c s1) := ho
  have HBN : Hid (Below w.heap.size w x2) := bt HB.out hb
  have HKaN : Hid (x2.heap[w.heap.size]? = Option.some (.cells (clusA c s) 28 (0, 0))) := (hb.block _ (Array.getElem?_eq_some_iff.1 HKa.out).1).trans HKa.out
  have HZ2 : Hid (x1.heap.size ≤ x2.heap.size) := hb.size
  clear HB HKa
  have HB := HBN
  clear HBN
  have HKa := HKaN
  clear HKaN
  have HCa := HCaA
  clear HCaA
  clear ho hb
  go_wp2_with (first | (refine wpList_load_row rfl _ _ rfl w.heap.size rfl 28 _ (0, 0) _ HKa.out Tryz.underlying28 rfl (by kernel_rfl) ?_) | (refine wpList_load_row_w (by first | rfl | simp [Region.wanted, yielded] | simp [Region.wanted, yielded, hk0]) _ _ rfl w.heap.size rfl 28 _ (0, 0) _ HKa.out Tryz.underlying28 rfl (by kernel_rfl) ?_))
  have hsp := HSp c s1 x1.heap.size x2.heap.size k x2 HCa.out HO.out HG.out HWT.out HWk.out
  rw [HQ.out.1, HQ.out.2] at hsp
  refine (hsp).mono ?_
  rintro e x3 ⟨s2, rfl, ho, hb⟩
  have HC0A : Hid (OwnC x2.heap.size x3.heap.size x3 Q s2) := ho
  have HBN : Hid (Below w.heap.size w x3) := bt HB.out hb
  have HKaN : Hid (x3.heap[w.heap.size]? = Option.some (.cells (clusA c s) 28 (0, 0))) := (hb.block _ (Array.getElem?_eq_some_iff.1 HKa.out).1).trans HKa.out
  have HCaN : Hid (OwnC x1.heap.size x2.heap.size x3 c s1) := HCa.out.below hb
  have HZ3 : Hid (x2.heap.size ≤ x3.heap.size) := hb.size
  clear HB HKa HCa
  have HB := HBN
  clear HBN
  have HKa := HKaN
  clear HKaN
  have HCa := HCaN
  clear HCaN
  have HC0 := HC0A
  clear HC0A
  clear ho hb hsp
  go_wp2_with (first | (refine wpList_store_blk rfl _ _ _ rfl x3.heap.size (clusA Q s2) rfl rfl 37 zeroC (heap_alloc_new x3 _) (by kernel_rfl) rfl (clusA_one HC0.out) ?_; intro x4 hg hk hz; have hb : Below x3.heap.size x3 x4 := made_below hg; have hlt : x3.heap.size < x4.heap.size := (Array.getElem?_eq_some_iff.1 hk).1; have HBN : Hid (Below w.heap.size w x4) := bt HB.out hb; have HKaN : Hid (x4.heap[w.heap.size]? = Option.some (.cells (clusA c s) 28 (0, 0))) := (hb.block _ (Array.getElem?_eq_some_iff.1 HKa.out).1).trans HKa.out; have HCaN : Hid (OwnC x1.heap.size x2.heap.size x4 c s1) := HCa.out.below hb; have HC0N : Hid (OwnC x2.heap.size x3.heap.size x4 Q s2) := HC0.out.below hb; have HZ4 : Hid (x3.heap.size < x4.heap.size) := hlt; clear HB HKa HCa HC0; have HB := HBN; clear HBN; have HKa := HKaN; clear HKaN; have HCa := HCaN; clear HCaN; have HC0 := HC0N; clear HC0N; have HK0 : Hid (x4.heap[x3.heap.size]? = Option.some (.cells (clusA Q s2) 37 (0, 0))) := hk; clear hg hk hz hb hlt) | (refine wpList_load_row rfl _ _ rfl w.heap.size rfl 28 _ (0, 0) _ HKa.out Tryz.underlying28 rfl (by kernel_rfl) ?_) | (refine wpList_load_row rfl _ _ rfl x3.heap.size rfl 37 _ (0, 0) _ HK0.out Tryz.underlying37 rfl (by kernel_rfl) ?_) | (refine wpList_load_row_w (by first | rfl | simp [Region.wanted, yielded] | simp [Region.wanted, yielded, hk0]) _ _ rfl w.heap.size rfl 28 _ (0, 0) _ HKa.out Tryz.underlying28 rfl (by kernel_rfl) ?_) | (refine wpList_load_row_w (by first | rfl | simp [Region.wanted, yielded] | simp [Region.wanted, yielded, hk0]) _ _ rfl x3.heap.size rfl 37 _ (0, 0) _ HK0.out Tryz.underlying37 rfl (by kernel_rfl) ?_))
  clear HCa
  refine (toCluster_any c s x4 (HR.out.below HB.out) HO.out).mono ?_
  rintro e x5 ⟨s3, rfl, ho, hb⟩
  have HC1A : Hid (OwnC x4.heap.size x5.heap.size x5 c s3) := ho
  have HBN : Hid (Below w.heap.size w x5) := bt HB.out hb
  have HKaN : Hid (x5.heap[w.heap.size]? = Option.some (.cells (clusA c s) 28 (0, 0))) := (hb.block _ (Array.getElem?_eq_some_iff.1 HKa.out).1).trans HKa.out
  have HC0N : Hid (OwnC x2.heap.size x3.heap.size x5 Q s2) := HC0.out.below hb
  have HK0N : Hid (x5.heap[x3.heap.size]? = Option.some (.cells (clusA Q s2) 37 (0, 0))) := (hb.block _ (Array.getElem?_eq_some_iff.1 HK0.out).1).trans HK0.out
  have HZ5 : Hid (x4.heap.size ≤ x5.heap.size) := hb.size
  clear HB HKa HC0 HK0
  have HB := HBN
  clear HBN
  have HKa := HKaN
  clear HKaN
  have HC0 := HC0N
  clear HC0N
  have HK0 := HK0N
  clear HK0N
  have HC1 := HC1A
  clear HC1A
  clear ho hb
  go_wp2_with (first | (refine wpList_store_blk rfl _ _ _ rfl x5.heap.size (clusA c s3) rfl rfl 37 zeroC (heap_alloc_new x5 _) (by kernel_rfl) rfl (clusA_one HC1.out) ?_; intro x6 hg hk hz; have hb : Below x5.heap.size x5 x6 := made_below hg; have hlt : x5.heap.size < x6.heap.size := (Array.getElem?_eq_some_iff.1 hk).1; have HBN : Hid (Below w.heap.size w x6) := bt HB.out hb; have HKaN : Hid (x6.heap[w.heap.size]? = Option.some (.cells (clusA c s) 28 (0, 0))) := (hb.block _ (Array.getElem?_eq_some_iff.1 HKa.out).1).trans HKa.out; have HC0N : Hid (OwnC x2.heap.size x3.heap.size x6 Q s2) := HC0.out.below hb; have HK0N : Hid (x6.heap[x3.heap.size]? = Option.some (.cells (clusA Q s2) 37 (0, 0))) := (hb.block _ (Array.getElem?_eq_some_iff.1 HK0.out).1).trans HK0.out; have HC1N : Hid (OwnC x4.heap.size x5.heap.size x6 c s3) := HC1.out.below hb; have HZ6 : Hid (x5.heap.size < x6.heap.size) := hlt; clear HB HKa HC0 HK0 HC1; have HB := HBN; clear HBN; have HKa := HKaN; clear HKaN; have HC0 := HC0N; clear HC0N; have HK0 := HK0N; clear HK0N; have HC1 := HC1N; clear HC1N; have HK1 : Hid (x6.heap[x5.heap.size]? = Option.some (.cells (clusA c s3) 37 (0, 0))) := hk; clear hg hk hz hb hlt) | (refine wpList_load_row rfl _ _ rfl w.heap.size rfl 28 _ (0, 0) _ HKa.out Tryz.underlying28 rfl (by kernel_rfl) ?_) | (refine wpList_load_row rfl _ _ rfl x3.heap.size rfl 37 _ (0, 0) _ HK0.out Tryz.underlying37 rfl (by kernel_rfl) ?_) | (refine wpList_load_row rfl _ _ rfl x5.heap.size rfl 37 _ (0, 0) _ HK1.out Tryz.underlying37 rfl (by kernel_rfl) ?_) | (refine wpList_load_row_w (by first | rfl | simp [Region.wanted, yielded] | simp [Region.wanted, yielded, hk0]) _ _ rfl w.heap.size rfl 28 _ (0, 0) _ HKa.out Tryz.underlying28 rfl (by kernel_rfl) ?_) | (refine wpList_load_row_w (by first | rfl | simp [Region.wanted, yielded] | simp [Region.wanted, yielded, hk0]) _ _ rfl x3.heap.size rfl 37 _ (0, 0) _ HK0.out Tryz.underlying37 rfl (by kernel_rfl) ?_) | (refine wpList_load_row_w (by first | rfl | simp [Region.wanted, yielded] | simp [Region.wanted, yielded, hk0]) _ _ rfl x5.heap.size rfl 37 _ (0, 0) _ HK1.out Tryz.underlying37 rfl (by kernel_rfl) ?_))
  have hsp := HI c s3 x4.heap.size x5.heap.size k x6 HC1.out HO.out HG.out HWT.out HWk.out
  rw [HQ.out.1, HQ.out.2] at hsp
  refine (hsp).mono ?_
  rintro e x7 ⟨s4, rfl, ho, hb⟩
  have HC2A : Hid (OwnC x6.heap.size x7.heap.size x7 Q s4) := ho
  have HBN : Hid (Below w.heap.size w x7) := bt HB.out hb
  have HKaN : Hid (x7.heap[w.heap.size]? = Option.some (.cells (clusA c s) 28 (0, 0))) := (hb.block _ (Array.getElem?_eq_some_iff.1 HKa.out).1).trans HKa.out
  have HC0N : Hid (OwnC x2.heap.size x3.heap.size x7 Q s2) := HC0.out.below hb
  have HK0N : Hid (x7.heap[x3.heap.size]? = Option.some (.cells (clusA Q s2) 37 (0, 0))) := (hb.block _ (Array.getElem?_eq_some_iff.1 HK0.out).1).trans HK0.out
  have HC1N : Hid (OwnC x4.heap.size x5.heap.size x7 c s3) := HC1.out.below hb
  have HK1N : Hid (x7.heap[x5.heap.size]? = Option.some (.cells (clusA c s3) 37 (0, 0))) := (hb.block _ (Array.getElem?_eq_some_iff.1 HK1.out).1).trans HK1.out
  have HZ7 : Hid (x6.heap.size ≤ x7.heap.size) := hb.size
  clear HB HKa HC0 HK0 HC1 HK1
  have HB := HBN
  clear HBN
  have HKa := HKaN
  clear HKaN
  have HC0 := HC0N
  clear HC0N
  have HK0 := HK0N
  clear HK0N
  have HC1 := HC1N
  clear HC1N
  have HK1 := HK1N
  clear HK1N
  have HC2 := HC2A
  clear HC2A
  clear ho hb hsp
  go_wp2_with (first | (refine wpList_store_blk rfl _ _ _ rfl x7.heap.size (clusA Q s4) rfl rfl 37 zeroC (heap_alloc_new x7 _) (by kernel_rfl) rfl (clusA_one HC2.out) ?_; intro x8 hg hk hz; have hb : Below x7.heap.size x7 x8 := made_below hg; have hlt : x7.heap.size < x8.heap.size := (Array.getElem?_eq_some_iff.1 hk).1; have HBN : Hid (Below w.heap.size w x8) := bt HB.out hb; have HKaN : Hid (x8.heap[w.heap.size]? = Option.some (.cells (clusA c s) 28 (0, 0))) := (hb.block _ (Array.getElem?_eq_some_iff.1 HKa.out).1).trans HKa.out; have HC0N : Hid (OwnC x2.heap.size x3.heap.size x8 Q s2) := HC0.out.below hb; have HK0N : Hid (x8.heap[x3.heap.size]? = Option.some (.cells (clusA Q s2) 37 (0, 0))) := (hb.block _ (Array.getElem?_eq_some_iff.1 HK0.out).1).trans HK0.out; have HC1N : Hid (OwnC x4.heap.size x5.heap.size x8 c s3) := HC1.out.below hb; have HK1N : Hid (x8.heap[x5.heap.size]? = Option.some (.cells (clusA c s3) 37 (0, 0))) := (hb.block _ (Array.getElem?_eq_some_iff.1 HK1.out).1).trans HK1.out; have HC2N : Hid (OwnC x6.heap.size x7.heap.size x8 Q s4) := HC2.out.below hb; have HZ8 : Hid (x7.heap.size < x8.heap.size) := hlt; clear HB HKa HC0 HK0 HC1 HK1 HC2; have HB := HBN; clear HBN; have HKa := HKaN; clear HKaN; have HC0 := HC0N; clear HC0N; have HK0 := HK0N; clear HK0N; have HC1 := HC1N; clear HC1N; have HK1 := HK1N; clear HK1N; have HC2 := HC2N; clear HC2N; have HK2 : Hid (x8.heap[x7.heap.size]? = Option.some (.cells (clusA Q s4) 37 (0, 0))) := hk; clear hg hk hz hb hlt) | (refine wpList_load_row rfl _ _ rfl w.heap.size rfl 28 _ (0, 0) _ HKa.out Tryz.underlying28 rfl (by kernel_rfl) ?_) | (refine wpList_load_row rfl _ _ rfl x3.heap.size rfl 37 _ (0, 0) _ HK0.out Tryz.underlying37 rfl (by kernel_rfl) ?_) | (refine wpList_load_row rfl _ _ rfl x5.heap.size rfl 37 _ (0, 0) _ HK1.out Tryz.underlying37 rfl (by kernel_rfl) ?_) | (refine wpList_load_row rfl _ _ rfl x7.heap.size rfl 37 _ (0, 0) _ HK2.out Tryz.underlying37 rfl (by kernel_rfl) ?_) | (refine wpList_load_row_w (by first | rfl | simp [Region.wanted, yielded] | simp [Region.wanted, yielded, hk0]) _ _ rfl w.heap.size rfl 28 _ (0, 0) _ HKa.out Tryz.underlying28 rfl (by kernel_rfl) ?_) | (refine wpList_load_row_w (by first | rfl | simp [Region.wanted, yielded] | simp [Region.wanted, yielded, hk0]) _ _ rfl x3.heap.size rfl 37 _ (0, 0) _ HK0.out Tryz.underlying37 rfl (by kernel_rfl) ?_) | (refine wpList_load_row_w (by first | rfl | simp [Region.wanted, yielded] | simp [Region.wanted, yielded, hk0]) _ _ rfl x5.heap.size rfl 37 _ (0, 0) _ HK1.out Tryz.underlying37 rfl (by kernel_rfl) ?_) | (refine wpList_load_row_w (by first | rfl | simp [Region.wanted, yielded] | simp [Region.wanted, yielded, hk0]) _ _ rfl x7.heap.size rfl 37 _ (0, 0) _ HK2.out Tryz.underlying37 rfl (by kernel_rfl) ?_))
  refine (eqCluster_yes Q s4 s2 x8 HC2.out.reads HC0.out.reads HFQ.out.1).mono ?_
  rintro e x9 ⟨rfl, hb⟩
  have HBN : Hid (Below w.heap.size w x9) := bt HB.out hb
  have HKaN : Hid (x9.heap[w.heap.size]? = Option.some (.cells (clusA c s) 28 (0, 0))) := (hb.block _ (Array.getElem?_eq_some_iff.1 HKa.out).1).trans HKa.out
  have HC0N : Hid (OwnC x2.heap.size x3.heap.size x9 Q s2) := HC0.out.below hb
  have HK0N : Hid (x9.heap[x3.heap.size]? = Option.some (.cells (clusA Q s2) 37 (0, 0))) := (hb.block _ (Array.getElem?_eq_some_iff.1 HK0.out).1).trans HK0.out
  have HC1N : Hid (OwnC x4.heap.size x5.heap.size x9 c s3) := HC1.out.below hb
  have HK1N : Hid (x9.heap[x5.heap.size]? = Option.some (.cells (clusA c s3) 37 (0, 0))) := (hb.block _ (Array.getElem?_eq_some_iff.1 HK1.out).1).trans HK1.out
  have HC2N : Hid (OwnC x6.heap.size x7.heap.size x9 Q s4) := HC2.out.below hb
  have HK2N : Hid (x9.heap[x7.heap.size]? = Option.some (.cells (clusA Q s4) 37 (0, 0))) := (hb.block _ (Array.getElem?_eq_some_iff.1 HK2.out).1).trans HK2.out
  have HZ9 : Hid (x8.heap.size ≤ x9.heap.size) := hb.size
  clear HB HKa HC0 HK0 HC1 HK1 HC2 HK2
  have HB := HBN
  clear HBN
  have HKa := HKaN
  clear HKaN
  have HC0 := HC0N
  clear HC0N
  have HK0 := HK0N
  clear HK0N
  have HC1 := HC1N
  clear HC1N
  have HK1 := HK1N
  clear HK1N
  have HC2 := HC2N
  clear HC2N
  have HK2 := HK2N
  clear HK2N
  clear hb
  go_wp2
  refine wp_region_H (fun x => x.heap[w.heap.size]? = some (.cells (clusA c s) 28 (0, 0)) ∧ x.heap[x5.heap.size]? = some (.cells (clusA c s3) 37 (0, 0))) (by kernel_rfl) ?_
  show wpAnyH Tryz.prog _ _ _ _ (4 + 1) (Array.replicate 5 false) _ _
  have hS : x9.drew.heap[w.heap.size]? = some (.cells (clusA c s) 28 (0, 0)) ∧ x9.drew.heap[x5.heap.size]? = some (.cells (clusA c s3) 37 (0, 0)) := ⟨HKa.out, HK1.out⟩
  refine h_take (j := 0) (e' := some 45) (v := .agg (clusA c s3)) rfl rfl (by kernel_rfl) (by kernel_rfl) (by kernel_rfl) (fun _ _ _ h => h) (Or.inl ⟨by rfl, fun x hx => exec_load_blk _ _ rfl x5.heap.size rfl _ _ _ _ hx.2 Tryz.underlying37 rfl (by kernel_rfl)⟩) hS ?_
  simp only [Act.put, List.setIfInBounds_toArray, List.set_cons_zero, List.set_cons_succ]
  refine h_take (j := 1) (e' := some 46) (v := .agg (clusA c s)) rfl rfl (by kernel_rfl) (by kernel_rfl) (by kernel_rfl) (fun _ _ _ h => h) (Or.inl ⟨by rfl, fun x hx => exec_load_blk _ _ rfl w.heap.size rfl _ _ _ _ hx.1 Tryz.underlying28 rfl (by kernel_rfl)⟩) hS ?_
  simp only [Act.put, List.setIfInBounds_toArray, List.set_cons_zero, List.set_cons_succ]
  refine h_call (c := 2) (e' := some 47) (fn := 9) (args := #[.agg (clusA c s)]) rfl rfl (by kernel_rfl) (by rfl) ?_ ((toCluster_any c s x9.drew (HR.out.below (HB.out.trans (Below.refl _ _).drew)) HO.out).mono ?_)
  · go_simp
    try with_reducible rfl
  rintro e x10 ⟨s5, rfl, ho, hb0⟩
  have hb : Below x9.heap.size x9 x10 := ((Below.refl _ _).drew).trans hb0
  have HRb : Hid (ClusR x10 c s5) := ho.reads
  have HBN : Hid (Below w.heap.size w x10) := bt HB.out hb
  have HKaN : Hid (x10.heap[w.heap.size]? = Option.some (.cells (clusA c s) 28 (0, 0))) := (hb.block _ (Array.getElem?_eq_some_iff.1 HKa.out).1).trans HKa.out
  have HC0N : Hid (OwnC x2.heap.size x3.heap.size x10 Q s2) := HC0.out.below hb
  have HK0N : Hid (x10.heap[x3.heap.size]? = Option.some (.cells (clusA Q s2) 37 (0, 0))) := (hb.block _ (Array.getElem?_eq_some_iff.1 HK0.out).1).trans HK0.out
  have HC1N : Hid (OwnC x4.heap.size x5.heap.size x10 c s3) := HC1.out.below hb
  have HK1N : Hid (x10.heap[x5.heap.size]? = Option.some (.cells (clusA c s3) 37 (0, 0))) := (hb.block _ (Array.getElem?_eq_some_iff.1 HK1.out).1).trans HK1.out
  have HC2N : Hid (OwnC x6.heap.size x7.heap.size x10 Q s4) := HC2.out.below hb
  have HK2N : Hid (x10.heap[x7.heap.size]? = Option.some (.cells (clusA Q s4) 37 (0, 0))) := (hb.block _ (Array.getElem?_eq_some_iff.1 HK2.out).1).trans HK2.out
  have HZ10 : Hid (x9.heap.size ≤ x10.heap.size) := hb.size
  clear HB HKa HC0 HK0 HC1 HK1 HC2 HK2
  have HB := HBN
  clear HBN
  have HKa := HKaN
  clear HKaN
  have HC0 := HC0N
  clear HC0N
  have HK0 := HK0N
  clear HK0N
  have HC1 := HC1N
  clear HC1N
  have HK1 := HK1N
  clear HK1N
  have HC2 := HC2N
  clear HC2N
  have HK2 := HK2N
  clear HK2N
  have hS1 : x10.heap[w.heap.size]? = some (.cells (clusA c s) 28 (0, 0)) ∧ x10.heap[x5.heap.size]? = some (.cells (clusA c s3) 37 (0, 0)) := ⟨HKa.out, HK1.out⟩
  clear ho hb hb0 hS
  refine ⟨_, rfl, hS1, ?_⟩
  simp only [Act.put, List.setIfInBounds_toArray, List.set_cons_zero, List.set_cons_succ]
  refine h_call (c := 3) (e' := some 48) (fn := 12) (args := #[.agg (clusA c s3), .agg (clusA c s5)]) rfl rfl (by kernel_rfl) (by rfl) ?_ ((eqCluster_yes c s3 s5 x10 HC1.out.reads HRb.out HO.out).mono ?_)
  · go_simp
    try with_reducible rfl
  rintro e x11 ⟨rfl, hb⟩
  have HBN : Hid (Below w.heap.size w x11) := bt HB.out hb
  have HKaN : Hid (x11.heap[w.heap.size]? = Option.some (.cells (clusA c s) 28 (0, 0))) := (hb.block _ (Array.getElem?_eq_some_iff.1 HKa.out).1).trans HKa.out
  have HC0N : Hid (OwnC x2.heap.size x3.heap.size x11 Q s2) := HC0.out.below hb
  have HK0N : Hid (x11.heap[x3.heap.size]? = Option.some (.cells (clusA Q s2) 37 (0, 0))) := (hb.block _ (Array.getElem?_eq_some_iff.1 HK0.out).1).trans HK0.out
  have HC1N : Hid (OwnC x4.heap.size x5.heap.size x11 c s3) := HC1.out.below hb
  have HK1N : Hid (x11.heap[x5.heap.size]? = Option.some (.cells (clusA c s3) 37 (0, 0))) := (hb.block _ (Array.getElem?_eq_some_iff.1 HK1.out).1).trans HK1.out
  have HC2N : Hid (OwnC x6.heap.size x7.heap.size x11 Q s4) := HC2.out.below hb
  have HK2N : Hid (x11.heap[x7.heap.size]? = Option.some (.cells (clusA Q s4) 37 (0, 0))) := (hb.block _ (Array.getElem?_eq_some_iff.1 HK2.out).1).trans HK2.out
  have HZ11 : Hid (x10.heap.size ≤ x11.heap.size) := hb.size
  clear HB HKa HC0 HK0 HC1 HK1 HC2 HK2
  have HB := HBN
  clear HBN
  have HKa := HKaN
  clear HKaN
  have HC0 := HC0N
  clear HC0N
  have HK0 := HK0N
  clear HK0N
  have HC1 := HC1N
  clear HC1N
  have HK1 := HK1N
  clear HK1N
  have HC2 := HC2N
  clear HC2N
  have HK2 := HK2N
  clear HK2N
  have hS2 : x11.heap[w.heap.size]? = some (.cells (clusA c s) 28 (0, 0)) ∧ x11.heap[x5.heap.size]? = some (.cells (clusA c s3) 37 (0, 0)) := ⟨HKa.out, HK1.out⟩
  clear hb hS1 HRb
  refine ⟨_, rfl, hS2, ?_⟩
  simp only [Act.put, List.setIfInBounds_toArray, List.set_cons_zero, List.set_cons_succ]
  refine h_take (j := 4) (e' := some 49) (v := .bool false) rfl rfl (by kernel_rfl) (by kernel_rfl) (by kernel_rfl) (fun _ _ _ h => h) (Or.inl ⟨by rfl, ?_⟩) hS2 ?_
  · intro x hx
    go_simp
    try with_reducible rfl
  simp only [Act.put, List.setIfInBounds_toArray, List.set_cons_zero, List.set_cons_succ]
  refine wpAnyH_done (by kernel_rfl) ?_ _
  clear hS2
  go_wp2_with (first | (refine wpList_load_row rfl _ _ rfl w.heap.size rfl 28 _ (0, 0) _ HKa.out Tryz.underlying28 rfl (by kernel_rfl) ?_) | (refine wpList_load_row rfl _ _ rfl x3.heap.size rfl 37 _ (0, 0) _ HK0.out Tryz.underlying37 rfl (by kernel_rfl) ?_) | (refine wpList_load_row rfl _ _ rfl x5.heap.size rfl 37 _ (0, 0) _ HK1.out Tryz.underlying37 rfl (by kernel_rfl) ?_) | (refine wpList_load_row rfl _ _ rfl x7.heap.size rfl 37 _ (0, 0) _ HK2.out Tryz.underlying37 rfl (by kernel_rfl) ?_) | (refine wpList_load_row_w (by first | rfl | simp [Region.wanted, yielded] | simp [Region.wanted, yielded, hk0]) _ _ rfl w.heap.size rfl 28 _ (0, 0) _ HKa.out Tryz.underlying28 rfl (by kernel_rfl) ?_) | (refine wpList_load_row_w (by first | rfl | simp [Region.wanted, yielded] | simp [Region.wanted, yielded, hk0]) _ _ rfl x3.heap.size rfl 37 _ (0, 0) _ HK0.out Tryz.underlying37 rfl (by kernel_rfl) ?_) | (refine wpList_load_row_w (by first | rfl | simp [Region.wanted, yielded] | simp [Region.wanted, yielded, hk0]) _ _ rfl x5.heap.size rfl 37 _ (0, 0) _ HK1.out Tryz.underlying37 rfl (by kernel_rfl) ?_) | (refine wpList_load_row_w (by first | rfl | simp [Region.wanted, yielded] | simp [Region.wanted, yielded, hk0]) _ _ rfl x7.heap.size rfl 37 _ (0, 0) _ HK2.out Tryz.underlying37 rfl (by kernel_rfl) ?_))
  refine (markCluster_own c s3 1 x4.heap.size x5.heap.size x11 HC1.out (mkC_of HC1.out.etree HC1.out.epeers (by decide) (by decide) HO.out (by have := HWT.out; omega))).mono ?_
  rintro e x12 ⟨rfl, hm, hf⟩
  have hmA : Hid (OwnC x4.heap.size x5.heap.size x12 (cmC 1 c s3) (cmS 1 s3)) := hm
  clear hm
  have HBN : Hid (Below w.heap.size w x12) := HB.out.trans ⟨hf.os, hf.tape, hf.output, hf.size, fun k hk => hf.block k (Nat.lt_of_lt_of_le hk HB.out.size) (Or.inl (by have := HZ0.out; have := HZ1.out; have := HZ2.out; have := HZ3.out; have := HZ4.out; have := HZ5.out; have := HZ6.out; have := HZ7.out; have := HZ8.out; have := HZ9.out; have := HZ10.out; have := HZ11.out; omega))⟩
  have HKaN : Hid (x12.heap[w.heap.size]? = Option.some (.cells (clusA c s) 28 (0, 0))) := (hf.block _ (Array.getElem?_eq_some_iff.1 HKa.out).1 (by have := HZ0.out; have := HZ1.out; have := HZ2.out; have := HZ3.out; have := HZ4.out; have := HZ5.out; have := HZ6.out; have := HZ7.out; have := HZ8.out; have := HZ9.out; have := HZ10.out; have := HZ11.out; omega)).trans HKa.out
  have HC0N : Hid (OwnC x2.heap.size x3.heap.size x12 Q s2) := HC0.out.fr hf (by have := HZ0.out; have := HZ1.out; have := HZ2.out; have := HZ3.out; have := HZ4.out; have := HZ5.out; have := HZ6.out; have := HZ7.out; have := HZ8.out; have := HZ9.out; have := HZ10.out; have := HZ11.out; omega)
  have HK0N : Hid (x12.heap[x3.heap.size]? = Option.some (.cells (clusA Q s2) 37 (0, 0))) := (hf.block _ (Array.getElem?_eq_some_iff.1 HK0.out).1 (by have := HZ0.out; have := HZ1.out; have := HZ2.out; have := HZ3.out; have := HZ4.out; have := HZ5.out; have := HZ6.out; have := HZ7.out; have := HZ8.out; have := HZ9.out; have := HZ10.out; have := HZ11.out; omega)).trans HK0.out
  have HK1N : Hid (x12.heap[x5.heap.size]? = Option.some (.cells (clusA c s3) 37 (0, 0))) := (hf.block _ (Array.getElem?_eq_some_iff.1 HK1.out).1 (by have := HZ0.out; have := HZ1.out; have := HZ2.out; have := HZ3.out; have := HZ4.out; have := HZ5.out; have := HZ6.out; have := HZ7.out; have := HZ8.out; have := HZ9.out; have := HZ10.out; have := HZ11.out; omega)).trans HK1.out
  have HC2N : Hid (OwnC x6.heap.size x7.heap.size x12 Q s4) := HC2.out.fr hf (by have := HZ0.out; have := HZ1.out; have := HZ2.out; have := HZ3.out; have := HZ4.out; have := HZ5.out; have := HZ6.out; have := HZ7.out; have := HZ8.out; have := HZ9.out; have := HZ10.out; have := HZ11.out; omega)
  have HK2N : Hid (x12.heap[x7.heap.size]? = Option.some (.cells (clusA Q s4) 37 (0, 0))) := (hf.block _ (Array.getElem?_eq_some_iff.1 HK2.out).1 (by have := HZ0.out; have := HZ1.out; have := HZ2.out; have := HZ3.out; have := HZ4.out; have := HZ5.out; have := HZ6.out; have := HZ7.out; have := HZ8.out; have := HZ9.out; have := HZ10.out; have := HZ11.out; omega)).trans HK2.out
  have HZ12 : Hid (x11.heap.size ≤ x12.heap.size) := hf.size
  clear HB HKa HC0 HK0 HK1 HC2 HK2
  have HB := HBN
  clear HBN
  have HKa := HKaN
  clear HKaN
  have HC0 := HC0N
  clear HC0N
  have HK0 := HK0N
  clear HK0N
  have HK1 := HK1N
  clear HK1N
  have HC2 := HC2N
  clear HC2N
  have HK2 := HK2N
  clear HK2N
  clear HC1 hf
  have HM1 : Hid (OwnC x4.heap.size x5.heap.size x12 (cmC 1 c s3) (cmS 1 s3)) := hmA
  clear hmA
  have hk0 : ¬ (((cnum 1 c s3 : Nat) : Int) < 0) := by omega
  clear HM1 HK1
  go_wp2_with (first | (refine wpList_load_row rfl _ _ rfl w.heap.size rfl 28 _ (0, 0) _ HKa.out Tryz.underlying28 rfl (by kernel_rfl) ?_) | (refine wpList_load_row rfl _ _ rfl x3.heap.size rfl 37 _ (0, 0) _ HK0.out Tryz.underlying37 rfl (by kernel_rfl) ?_) | (refine wpList_load_row rfl _ _ rfl x7.heap.size rfl 37 _ (0, 0) _ HK2.out Tryz.underlying37 rfl (by kernel_rfl) ?_) | (refine wpList_load_row_w (by first | rfl | simp [Region.wanted, yielded] | simp [Region.wanted, yielded, hk0]) _ _ rfl w.heap.size rfl 28 _ (0, 0) _ HKa.out Tryz.underlying28 rfl (by kernel_rfl) ?_) | (refine wpList_load_row_w (by first | rfl | simp [Region.wanted, yielded] | simp [Region.wanted, yielded, hk0]) _ _ rfl x3.heap.size rfl 37 _ (0, 0) _ HK0.out Tryz.underlying37 rfl (by kernel_rfl) ?_) | (refine wpList_load_row_w (by first | rfl | simp [Region.wanted, yielded] | simp [Region.wanted, yielded, hk0]) _ _ rfl x7.heap.size rfl 37 _ (0, 0) _ HK2.out Tryz.underlying37 rfl (by kernel_rfl) ?_))
  refine (eqCluster_yes Q s4 s2 x12 HC2.out.reads HC0.out.reads HFQ.out.1).mono ?_
  rintro e x13 ⟨rfl, hb⟩
  have HBN : Hid (Below w.heap.size w x13) := bt HB.out hb
  have HKaN : Hid (x13.heap[w.heap.size]? = Option.some (.cells (clusA c s) 28 (0, 0))) := (hb.block _ (Array.getElem?_eq_some_iff.1 HKa.out).1).trans HKa.out
  have HC0N : Hid (OwnC x2.heap.size x3.heap.size x13 Q s2) := HC0.out.below hb
  have HK0N : Hid (x13.heap[x3.heap.size]? = Option.some (.cells (clusA Q s2) 37 (0, 0))) := (hb.block _ (Array.getElem?_eq_some_iff.1 HK0.out).1).trans HK0.out
  have HC2N : Hid (OwnC x6.heap.size x7.heap.size x13 Q s4) := HC2.out.below hb
  have HK2N : Hid (x13.heap[x7.heap.size]? = Option.some (.cells (clusA Q s4) 37 (0, 0))) := (hb.block _ (Array.getElem?_eq_some_iff.1 HK2.out).1).trans HK2.out
  have HZ13 : Hid (x12.heap.size ≤ x13.heap.size) := hb.size
  clear HB HKa HC0 HK0 HC2 HK2
  have HB := HBN
  clear HBN
  have HKa := HKaN
  clear HKaN
  have HC0 := HC0N
  clear HC0N
  have HK0 := HK0N
  clear HK0N
  have HC2 := HC2N
  clear HC2N
  have HK2 := HK2N
  clear HK2N
  clear hb
  clear hk0
  go_wp2_with (first | (refine wpList_load_row rfl _ _ rfl w.heap.size rfl 28 _ (0, 0) _ HKa.out Tryz.underlying28 rfl (by kernel_rfl) ?_) | (refine wpList_load_row rfl _ _ rfl x3.heap.size rfl 37 _ (0, 0) _ HK0.out Tryz.underlying37 rfl (by kernel_rfl) ?_) | (refine wpList_load_row rfl _ _ rfl x7.heap.size rfl 37 _ (0, 0) _ HK2.out Tryz.underlying37 rfl (by kernel_rfl) ?_) | (refine wpList_load_row_w (by first | rfl | simp [Region.wanted, yielded] | simp [Region.wanted, yielded, hk0]) _ _ rfl w.heap.size rfl 28 _ (0, 0) _ HKa.out Tryz.underlying28 rfl (by kernel_rfl) ?_) | (refine wpList_load_row_w (by first | rfl | simp [Region.wanted, yielded] | simp [Region.wanted, yielded, hk0]) _ _ rfl x3.heap.size rfl 37 _ (0, 0) _ HK0.out Tryz.underlying37 rfl (by kernel_rfl) ?_) | (refine wpList_load_row_w (by first | rfl | simp [Region.wanted, yielded] | simp [Region.wanted, yielded, hk0]) _ _ rfl x7.heap.size rfl 37 _ (0, 0) _ HK2.out Tryz.underlying37 rfl (by kernel_rfl) ?_))
  have HMK : Hid (mkC 1 Q s4) := mkC_of HC2.out.etree HC2.out.epeers (by decide) (by decide) HFQ.out.1 HFQ.out.2
  refine (markCluster_own Q s4 1 x6.heap.size x7.heap.size x13 HC2.out HMK.out).mono ?_
  rintro e x14 ⟨rfl, hm, hf⟩
  have hmA : Hid (OwnC x6.heap.size x7.heap.size x14 (cmC 1 Q s4) (cmS 1 s4)) := hm
  clear hm
  have HBN : Hid (Below w.heap.size w x14) := HB.out.trans ⟨hf.os, hf.tape, hf.output, hf.size, fun k hk => hf.block k (Nat.lt_of_lt_of_le hk HB.out.size) (Or.inl (by have := HZ0.out; have := HZ1.out; have := HZ2.out; have := HZ3.out; have := HZ4.out; have := HZ5.out; have := HZ6.out; have := HZ7.out; have := HZ8.out; have := HZ9.out; have := HZ10.out; have := HZ11.out; have := HZ12.out; have := HZ13.out; omega))⟩
  have HKaN : Hid (x14.heap[w.heap.size]? = Option.some (.cells (clusA c s) 28 (0, 0))) := (hf.block _ (Array.getElem?_eq_some_iff.1 HKa.out).1 (by have := HZ0.out; have := HZ1.out; have := HZ2.out; have := HZ3.out; have := HZ4.out; have := HZ5.out; have := HZ6.out; have := HZ7.out; have := HZ8.out; have := HZ9.out; have := HZ10.out; have := HZ11.out; have := HZ12.out; have := HZ13.out; omega)).trans HKa.out
  have HC0N : Hid (OwnC x2.heap.size x3.heap.size x14 Q s2) := HC0.out.fr hf (by have := HZ0.out; have := HZ1.out; have := HZ2.out; have := HZ3.out; have := HZ4.out; have := HZ5.out; have := HZ6.out; have := HZ7.out; have := HZ8.out; have := HZ9.out; have := HZ10.out; have := HZ11.out; have := HZ12.out; have := HZ13.out; omega)
  have HK0N : Hid (x14.heap[x3.heap.size]? = Option.some (.cells (clusA Q s2) 37 (0, 0))) := (hf.block _ (Array.getElem?_eq_some_iff.1 HK0.out).1 (by have := HZ0.out; have := HZ1.out; have := HZ2.out; have := HZ3.out; have := HZ4.out; have := HZ5.out; have := HZ6.out; have := HZ7.out; have := HZ8.out; have := HZ9.out; have := HZ10.out; have := HZ11.out; have := HZ12.out; have := HZ13.out; omega)).trans HK0.out
  have HK2N : Hid (x14.heap[x7.heap.size]? = Option.some (.cells (clusA Q s4) 37 (0, 0))) := (hf.block _ (Array.getElem?_eq_some_iff.1 HK2.out).1 (by have := HZ0.out; have := HZ1.out; have := HZ2.out; have := HZ3.out; have := HZ4.out; have := HZ5.out; have := HZ6.out; have := HZ7.out; have := HZ8.out; have := HZ9.out; have := HZ10.out; have := HZ11.out; have := HZ12.out; have := HZ13.out; omega)).trans HK2.out
  have HZ14 : Hid (x13.heap.size ≤ x14.heap.size) := hf.size
  clear HB HKa HC0 HK0 HK2
  have HB := HBN
  clear HBN
  have HKa := HKaN
  clear HKaN
  have HC0 := HC0N
  clear HC0N
  have HK0 := HK0N
  clear HK0N
  have HK2 := HK2N
  clear HK2N
  clear HC2 hf
  have HM2 : Hid (OwnC x6.heap.size x7.heap.size x14 (cmC 1 Q s4) (cmS 1 s4)) := hmA
  clear hmA
  have hk0 : ¬ (((cnum 1 Q s4 : Nat) : Int) < 0) := by omega
  go_wp2_with (first | (refine wpList_load_row rfl _ _ rfl w.heap.size rfl 28 _ (0, 0) _ HKa.out Tryz.underlying28 rfl (by kernel_rfl) ?_) | (refine wpList_load_row rfl _ _ rfl x3.heap.size rfl 37 _ (0, 0) _ HK0.out Tryz.underlying37 rfl (by kernel_rfl) ?_) | (refine wpList_load_row rfl _ _ rfl x7.heap.size rfl 37 _ (0, 0) _ HK2.out Tryz.underlying37 rfl (by kernel_rfl) ?_) | (refine wpList_load_row_w (by first | rfl | simp [Region.wanted, yielded] | simp [Region.wanted, yielded, hk0]) _ _ rfl w.heap.size rfl 28 _ (0, 0) _ HKa.out Tryz.underlying28 rfl (by kernel_rfl) ?_) | (refine wpList_load_row_w (by first | rfl | simp [Region.wanted, yielded] | simp [Region.wanted, yielded, hk0]) _ _ rfl x3.heap.size rfl 37 _ (0, 0) _ HK0.out Tryz.underlying37 rfl (by kernel_rfl) ?_) | (refine wpList_load_row_w (by first | rfl | simp [Region.wanted, yielded] | simp [Region.wanted, yielded, hk0]) _ _ rfl x7.heap.size rfl 37 _ (0, 0) _ HK2.out Tryz.underlying37 rfl (by kernel_rfl) ?_))
  refine (heldCluster_own Q s4 1 x6.heap.size x7.heap.size x14 HM2.out HMK.out Q).mono ?_
  rintro e x15 ⟨rfl, hb⟩
  have HBN : Hid (Below w.heap.size w x15) := bt HB.out hb
  have HKaN : Hid (x15.heap[w.heap.size]? = Option.some (.cells (clusA c s) 28 (0, 0))) := (hb.block _ (Array.getElem?_eq_some_iff.1 HKa.out).1).trans HKa.out
  have HC0N : Hid (OwnC x2.heap.size x3.heap.size x15 Q s2) := HC0.out.below hb
  have HK0N : Hid (x15.heap[x3.heap.size]? = Option.some (.cells (clusA Q s2) 37 (0, 0))) := (hb.block _ (Array.getElem?_eq_some_iff.1 HK0.out).1).trans HK0.out
  have HK2N : Hid (x15.heap[x7.heap.size]? = Option.some (.cells (clusA Q s4) 37 (0, 0))) := (hb.block _ (Array.getElem?_eq_some_iff.1 HK2.out).1).trans HK2.out
  have HM2N : Hid (OwnC x6.heap.size x7.heap.size x15 (cmC 1 Q s4) (cmS 1 s4)) := HM2.out.below hb
  have HZ15 : Hid (x14.heap.size ≤ x15.heap.size) := hb.size
  clear HB HKa HC0 HK0 HK2 HM2
  have HB := HBN
  clear HBN
  have HKa := HKaN
  clear HKaN
  have HC0 := HC0N
  clear HC0N
  have HK0 := HK0N
  clear HK0N
  have HK2 := HK2N
  clear HK2N
  have HM2 := HM2N
  clear HM2N
  clear hb
  go_wp2_with (first | (refine wpList_load_row rfl _ _ rfl w.heap.size rfl 28 _ (0, 0) _ HKa.out Tryz.underlying28 rfl (by kernel_rfl) ?_) | (refine wpList_load_row rfl _ _ rfl x3.heap.size rfl 37 _ (0, 0) _ HK0.out Tryz.underlying37 rfl (by kernel_rfl) ?_) | (refine wpList_load_row rfl _ _ rfl x7.heap.size rfl 37 _ (0, 0) _ HK2.out Tryz.underlying37 rfl (by kernel_rfl) ?_) | (refine wpList_load_row_w (by first | rfl | simp [Region.wanted, yielded] | simp [Region.wanted, yielded, hk0]) _ _ rfl w.heap.size rfl 28 _ (0, 0) _ HKa.out Tryz.underlying28 rfl (by kernel_rfl) ?_) | (refine wpList_load_row_w (by first | rfl | simp [Region.wanted, yielded] | simp [Region.wanted, yielded, hk0]) _ _ rfl x3.heap.size rfl 37 _ (0, 0) _ HK0.out Tryz.underlying37 rfl (by kernel_rfl) ?_) | (refine wpList_load_row_w (by first | rfl | simp [Region.wanted, yielded] | simp [Region.wanted, yielded, hk0]) _ _ rfl x7.heap.size rfl 37 _ (0, 0) _ HK2.out Tryz.underlying37 rfl (by kernel_rfl) ?_))
  refine (toCluster_any c s x15 (HR.out.below HB.out) HO.out).mono ?_
  rintro e x16 ⟨s6, rfl, ho, hb⟩
  have HC3A : Hid (OwnC x15.heap.size x16.heap.size x16 c s6) := ho
  have HBN : Hid (Below w.heap.size w x16) := bt HB.out hb
  have HKaN : Hid (x16.heap[w.heap.size]? = Option.some (.cells (clusA c s) 28 (0, 0))) := (hb.block _ (Array.getElem?_eq_some_iff.1 HKa.out).1).trans HKa.out
  have HC0N : Hid (OwnC x2.heap.size x3.heap.size x16 Q s2) := HC0.out.below hb
  have HK0N : Hid (x16.heap[x3.heap.size]? = Option.some (.cells (clusA Q s2) 37 (0, 0))) := (hb.block _ (Array.getElem?_eq_some_iff.1 HK0.out).1).trans HK0.out
  have HK2N : Hid (x16.heap[x7.heap.size]? = Option.some (.cells (clusA Q s4) 37 (0, 0))) := (hb.block _ (Array.getElem?_eq_some_iff.1 HK2.out).1).trans HK2.out
  have HM2N : Hid (OwnC x6.heap.size x7.heap.size x16 (cmC 1 Q s4) (cmS 1 s4)) := HM2.out.below hb
  have HZ16 : Hid (x15.heap.size ≤ x16.heap.size) := hb.size
  clear HB HKa HC0 HK0 HK2 HM2
  have HB := HBN
  clear HBN
  have HKa := HKaN
  clear HKaN
  have HC0 := HC0N
  clear HC0N
  have HK0 := HK0N
  clear HK0N
  have HK2 := HK2N
  clear HK2N
  have HM2 := HM2N
  clear HM2N
  have HC3 := HC3A
  clear HC3A
  clear ho hb
  go_wp2_with (first | (refine wpList_load_row rfl _ _ rfl w.heap.size rfl 28 _ (0, 0) _ HKa.out Tryz.underlying28 rfl (by kernel_rfl) ?_) | (refine wpList_load_row rfl _ _ rfl x3.heap.size rfl 37 _ (0, 0) _ HK0.out Tryz.underlying37 rfl (by kernel_rfl) ?_) | (refine wpList_load_row rfl _ _ rfl x7.heap.size rfl 37 _ (0, 0) _ HK2.out Tryz.underlying37 rfl (by kernel_rfl) ?_) | (refine wpList_load_row_w (by first | rfl | simp [Region.wanted, yielded] | simp [Region.wanted, yielded, hk0]) _ _ rfl w.heap.size rfl 28 _ (0, 0) _ HKa.out Tryz.underlying28 rfl (by kernel_rfl) ?_) | (refine wpList_load_row_w (by first | rfl | simp [Region.wanted, yielded] | simp [Region.wanted, yielded, hk0]) _ _ rfl x3.heap.size rfl 37 _ (0, 0) _ HK0.out Tryz.underlying37 rfl (by kernel_rfl) ?_) | (refine wpList_load_row_w (by first | rfl | simp [Region.wanted, yielded] | simp [Region.wanted, yielded, hk0]) _ _ rfl x7.heap.size rfl 37 _ (0, 0) _ HK2.out Tryz.underlying37 rfl (by kernel_rfl) ?_))
  have hsp := HI c s6 x15.heap.size x16.heap.size k x16 HC3.out HO.out HG.out HWT.out HWk.out
  rw [HQ.out.1, HQ.out.2] at hsp
  refine (hsp).mono ?_
  rintro e x17 ⟨s7, rfl, ho, hb⟩
  have HC4A : Hid (OwnC x16.heap.size x17.heap.size x17 Q s7) := ho
  have HBN : Hid (Below w.heap.size w x17) := bt HB.out hb
  have HKaN : Hid (x17.heap[w.heap.size]? = Option.some (.cells (clusA c s) 28 (0, 0))) := (hb.block _ (Array.getElem?_eq_some_iff.1 HKa.out).1).trans HKa.out
  have HC0N : Hid (OwnC x2.heap.size x3.heap.size x17 Q s2) := HC0.out.below hb
  have HK0N : Hid (x17.heap[x3.heap.size]? = Option.some (.cells (clusA Q s2) 37 (0, 0))) := (hb.block _ (Array.getElem?_eq_some_iff.1 HK0.out).1).trans HK0.out
  have HK2N : Hid (x17.heap[x7.heap.size]? = Option.some (.cells (clusA Q s4) 37 (0, 0))) := (hb.block _ (Array.getElem?_eq_some_iff.1 HK2.out).1).trans HK2.out
  have HM2N : Hid (OwnC x6.heap.size x7.heap.size x17 (cmC 1 Q s4) (cmS 1 s4)) := HM2.out.below hb
  have HC3N : Hid (OwnC x15.heap.size x16.heap.size x17 c s6) := HC3.out.below hb
  have HZ17 : Hid (x16.heap.size ≤ x17.heap.size) := hb.size
  clear HB HKa HC0 HK0 HK2 HM2 HC3
  have HB := HBN
  clear HBN
  have HKa := HKaN
  clear HKaN
  have HC0 := HC0N
  clear HC0N
  have HK0 := HK0N
  clear HK0N
  have HK2 := HK2N
  clear HK2N
  have HM2 := HM2N
  clear HM2N
  have HC3 := HC3N
  clear HC3N
  have HC4 := HC4A
  clear HC4A
  clear ho hb hsp
  go_wp2_with (first | (refine wpList_store_blk rfl _ _ _ rfl x17.heap.size (clusA Q s7) rfl rfl 37 zeroC (heap_alloc_new x17 _) (by kernel_rfl) rfl (clusA_one HC4.out) ?_; intro x18 hg hk hz; have hb : Below x17.heap.size x17 x18 := made_below hg; have hlt : x17.heap.size < x18.heap.size := (Array.getElem?_eq_some_iff.1 hk).1; have HBN : Hid (Below w.heap.size w x18) := bt HB.out hb; have HKaN : Hid (x18.heap[w.heap.size]? = Option.some (.cells (clusA c s) 28 (0, 0))) := (hb.block _ (Array.getElem?_eq_some_iff.1 HKa.out).1).trans HKa.out; have HC0N : Hid (OwnC x2.heap.size x3.heap.size x18 Q s2) := HC0.out.below hb; have HK0N : Hid (x18.heap[x3.heap.size]? = Option.some (.cells (clusA Q s2) 37 (0, 0))) := (hb.block _ (Array.getElem?_eq_some_iff.1 HK0.out).1).trans HK0.out; have HK2N : Hid (x18.heap[x7.heap.size]? = Option.some (.cells (clusA Q s4) 37 (0, 0))) := (hb.block _ (Array.getElem?_eq_some_iff.1 HK2.out).1).trans HK2.out; have HM2N : Hid (OwnC x6.heap.size x7.heap.size x18 (cmC 1 Q s4) (cmS 1 s4)) := HM2.out.below hb; have HC3N : Hid (OwnC x15.heap.size x16.heap.size x18 c s6) := HC3.out.below hb; have HC4N : Hid (OwnC x16.heap.size x17.heap.size x18 Q s7) := HC4.out.below hb; have HZ18 : Hid (x17.heap.size < x18.heap.size) := hlt; clear HB HKa HC0 HK0 HK2 HM2 HC3 HC4; have HB := HBN; clear HBN; have HKa := HKaN; clear HKaN; have HC0 := HC0N; clear HC0N; have HK0 := HK0N; clear HK0N; have HK2 := HK2N; clear HK2N; have HM2 := HM2N; clear HM2N; have HC3 := HC3N; clear HC3N; have HC4 := HC4N; clear HC4N; have HK3 : Hid (x18.heap[x17.heap.size]? = Option.some (.cells (clusA Q s7) 37 (0, 0))) := hk; clear hg hk hz hb hlt) | (refine wpList_load_row rfl _ _ rfl w.heap.size rfl 28 _ (0, 0) _ HKa.out Tryz.underlying28 rfl (by kernel_rfl) ?_) | (refine wpList_load_row rfl _ _ rfl x3.heap.size rfl 37 _ (0, 0) _ HK0.out Tryz.underlying37 rfl (by kernel_rfl) ?_) | (refine wpList_load_row rfl _ _ rfl x7.heap.size rfl 37 _ (0, 0) _ HK2.out Tryz.underlying37 rfl (by kernel_rfl) ?_) | (refine wpList_load_row rfl _ _ rfl x17.heap.size rfl 37 _ (0, 0) _ HK3.out Tryz.underlying37 rfl (by kernel_rfl) ?_) | (refine wpList_load_row_w (by first | rfl | simp [Region.wanted, yielded] | simp [Region.wanted, yielded, hk0]) _ _ rfl w.heap.size rfl 28 _ (0, 0) _ HKa.out Tryz.underlying28 rfl (by kernel_rfl) ?_) | (refine wpList_load_row_w (by first | rfl | simp [Region.wanted, yielded] | simp [Region.wanted, yielded, hk0]) _ _ rfl x3.heap.size rfl 37 _ (0, 0) _ HK0.out Tryz.underlying37 rfl (by kernel_rfl) ?_) | (refine wpList_load_row_w (by first | rfl | simp [Region.wanted, yielded] | simp [Region.wanted, yielded, hk0]) _ _ rfl x7.heap.size rfl 37 _ (0, 0) _ HK2.out Tryz.underlying37 rfl (by kernel_rfl) ?_) | (refine wpList_load_row_w (by first | rfl | simp [Region.wanted, yielded] | simp [Region.wanted, yielded, hk0]) _ _ rfl x17.heap.size rfl 37 _ (0, 0) _ HK3.out Tryz.underlying37 rfl (by kernel_rfl) ?_))
  clear HC3
  refine (eqCluster_yes Q s7 s2 x18 HC4.out.reads HC0.out.reads HFQ.out.1).mono ?_
  rintro e x19 ⟨rfl, hb⟩
  have HBN : Hid (Below w.heap.size w x19) := bt HB.out hb
  have HKaN : Hid (x19.heap[w.heap.size]? = Option.some (.cells (clusA c s) 28 (0, 0))) := (hb.block _ (Array.getElem?_eq_some_iff.1 HKa.out).1).trans HKa.out
  have HC0N : Hid (OwnC x2.heap.size x3.heap.size x19 Q s2) := HC0.out.below hb
  have HK0N : Hid (x19.heap[x3.heap.size]? = Option.some (.cells (clusA Q s2) 37 (0, 0))) := (hb.block _ (Array.getElem?_eq_some_iff.1 HK0.out).1).trans HK0.out
  have HK2N : Hid (x19.heap[x7.heap.size]? = Option.some (.cells (clusA Q s4) 37 (0, 0))) := (hb.block _ (Array.getElem?_eq_some_iff.1 HK2.out).1).trans HK2.out
  have HM2N : Hid (OwnC x6.heap.size x7.heap.size x19 (cmC 1 Q s4) (cmS 1 s4)) := HM2.out.below hb
  have HC4N : Hid (OwnC x16.heap.size x17.heap.size x19 Q s7) := HC4.out.below hb
  have HK3N : Hid (x19.heap[x17.heap.size]? = Option.some (.cells (clusA Q s7) 37 (0, 0))) := (hb.block _ (Array.getElem?_eq_some_iff.1 HK3.out).1).trans HK3.out
  have HZ19 : Hid (x18.heap.size ≤ x19.heap.size) := hb.size
  clear HB HKa HC0 HK0 HK2 HM2 HC4 HK3
  have HB := HBN
  clear HBN
  have HKa := HKaN
  clear HKaN
  have HC0 := HC0N
  clear HC0N
  have HK0 := HK0N
  clear HK0N
  have HK2 := HK2N
  clear HK2N
  have HM2 := HM2N
  clear HM2N
  have HC4 := HC4N
  clear HC4N
  have HK3 := HK3N
  clear HK3N
  clear hb
  go_wp2_with (first | (refine wpList_load_row rfl _ _ rfl w.heap.size rfl 28 _ (0, 0) _ HKa.out Tryz.underlying28 rfl (by kernel_rfl) ?_) | (refine wpList_load_row rfl _ _ rfl x3.heap.size rfl 37 _ (0, 0) _ HK0.out Tryz.underlying37 rfl (by kernel_rfl) ?_) | (refine wpList_load_row rfl _ _ rfl x7.heap.size rfl 37 _ (0, 0) _ HK2.out Tryz.underlying37 rfl (by kernel_rfl) ?_) | (refine wpList_load_row rfl _ _ rfl x17.heap.size rfl 37 _ (0, 0) _ HK3.out Tryz.underlying37 rfl (by kernel_rfl) ?_) | (refine wpList_load_row_w (by first | rfl | simp [Region.wanted, yielded] | simp [Region.wanted, yielded, hk0]) _ _ rfl w.heap.size rfl 28 _ (0, 0) _ HKa.out Tryz.underlying28 rfl (by kernel_rfl) ?_) | (refine wpList_load_row_w (by first | rfl | simp [Region.wanted, yielded] | simp [Region.wanted, yielded, hk0]) _ _ rfl x3.heap.size rfl 37 _ (0, 0) _ HK0.out Tryz.underlying37 rfl (by kernel_rfl) ?_) | (refine wpList_load_row_w (by first | rfl | simp [Region.wanted, yielded] | simp [Region.wanted, yielded, hk0]) _ _ rfl x7.heap.size rfl 37 _ (0, 0) _ HK2.out Tryz.underlying37 rfl (by kernel_rfl) ?_) | (refine wpList_load_row_w (by first | rfl | simp [Region.wanted, yielded] | simp [Region.wanted, yielded, hk0]) _ _ rfl x17.heap.size rfl 37 _ (0, 0) _ HK3.out Tryz.underlying37 rfl (by kernel_rfl) ?_))
  refine (heldCluster_own Q s4 1 x6.heap.size x7.heap.size x19 HM2.out HMK.out Q).mono ?_
  rintro e x20 ⟨rfl, hb⟩
  have HBN : Hid (Below w.heap.size w x20) := bt HB.out hb
  have HKaN : Hid (x20.heap[w.heap.size]? = Option.some (.cells (clusA c s) 28 (0, 0))) := (hb.block _ (Array.getElem?_eq_some_iff.1 HKa.out).1).trans HKa.out
  have HC0N : Hid (OwnC x2.heap.size x3.heap.size x20 Q s2) := HC0.out.below hb
  have HK0N : Hid (x20.heap[x3.heap.size]? = Option.some (.cells (clusA Q s2) 37 (0, 0))) := (hb.block _ (Array.getElem?_eq_some_iff.1 HK0.out).1).trans HK0.out
  have HK2N : Hid (x20.heap[x7.heap.size]? = Option.some (.cells (clusA Q s4) 37 (0, 0))) := (hb.block _ (Array.getElem?_eq_some_iff.1 HK2.out).1).trans HK2.out
  have HM2N : Hid (OwnC x6.heap.size x7.heap.size x20 (cmC 1 Q s4) (cmS 1 s4)) := HM2.out.below hb
  have HC4N : Hid (OwnC x16.heap.size x17.heap.size x20 Q s7) := HC4.out.below hb
  have HK3N : Hid (x20.heap[x17.heap.size]? = Option.some (.cells (clusA Q s7) 37 (0, 0))) := (hb.block _ (Array.getElem?_eq_some_iff.1 HK3.out).1).trans HK3.out
  have HZ20 : Hid (x19.heap.size ≤ x20.heap.size) := hb.size
  clear HB HKa HC0 HK0 HK2 HM2 HC4 HK3
  have HB := HBN
  clear HBN
  have HKa := HKaN
  clear HKaN
  have HC0 := HC0N
  clear HC0N
  have HK0 := HK0N
  clear HK0N
  have HK2 := HK2N
  clear HK2N
  have HM2 := HM2N
  clear HM2N
  have HC4 := HC4N
  clear HC4N
  have HK3 := HK3N
  clear HK3N
  clear hb
  go_wp2
  go_ret
  exact ⟨rfl, HB.out⟩

end Go.Proofs.YtjieklilojmifauGreatR.WFnExactTwiceAt
