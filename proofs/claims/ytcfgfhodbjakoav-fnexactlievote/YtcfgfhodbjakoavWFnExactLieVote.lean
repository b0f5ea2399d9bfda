/-
  The walk of the law FnExactLieVote: the specification's answer and the program's are the same; what came in is as it was. (Made by gl16.py.)
-/
import Derived.Test.YtcfgfhodbjakoavClusC
import Derived.Test.YtcfgfhodbjakoavVotedS
import Derived.Test.YtcfgfhodbjakoavRegH
import Derived.Test.YtcfgfhodbjakoavLieVN
import Derived.Test.YtcfgfhodbjakoavJ1
namespace Go.Proofs.Ytcfgfhodbjakoav.WFnExactLieVote
open Go.RowKit Num

/-- a vote of one that lies: what it answers -/
def ConV (f : FuncId) : Prop := ∀ (c : CU) (s : CW) (i to' ph k : Int) (w : World) (_ : ClusR w c s) (_ : (c.tree.length : Int) ≤ 1048576), Calls Try.prog f #[clusV c s, .int .i64 i, .int .i64 to', .int .i64 ph, .int .i64 k] w fun e w' => e = .returned (.agg (letA (lieVoteL c i to' ph k))) ∧ Below w.heap.size w w'
set_option maxRecDepth 100000 in
set_option maxHeartbeats 16000000 in
theorem walk_of (HSp : ConV 5) (HI : ConV 7) (w : World) (c : CU) (s : CW) (hR : ClusR w c s) (hg : goodC c) (i : Int) (_ : (Lit.int .i64 i).wf = true) (to' : Int) (_ : (Lit.int .i64 to').wf = true) (ph : Int) (_ : (Lit.int .i64 ph).wf = true) (k : Int) (hwk : (Lit.int .i64 k).wf = true) :
    Calls Try.prog 3 #[clusV c s, .int .i64 i, .int .i64 to', .int .i64 ph, .int .i64 k] w fun e w' => e = .returned (.bool true) ∧ Below w.heap.size w w' := by
  have HR : Hid (ClusR w c s) := hR
  have HG : Hid (goodC c) := hg
  have HWk : Hid ((Lit.int .i64 k).wf = true) := hwk
  clear hR hg hwk
  obtain ⟨X, hX⟩ : ∃ X, X = w.alloc (.cells (clusA c s) 28) := ⟨_, rfl⟩
  have HB : Hid (Below w.heap.size w X) := (by rw [hX]; exact ba (Below.refl _ _) _ : Below w.heap.size w X)
  have HKa : Hid (X.heap[w.heap.size]? = Option.some (.cells (clusA c s) 28 (0, 0))) := (by rw [hX]; exact heap_alloc_new w _ : X.heap[w.heap.size]? = _)
  have HZ0 : Hid (w.heap.size < X.heap.size) := (Array.getElem?_eq_some_iff.1 HKa.out).1
  go_enter Try.func3, Try.ntmps3
  go_wp2_with (first | (rw [← hX]; clear hX; (refine wpList_load_row rfl _ _ rfl w.heap.size rfl 28 _ (0, 0) _ HKa.out Try.underlying28 rfl (by kernel_rfl) ?_)) | (refine wpList_load_row rfl _ _ rfl w.heap.size rfl 28 _ (0, 0) _ HKa.out Try.underlying28 rfl (by kernel_rfl) ?_))
  refine (szCluster_any c s 1048576 X (by decide) (by decide) (HR.out.below HB.out) HG.out).mono ?_
  rintro e x1 ⟨z, rfl, hz, hb⟩
  have HBN : Hid (Below w.heap.size w x1) := bt HB.out hb
  have HKaN : Hid (x1.heap[w.heap.size]? = Option.some (.cells (clusA c s) 28 (0, 0))) := (hb.block _ (Array.getElem?_eq_some_iff.1 HKa.out).1).trans HKa.out
  have HZ1 : Hid (X.heap.size ≤ x1.heap.size) := hb.size
  clear HB HKa
  have HB := HBN
  clear HBN
  have HKa := HKaN
  clear HKaN
  clear hb
  rcases hz with rfl | ⟨z0, hsum, hok⟩
  · go_wp2
    go_ret
    exact ⟨rfl, HB.out⟩
  have HO : Hid (okC c) := hok
  have HWT : Hid (wtCl c ≤ 1048576) := (by omega : wtCl c ≤ 1048576)
  have hzn : ¬ z < 0 := by omega
  clear hok hsum
  obtain ⟨L, hL⟩ : ∃ L, L = lieVoteL c i to' ph k := ⟨_, rfl⟩
  have HQ : Hid (lieVoteL c i to' ph k = L) := hL.symm
  clear hL
  go_wp2_with (first | (refine wpList_load_row rfl _ _ rfl w.heap.size rfl 28 _ (0, 0) _ HKa.out Try.underlying28 rfl (by kernel_rfl) ?_) | (refine wpList_load_row_w (by first | rfl | simp [Region.wanted, yielded] | simp [Region.wanted, yielded, hk0]) _ _ rfl w.heap.size rfl 28 _ (0, 0) _ HKa.out Try.underlying28 rfl (by kernel_rfl) ?_))
  refine (toCluster_any c s x1 (HR.out.below HB.out) HO.out).mono ?_
  rintro e x2 ⟨s1, rfl, ho, hb⟩
  have HCaA : Hid (OwnC x1.heap.size x2.heap.size x2 c s1) := ho
  have HBN : Hid (Below w.heap.size w x2) := bt HB.out hb
  have HKaN : Hid (x2.heap[w.heap.size]? = Option.some (.cells (clusA c s) 28 (0, 0))) := (hb.block _ (Array.getElem?_eq_some_iff.1 HKa.out).1).trans HKa.out
  have HZ2 : Hid (x1.heap.size ≤ x2.heap.size) := hb.size
  clear HB HKa
  have HB := HBN
  clear HBN
  have HKa := HKaN
  clear HKaN
  have HCa := HCaA
  clear HCaA
  clear ho hb
  go_wp2_with (first | (refine wpList_load_row rfl _ _ rfl w.heap.size rfl 28 _ (0, 0) _ HKa.out Try.underlying28 rfl (by kernel_rfl) ?_) | (refine wpList_load_row_w (by first | rfl | simp [Region.wanted, yielded] | simp [Region.wanted, yielded, hk0]) _ _ rfl w.heap.size rfl 28 _ (0, 0) _ HKa.out Try.underlying28 rfl (by kernel_rfl) ?_))
  have hsp := HSp c s1 i to' ph k x2 HCa.out.reads HO.out.tree.1
  rw [HQ.out] at hsp
  refine (hsp).mono ?_
  rintro e x3 ⟨rfl, hb⟩
  have HBN : Hid (Below w.heap.size w x3) := bt HB.out hb
  have HKaN : Hid (x3.heap[w.heap.size]? = Option.some (.cells (clusA c s) 28 (0, 0))) := (hb.block _ (Array.getElem?_eq_some_iff.1 HKa.out).1).trans HKa.out
  have HCaN : Hid (OwnC x1.heap.size x2.heap.size x3 c s1) := HCa.out.below hb
  have HZ3 : Hid (x2.heap.size ≤ x3.heap.size) := hb.size
  clear HB HKa HCa
  have HB := HBN
  clear HBN
  have HKa := HKaN
  clear HKaN
  have HCa := HCaN
  clear HCaN
  clear hb hsp
  go_wp2_with (first | (refine wpList_store_blk rfl _ _ _ rfl x3.heap.size (letA L) rfl rfl 35 (letA ((0, 0, 0, 0, 0), (0, 0, 0, 0), (0, 0, 0, 0))) (heap_alloc_new x3 _) (by kernel_rfl) rfl (letA_one _) ?_; intro x4 hg hk hz; have hb : Below x3.heap.size x3 x4 := made_below hg; have hlt : x3.heap.size < x4.heap.size := (Array.getElem?_eq_some_iff.1 hk).1; have HBN : Hid (Below w.heap.size w x4) := bt HB.out hb; have HKaN : Hid (x4.heap[w.heap.size]? = Option.some (.cells (clusA c s) 28 (0, 0))) := (hb.block _ (Array.getElem?_eq_some_iff.1 HKa.out).1).trans HKa.out; have HCaN : Hid (OwnC x1.heap.size x2.heap.size x4 c s1) := HCa.out.below hb; have HZ4 : Hid (x3.heap.size < x4.heap.size) := hlt; clear HB HKa HCa; have HB := HBN; clear HBN; have HKa := HKaN; clear HKaN; have HCa := HCaN; clear HCaN; have HK0 : Hid (x4.heap[x3.heap.size]? = Option.some (.cells (letA L) 35 (0, 0))) := hk; clear hg hk hz hb hlt) | (refine wpList_load_row rfl _ _ rfl w.heap.size rfl 28 _ (0, 0) _ HKa.out Try.underlying28 rfl (by kernel_rfl) ?_) | (refine wpList_load_row rfl _ _ rfl x3.heap.size rfl 35 _ (0, 0) _ HK0.out Try.underlying35 rfl (by kernel_rfl) ?_) | (refine wpList_load_row_w (by first | rfl | simp [Region.wanted, yielded] | simp [Region.wanted, yielded, hk0]) _ _ rfl w.heap.size rfl 28 _ (0, 0) _ HKa.out Try.underlying28 rfl (by kernel_rfl) ?_) | (refine wpList_load_row_w (by first | rfl | simp [Region.wanted, yielded] | simp [Region.wanted, yielded, hk0]) _ _ rfl x3.heap.size rfl 35 _ (0, 0) _ HK0.out Try.underlying35 rfl (by kernel_rfl) ?_))
  clear HCa
  refine (toCluster_any c s x4 (HR.out.below HB.out) HO.out).mono ?_
  rintro e x5 ⟨s3, rfl, ho, hb⟩
  have HC1A : Hid (OwnC x4.heap.size x5.heap.size x5 c s3) := ho
  have HBN : Hid (Below w.heap.size w x5) := bt HB.out hb
  have HKaN : Hid (x5.heap[w.heap.size]? = Option.some (.cells (clusA c s) 28 (0, 0))) := (hb.block _ (Array.getElem?_eq_some_iff.1 HKa.out).1).trans HKa.out
  have HK0N : Hid (x5.heap[x3.heap.size]? = Option.some (.cells (letA L) 35 (0, 0))) := (hb.block _ (Array.getElem?_eq_some_iff.1 HK0.out).1).trans HK0.out
  have HZ5 : Hid (x4.heap.size ≤ x5.heap.size) := hb.size
  clear HB HKa HK0
  have HB := HBN
  clear HBN
  have HKa := HKaN
  clear HKaN
  have HK0 := HK0N
  clear HK0N
  have HC1 := HC1A
  clear HC1A
  clear ho hb
  go_wp2_with (first | (refine wpList_store_blk rfl _ _ _ rfl x5.heap.size (clusA c s3) rfl rfl 43 zeroC (heap_alloc_new x5 _) (by kernel_rfl) rfl (clusA_one HC1.out) ?_; intro x6 hg hk hz; have hb : Below x5.heap.size x5 x6 := made_below hg; have hlt : x5.heap.size < x6.heap.size := (Array.getElem?_eq_some_iff.1 hk).1; have HBN : Hid (Below w.heap.size w x6) := bt HB.out hb; have HKaN : Hid (x6.heap[w.heap.size]? = Option.some (.cells (clusA c s) 28 (0, 0))) := (hb.block _ (Array.getElem?_eq_some_iff.1 HKa.out).1).trans HKa.out; have HK0N : Hid (x6.heap[x3.heap.size]? = Option.some (.cells (letA L) 35 (0, 0))) := (hb.block _ (Array.getElem?_eq_some_iff.1 HK0.out).1).trans HK0.out; have HC1N : Hid (OwnC x4.heap.size x5.heap.size x6 c s3) := HC1.out.below hb; have HZ6 : Hid (x5.heap.size < x6.heap.size) := hlt; clear HB HKa HK0 HC1; have HB := HBN; clear HBN; have HKa := HKaN; clear HKaN; have HK0 := HK0N; clear HK0N; have HC1 := HC1N; clear HC1N; have HK1 : Hid (x6.heap[x5.heap.size]? = Option.some (.cells (clusA c s3) 43 (0, 0))) := hk; clear hg hk hz hb hlt) | (refine wpList_load_row rfl _ _ rfl w.heap.size rfl 28 _ (0, 0) _ HKa.out Try.underlying28 rfl (by kernel_rfl) ?_) | (refine wpList_load_row rfl _ _ rfl x3.heap.size rfl 35 _ (0, 0) _ HK0.out Try.underlying35 rfl (by kernel_rfl) ?_) | (refine wpList_load_row rfl _ _ rfl x5.heap.size rfl 43 _ (0, 0) _ HK1.out Try.underlying43 rfl (by kernel_rfl) ?_) | (refine wpList_load_row_w (by first | rfl | simp [Region.wanted, yielded] | simp [Region.wanted, yielded, hk0]) _ _ rfl w.heap.size rfl 28 _ (0, 0) _ HKa.out Try.underlying28 rfl (by kernel_rfl) ?_) | (refine wpList_load_row_w (by first | rfl | simp [Region.wanted, yielded] | simp [Region.wanted, yielded, hk0]) _ _ rfl x3.heap.size rfl 35 _ (0, 0) _ HK0.out Try.underlying35 rfl (by kernel_rfl) ?_) | (refine wpList_load_row_w (by first | rfl | simp [Region.wanted, yielded] | simp [Region.wanted, yielded, hk0]) _ _ rfl x5.heap.size rfl 43 _ (0, 0) _ HK1.out Try.underlying43 rfl (by kernel_rfl) ?_))
  have hsp := HI c s3 i to' ph k x6 HC1.out.reads HO.out.tree.1
  rw [HQ.out] at hsp
  refine (hsp).mono ?_
  rintro e x7 ⟨rfl, hb⟩
  have HBN : Hid (Below w.heap.size w x7) := bt HB.out hb
  have HKaN : Hid (x7.heap[w.heap.size]? = Option.some (.cells (clusA c s) 28 (0, 0))) := (hb.block _ (Array.getElem?_eq_some_iff.1 HKa.out).1).trans HKa.out
  have HK0N : Hid (x7.heap[x3.heap.size]? = Option.some (.cells (letA L) 35 (0, 0))) := (hb.block _ (Array.getElem?_eq_some_iff.1 HK0.out).1).trans HK0.out
  have HC1N : Hid (OwnC x4.heap.size x5.heap.size x7 c s3) := HC1.out.below hb
  have HK1N : Hid (x7.heap[x5.heap.size]? = Option.some (.cells (clusA c s3) 43 (0, 0))) := (hb.block _ (Array.getElem?_eq_some_iff.1 HK1.out).1).trans HK1.out
  have HZ7 : Hid (x6.heap.size ≤ x7.heap.size) := hb.size
  clear HB HKa HK0 HC1 HK1
  have HB := HBN
  clear HBN
  have HKa := HKaN
  clear HKaN
  have HK0 := HK0N
  clear HK0N
  have HC1 := HC1N
  clear HC1N
  have HK1 := HK1N
  clear HK1N
  clear hb hsp
  go_wp2_with (first | (refine wpList_store_blk rfl _ _ _ rfl x7.heap.size (letA L) rfl rfl 35 (letA ((0, 0, 0, 0, 0), (0, 0, 0, 0), (0, 0, 0, 0))) (heap_alloc_new x7 _) (by kernel_rfl) rfl (letA_one _) ?_; intro x8 hg hk hz; have hb : Below x7.heap.size x7 x8 := made_below hg; have hlt : x7.heap.size < x8.heap.size := (Array.getElem?_eq_some_iff.1 hk).1; have HBN : Hid (Below w.heap.size w x8) := bt HB.out hb; have HKaN : Hid (x8.heap[w.heap.size]? = Option.some (.cells (clusA c s) 28 (0, 0))) := (hb.block _ (Array.getElem?_eq_some_iff.1 HKa.out).1).trans HKa.out; have HK0N : Hid (x8.heap[x3.heap.size]? = Option.some (.cells (letA L) 35 (0, 0))) := (hb.block _ (Array.getElem?_eq_some_iff.1 HK0.out).1).trans HK0.out; have HC1N : Hid (OwnC x4.heap.size x5.heap.size x8 c s3) := HC1.out.below hb; have HK1N : Hid (x8.heap[x5.heap.size]? = Option.some (.cells (clusA c s3) 43 (0, 0))) := (hb.block _ (Array.getElem?_eq_some_iff.1 HK1.out).1).trans HK1.out; have HZ8 : Hid (x7.heap.size < x8.heap.size) := hlt; clear HB HKa HK0 HC1 HK1; have HB := HBN; clear HBN; have HKa := HKaN; clear HKaN; have HK0 := HK0N; clear HK0N; have HC1 := HC1N; clear HC1N; have HK1 := HK1N; clear HK1N; have HK2 : Hid (x8.heap[x7.heap.size]? = Option.some (.cells (letA L) 35 (0, 0))) := hk; clear hg hk hz hb hlt) | (refine wpList_load_row rfl _ _ rfl w.heap.size rfl 28 _ (0, 0) _ HKa.out Try.underlying28 rfl (by kernel_rfl) ?_) | (refine wpList_load_row rfl _ _ rfl x3.heap.size rfl 35 _ (0, 0) _ HK0.out Try.underlying35 rfl (by kernel_rfl) ?_) | (refine wpList_load_row rfl _ _ rfl x5.heap.size rfl 43 _ (0, 0) _ HK1.out Try.underlying43 rfl (by kernel_rfl) ?_) | (refine wpList_load_row rfl _ _ rfl x7.heap.size rfl 35 _ (0, 0) _ HK2.out Try.underlying35 rfl (by kernel_rfl) ?_) | (refine wpList_load_row_w (by first | rfl | simp [Region.wanted, yielded] | simp [Region.wanted, yielded, hk0]) _ _ rfl w.heap.size rfl 28 _ (0, 0) _ HKa.out Try.underlying28 rfl (by kernel_rfl) ?_) | (refine wpList_load_row_w (by first | rfl | simp [Region.wanted, yielded] | simp [Region.wanted, yielded, hk0]) _ _ rfl x3.heap.size rfl 35 _ (0, 0) _ HK0.out Try.underlying35 rfl (by kernel_rfl) ?_) | (refine wpList_load_row_w (by first | rfl | simp [Region.wanted, yielded] | simp [Region.wanted, yielded, hk0]) _ _ rfl x5.heap.size rfl 43 _ (0, 0) _ HK1.out Try.underlying43 rfl (by kernel_rfl) ?_) | (refine wpList_load_row_w (by first | rfl | simp [Region.wanted, yielded] | simp [Region.wanted, yielded, hk0]) _ _ rfl x7.heap.size rfl 35 _ (0, 0) _ HK2.out Try.underlying35 rfl (by kernel_rfl) ?_))
  refine (eqLetter_yes L x8).mono ?_
  rintro e x9 ⟨rfl, hb⟩
  have HBN : Hid (Below w.heap.size w x9) := bt HB.out hb
  have HKaN : Hid (x9.heap[w.heap.size]? = Option.some (.cells (clusA c s) 28 (0, 0))) := (hb.block _ (Array.getElem?_eq_some_iff.1 HKa.out).1).trans HKa.out
  have HK0N : Hid (x9.heap[x3.heap.size]? = Option.some (.cells (letA L) 35 (0, 0))) := (hb.block _ (Array.getElem?_eq_some_iff.1 HK0.out).1).trans HK0.out
  have HC1N : Hid (OwnC x4.heap.size x5.heap.size x9 c s3) := HC1.out.below hb
  have HK1N : Hid (x9.heap[x5.heap.size]? = Option.some (.cells (clusA c s3) 43 (0, 0))) := (hb.block _ (Array.getElem?_eq_some_iff.1 HK1.out).1).trans HK1.out
  have HK2N : Hid (x9.heap[x7.heap.size]? = Option.some (.cells (letA L) 35 (0, 0))) := (hb.block _ (Array.getElem?_eq_some_iff.1 HK2.out).1).trans HK2.out
  have HZ9 : Hid (x8.heap.size ≤ x9.heap.size) := hb.size
  clear HB HKa HK0 HC1 HK1 HK2
  have HB := HBN
  clear HBN
  have HKa := HKaN
  clear HKaN
  have HK0 := HK0N
  clear HK0N
  have HC1 := HC1N
  clear HC1N
  have HK1 := HK1N
  clear HK1N
  have HK2 := HK2N
  clear HK2N
  clear hb
  go_wp2
  refine wp_region_H (fun x => x.heap[w.heap.size]? = some (.cells (clusA c s) 28 (0, 0)) ∧ x.heap[x5.heap.size]? = some (.cells (clusA c s3) 43 (0, 0))) (by kernel_rfl) ?_
  show wpAnyH Try.prog _ _ _ _ (4 + 1) (Array.replicate 5 false) _ _
  have hS : x9.drew.heap[w.heap.size]? = some (.cells (clusA c s) 28 (0, 0)) ∧ x9.drew.heap[x5.heap.size]? = some (.cells (clusA c s3) 43 (0, 0)) := ⟨HKa.out, HK1.out⟩
  refine h_take (j := 0) (e' := some 39) (v := .agg (clusA c s3)) rfl rfl (by kernel_rfl) (by kernel_rfl) (by kernel_rfl) (fun _ _ _ h => h) (Or.inl ⟨by rfl, fun x hx => exec_load_blk _ _ rfl x5.heap.size rfl _ _ _ _ hx.2 Try.underlying43 rfl (by kernel_rfl)⟩) hS ?_
  simp only [Act.put, List.setIfInBounds_toArray, List.set_cons_zero, List.set_cons_succ]
  refine h_take (j := 1) (e' := some 40) (v := .agg (clusA c s)) rfl rfl (by kernel_rfl) (by kernel_rfl) (by kernel_rfl) (fun _ _ _ h => h) (Or.inl ⟨by rfl, fun x hx => exec_load_blk _ _ rfl w.heap.size rfl _ _ _ _ hx.1 Try.underlying28 rfl (by kernel_rfl)⟩) hS ?_
  simp only [Act.put, List.setIfInBounds_toArray, List.set_cons_zero, List.set_cons_succ]
  refine h_call (c := 2) (e' := some 41) (fn := 6) (args := #[.agg (clusA c s)]) rfl rfl (by kernel_rfl) (by rfl) ?_ ((toCluster_any c s x9.drew (HR.out.below (HB.out.trans (Below.refl _ _).drew)) HO.out).mono ?_)
  · go_simp
    try with_reducible rfl
  rintro e x10 ⟨s5, rfl, ho, hb0⟩
  have hb : Below x9.heap.size x9 x10 := ((Below.refl _ _).drew).trans hb0
  have HRb : Hid (ClusR x10 c s5) := ho.reads
  have HBN : Hid (Below w.heap.size w x10) := bt HB.out hb
  have HKaN : Hid (x10.heap[w.heap.size]? = Option.some (.cells (clusA c s) 28 (0, 0))) := (hb.block _ (Array.getElem?_eq_some_iff.1 HKa.out).1).trans HKa.out
  have HK0N : Hid (x10.heap[x3.heap.size]? = Option.some (.cells (letA L) 35 (0, 0))) := (hb.block _ (Array.getElem?_eq_some_iff.1 HK0.out).1).trans HK0.out
  have HC1N : Hid (OwnC x4.heap.size x5.heap.size x10 c s3) := HC1.out.below hb
  have HK1N : Hid (x10.heap[x5.heap.size]? = Option.some (.cells (clusA c s3) 43 (0, 0))) := (hb.block _ (Array.getElem?_eq_some_iff.1 HK1.out).1).trans HK1.out
  have HK2N : Hid (x10.heap[x7.heap.size]? = Option.some (.cells (letA L) 35 (0, 0))) := (hb.block _ (Array.getElem?_eq_some_iff.1 HK2.out).1).trans HK2.out
  have HZ10 : Hid (x9.heap.size ≤ x10.heap.size) := hb.size
  clear HB HKa HK0 HC1 HK1 HK2
  have HB := HBN
  clear HBN
  have HKa := HKaN
  clear HKaN
  have HK0 := HK0N
  clear HK0N
  have HC1 := HC1N
  clear HC1N
  have HK1 := HK1N
  clear HK1N
  have HK2 := HK2N
  clear HK2N
  have hS1 : x10.heap[w.heap.size]? = some (.cells (clusA c s) 28 (0, 0)) ∧ x10.heap[x5.heap.size]? = some (.cells (clusA c s3) 43 (0, 0)) := ⟨HKa.out, HK1.out⟩
  clear ho hb hb0 hS
  refine ⟨_, rfl, hS1, ?_⟩
  simp only [Act.put, List.setIfInBounds_toArray, List.set_cons_zero, List.set_cons_succ]
  refine h_call (c := 3) (e' := some 42) (fn := 9) (args := #[.agg (clusA c s3), .agg (clusA c s5)]) rfl rfl (by kernel_rfl) (by rfl) ?_ ((eqCluster_yes c s3 s5 x10 HC1.out.reads HRb.out HO.out).mono ?_)
  · go_simp
    try with_reducible rfl
  rintro e x11 ⟨rfl, hb⟩
  have HBN : Hid (Below w.heap.size w x11) := bt HB.out hb
  have HKaN : Hid (x11.heap[w.heap.size]? = Option.some (.cells (clusA c s) 28 (0, 0))) := (hb.block _ (Array.getElem?_eq_some_iff.1 HKa.out).1).trans HKa.out
  have HK0N : Hid (x11.heap[x3.heap.size]? = Option.some (.cells (letA L) 35 (0, 0))) := (hb.block _ (Array.getElem?_eq_some_iff.1 HK0.out).1).trans HK0.out
  have HC1N : Hid (OwnC x4.heap.size x5.heap.size x11 c s3) := HC1.out.below hb
  have HK1N : Hid (x11.heap[x5.heap.size]? = Option.some (.cells (clusA c s3) 43 (0, 0))) := (hb.block _ (Array.getElem?_eq_some_iff.1 HK1.out).1).trans HK1.out
  have HK2N : Hid (x11.heap[x7.heap.size]? = Option.some (.cells (letA L) 35 (0, 0))) := (hb.block _ (Array.getElem?_eq_some_iff.1 HK2.out).1).trans HK2.out
  have HZ11 : Hid (x10.heap.size ≤ x11.heap.size) := hb.size
  clear HB HKa HK0 HC1 HK1 HK2
  have HB := HBN
  clear HBN
  have HKa := HKaN
  clear HKaN
  have HK0 := HK0N
  clear HK0N
  have HC1 := HC1N
  clear HC1N
  have HK1 := HK1N
  clear HK1N
  have HK2 := HK2N
  clear HK2N
  have hS2 : x11.heap[w.heap.size]? = some (.cells (clusA c s) 28 (0, 0)) ∧ x11.heap[x5.heap.size]? = some (.cells (clusA c s3) 43 (0, 0)) := ⟨HKa.out, HK1.out⟩
  clear hb hS1 HRb
  refine ⟨_, rfl, hS2, ?_⟩
  simp only [Act.put, List.setIfInBounds_toArray, List.set_cons_zero, List.set_cons_succ]
  refine h_take (j := 4) (e' := some 43) (v := .bool false) rfl rfl (by kernel_rfl) (by kernel_rfl) (by kernel_rfl) (fun _ _ _ h => h) (Or.inl ⟨by rfl, ?_⟩) hS2 ?_
  · intro x hx
    go_simp
    try with_reducible rfl
  simp only [Act.put, List.setIfInBounds_toArray, List.set_cons_zero, List.set_cons_succ]
  refine wpAnyH_done (by kernel_rfl) ?_ _
  clear hS2
  go_wp2
  go_ret
  exact ⟨rfl, HB.out⟩

end Go.Proofs.Ytcfgfhodbjakoav.WFnExactLieVote
