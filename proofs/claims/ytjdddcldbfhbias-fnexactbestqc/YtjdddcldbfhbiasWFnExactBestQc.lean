/-
  The walk of the law FnExactBestQc: the specification's answer and the program's are the same; what came in is as it was. (Made by gl13.py.)
-/
import Derived.Test.YtjdddcldbfhbiasBestS
import Derived.Test.YtjdddcldbfhbiasVotedS
import Derived.Test.YtjdddcldbfhbiasLetsL
namespace Go.Proofs.Ytjdddcldbfhbias.WFnExactBestQc
open Go.RowKit Num

/-- the program's contract -/
def Prg : Prop := ∀ (p : PE) (s : PV) (lo hi : Nat) (w : World) (_ : OwnD lo hi w p s) (_ : smallPe p) (_ : goodPe p), Calls Try.prog 13 #[peerV p s] w fun e w' => e = .returned (.agg #[.int .i64 (bestT p).1, .int .i64 (bestT p).2.1, .int .i64 (bestT p).2.2.1, .int .i64 (bestT p).2.2.2]) ∧ Below w.heap.size w w'

set_option maxRecDepth 100000 in
set_option maxHeartbeats 16000000 in
theorem walk_of (HI : Prg) (w : World) (p : PE) (s : PV) (hR : PeerR w p s) (hg : goodPe p) :
    Calls Try.prog 4 #[peerV p s] w fun e w' => e = .returned (.bool true) ∧ Below w.heap.size w w' := by
  have HR : Hid (PeerR w p s) := hR
  have HG : Hid (goodPe p) := hg
  clear hR hg
  obtain ⟨X, hX⟩ : ∃ X, X = w.alloc (.cells (peerA p s) 40) := ⟨_, rfl⟩
  have HB : Hid (Below w.heap.size w X) := (by rw [hX]; exact ba (Below.refl _ _) _ : Below w.heap.size w X)
  have HKa : Hid (X.heap[w.heap.size]? = Option.some (.cells (peerA p s) 40 (0, 0))) := (by rw [hX]; exact heap_alloc_new w _ : X.heap[w.heap.size]? = _)
  have HZ0 : Hid (w.heap.size < X.heap.size) := (Array.getElem?_eq_some_iff.1 HKa.out).1
  go_enter Try.func4, Try.ntmps4
  go_wp2_with (first | (rw [← hX]; clear hX; (refine wpList_load_row rfl _ _ rfl w.heap.size rfl 40 _ (0, 0) _ HKa.out Try.underlying40 rfl (by kernel_rfl) ?_)) | (refine wpList_load_row rfl _ _ rfl w.heap.size rfl 40 _ (0, 0) _ HKa.out Try.underlying40 rfl (by kernel_rfl) ?_))
  refine (szPeer_any p s 1048576 X (by decide) (by decide) (HR.out.below HB.out) HG.out).mono ?_
  rintro e x1 ⟨z, rfl, hz, hb⟩
  have HBN : Hid (Below w.heap.size w x1) := bt HB.out hb
  have HKaN : Hid (x1.heap[w.heap.size]? = Option.some (.cells (peerA p s) 40 (0, 0))) := (hb.block _ (Array.getElem?_eq_some_iff.1 HKa.out).1).trans HKa.out
  have HZ1 : Hid (X.heap.size ≤ x1.heap.size) := hb.size
  clear HB HKa
  have HB := HBN
  clear HBN
  have HKa := HKaN
  clear HKaN
  clear hb
  rcases hz with rfl | ⟨z0, hsum, hsm⟩
  · go_wp2
    go_ret
    exact ⟨rfl, HB.out⟩
  have HS : Hid (smallPe p) := hsm
  clear hsum hsm
  obtain ⟨Q, hQ⟩ : ∃ Q, Q = bestT p := ⟨_, rfl⟩
  have HQ : Hid (bestT p = Q) := hQ.symm
  clear hQ
  go_wp2_with (first | (refine wpList_load_row rfl _ _ rfl w.heap.size rfl 40 _ (0, 0) _ HKa.out Try.underlying40 rfl (by kernel_rfl) ?_) | (refine wpList_load_row_w (by first | rfl | simp [Region.wanted, yielded] | simp [Region.wanted, yielded, hk0]) _ _ rfl w.heap.size rfl 40 _ (0, 0) _ HKa.out Try.underlying40 rfl (by kernel_rfl) ?_))
  refine (toPeer_any p s x1 (HR.out.below HB.out) HS.out).mono ?_
  rintro e x2 ⟨s1, rfl, ho, hb⟩
  have HRaA : Hid (PeerR x2 p s1) := ho.reads
  have HBN : Hid (Below w.heap.size w x2) := bt HB.out hb
  have HKaN : Hid (x2.heap[w.heap.size]? = Option.some (.cells (peerA p s) 40 (0, 0))) := (hb.block _ (Array.getElem?_eq_some_iff.1 HKa.out).1).trans HKa.out
  have HZ2 : Hid (x1.heap.size ≤ x2.heap.size) := hb.size
  clear HB HKa
  have HB := HBN
  clear HBN
  have HKa := HKaN
  clear HKaN
  have HRa := HRaA
  clear HRaA
  clear ho hb
  go_wp2_with (first | (refine wpList_load_row rfl _ _ rfl w.heap.size rfl 40 _ (0, 0) _ HKa.out Try.underlying40 rfl (by kernel_rfl) ?_) | (refine wpList_load_row_w (by first | rfl | simp [Region.wanted, yielded] | simp [Region.wanted, yielded, hk0]) _ _ rfl w.heap.size rfl 40 _ (0, 0) _ HKa.out Try.underlying40 rfl (by kernel_rfl) ?_))
  have hsp := bestQc_s p s1 x2 HRa.out HS.out.news
  rw [HQ.out] at hsp
  refine (hsp).mono ?_
  rintro e x3 ⟨rfl, hb⟩
  have HBN : Hid (Below w.heap.size w x3) := bt HB.out hb
  have HKaN : Hid (x3.heap[w.heap.size]? = Option.some (.cells (peerA p s) 40 (0, 0))) := (hb.block _ (Array.getElem?_eq_some_iff.1 HKa.out).1).trans HKa.out
  have HRaN : Hid (PeerR x3 p s1) := HRa.out.below hb
  have HZ3 : Hid (x2.heap.size ≤ x3.heap.size) := hb.size
  clear HB HKa HRa
  have HB := HBN
  clear HBN
  have HKa := HKaN
  clear HKaN
  have HRa := HRaN
  clear HRaN
  clear hb hsp
  clear HRa
  go_wp2_with (first | (refine wpList_store_blk rfl _ _ _ rfl x3.heap.size #[.int .i64 Q.1, .int .i64 Q.2.1, .int .i64 Q.2.2.1, .int .i64 Q.2.2.2] rfl rfl 42 #[.int .i64 0, .int .i64 0, .int .i64 0, .int .i64 0] (heap_alloc_new x3 _) (by kernel_rfl) rfl (by simp [Value.oneCell']) ?_; intro x4 hg hk hz; have hb : Below x3.heap.size x3 x4 := made_below hg; have hlt : x3.heap.size < x4.heap.size := (Array.getElem?_eq_some_iff.1 hk).1; have HBN : Hid (Below w.heap.size w x4) := bt HB.out hb; have HKaN : Hid (x4.heap[w.heap.size]? = Option.some (.cells (peerA p s) 40 (0, 0))) := (hb.block _ (Array.getElem?_eq_some_iff.1 HKa.out).1).trans HKa.out; have HZ4 : Hid (x3.heap.size < x4.heap.size) := hlt; clear HB HKa; have HB := HBN; clear HBN; have HKa := HKaN; clear HKaN; have HK0 : Hid (x4.heap[x3.heap.size]? = Option.some (.cells #[.int .i64 Q.1, .int .i64 Q.2.1, .int .i64 Q.2.2.1, .int .i64 Q.2.2.2] 42 (0, 0))) := hk; clear hg hk hz hb hlt) | (refine wpList_load_row rfl _ _ rfl w.heap.size rfl 40 _ (0, 0) _ HKa.out Try.underlying40 rfl (by kernel_rfl) ?_) | (refine wpList_load_row rfl _ _ rfl x3.heap.size rfl 42 _ (0, 0) _ HK0.out Try.underlying42 rfl (by kernel_rfl) ?_) | (refine wpList_load_row_w (by first | rfl | simp [Region.wanted, yielded] | simp [Region.wanted, yielded, hk0]) _ _ rfl w.heap.size rfl 40 _ (0, 0) _ HKa.out Try.underlying40 rfl (by kernel_rfl) ?_) | (refine wpList_load_row_w (by first | rfl | simp [Region.wanted, yielded] | simp [Region.wanted, yielded, hk0]) _ _ rfl x3.heap.size rfl 42 _ (0, 0) _ HK0.out Try.underlying42 rfl (by kernel_rfl) ?_))
  refine (toPeer_any p s x4 (HR.out.below HB.out) HS.out).mono ?_
  rintro e x5 ⟨s3, rfl, ho, hb⟩
  have HO1A : Hid (OwnD x4.heap.size x5.heap.size x5 p s3) := ho.toD
  have HBN : Hid (Below w.heap.size w x5) := bt HB.out hb
  have HKaN : Hid (x5.heap[w.heap.size]? = Option.some (.cells (peerA p s) 40 (0, 0))) := (hb.block _ (Array.getElem?_eq_some_iff.1 HKa.out).1).trans HKa.out
  have HK0N : Hid (x5.heap[x3.heap.size]? = Option.some (.cells #[.int .i64 Q.1, .int .i64 Q.2.1, .int .i64 Q.2.2.1, .int .i64 Q.2.2.2] 42 (0, 0))) := (hb.block _ (Array.getElem?_eq_some_iff.1 HK0.out).1).trans HK0.out
  have HZ5 : Hid (x4.heap.size ≤ x5.heap.size) := hb.size
  clear HB HKa HK0
  have HB := HBN
  clear HBN
  have HKa := HKaN
  clear HKaN
  have HK0 := HK0N
  clear HK0N
  have HO1 := HO1A
  clear HO1A
  clear ho hb
  go_wp2_with (first | (refine wpList_store_blk rfl _ _ _ rfl x5.heap.size (peerA p s3) rfl rfl 50 zeroA (heap_alloc_new x5 _) (by kernel_rfl) rfl (peerA_one HO1.out.1) ?_; intro x6 hg hk hz; have hb : Below x5.heap.size x5 x6 := made_below hg; have hlt : x5.heap.size < x6.heap.size := (Array.getElem?_eq_some_iff.1 hk).1; have HBN : Hid (Below w.heap.size w x6) := bt HB.out hb; have HKaN : Hid (x6.heap[w.heap.size]? = Option.some (.cells (peerA p s) 40 (0, 0))) := (hb.block _ (Array.getElem?_eq_some_iff.1 HKa.out).1).trans HKa.out; have HK0N : Hid (x6.heap[x3.heap.size]? = Option.some (.cells #[.int .i64 Q.1, .int .i64 Q.2.1, .int .i64 Q.2.2.1, .int .i64 Q.2.2.2] 42 (0, 0))) := (hb.block _ (Array.getElem?_eq_some_iff.1 HK0.out).1).trans HK0.out; have HO1N : Hid (OwnD x4.heap.size x5.heap.size x6 p s3) := HO1.out.below hb; have HZ6 : Hid (x5.heap.size < x6.heap.size) := hlt; clear HB HKa HK0 HO1; have HB := HBN; clear HBN; have HKa := HKaN; clear HKaN; have HK0 := HK0N; clear HK0N; have HO1 := HO1N; clear HO1N; have HK1 : Hid (x6.heap[x5.heap.size]? = Option.some (.cells (peerA p s3) 50 (0, 0))) := hk; clear hg hk hz hb hlt) | (refine wpList_load_row rfl _ _ rfl w.heap.size rfl 40 _ (0, 0) _ HKa.out Try.underlying40 rfl (by kernel_rfl) ?_) | (refine wpList_load_row rfl _ _ rfl x3.heap.size rfl 42 _ (0, 0) _ HK0.out Try.underlying42 rfl (by kernel_rfl) ?_) | (refine wpList_load_row rfl _ _ rfl x5.heap.size rfl 50 _ (0, 0) _ HK1.out Try.underlying50 rfl (by kernel_rfl) ?_) | (refine wpList_load_row_w (by first | rfl | simp [Region.wanted, yielded] | simp [Region.wanted, yielded, hk0]) _ _ rfl w.heap.size rfl 40 _ (0, 0) _ HKa.out Try.underlying40 rfl (by kernel_rfl) ?_) | (refine wpList_load_row_w (by first | rfl | simp [Region.wanted, yielded] | simp [Region.wanted, yielded, hk0]) _ _ rfl x3.heap.size rfl 42 _ (0, 0) _ HK0.out Try.underlying42 rfl (by kernel_rfl) ?_) | (refine wpList_load_row_w (by first | rfl | simp [Region.wanted, yielded] | simp [Region.wanted, yielded, hk0]) _ _ rfl x5.heap.size rfl 50 _ (0, 0) _ HK1.out Try.underlying50 rfl (by kernel_rfl) ?_))
  have hsp := HI p s3 x4.heap.size x5.heap.size x6 HO1.out HS.out HG.out
  rw [HQ.out] at hsp
  refine (hsp).mono ?_
  rintro e x7 ⟨rfl, hb⟩
  have HBN : Hid (Below w.heap.size w x7) := bt HB.out hb
  have HKaN : Hid (x7.heap[w.heap.size]? = Option.some (.cells (peerA p s) 40 (0, 0))) := (hb.block _ (Array.getElem?_eq_some_iff.1 HKa.out).1).trans HKa.out
  have HK0N : Hid (x7.heap[x3.heap.size]? = Option.some (.cells #[.int .i64 Q.1, .int .i64 Q.2.1, .int .i64 Q.2.2.1, .int .i64 Q.2.2.2] 42 (0, 0))) := (hb.block _ (Array.getElem?_eq_some_iff.1 HK0.out).1).trans HK0.out
  have HO1N : Hid (OwnD x4.heap.size x5.heap.size x7 p s3) := HO1.out.below hb
  have HK1N : Hid (x7.heap[x5.heap.size]? = Option.some (.cells (peerA p s3) 50 (0, 0))) := (hb.block _ (Array.getElem?_eq_some_iff.1 HK1.out).1).trans HK1.out
  have HZ7 : Hid (x6.heap.size ≤ x7.heap.size) := hb.size
  clear HB HKa HK0 HO1 HK1
  have HB := HBN
  clear HBN
  have HKa := HKaN
  clear HKaN
  have HK0 := HK0N
  clear HK0N
  have HO1 := HO1N
  clear HO1N
  have HK1 := HK1N
  clear HK1N
  clear hb hsp
  go_wp2_with (first | (refine wpList_store_blk rfl _ _ _ rfl x7.heap.size #[.int .i64 Q.1, .int .i64 Q.2.1, .int .i64 Q.2.2.1, .int .i64 Q.2.2.2] rfl rfl 42 #[.int .i64 0, .int .i64 0, .int .i64 0, .int .i64 0] (heap_alloc_new x7 _) (by kernel_rfl) rfl (by simp [Value.oneCell']) ?_; intro x8 hg hk hz; have hb : Below x7.heap.size x7 x8 := made_below hg; have hlt : x7.heap.size < x8.heap.size := (Array.getElem?_eq_some_iff.1 hk).1; have HBN : Hid (Below w.heap.size w x8) := bt HB.out hb; have HKaN : Hid (x8.heap[w.heap.size]? = Option.some (.cells (peerA p s) 40 (0, 0))) := (hb.block _ (Array.getElem?_eq_some_iff.1 HKa.out).1).trans HKa.out; have HK0N : Hid (x8.heap[x3.heap.size]? = Option.some (.cells #[.int .i64 Q.1, .int .i64 Q.2.1, .int .i64 Q.2.2.1, .int .i64 Q.2.2.2] 42 (0, 0))) := (hb.block _ (Array.getElem?_eq_some_iff.1 HK0.out).1).trans HK0.out; have HO1N : Hid (OwnD x4.heap.size x5.heap.size x8 p s3) := HO1.out.below hb; have HK1N : Hid (x8.heap[x5.heap.size]? = Option.some (.cells (peerA p s3) 50 (0, 0))) := (hb.block _ (Array.getElem?_eq_some_iff.1 HK1.out).1).trans HK1.out; have HZ8 : Hid (x7.heap.size < x8.heap.size) := hlt; clear HB HKa HK0 HO1 HK1; have HB := HBN; clear HBN; have HKa := HKaN; clear HKaN; have HK0 := HK0N; clear HK0N; have HO1 := HO1N; clear HO1N; have HK1 := HK1N; clear HK1N; have HK2 : Hid (x8.heap[x7.heap.size]? = Option.some (.cells #[.int .i64 Q.1, .int .i64 Q.2.1, .int .i64 Q.2.2.1, .int .i64 Q.2.2.2] 42 (0, 0))) := hk; clear hg hk hz hb hlt) | (refine wpList_load_row rfl _ _ rfl w.heap.size rfl 40 _ (0, 0) _ HKa.out Try.underlying40 rfl (by kernel_rfl) ?_) | (refine wpList_load_row rfl _ _ rfl x3.heap.size rfl 42 _ (0, 0) _ HK0.out Try.underlying42 rfl (by kernel_rfl) ?_) | (refine wpList_load_row rfl _ _ rfl x5.heap.size rfl 50 _ (0, 0) _ HK1.out Try.underlying50 rfl (by kernel_rfl) ?_) | (refine wpList_load_row rfl _ _ rfl x7.heap.size rfl 42 _ (0, 0) _ HK2.out Try.underlying42 rfl (by kernel_rfl) ?_) | (refine wpList_load_row_w (by first | rfl | simp [Region.wanted, yielded] | simp [Region.wanted, yielded, hk0]) _ _ rfl w.heap.size rfl 40 _ (0, 0) _ HKa.out Try.underlying40 rfl (by kernel_rfl) ?_) | (refine wpList_load_row_w (by first | rfl | simp [Region.wanted, yielded] | simp [Region.wanted, yielded, hk0]) _ _ rfl x3.heap.size rfl 42 _ (0, 0) _ HK0.out Try.underlying42 rfl (by kernel_rfl) ?_) | (refine wpList_load_row_w (by first | rfl | simp [Region.wanted, yielded] | simp [Region.wanted, yielded, hk0]) _ _ rfl x5.heap.size rfl 50 _ (0, 0) _ HK1.out Try.underlying50 rfl (by kernel_rfl) ?_) | (refine wpList_load_row_w (by first | rfl | simp [Region.wanted, yielded] | simp [Region.wanted, yielded, hk0]) _ _ rfl x7.heap.size rfl 42 _ (0, 0) _ HK2.out Try.underlying42 rfl (by kernel_rfl) ?_))
  refine (eqQ4_yes Q.1 Q.2.1 Q.2.2.1 Q.2.2.2 x8).mono ?_
  rintro e x9 ⟨rfl, hb⟩
  have HBN : Hid (Below w.heap.size w x9) := bt HB.out hb
  have HKaN : Hid (x9.heap[w.heap.size]? = Option.some (.cells (peerA p s) 40 (0, 0))) := (hb.block _ (Array.getElem?_eq_some_iff.1 HKa.out).1).trans HKa.out
  have HK0N : Hid (x9.heap[x3.heap.size]? = Option.some (.cells #[.int .i64 Q.1, .int .i64 Q.2.1, .int .i64 Q.2.2.1, .int .i64 Q.2.2.2] 42 (0, 0))) := (hb.block _ (Array.getElem?_eq_some_iff.1 HK0.out).1).trans HK0.out
  have HO1N : Hid (OwnD x4.heap.size x5.heap.size x9 p s3) := HO1.out.below hb
  have HK1N : Hid (x9.heap[x5.heap.size]? = Option.some (.cells (peerA p s3) 50 (0, 0))) := (hb.block _ (Array.getElem?_eq_some_iff.1 HK1.out).1).trans HK1.out
  have HK2N : Hid (x9.heap[x7.heap.size]? = Option.some (.cells #[.int .i64 Q.1, .int .i64 Q.2.1, .int .i64 Q.2.2.1, .int .i64 Q.2.2.2] 42 (0, 0))) := (hb.block _ (Array.getElem?_eq_some_iff.1 HK2.out).1).trans HK2.out
  have HZ9 : Hid (x8.heap.size ≤ x9.heap.size) := hb.size
  clear HB HKa HK0 HO1 HK1 HK2
  have HB := HBN
  clear HBN
  have HKa := HKaN
  clear HKaN
  have HK0 := HK0N
  clear HK0N
  have HO1 := HO1N
  clear HO1N
  have HK1 := HK1N
  clear HK1N
  have HK2 := HK2N
  clear HK2N
  clear hb
  go_wp2
  refine wp_region_H (fun x => x.heap[w.heap.size]? = some (.cells (peerA p s) 40 (0, 0)) ∧ x.heap[x5.heap.size]? = some (.cells (peerA p s3) 50 (0, 0))) (by kernel_rfl) ?_
  show wpAnyH Try.prog _ _ _ _ (4 + 1) (Array.replicate 5 false) _ _
  have hS : x9.drew.heap[w.heap.size]? = some (.cells (peerA p s) 40 (0, 0)) ∧ x9.drew.heap[x5.heap.size]? = some (.cells (peerA p s3) 50 (0, 0)) := ⟨HKa.out, HK1.out⟩
  refine h_take (j := 0) (e' := some 23) (v := .agg (peerA p s3)) rfl rfl (by kernel_rfl) (by kernel_rfl) (by kernel_rfl) (fun _ _ _ h => h) (Or.inl ⟨by rfl, fun x hx => exec_load_blk _ _ rfl x5.heap.size rfl _ _ _ _ hx.2 Try.underlying50 rfl (by kernel_rfl)⟩) hS ?_
  simp only [Act.put, List.setIfInBounds_toArray, List.set_cons_zero, List.set_cons_succ]
  refine h_take (j := 1) (e' := some 24) (v := .agg (peerA p s)) rfl rfl (by kernel_rfl) (by kernel_rfl) (by kernel_rfl) (fun _ _ _ h => h) (Or.inl ⟨by rfl, fun x hx => exec_load_blk _ _ rfl w.heap.size rfl _ _ _ _ hx.1 Try.underlying40 rfl (by kernel_rfl)⟩) hS ?_
  simp only [Act.put, List.setIfInBounds_toArray, List.set_cons_zero, List.set_cons_succ]
  refine h_call (c := 2) (e' := some 25) (fn := 12) (args := #[.agg (peerA p s)]) rfl rfl (by kernel_rfl) (by rfl) ?_ ((toPeer_any p s x9.drew (HR.out.below (HB.out.trans (Below.refl _ _).drew)) HS.out).mono ?_)
  · go_simp
    try with_reducible rfl
  rintro e x10 ⟨s5, rfl, ho, hb0⟩
  have hb : Below x9.heap.size x9 x10 := ((Below.refl _ _).drew).trans hb0
  have HRb : Hid (PeerR x10 p s5) := ho.reads
  have HBN : Hid (Below w.heap.size w x10) := bt HB.out hb
  have HKaN : Hid (x10.heap[w.heap.size]? = Option.some (.cells (peerA p s) 40 (0, 0))) := (hb.block _ (Array.getElem?_eq_some_iff.1 HKa.out).1).trans HKa.out
  have HK0N : Hid (x10.heap[x3.heap.size]? = Option.some (.cells #[.int .i64 Q.1, .int .i64 Q.2.1, .int .i64 Q.2.2.1, .int .i64 Q.2.2.2] 42 (0, 0))) := (hb.block _ (Array.getElem?_eq_some_iff.1 HK0.out).1).trans HK0.out
  have HO1N : Hid (OwnD x4.heap.size x5.heap.size x10 p s3) := HO1.out.below hb
  have HK1N : Hid (x10.heap[x5.heap.size]? = Option.some (.cells (peerA p s3) 50 (0, 0))) := (hb.block _ (Array.getElem?_eq_some_iff.1 HK1.out).1).trans HK1.out
  have HK2N : Hid (x10.heap[x7.heap.size]? = Option.some (.cells #[.int .i64 Q.1, .int .i64 Q.2.1, .int .i64 Q.2.2.1, .int .i64 Q.2.2.2] 42 (0, 0))) := (hb.block _ (Array.getElem?_eq_some_iff.1 HK2.out).1).trans HK2.out
  have HZ10 : Hid (x9.heap.size ≤ x10.heap.size) := hb.size
  clear HB HKa HK0 HO1 HK1 HK2
  have HB := HBN
  clear HBN
  have HKa := HKaN
  clear HKaN
  have HK0 := HK0N
  clear HK0N
  have HO1 := HO1N
  clear HO1N
  have HK1 := HK1N
  clear HK1N
  have HK2 := HK2N
  clear HK2N
  have hS1 : x10.heap[w.heap.size]? = some (.cells (peerA p s) 40 (0, 0)) ∧ x10.heap[x5.heap.size]? = some (.cells (peerA p s3) 50 (0, 0)) := ⟨HKa.out, HK1.out⟩
  clear ho hb hb0 hS
  refine ⟨_, rfl, hS1, ?_⟩
  simp only [Act.put, List.setIfInBounds_toArray, List.set_cons_zero, List.set_cons_succ]
  refine h_call (c := 3) (e' := some 26) (fn := 15) (args := #[.agg (peerA p s3), .agg (peerA p s5)]) rfl rfl (by kernel_rfl) (by rfl) ?_ ((eqPeer_yes p s3 s5 x10 HO1.out.reads HRb.out HS.out).mono ?_)
  · go_simp
    try with_reducible rfl
  rintro e x11 ⟨rfl, hb⟩
  have HBN : Hid (Below w.heap.size w x11) := bt HB.out hb
  have HKaN : Hid (x11.heap[w.heap.size]? = Option.some (.cells (peerA p s) 40 (0, 0))) := (hb.block _ (Array.getElem?_eq_some_iff.1 HKa.out).1).trans HKa.out
  have HK0N : Hid (x11.heap[x3.heap.size]? = Option.some (.cells #[.int .i64 Q.1, .int .i64 Q.2.1, .int .i64 Q.2.2.1, .int .i64 Q.2.2.2] 42 (0, 0))) := (hb.block _ (Array.getElem?_eq_some_iff.1 HK0.out).1).trans HK0.out
  have HO1N : Hid (OwnD x4.heap.size x5.heap.size x11 p s3) := HO1.out.below hb
  have HK1N : Hid (x11.heap[x5.heap.size]? = Option.some (.cells (peerA p s3) 50 (0, 0))) := (hb.block _ (Array.getElem?_eq_some_iff.1 HK1.out).1).trans HK1.out
  have HK2N : Hid (x11.heap[x7.heap.size]? = Option.some (.cells #[.int .i64 Q.1, .int .i64 Q.2.1, .int .i64 Q.2.2.1, .int .i64 Q.2.2.2] 42 (0, 0))) := (hb.block _ (Array.getElem?_eq_some_iff.1 HK2.out).1).trans HK2.out
  have HZ11 : Hid (x10.heap.size ≤ x11.heap.size) := hb.size
  clear HB HKa HK0 HO1 HK1 HK2
  have HB := HBN
  clear HBN
  have HKa := HKaN
  clear HKaN
  have HK0 := HK0N
  clear HK0N
  have HO1 := HO1N
  clear HO1N
  have HK1 := HK1N
  clear HK1N
  have HK2 := HK2N
  clear HK2N
  have hS2 : x11.heap[w.heap.size]? = some (.cells (peerA p s) 40 (0, 0)) ∧ x11.heap[x5.heap.size]? = some (.cells (peerA p s3) 50 (0, 0)) := ⟨HKa.out, HK1.out⟩
  clear hb hS1 HRb
  refine ⟨_, rfl, hS2, ?_⟩
  simp only [Act.put, List.setIfInBounds_toArray, List.set_cons_zero, List.set_cons_succ]
  refine h_take (j := 4) (e' := some 27) (v := .bool false) rfl rfl (by kernel_rfl) (by kernel_rfl) (by kernel_rfl) (fun _ _ _ h => h) (Or.inl ⟨by rfl, ?_⟩) hS2 ?_
  · intro x hx
    go_simp
    try with_reducible rfl
  simp only [Act.put, List.setIfInBounds_toArray, List.set_cons_zero, List.set_cons_succ]
  refine wpAnyH_done (by kernel_rfl) ?_ _
  clear hS2
  go_wp2
  go_ret
  exact ⟨rfl, HB.out⟩

end Go.Proofs.Ytjdddcldbfhbias.WFnExactBestQc
