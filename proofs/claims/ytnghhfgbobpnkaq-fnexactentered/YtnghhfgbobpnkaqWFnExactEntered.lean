/-
  The walk of the law FnExactEntered: the specification's answer and the program's are the same; what came in is as it was; the program's answer owns its memory. (Made by gl10.py.)
-/
import Derived.Test.YtnghhfgbobpnkaqVotedS
namespace Go.Proofs.Ytnghhfgbobpnkaq.WFnExactEntered
open Go.RowKit Num

/-- the program's contract -/
def Prg : Prop := ∀ (p : PE) (s : PV) (lo hi : Nat) (view : Int) (w : World) (_ : OwnD lo hi w p s) (_ : smallPe p) (_ : goodPe p) (_ : (Lit.int .i64 view).wf = true), Calls Try.prog 40 #[peerV p s, .int .i64 view] w fun e w' => ∃ s', e = .returned (peerV (enterP p view) s') ∧ OwnD w.heap.size w'.heap.size w' (enterP p view) s' ∧ Below w.heap.size w w'

set_option maxRecDepth 100000 in
set_option maxHeartbeats 16000000 in
theorem walk_of (HI : Prg) (w : World) (p : PE) (s : PV) (hR : PeerR w p s) (hg : goodPe p) (view : Int) (hwview : (Lit.int .i64 view).wf = true) :
    Calls Try.prog 8 #[peerV p s, .int .i64 view] w fun e w' => e = .returned (.bool true) ∧ Below w.heap.size w w' := by
  have HR : Hid (PeerR w p s) := hR
  have HG : Hid (goodPe p) := hg
  clear hR hg
  have HWview : Hid ((Lit.int .i64 view).wf = true) := hwview
  clear hwview
  obtain ⟨X, hX⟩ : ∃ X, X = w.alloc (.cells (peerA p s) 56) := ⟨_, rfl⟩
  have HB : Hid (Below w.heap.size w X) := (by rw [hX]; exact ba (Below.refl _ _) _ : Below w.heap.size w X)
  have HKa : Hid (X.heap[w.heap.size]? = Option.some (.cells (peerA p s) 56 (0, 0))) := (by rw [hX]; exact heap_alloc_new w _ : X.heap[w.heap.size]? = _)
  have HZ0 : Hid (w.heap.size < X.heap.size) := (Array.getElem?_eq_some_iff.1 HKa.out).1
  go_enter Try.func8, Try.ntmps8
  go_wp2_with (first | (rw [← hX]; clear hX; (refine wpList_load_row rfl _ _ rfl w.heap.size rfl 56 _ (0, 0) _ HKa.out Try.underlying56 rfl (by kernel_rfl) ?_)) | (refine wpList_load_row rfl _ _ rfl w.heap.size rfl 56 _ (0, 0) _ HKa.out Try.underlying56 rfl (by kernel_rfl) ?_))
  refine (szPeer_any p s 1048576 X (by decide) (by decide) (HR.out.below HB.out) HG.out).mono ?_
  rintro e x1 ⟨z, rfl, hz, hb⟩
  have HBN : Hid (Below w.heap.size w x1) := bt HB.out hb
  have HKaN : Hid (x1.heap[w.heap.size]? = Option.some (.cells (peerA p s) 56 (0, 0))) := (hb.block _ (Array.getElem?_eq_some_iff.1 HKa.out).1).trans HKa.out
  have HZ1 : Hid (X.heap.size ≤ x1.heap.size) := hb.size
  clear HB HKa
  have HB := HBN
  clear HBN
  have HKa := HKaN
  clear HKaN
  clear hb
  rcases hz with rfl | ⟨z0, hsum, hsm⟩
  · go_wp2
    go_ret
    exact ⟨rfl, HB.out⟩
  have HS : Hid (smallPe p) := hsm
  have HLP : Hid (lenPe p ≤ 1048576) := (by unfold lenPe; omega : lenPe p ≤ 1048576)
  have HSM : Hid (sumPe p) := (by have a0 := hsm.row; have a1 := hsm.cells; have a2 := hsm.early; have a3 := hsm.undos; have a4 := hsm.votes; have a5 := hsm.news; have := HLP.out; exact ⟨by omega, by omega, by omega, by omega, by omega, by omega, by omega⟩ : sumPe p)
  have HSQ : Hid (smallPe (enterP p view)) := enter_small HS.out view
  have HMQ : Hid (sumPe (enterP p view) ∧ lenPe (enterP p view) ≤ 1048576) := ⟨enter_sum HSM.out view, Nat.le_trans (enter_len p view) HLP.out⟩
  obtain ⟨Q, hQ⟩ : ∃ Q, Q = enterP p view := ⟨_, rfl⟩
  have HQ : Hid (enterP p view = Q) := hQ.symm
  rw [← hQ] at HSQ HMQ
  clear hQ hsm hsum
  go_wp2_with (first | (refine wpList_load_row rfl _ _ rfl w.heap.size rfl 56 _ (0, 0) _ HKa.out Try.underlying56 rfl (by kernel_rfl) ?_) | (refine wpList_load_row_w (by first | rfl | simp [Region.wanted, yielded] | simp [Region.wanted, yielded, hk0]) _ _ rfl w.heap.size rfl 56 _ (0, 0) _ HKa.out Try.underlying56 rfl (by kernel_rfl) ?_))
  refine (toPeer_any p s x1 (HR.out.below HB.out) HS.out).mono ?_
  rintro e x2 ⟨s1, rfl, ho, hb⟩
  have HRaA : Hid (PeerR x2 p s1) := ho.reads
  have HBN : Hid (Below w.heap.size w x2) := bt HB.out hb
  have HKaN : Hid (x2.heap[w.heap.size]? = Option.some (.cells (peerA p s) 56 (0, 0))) := (hb.block _ (Array.getElem?_eq_some_iff.1 HKa.out).1).trans HKa.out
  have HZ2 : Hid (x1.heap.size ≤ x2.heap.size) := hb.size
  clear HB HKa
  have HB := HBN
  clear HBN
  have HKa := HKaN
  clear HKaN
  have HRa := HRaA
  clear HRaA
  clear ho hb
  go_wp2_with (first | (refine wpList_load_row rfl _ _ rfl w.heap.size rfl 56 _ (0, 0) _ HKa.out Try.underlying56 rfl (by kernel_rfl) ?_) | (refine wpList_load_row_w (by first | rfl | simp [Region.wanted, yielded] | simp [Region.wanted, yielded, hk0]) _ _ rfl w.heap.size rfl 56 _ (0, 0) _ HKa.out Try.underlying56 rfl (by kernel_rfl) ?_))
  have hsp := entered_s p s1 view x2 HRa.out HS.out
  rw [HQ.out] at hsp
  refine (hsp).mono ?_
  rintro e x3 ⟨s2, rfl, ho, hb⟩
  have HO0A : Hid (OwnD x2.heap.size x3.heap.size x3 Q s2) := ho
  have HBN : Hid (Below w.heap.size w x3) := bt HB.out hb
  have HKaN : Hid (x3.heap[w.heap.size]? = Option.some (.cells (peerA p s) 56 (0, 0))) := (hb.block _ (Array.getElem?_eq_some_iff.1 HKa.out).1).trans HKa.out
  have HRaN : Hid (PeerR x3 p s1) := HRa.out.below hb
  have HZ3 : Hid (x2.heap.size ≤ x3.heap.size) := hb.size
  clear HB HKa HRa
  have HB := HBN
  clear HBN
  have HKa := HKaN
  clear HKaN
  have HRa := HRaN
  clear HRaN
  have HO0 := HO0A
  clear HO0A
  clear ho hb hsp
  clear HRa
  go_wp2_with (first | (refine wpList_store_blk rfl _ _ _ rfl x3.heap.size (peerA Q s2) rfl rfl 63 zeroA (heap_alloc_new x3 _) (by kernel_rfl) rfl (peerA_one HO0.out.1) ?_; intro x4 hg hk hz; have hb : Below x3.heap.size x3 x4 := made_below hg; have hlt : x3.heap.size < x4.heap.size := (Array.getElem?_eq_some_iff.1 hk).1; have HBN : Hid (Below w.heap.size w x4) := bt HB.out hb; have HKaN : Hid (x4.heap[w.heap.size]? = Option.some (.cells (peerA p s) 56 (0, 0))) := (hb.block _ (Array.getElem?_eq_some_iff.1 HKa.out).1).trans HKa.out; have HO0N : Hid (OwnD x2.heap.size x3.heap.size x4 Q s2) := HO0.out.below hb; have HZ4 : Hid (x3.heap.size < x4.heap.size) := hlt; clear HB HKa HO0; have HB := HBN; clear HBN; have HKa := HKaN; clear HKaN; have HO0 := HO0N; clear HO0N; have HK0 : Hid (x4.heap[x3.heap.size]? = Option.some (.cells (peerA Q s2) 63 (0, 0))) := hk; clear hg hk hz hb hlt) | (refine wpList_load_row rfl _ _ rfl w.heap.size rfl 56 _ (0, 0) _ HKa.out Try.underlying56 rfl (by kernel_rfl) ?_) | (refine wpList_load_row rfl _ _ rfl x3.heap.size rfl 63 _ (0, 0) _ HK0.out Try.underlying63 rfl (by kernel_rfl) ?_) | (refine wpList_load_row_w (by first | rfl | simp [Region.wanted, yielded] | simp [Region.wanted, yielded, hk0]) _ _ rfl w.heap.size rfl 56 _ (0, 0) _ HKa.out Try.underlying56 rfl (by kernel_rfl) ?_) | (refine wpList_load_row_w (by first | rfl | simp [Region.wanted, yielded] | simp [Region.wanted, yielded, hk0]) _ _ rfl x3.heap.size rfl 63 _ (0, 0) _ HK0.out Try.underlying63 rfl (by kernel_rfl) ?_))
  refine (toPeer_any p s x4 (HR.out.below HB.out) HS.out).mono ?_
  rintro e x5 ⟨s3, rfl, ho, hb⟩
  have HO1A : Hid (OwnD x4.heap.size x5.heap.size x5 p s3) := ho.toD
  have HBN : Hid (Below w.heap.size w x5) := bt HB.out hb
  have HKaN : Hid (x5.heap[w.heap.size]? = Option.some (.cells (peerA p s) 56 (0, 0))) := (hb.block _ (Array.getElem?_eq_some_iff.1 HKa.out).1).trans HKa.out
  have HO0N : Hid (OwnD x2.heap.size x3.heap.size x5 Q s2) := HO0.out.below hb
  have HK0N : Hid (x5.heap[x3.heap.size]? = Option.some (.cells (peerA Q s2) 63 (0, 0))) := (hb.block _ (Array.getElem?_eq_some_iff.1 HK0.out).1).trans HK0.out
  have HZ5 : Hid (x4.heap.size ≤ x5.heap.size) := hb.size
  clear HB HKa HO0 HK0
  have HB := HBN
  clear HBN
  have HKa := HKaN
  clear HKaN
  have HO0 := HO0N
  clear HO0N
  have HK0 := HK0N
  clear HK0N
  have HO1 := HO1A
  clear HO1A
  clear ho hb
  go_wp2_with (first | (refine wpList_store_blk rfl _ _ _ rfl x5.heap.size (peerA p s3) rfl rfl 63 zeroA (heap_alloc_new x5 _) (by kernel_rfl) rfl (peerA_one HO1.out.1) ?_; intro x6 hg hk hz; have hb : Below x5.heap.size x5 x6 := made_below hg; have hlt : x5.heap.size < x6.heap.size := (Array.getElem?_eq_some_iff.1 hk).1; have HBN : Hid (Below w.heap.size w x6) := bt HB.out hb; have HKaN : Hid (x6.heap[w.heap.size]? = Option.some (.cells (peerA p s) 56 (0, 0))) := (hb.block _ (Array.getElem?_eq_some_iff.1 HKa.out).1).trans HKa.out; have HO0N : Hid (OwnD x2.heap.size x3.heap.size x6 Q s2) := HO0.out.below hb; have HK0N : Hid (x6.heap[x3.heap.size]? = Option.some (.cells (peerA Q s2) 63 (0, 0))) := (hb.block _ (Array.getElem?_eq_some_iff.1 HK0.out).1).trans HK0.out; have HO1N : Hid (OwnD x4.heap.size x5.heap.size x6 p s3) := HO1.out.below hb; have HZ6 : Hid (x5.heap.size < x6.heap.size) := hlt; clear HB HKa HO0 HK0 HO1; have HB := HBN; clear HBN; have HKa := HKaN; clear HKaN; have HO0 := HO0N; clear HO0N; have HK0 := HK0N; clear HK0N; have HO1 := HO1N; clear HO1N; have HK1 : Hid (x6.heap[x5.heap.size]? = Option.some (.cells (peerA p s3) 63 (0, 0))) := hk; clear hg hk hz hb hlt) | (refine wpList_load_row rfl _ _ rfl w.heap.size rfl 56 _ (0, 0) _ HKa.out Try.underlying56 rfl (by kernel_rfl) ?_) | (refine wpList_load_row rfl _ _ rfl x3.heap.size rfl 63 _ (0, 0) _ HK0.out Try.underlying63 rfl (by kernel_rfl) ?_) | (refine wpList_load_row rfl _ _ rfl x5.heap.size rfl 63 _ (0, 0) _ HK1.out Try.underlying63 rfl (by kernel_rfl) ?_) | (refine wpList_load_row_w (by first | rfl | simp [Region.wanted, yielded] | simp [Region.wanted, yielded, hk0]) _ _ rfl w.heap.size rfl 56 _ (0, 0) _ HKa.out Try.underlying56 rfl (by kernel_rfl) ?_) | (refine wpList_load_row_w (by first | rfl | simp [Region.wanted, yielded] | simp [Region.wanted, yielded, hk0]) _ _ rfl x3.heap.size rfl 63 _ (0, 0) _ HK0.out Try.underlying63 rfl (by kernel_rfl) ?_) | (refine wpList_load_row_w (by first | rfl | simp [Region.wanted, yielded] | simp [Region.wanted, yielded, hk0]) _ _ rfl x5.heap.size rfl 63 _ (0, 0) _ HK1.out Try.underlying63 rfl (by kernel_rfl) ?_))
  have hsp := HI p s3 x4.heap.size x5.heap.size view x6 HO1.out HS.out HG.out HWview.out
  rw [HQ.out] at hsp
  refine (hsp).mono ?_
  rintro e x7 ⟨s4, rfl, ho, hb⟩
  have HO2A : Hid (OwnD x6.heap.size x7.heap.size x7 Q s4) := ho
  have HBN : Hid (Below w.heap.size w x7) := bt HB.out hb
  have HKaN : Hid (x7.heap[w.heap.size]? = Option.some (.cells (peerA p s) 56 (0, 0))) := (hb.block _ (Array.getElem?_eq_some_iff.1 HKa.out).1).trans HKa.out
  have HO0N : Hid (OwnD x2.heap.size x3.heap.size x7 Q s2) := HO0.out.below hb
  have HK0N : Hid (x7.heap[x3.heap.size]? = Option.some (.cells (peerA Q s2) 63 (0, 0))) := (hb.block _ (Array.getElem?_eq_some_iff.1 HK0.out).1).trans HK0.out
  have HO1N : Hid (OwnD x4.heap.size x5.heap.size x7 p s3) := HO1.out.below hb
  have HK1N : Hid (x7.heap[x5.heap.size]? = Option.some (.cells (peerA p s3) 63 (0, 0))) := (hb.block _ (Array.getElem?_eq_some_iff.1 HK1.out).1).trans HK1.out
  have HZ7 : Hid (x6.heap.size ≤ x7.heap.size) := hb.size
  clear HB HKa HO0 HK0 HO1 HK1
  have HB := HBN
  clear HBN
  have HKa := HKaN
  clear HKaN
  have HO0 := HO0N
  clear HO0N
  have HK0 := HK0N
  clear HK0N
  have HO1 := HO1N
  clear HO1N
  have HK1 := HK1N
  clear HK1N
  have HO2 := HO2A
  clear HO2A
  clear ho hb hsp
  go_wp2_with (first | (refine wpList_store_blk rfl _ _ _ rfl x7.heap.size (peerA Q s4) rfl rfl 63 zeroA (heap_alloc_new x7 _) (by kernel_rfl) rfl (peerA_one HO2.out.1) ?_; intro x8 hg hk hz; have hb : Below x7.heap.size x7 x8 := made_below hg; have hlt : x7.heap.size < x8.heap.size := (Array.getElem?_eq_some_iff.1 hk).1; have HBN : Hid (Below w.heap.size w x8) := bt HB.out hb; have HKaN : Hid (x8.heap[w.heap.size]? = Option.some (.cells (peerA p s) 56 (0, 0))) := (hb.block _ (Array.getElem?_eq_some_iff.1 HKa.out).1).trans HKa.out; have HO0N : Hid (OwnD x2.heap.size x3.heap.size x8 Q s2) := HO0.out.below hb; have HK0N : Hid (x8.heap[x3.heap.size]? = Option.some (.cells (peerA Q s2) 63 (0, 0))) := (hb.block _ (Array.getElem?_eq_some_iff.1 HK0.out).1).trans HK0.out; have HO1N : Hid (OwnD x4.heap.size x5.heap.size x8 p s3) := HO1.out.below hb; have HK1N : Hid (x8.heap[x5.heap.size]? = Option.some (.cells (peerA p s3) 63 (0, 0))) := (hb.block _ (Array.getElem?_eq_some_iff.1 HK1.out).1).trans HK1.out; have HO2N : Hid (OwnD x6.heap.size x7.heap.size x8 Q s4) := HO2.out.below hb; have HZ8 : Hid (x7.heap.size < x8.heap.size) := hlt; clear HB HKa HO0 HK0 HO1 HK1 HO2; have HB := HBN; clear HBN; have HKa := HKaN; clear HKaN; have HO0 := HO0N; clear HO0N; have HK0 := HK0N; clear HK0N; have HO1 := HO1N; clear HO1N; have HK1 := HK1N; clear HK1N; have HO2 := HO2N; clear HO2N; have HK2 : Hid (x8.heap[x7.heap.size]? = Option.some (.cells (peerA Q s4) 63 (0, 0))) := hk; clear hg hk hz hb hlt) | (refine wpList_load_row rfl _ _ rfl w.heap.size rfl 56 _ (0, 0) _ HKa.out Try.underlying56 rfl (by kernel_rfl) ?_) | (refine wpList_load_row rfl _ _ rfl x3.heap.size rfl 63 _ (0, 0) _ HK0.out Try.underlying63 rfl (by kernel_rfl) ?_) | (refine wpList_load_row rfl _ _ rfl x5.heap.size rfl 63 _ (0, 0) _ HK1.out Try.underlying63 rfl (by kernel_rfl) ?_) | (refine wpList_load_row rfl _ _ rfl x7.heap.size rfl 63 _ (0, 0) _ HK2.out Try.underlying63 rfl (by kernel_rfl) ?_) | (refine wpList_load_row_w (by first | rfl | simp [Region.wanted, yielded] | simp [Region.wanted, yielded, hk0]) _ _ rfl w.heap.size rfl 56 _ (0, 0) _ HKa.out Try.underlying56 rfl (by kernel_rfl) ?_) | (refine wpList_load_row_w (by first | rfl | simp [Region.wanted, yielded] | simp [Region.wanted, yielded, hk0]) _ _ rfl x3.heap.size rfl 63 _ (0, 0) _ HK0.out Try.underlying63 rfl (by kernel_rfl) ?_) | (refine wpList_load_row_w (by first | rfl | simp [Region.wanted, yielded] | simp [Region.wanted, yielded, hk0]) _ _ rfl x5.heap.size rfl 63 _ (0, 0) _ HK1.out Try.underlying63 rfl (by kernel_rfl) ?_) | (refine wpList_load_row_w (by first | rfl | simp [Region.wanted, yielded] | simp [Region.wanted, yielded, hk0]) _ _ rfl x7.heap.size rfl 63 _ (0, 0) _ HK2.out Try.underlying63 rfl (by kernel_rfl) ?_))
  refine (eqPeer_yes Q s4 s2 x8 HO2.out.reads HO0.out.reads HSQ.out).mono ?_
  rintro e x9 ⟨rfl, hb⟩
  have HBN : Hid (Below w.heap.size w x9) := bt HB.out hb
  have HKaN : Hid (x9.heap[w.heap.size]? = Option.some (.cells (peerA p s) 56 (0, 0))) := (hb.block _ (Array.getElem?_eq_some_iff.1 HKa.out).1).trans HKa.out
  have HO0N : Hid (OwnD x2.heap.size x3.heap.size x9 Q s2) := HO0.out.below hb
  have HK0N : Hid (x9.heap[x3.heap.size]? = Option.some (.cells (peerA Q s2) 63 (0, 0))) := (hb.block _ (Array.getElem?_eq_some_iff.1 HK0.out).1).trans HK0.out
  have HO1N : Hid (OwnD x4.heap.size x5.heap.size x9 p s3) := HO1.out.below hb
  have HK1N : Hid (x9.heap[x5.heap.size]? = Option.some (.cells (peerA p s3) 63 (0, 0))) := (hb.block _ (Array.getElem?_eq_some_iff.1 HK1.out).1).trans HK1.out
  have HO2N : Hid (OwnD x6.heap.size x7.heap.size x9 Q s4) := HO2.out.below hb
  have HK2N : Hid (x9.heap[x7.heap.size]? = Option.some (.cells (peerA Q s4) 63 (0, 0))) := (hb.block _ (Array.getElem?_eq_some_iff.1 HK2.out).1).trans HK2.out
  have HZ9 : Hid (x8.heap.size ≤ x9.heap.size) := hb.size
  clear HB HKa HO0 HK0 HO1 HK1 HO2 HK2
  have HB := HBN
  clear HBN
  have HKa := HKaN
  clear HKaN
  have HO0 := HO0N
  clear HO0N
  have HK0 := HK0N
  clear HK0N
  have HO1 := HO1N
  clear HO1N
  have HK1 := HK1N
  clear HK1N
  have HO2 := HO2N
  clear HO2N
  have HK2 := HK2N
  clear HK2N
  clear hb
  go_wp2
  refine wp_region_H (fun x => x.heap[w.heap.size]? = some (.cells (peerA p s) 56 (0, 0)) ∧ x.heap[x5.heap.size]? = some (.cells (peerA p s3) 63 (0, 0))) (by kernel_rfl) ?_
  show wpAnyH Try.prog _ _ _ _ (4 + 1) (Array.replicate 5 false) _ _
  have hS : x9.drew.heap[w.heap.size]? = some (.cells (peerA p s) 56 (0, 0)) ∧ x9.drew.heap[x5.heap.size]? = some (.cells (peerA p s3) 63 (0, 0)) := ⟨HKa.out, HK1.out⟩
  refine h_take (j := 0) (e' := some 31) (v := .agg (peerA p s3)) rfl rfl (by kernel_rfl) (by kernel_rfl) (by kernel_rfl) (fun _ _ _ h => h) (Or.inl ⟨by rfl, fun x hx => exec_load_blk _ _ rfl x5.heap.size rfl _ _ _ _ hx.2 Try.underlying63 rfl (by kernel_rfl)⟩) hS ?_
  simp only [Act.put, List.setIfInBounds_toArray, List.set_cons_zero, List.set_cons_succ]
  refine h_take (j := 1) (e' := some 32) (v := .agg (peerA p s)) rfl rfl (by kernel_rfl) (by kernel_rfl) (by kernel_rfl) (fun _ _ _ h => h) (Or.inl ⟨by rfl, fun x hx => exec_load_blk _ _ rfl w.heap.size rfl _ _ _ _ hx.1 Try.underlying56 rfl (by kernel_rfl)⟩) hS ?_
  simp only [Act.put, List.setIfInBounds_toArray, List.set_cons_zero, List.set_cons_succ]
  refine h_call (c := 2) (e' := some 33) (fn := 31) (args := #[.agg (peerA p s)]) rfl rfl (by kernel_rfl) (by rfl) ?_ ((toPeer_any p s x9.drew (HR.out.below (HB.out.trans (Below.refl _ _).drew)) HS.out).mono ?_)
  · go_simp
    try with_reducible rfl
  rintro e x10 ⟨s5, rfl, ho, hb0⟩
  have hb : Below x9.heap.size x9 x10 := ((Below.refl _ _).drew).trans hb0
  have HRb : Hid (PeerR x10 p s5) := ho.reads
  have HBN : Hid (Below w.heap.size w x10) := bt HB.out hb
  have HKaN : Hid (x10.heap[w.heap.size]? = Option.some (.cells (peerA p s) 56 (0, 0))) := (hb.block _ (Array.getElem?_eq_some_iff.1 HKa.out).1).trans HKa.out
  have HO0N : Hid (OwnD x2.heap.size x3.heap.size x10 Q s2) := HO0.out.below hb
  have HK0N : Hid (x10.heap[x3.heap.size]? = Option.some (.cells (peerA Q s2) 63 (0, 0))) := (hb.block _ (Array.getElem?_eq_some_iff.1 HK0.out).1).trans HK0.out
  have HO1N : Hid (OwnD x4.heap.size x5.heap.size x10 p s3) := HO1.out.below hb
  have HK1N : Hid (x10.heap[x5.heap.size]? = Option.some (.cells (peerA p s3) 63 (0, 0))) := (hb.block _ (Array.getElem?_eq_some_iff.1 HK1.out).1).trans HK1.out
  have HO2N : Hid (OwnD x6.heap.size x7.heap.size x10 Q s4) := HO2.out.below hb
  have HK2N : Hid (x10.heap[x7.heap.size]? = Option.some (.cells (peerA Q s4) 63 (0, 0))) := (hb.block _ (Array.getElem?_eq_some_iff.1 HK2.out).1).trans HK2.out
  have HZ10 : Hid (x9.heap.size ≤ x10.heap.size) := hb.size
  clear HB HKa HO0 HK0 HO1 HK1 HO2 HK2
  have HB := HBN
  clear HBN
  have HKa := HKaN
  clear HKaN
  have HO0 := HO0N
  clear HO0N
  have HK0 := HK0N
  clear HK0N
  have HO1 := HO1N
  clear HO1N
  have HK1 := HK1N
  clear HK1N
  have HO2 := HO2N
  clear HO2N
  have HK2 := HK2N
  clear HK2N
  have hS1 : x10.heap[w.heap.size]? = some (.cells (peerA p s) 56 (0, 0)) ∧ x10.heap[x5.heap.size]? = some (.cells (peerA p s3) 63 (0, 0)) := ⟨HKa.out, HK1.out⟩
  clear ho hb hb0 hS
  refine ⟨_, rfl, hS1, ?_⟩
  simp only [Act.put, List.setIfInBounds_toArray, List.set_cons_zero, List.set_cons_succ]
  refine h_call (c := 3) (e' := some 34) (fn := 33) (args := #[.agg (peerA p s3), .agg (peerA p s5)]) rfl rfl (by kernel_rfl) (by rfl) ?_ ((eqPeer_yes p s3 s5 x10 HO1.out.reads HRb.out HS.out).mono ?_)
  · go_simp
    try with_reducible rfl
  rintro e x11 ⟨rfl, hb⟩
  have HBN : Hid (Below w.heap.size w x11) := bt HB.out hb
  have HKaN : Hid (x11.heap[w.heap.size]? = Option.some (.cells (peerA p s) 56 (0, 0))) := (hb.block _ (Array.getElem?_eq_some_iff.1 HKa.out).1).trans HKa.out
  have HO0N : Hid (OwnD x2.heap.size x3.heap.size x11 Q s2) := HO0.out.below hb
  have HK0N : Hid (x11.heap[x3.heap.size]? = Option.some (.cells (peerA Q s2) 63 (0, 0))) := (hb.block _ (Array.getElem?_eq_some_iff.1 HK0.out).1).trans HK0.out
  have HO1N : Hid (OwnD x4.heap.size x5.heap.size x11 p s3) := HO1.out.below hb
  have HK1N : Hid (x11.heap[x5.heap.size]? = Option.some (.cells (peerA p s3) 63 (0, 0))) := (hb.block _ (Array.getElem?_eq_some_iff.1 HK1.out).1).trans HK1.out
  have HO2N : Hid (OwnD x6.heap.size x7.heap.size x11 Q s4) := HO2.out.below hb
  have HK2N : Hid (x11.heap[x7.heap.size]? = Option.some (.cells (peerA Q s4) 63 (0, 0))) := (hb.block _ (Array.getElem?_eq_some_iff.1 HK2.out).1).trans HK2.out
  have HZ11 : Hid (x10.heap.size ≤ x11.heap.size) := hb.size
  clear HB HKa HO0 HK0 HO1 HK1 HO2 HK2
  have HB := HBN
  clear HBN
  have HKa := HKaN
  clear HKaN
  have HO0 := HO0N
  clear HO0N
  have HK0 := HK0N
  clear HK0N
  have HO1 := HO1N
  clear HO1N
  have HK1 := HK1N
  clear HK1N
  have HO2 := HO2N
  clear HO2N
  have HK2 := HK2N
  clear HK2N
  have hS2 : x11.heap[w.heap.size]? = some (.cells (peerA p s) 56 (0, 0)) ∧ x11.heap[x5.heap.size]? = some (.cells (peerA p s3) 63 (0, 0)) := ⟨HKa.out, HK1.out⟩
  clear hb hS1 HRb
  refine ⟨_, rfl, hS2, ?_⟩
  simp only [Act.put, List.setIfInBounds_toArray, List.set_cons_zero, List.set_cons_succ]
  refine h_take (j := 4) (e' := some 35) (v := .bool false) rfl rfl (by kernel_rfl) (by kernel_rfl) (by kernel_rfl) (fun _ _ _ h => h) (Or.inl ⟨by rfl, ?_⟩) hS2 ?_
  · intro x hx
    go_simp
    try with_reducible rfl
  simp only [Act.put, List.setIfInBounds_toArray, List.set_cons_zero, List.set_cons_succ]
  refine wpAnyH_done (by kernel_rfl) ?_ _
  clear hS2
  go_wp2_with (first | (refine wpList_load_row rfl _ _ rfl w.heap.size rfl 56 _ (0, 0) _ HKa.out Try.underlying56 rfl (by kernel_rfl) ?_) | (refine wpList_load_row rfl _ _ rfl x3.heap.size rfl 63 _ (0, 0) _ HK0.out Try.underlying63 rfl (by kernel_rfl) ?_) | (refine wpList_load_row rfl _ _ rfl x5.heap.size rfl 63 _ (0, 0) _ HK1.out Try.underlying63 rfl (by kernel_rfl) ?_) | (refine wpList_load_row rfl _ _ rfl x7.heap.size rfl 63 _ (0, 0) _ HK2.out Try.underlying63 rfl (by kernel_rfl) ?_) | (refine wpList_load_row_w (by first | rfl | simp [Region.wanted, yielded] | simp [Region.wanted, yielded, hk0]) _ _ rfl w.heap.size rfl 56 _ (0, 0) _ HKa.out Try.underlying56 rfl (by kernel_rfl) ?_) | (refine wpList_load_row_w (by first | rfl | simp [Region.wanted, yielded] | simp [Region.wanted, yielded, hk0]) _ _ rfl x3.heap.size rfl 63 _ (0, 0) _ HK0.out Try.underlying63 rfl (by kernel_rfl) ?_) | (refine wpList_load_row_w (by first | rfl | simp [Region.wanted, yielded] | simp [Region.wanted, yielded, hk0]) _ _ rfl x5.heap.size rfl 63 _ (0, 0) _ HK1.out Try.underlying63 rfl (by kernel_rfl) ?_) | (refine wpList_load_row_w (by first | rfl | simp [Region.wanted, yielded] | simp [Region.wanted, yielded, hk0]) _ _ rfl x7.heap.size rfl 63 _ (0, 0) _ HK2.out Try.underlying63 rfl (by kernel_rfl) ?_))
  refine (markPeer_own p s3 1 x4.heap.size x5.heap.size x11 HO1.out HSM.out (by decide) (by have := HLP.out; omega)).mono ?_
  rintro e x12 ⟨rfl, hm, hf⟩
  have HAP12 : Hid (Apart6 x4.heap.size x5.heap.size s3) := HO1.out.2.1
  have hmA : Hid (MarkD 1 x4.heap.size x12 p s3) := hm
  clear hm
  have HBN : Hid (Below w.heap.size w x12) := HB.out.trans ⟨hf.os, hf.tape, hf.output, hf.size, fun k hk => hf.block k (Nat.lt_of_lt_of_le hk HB.out.size) (Or.inl (by have := HZ0.out; have := HZ1.out; have := HZ2.out; have := HZ3.out; have := HZ4.out; have := HZ5.out; have := HZ6.out; have := HZ7.out; have := HZ8.out; have := HZ9.out; have := HZ10.out; have := HZ11.out; omega))⟩
  have HKaN : Hid (x12.heap[w.heap.size]? = Option.some (.cells (peerA p s) 56 (0, 0))) := (hf.block _ (Array.getElem?_eq_some_iff.1 HKa.out).1 (by have := HZ0.out; have := HZ1.out; have := HZ2.out; have := HZ3.out; have := HZ4.out; have := HZ5.out; have := HZ6.out; have := HZ7.out; have := HZ8.out; have := HZ9.out; have := HZ10.out; have := HZ11.out; omega)).trans HKa.out
  have HO0N : Hid (OwnD x2.heap.size x3.heap.size x12 Q s2) := ⟨hf.own6 HO0.out.1 HO0.out.2.1 (by have := HZ0.out; have := HZ1.out; have := HZ2.out; have := HZ3.out; have := HZ4.out; have := HZ5.out; have := HZ6.out; have := HZ7.out; have := HZ8.out; have := HZ9.out; have := HZ10.out; have := HZ11.out; omega), HO0.out.2.1, Nat.le_trans HO0.out.2.2 hf.size⟩
  have HK0N : Hid (x12.heap[x3.heap.size]? = Option.some (.cells (peerA Q s2) 63 (0, 0))) := (hf.block _ (Array.getElem?_eq_some_iff.1 HK0.out).1 (by have := HZ0.out; have := HZ1.out; have := HZ2.out; have := HZ3.out; have := HZ4.out; have := HZ5.out; have := HZ6.out; have := HZ7.out; have := HZ8.out; have := HZ9.out; have := HZ10.out; have := HZ11.out; omega)).trans HK0.out
  have HK1N : Hid (x12.heap[x5.heap.size]? = Option.some (.cells (peerA p s3) 63 (0, 0))) := (hf.block _ (Array.getElem?_eq_some_iff.1 HK1.out).1 (by have := HZ0.out; have := HZ1.out; have := HZ2.out; have := HZ3.out; have := HZ4.out; have := HZ5.out; have := HZ6.out; have := HZ7.out; have := HZ8.out; have := HZ9.out; have := HZ10.out; have := HZ11.out; omega)).trans HK1.out
  have HO2N : Hid (OwnD x6.heap.size x7.heap.size x12 Q s4) := ⟨hf.own6 HO2.out.1 HO2.out.2.1 (by have := HZ0.out; have := HZ1.out; have := HZ2.out; have := HZ3.out; have := HZ4.out; have := HZ5.out; have := HZ6.out; have := HZ7.out; have := HZ8.out; have := HZ9.out; have := HZ10.out; have := HZ11.out; omega), HO2.out.2.1, Nat.le_trans HO2.out.2.2 hf.size⟩
  have HK2N : Hid (x12.heap[x7.heap.size]? = Option.some (.cells (peerA Q s4) 63 (0, 0))) := (hf.block _ (Array.getElem?_eq_some_iff.1 HK2.out).1 (by have := HZ0.out; have := HZ1.out; have := HZ2.out; have := HZ3.out; have := HZ4.out; have := HZ5.out; have := HZ6.out; have := HZ7.out; have := HZ8.out; have := HZ9.out; have := HZ10.out; have := HZ11.out; omega)).trans HK2.out
  have HZ12 : Hid (x11.heap.size ≤ x12.heap.size) := hf.size
  clear HB HKa HO0 HK0 HK1 HO2 HK2
  have HB := HBN
  clear HBN
  have HKa := HKaN
  clear HKaN
  have HO0 := HO0N
  clear HO0N
  have HK0 := HK0N
  clear HK0N
  have HK1 := HK1N
  clear HK1N
  have HO2 := HO2N
  clear HO2N
  have HK2 := HK2N
  clear HK2N
  clear HO1 hf
  have HM1 : Hid (MarkD 1 x4.heap.size x12 p s3) := hmA
  clear hmA
  have hk0 : ¬ (((mk6 1 p : Nat) : Int) < 0) := by omega
  clear HM1
  clear HK1
  go_wp2_with (first | (refine wpList_load_row rfl _ _ rfl w.heap.size rfl 56 _ (0, 0) _ HKa.out Try.underlying56 rfl (by kernel_rfl) ?_) | (refine wpList_load_row rfl _ _ rfl x3.heap.size rfl 63 _ (0, 0) _ HK0.out Try.underlying63 rfl (by kernel_rfl) ?_) | (refine wpList_load_row rfl _ _ rfl x7.heap.size rfl 63 _ (0, 0) _ HK2.out Try.underlying63 rfl (by kernel_rfl) ?_) | (refine wpList_load_row_w (by first | rfl | simp [Region.wanted, yielded] | simp [Region.wanted, yielded, hk0]) _ _ rfl w.heap.size rfl 56 _ (0, 0) _ HKa.out Try.underlying56 rfl (by kernel_rfl) ?_) | (refine wpList_load_row_w (by first | rfl | simp [Region.wanted, yielded] | simp [Region.wanted, yielded, hk0]) _ _ rfl x3.heap.size rfl 63 _ (0, 0) _ HK0.out Try.underlying63 rfl (by kernel_rfl) ?_) | (refine wpList_load_row_w (by first | rfl | simp [Region.wanted, yielded] | simp [Region.wanted, yielded, hk0]) _ _ rfl x7.heap.size rfl 63 _ (0, 0) _ HK2.out Try.underlying63 rfl (by kernel_rfl) ?_))
  refine (eqPeer_yes Q s4 s2 x12 HO2.out.reads HO0.out.reads HSQ.out).mono ?_
  rintro e x13 ⟨rfl, hb⟩
  have HBN : Hid (Below w.heap.size w x13) := bt HB.out hb
  have HKaN : Hid (x13.heap[w.heap.size]? = Option.some (.cells (peerA p s) 56 (0, 0))) := (hb.block _ (Array.getElem?_eq_some_iff.1 HKa.out).1).trans HKa.out
  have HO0N : Hid (OwnD x2.heap.size x3.heap.size x13 Q s2) := HO0.out.below hb
  have HK0N : Hid (x13.heap[x3.heap.size]? = Option.some (.cells (peerA Q s2) 63 (0, 0))) := (hb.block _ (Array.getElem?_eq_some_iff.1 HK0.out).1).trans HK0.out
  have HO2N : Hid (OwnD x6.heap.size x7.heap.size x13 Q s4) := HO2.out.below hb
  have HK2N : Hid (x13.heap[x7.heap.size]? = Option.some (.cells (peerA Q s4) 63 (0, 0))) := (hb.block _ (Array.getElem?_eq_some_iff.1 HK2.out).1).trans HK2.out
  have HZ13 : Hid (x12.heap.size ≤ x13.heap.size) := hb.size
  clear HB HKa HO0 HK0 HO2 HK2
  have HB := HBN
  clear HBN
  have HKa := HKaN
  clear HKaN
  have HO0 := HO0N
  clear HO0N
  have HK0 := HK0N
  clear HK0N
  have HO2 := HO2N
  clear HO2N
  have HK2 := HK2N
  clear HK2N
  clear hb
  clear hk0
  go_wp2_with (first | (refine wpList_load_row rfl _ _ rfl w.heap.size rfl 56 _ (0, 0) _ HKa.out Try.underlying56 rfl (by kernel_rfl) ?_) | (refine wpList_load_row rfl _ _ rfl x3.heap.size rfl 63 _ (0, 0) _ HK0.out Try.underlying63 rfl (by kernel_rfl) ?_) | (refine wpList_load_row rfl _ _ rfl x7.heap.size rfl 63 _ (0, 0) _ HK2.out Try.underlying63 rfl (by kernel_rfl) ?_) | (refine wpList_load_row_w (by first | rfl | simp [Region.wanted, yielded] | simp [Region.wanted, yielded, hk0]) _ _ rfl w.heap.size rfl 56 _ (0, 0) _ HKa.out Try.underlying56 rfl (by kernel_rfl) ?_) | (refine wpList_load_row_w (by first | rfl | simp [Region.wanted, yielded] | simp [Region.wanted, yielded, hk0]) _ _ rfl x3.heap.size rfl 63 _ (0, 0) _ HK0.out Try.underlying63 rfl (by kernel_rfl) ?_) | (refine wpList_load_row_w (by first | rfl | simp [Region.wanted, yielded] | simp [Region.wanted, yielded, hk0]) _ _ rfl x7.heap.size rfl 63 _ (0, 0) _ HK2.out Try.underlying63 rfl (by kernel_rfl) ?_))
  refine (markPeer_own Q s4 1 x6.heap.size x7.heap.size x13 HO2.out HMQ.out.1 (by decide) (by have := HMQ.out.2; omega)).mono ?_
  rintro e x14 ⟨rfl, hm, hf⟩
  have HAP14 : Hid (Apart6 x6.heap.size x7.heap.size s4) := HO2.out.2.1
  have hmA : Hid (MarkD 1 x6.heap.size x14 Q s4) := hm
  clear hm
  have HBN : Hid (Below w.heap.size w x14) := HB.out.trans ⟨hf.os, hf.tape, hf.output, hf.size, fun k hk => hf.block k (Nat.lt_of_lt_of_le hk HB.out.size) (Or.inl (by have := HZ0.out; have := HZ1.out; have := HZ2.out; have := HZ3.out; have := HZ4.out; have := HZ5.out; have := HZ6.out; have := HZ7.out; have := HZ8.out; have := HZ9.out; have := HZ10.out; have := HZ11.out; have := HZ12.out; have := HZ13.out; omega))⟩
  have HKaN : Hid (x14.heap[w.heap.size]? = Option.some (.cells (peerA p s) 56 (0, 0))) := (hf.block _ (Array.getElem?_eq_some_iff.1 HKa.out).1 (by have := HZ0.out; have := HZ1.out; have := HZ2.out; have := HZ3.out; have := HZ4.out; have := HZ5.out; have := HZ6.out; have := HZ7.out; have := HZ8.out; have := HZ9.out; have := HZ10.out; have := HZ11.out; have := HZ12.out; have := HZ13.out; omega)).trans HKa.out
  have HO0N : Hid (OwnD x2.heap.size x3.heap.size x14 Q s2) := ⟨hf.own6 HO0.out.1 HO0.out.2.1 (by have := HZ0.out; have := HZ1.out; have := HZ2.out; have := HZ3.out; have := HZ4.out; have := HZ5.out; have := HZ6.out; have := HZ7.out; have := HZ8.out; have := HZ9.out; have := HZ10.out; have := HZ11.out; have := HZ12.out; have := HZ13.out; omega), HO0.out.2.1, Nat.le_trans HO0.out.2.2 hf.size⟩
  have HK0N : Hid (x14.heap[x3.heap.size]? = Option.some (.cells (peerA Q s2) 63 (0, 0))) := (hf.block _ (Array.getElem?_eq_some_iff.1 HK0.out).1 (by have := HZ0.out; have := HZ1.out; have := HZ2.out; have := HZ3.out; have := HZ4.out; have := HZ5.out; have := HZ6.out; have := HZ7.out; have := HZ8.out; have := HZ9.out; have := HZ10.out; have := HZ11.out; have := HZ12.out; have := HZ13.out; omega)).trans HK0.out
  have HK2N : Hid (x14.heap[x7.heap.size]? = Option.some (.cells (peerA Q s4) 63 (0, 0))) := (hf.block _ (Array.getElem?_eq_some_iff.1 HK2.out).1 (by have := HZ0.out; have := HZ1.out; have := HZ2.out; have := HZ3.out; have := HZ4.out; have := HZ5.out; have := HZ6.out; have := HZ7.out; have := HZ8.out; have := HZ9.out; have := HZ10.out; have := HZ11.out; have := HZ12.out; have := HZ13.out; omega)).trans HK2.out
  have HZ14 : Hid (x13.heap.size ≤ x14.heap.size) := hf.size
  clear HB HKa HO0 HK0 HK2
  have HB := HBN
  clear HBN
  have HKa := HKaN
  clear HKaN
  have HO0 := HO0N
  clear HO0N
  have HK0 := HK0N
  clear HK0N
  have HK2 := HK2N
  clear HK2N
  clear HO2 hf
  have HM2 : Hid (MarkD 1 x6.heap.size x14 Q s4) := hmA
  clear hmA
  go_wp2_with (first | (refine wpList_load_row rfl _ _ rfl w.heap.size rfl 56 _ (0, 0) _ HKa.out Try.underlying56 rfl (by kernel_rfl) ?_) | (refine wpList_load_row rfl _ _ rfl x3.heap.size rfl 63 _ (0, 0) _ HK0.out Try.underlying63 rfl (by kernel_rfl) ?_) | (refine wpList_load_row rfl _ _ rfl x7.heap.size rfl 63 _ (0, 0) _ HK2.out Try.underlying63 rfl (by kernel_rfl) ?_) | (refine wpList_load_row_w (by first | rfl | simp [Region.wanted, yielded] | simp [Region.wanted, yielded, hk0]) _ _ rfl w.heap.size rfl 56 _ (0, 0) _ HKa.out Try.underlying56 rfl (by kernel_rfl) ?_) | (refine wpList_load_row_w (by first | rfl | simp [Region.wanted, yielded] | simp [Region.wanted, yielded, hk0]) _ _ rfl x3.heap.size rfl 63 _ (0, 0) _ HK0.out Try.underlying63 rfl (by kernel_rfl) ?_) | (refine wpList_load_row_w (by first | rfl | simp [Region.wanted, yielded] | simp [Region.wanted, yielded, hk0]) _ _ rfl x7.heap.size rfl 63 _ (0, 0) _ HK2.out Try.underlying63 rfl (by kernel_rfl) ?_))
  have hk0 : ¬ (((mk6 1 Q : Nat) : Int) < 0) := by omega
  refine (heldPeer_own Q s4 1 x6.heap.size x14 HM2.out HMQ.out.1 (by decide) (by have := HMQ.out.2; omega)).mono ?_
  rintro e x15 ⟨rfl, hb⟩
  have HBN : Hid (Below w.heap.size w x15) := bt HB.out hb
  have HKaN : Hid (x15.heap[w.heap.size]? = Option.some (.cells (peerA p s) 56 (0, 0))) := (hb.block _ (Array.getElem?_eq_some_iff.1 HKa.out).1).trans HKa.out
  have HO0N : Hid (OwnD x2.heap.size x3.heap.size x15 Q s2) := HO0.out.below hb
  have HK0N : Hid (x15.heap[x3.heap.size]? = Option.some (.cells (peerA Q s2) 63 (0, 0))) := (hb.block _ (Array.getElem?_eq_some_iff.1 HK0.out).1).trans HK0.out
  have HK2N : Hid (x15.heap[x7.heap.size]? = Option.some (.cells (peerA Q s4) 63 (0, 0))) := (hb.block _ (Array.getElem?_eq_some_iff.1 HK2.out).1).trans HK2.out
  have HM2N : Hid (MarkD 1 x6.heap.size x15 Q s4) := Own6.below HM2.out hb
  have HZ15 : Hid (x14.heap.size ≤ x15.heap.size) := hb.size
  clear HB HKa HO0 HK0 HK2 HM2
  have HB := HBN
  clear HBN
  have HKa := HKaN
  clear HKaN
  have HO0 := HO0N
  clear HO0N
  have HK0 := HK0N
  clear HK0N
  have HK2 := HK2N
  clear HK2N
  have HM2 := HM2N
  clear HM2N
  clear hb
  go_wp2_with (first | (refine wpList_load_row rfl _ _ rfl w.heap.size rfl 56 _ (0, 0) _ HKa.out Try.underlying56 rfl (by kernel_rfl) ?_) | (refine wpList_load_row rfl _ _ rfl x3.heap.size rfl 63 _ (0, 0) _ HK0.out Try.underlying63 rfl (by kernel_rfl) ?_) | (refine wpList_load_row rfl _ _ rfl x7.heap.size rfl 63 _ (0, 0) _ HK2.out Try.underlying63 rfl (by kernel_rfl) ?_) | (refine wpList_load_row_w (by first | rfl | simp [Region.wanted, yielded] | simp [Region.wanted, yielded, hk0]) _ _ rfl w.heap.size rfl 56 _ (0, 0) _ HKa.out Try.underlying56 rfl (by kernel_rfl) ?_) | (refine wpList_load_row_w (by first | rfl | simp [Region.wanted, yielded] | simp [Region.wanted, yielded, hk0]) _ _ rfl x3.heap.size rfl 63 _ (0, 0) _ HK0.out Try.underlying63 rfl (by kernel_rfl) ?_) | (refine wpList_load_row_w (by first | rfl | simp [Region.wanted, yielded] | simp [Region.wanted, yielded, hk0]) _ _ rfl x7.heap.size rfl 63 _ (0, 0) _ HK2.out Try.underlying63 rfl (by kernel_rfl) ?_))
  refine (toPeer_any p s x15 (HR.out.below HB.out) HS.out).mono ?_
  rintro e x16 ⟨s6, rfl, ho, hb⟩
  have HO3A : Hid (OwnD x15.heap.size x16.heap.size x16 p s6) := ho.toD
  have HBN : Hid (Below w.heap.size w x16) := bt HB.out hb
  have HKaN : Hid (x16.heap[w.heap.size]? = Option.some (.cells (peerA p s) 56 (0, 0))) := (hb.block _ (Array.getElem?_eq_some_iff.1 HKa.out).1).trans HKa.out
  have HO0N : Hid (OwnD x2.heap.size x3.heap.size x16 Q s2) := HO0.out.below hb
  have HK0N : Hid (x16.heap[x3.heap.size]? = Option.some (.cells (peerA Q s2) 63 (0, 0))) := (hb.block _ (Array.getElem?_eq_some_iff.1 HK0.out).1).trans HK0.out
  have HK2N : Hid (x16.heap[x7.heap.size]? = Option.some (.cells (peerA Q s4) 63 (0, 0))) := (hb.block _ (Array.getElem?_eq_some_iff.1 HK2.out).1).trans HK2.out
  have HM2N : Hid (MarkD 1 x6.heap.size x16 Q s4) := Own6.below HM2.out hb
  have HZ16 : Hid (x15.heap.size ≤ x16.heap.size) := hb.size
  clear HB HKa HO0 HK0 HK2 HM2
  have HB := HBN
  clear HBN
  have HKa := HKaN
  clear HKaN
  have HO0 := HO0N
  clear HO0N
  have HK0 := HK0N
  clear HK0N
  have HK2 := HK2N
  clear HK2N
  have HM2 := HM2N
  clear HM2N
  have HO3 := HO3A
  clear HO3A
  clear ho hb
  go_wp2_with (first | (refine wpList_load_row rfl _ _ rfl w.heap.size rfl 56 _ (0, 0) _ HKa.out Try.underlying56 rfl (by kernel_rfl) ?_) | (refine wpList_load_row rfl _ _ rfl x3.heap.size rfl 63 _ (0, 0) _ HK0.out Try.underlying63 rfl (by kernel_rfl) ?_) | (refine wpList_load_row rfl _ _ rfl x7.heap.size rfl 63 _ (0, 0) _ HK2.out Try.underlying63 rfl (by kernel_rfl) ?_) | (refine wpList_load_row_w (by first | rfl | simp [Region.wanted, yielded] | simp [Region.wanted, yielded, hk0]) _ _ rfl w.heap.size rfl 56 _ (0, 0) _ HKa.out Try.underlying56 rfl (by kernel_rfl) ?_) | (refine wpList_load_row_w (by first | rfl | simp [Region.wanted, yielded] | simp [Region.wanted, yielded, hk0]) _ _ rfl x3.heap.size rfl 63 _ (0, 0) _ HK0.out Try.underlying63 rfl (by kernel_rfl) ?_) | (refine wpList_load_row_w (by first | rfl | simp [Region.wanted, yielded] | simp [Region.wanted, yielded, hk0]) _ _ rfl x7.heap.size rfl 63 _ (0, 0) _ HK2.out Try.underlying63 rfl (by kernel_rfl) ?_))
  have hsp := HI p s6 x15.heap.size x16.heap.size view x16 HO3.out HS.out HG.out HWview.out
  rw [HQ.out] at hsp
  refine (hsp).mono ?_
  rintro e x17 ⟨s7, rfl, ho, hb⟩
  have HO4A : Hid (OwnD x16.heap.size x17.heap.size x17 Q s7) := ho
  have HBN : Hid (Below w.heap.size w x17) := bt HB.out hb
  have HKaN : Hid (x17.heap[w.heap.size]? = Option.some (.cells (peerA p s) 56 (0, 0))) := (hb.block _ (Array.getElem?_eq_some_iff.1 HKa.out).1).trans HKa.out
  have HO0N : Hid (OwnD x2.heap.size x3.heap.size x17 Q s2) := HO0.out.below hb
  have HK0N : Hid (x17.heap[x3.heap.size]? = Option.some (.cells (peerA Q s2) 63 (0, 0))) := (hb.block _ (Array.getElem?_eq_some_iff.1 HK0.out).1).trans HK0.out
  have HK2N : Hid (x17.heap[x7.heap.size]? = Option.some (.cells (peerA Q s4) 63 (0, 0))) := (hb.block _ (Array.getElem?_eq_some_iff.1 HK2.out).1).trans HK2.out
  have HM2N : Hid (MarkD 1 x6.heap.size x17 Q s4) := Own6.below HM2.out hb
  have HO3N : Hid (OwnD x15.heap.size x16.heap.size x17 p s6) := HO3.out.below hb
  have HZ17 : Hid (x16.heap.size ≤ x17.heap.size) := hb.size
  clear HB HKa HO0 HK0 HK2 HM2 HO3
  have HB := HBN
  clear HBN
  have HKa := HKaN
  clear HKaN
  have HO0 := HO0N
  clear HO0N
  have HK0 := HK0N
  clear HK0N
  have HK2 := HK2N
  clear HK2N
  have HM2 := HM2N
  clear HM2N
  have HO3 := HO3N
  clear HO3N
  have HO4 := HO4A
  clear HO4A
  clear ho hb hsp
  clear HO3
  go_wp2_with (first | (refine wpList_store_blk rfl _ _ _ rfl x17.heap.size (peerA Q s7) rfl rfl 63 zeroA (heap_alloc_new x17 _) (by kernel_rfl) rfl (peerA_one HO4.out.1) ?_; intro x18 hg hk hz; have hb : Below x17.heap.size x17 x18 := made_below hg; have hlt : x17.heap.size < x18.heap.size := (Array.getElem?_eq_some_iff.1 hk).1; have HBN : Hid (Below w.heap.size w x18) := bt HB.out hb; have HKaN : Hid (x18.heap[w.heap.size]? = Option.some (.cells (peerA p s) 56 (0, 0))) := (hb.block _ (Array.getElem?_eq_some_iff.1 HKa.out).1).trans HKa.out; have HO0N : Hid (OwnD x2.heap.size x3.heap.size x18 Q s2) := HO0.out.below hb; have HK0N : Hid (x18.heap[x3.heap.size]? = Option.some (.cells (peerA Q s2) 63 (0, 0))) := (hb.block _ (Array.getElem?_eq_some_iff.1 HK0.out).1).trans HK0.out; have HK2N : Hid (x18.heap[x7.heap.size]? = Option.some (.cells (peerA Q s4) 63 (0, 0))) := (hb.block _ (Array.getElem?_eq_some_iff.1 HK2.out).1).trans HK2.out; have HM2N : Hid (MarkD 1 x6.heap.size x18 Q s4) := Own6.below HM2.out hb; have HO4N : Hid (OwnD x16.heap.size x17.heap.size x18 Q s7) := HO4.out.below hb; have HZ18 : Hid (x17.heap.size < x18.heap.size) := hlt; clear HB HKa HO0 HK0 HK2 HM2 HO4; have HB := HBN; clear HBN; have HKa := HKaN; clear HKaN; have HO0 := HO0N; clear HO0N; have HK0 := HK0N; clear HK0N; have HK2 := HK2N; clear HK2N; have HM2 := HM2N; clear HM2N; have HO4 := HO4N; clear HO4N; have HK3 : Hid (x18.heap[x17.heap.size]? = Option.some (.cells (peerA Q s7) 63 (0, 0))) := hk; clear hg hk hz hb hlt) | (refine wpList_load_row rfl _ _ rfl w.heap.size rfl 56 _ (0, 0) _ HKa.out Try.underlying56 rfl (by kernel_rfl) ?_) | (refine wpList_load_row rfl _ _ rfl x3.heap.size rfl 63 _ (0, 0) _ HK0.out Try.underlying63 rfl (by kernel_rfl) ?_) | (refine wpList_load_row rfl _ _ rfl x7.heap.size rfl 63 _ (0, 0) _ HK2.out Try.underlying63 rfl (by kernel_rfl) ?_) | (refine wpList_load_row rfl _ _ rfl x17.heap.size rfl 63 _ (0, 0) _ HK3.out Try.underlying63 rfl (by kernel_rfl) ?_) | (refine wpList_load_row_w (by first | rfl | simp [Region.wanted, yielded] | simp [Region.wanted, yielded, hk0]) _ _ rfl w.heap.size rfl 56 _ (0, 0) _ HKa.out Try.underlying56 rfl (by kernel_rfl) ?_) | (refine wpList_load_row_w (by first | rfl | simp [Region.wanted, yielded] | simp [Region.wanted, yielded, hk0]) _ _ rfl x3.heap.size rfl 63 _ (0, 0) _ HK0.out Try.underlying63 rfl (by kernel_rfl) ?_) | (refine wpList_load_row_w (by first | rfl | simp [Region.wanted, yielded] | simp [Region.wanted, yielded, hk0]) _ _ rfl x7.heap.size rfl 63 _ (0, 0) _ HK2.out Try.underlying63 rfl (by kernel_rfl) ?_) | (refine wpList_load_row_w (by first | rfl | simp [Region.wanted, yielded] | simp [Region.wanted, yielded, hk0]) _ _ rfl x17.heap.size rfl 63 _ (0, 0) _ HK3.out Try.underlying63 rfl (by kernel_rfl) ?_))
  refine (eqPeer_yes Q s7 s2 x18 HO4.out.reads HO0.out.reads HSQ.out).mono ?_
  rintro e x19 ⟨rfl, hb⟩
  have HBN : Hid (Below w.heap.size w x19) := bt HB.out hb
  have HKaN : Hid (x19.heap[w.heap.size]? = Option.some (.cells (peerA p s) 56 (0, 0))) := (hb.block _ (Array.getElem?_eq_some_iff.1 HKa.out).1).trans HKa.out
  have HO0N : Hid (OwnD x2.heap.size x3.heap.size x19 Q s2) := HO0.out.below hb
  have HK0N : Hid (x19.heap[x3.heap.size]? = Option.some (.cells (peerA Q s2) 63 (0, 0))) := (hb.block _ (Array.getElem?_eq_some_iff.1 HK0.out).1).trans HK0.out
  have HK2N : Hid (x19.heap[x7.heap.size]? = Option.some (.cells (peerA Q s4) 63 (0, 0))) := (hb.block _ (Array.getElem?_eq_some_iff.1 HK2.out).1).trans HK2.out
  have HM2N : Hid (MarkD 1 x6.heap.size x19 Q s4) := Own6.below HM2.out hb
  have HO4N : Hid (OwnD x16.heap.size x17.heap.size x19 Q s7) := HO4.out.below hb
  have HK3N : Hid (x19.heap[x17.heap.size]? = Option.some (.cells (peerA Q s7) 63 (0, 0))) := (hb.block _ (Array.getElem?_eq_some_iff.1 HK3.out).1).trans HK3.out
  have HZ19 : Hid (x18.heap.size ≤ x19.heap.size) := hb.size
  clear HB HKa HO0 HK0 HK2 HM2 HO4 HK3
  have HB := HBN
  clear HBN
  have HKa := HKaN
  clear HKaN
  have HO0 := HO0N
  clear HO0N
  have HK0 := HK0N
  clear HK0N
  have HK2 := HK2N
  clear HK2N
  have HM2 := HM2N
  clear HM2N
  have HO4 := HO4N
  clear HO4N
  have HK3 := HK3N
  clear HK3N
  clear hb
  go_wp2_with (first | (refine wpList_load_row rfl _ _ rfl w.heap.size rfl 56 _ (0, 0) _ HKa.out Try.underlying56 rfl (by kernel_rfl) ?_) | (refine wpList_load_row rfl _ _ rfl x3.heap.size rfl 63 _ (0, 0) _ HK0.out Try.underlying63 rfl (by kernel_rfl) ?_) | (refine wpList_load_row rfl _ _ rfl x7.heap.size rfl 63 _ (0, 0) _ HK2.out Try.underlying63 rfl (by kernel_rfl) ?_) | (refine wpList_load_row rfl _ _ rfl x17.heap.size rfl 63 _ (0, 0) _ HK3.out Try.underlying63 rfl (by kernel_rfl) ?_) | (refine wpList_load_row_w (by first | rfl | simp [Region.wanted, yielded] | simp [Region.wanted, yielded, hk0]) _ _ rfl w.heap.size rfl 56 _ (0, 0) _ HKa.out Try.underlying56 rfl (by kernel_rfl) ?_) | (refine wpList_load_row_w (by first | rfl | simp [Region.wanted, yielded] | simp [Region.wanted, yielded, hk0]) _ _ rfl x3.heap.size rfl 63 _ (0, 0) _ HK0.out Try.underlying63 rfl (by kernel_rfl) ?_) | (refine wpList_load_row_w (by first | rfl | simp [Region.wanted, yielded] | simp [Region.wanted, yielded, hk0]) _ _ rfl x7.heap.size rfl 63 _ (0, 0) _ HK2.out Try.underlying63 rfl (by kernel_rfl) ?_) | (refine wpList_load_row_w (by first | rfl | simp [Region.wanted, yielded] | simp [Region.wanted, yielded, hk0]) _ _ rfl x17.heap.size rfl 63 _ (0, 0) _ HK3.out Try.underlying63 rfl (by kernel_rfl) ?_))
  refine (heldPeer_own Q s4 1 x6.heap.size x19 HM2.out HMQ.out.1 (by decide) (by have := HMQ.out.2; omega)).mono ?_
  rintro e x20 ⟨rfl, hb⟩
  have HBN : Hid (Below w.heap.size w x20) := bt HB.out hb
  have HKaN : Hid (x20.heap[w.heap.size]? = Option.some (.cells (peerA p s) 56 (0, 0))) := (hb.block _ (Array.getElem?_eq_some_iff.1 HKa.out).1).trans HKa.out
  have HO0N : Hid (OwnD x2.heap.size x3.heap.size x20 Q s2) := HO0.out.below hb
  have HK0N : Hid (x20.heap[x3.heap.size]? = Option.some (.cells (peerA Q s2) 63 (0, 0))) := (hb.block _ (Array.getElem?_eq_some_iff.1 HK0.out).1).trans HK0.out
  have HK2N : Hid (x20.heap[x7.heap.size]? = Option.some (.cells (peerA Q s4) 63 (0, 0))) := (hb.block _ (Array.getElem?_eq_some_iff.1 HK2.out).1).trans HK2.out
  have HM2N : Hid (MarkD 1 x6.heap.size x20 Q s4) := Own6.below HM2.out hb
  have HO4N : Hid (OwnD x16.heap.size x17.heap.size x20 Q s7) := HO4.out.below hb
  have HK3N : Hid (x20.heap[x17.heap.size]? = Option.some (.cells (peerA Q s7) 63 (0, 0))) := (hb.block _ (Array.getElem?_eq_some_iff.1 HK3.out).1).trans HK3.out
  have HZ20 : Hid (x19.heap.size ≤ x20.heap.size) := hb.size
  clear HB HKa HO0 HK0 HK2 HM2 HO4 HK3
  have HB := HBN
  clear HBN
  have HKa := HKaN
  clear HKaN
  have HO0 := HO0N
  clear HO0N
  have HK0 := HK0N
  clear HK0N
  have HK2 := HK2N
  clear HK2N
  have HM2 := HM2N
  clear HM2N
  have HO4 := HO4N
  clear HO4N
  have HK3 := HK3N
  clear HK3N
  clear hb
  go_wp2
  go_ret
  exact ⟨rfl, HB.out⟩

end Go.Proofs.Ytnghhfgbobpnkaq.WFnExactEntered
