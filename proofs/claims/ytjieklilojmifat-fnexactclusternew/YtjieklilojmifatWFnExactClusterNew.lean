/-
  The walk of the law FnExactClusterNew: the specification's answer and the program's are the same; the program's answer owns its memory. (Made by gl15.py.)
-/
import Derived.Test.YtjieklilojmifatClusC
import Derived.Test.YtjieklilojmifatVotedS
import Derived.Test.YtjieklilojmifatRegH
namespace Go.Proofs.Ytjieklilojmifat.WFnExactClusterNew
open Go.RowKit Num

set_option maxRecDepth 100000 in
set_option maxHeartbeats 16000000 in
theorem walk_of (F : Int → Bool → Int → CU × Bool) (HF : Fit3 F) (HSp : Con3 13 F) (HI : Con3 14 F) (w : World) (n : Int) (hwn : (Lit.int .i64 n).wf = true) (b : Bool) (l : Int) (hwl : (Lit.int .i64 l).wf = true) :
    Calls Try.prog 4 #[.int .i64 n, .bool b, .int .i64 l] w fun e w' => e = .returned (.bool true) ∧ Below w.heap.size w w' := by
  have HW : Hid ((Lit.int .i64 n).wf = true ∧ (Lit.int .i64 l).wf = true) := ⟨hwn, hwl⟩
  clear hwn hwl
  have HFQ : Hid (okC (F n b l).1 ∧ wtCl (F n b l).1 ≤ 1200000) := HF n b l
  obtain ⟨Q, hQ⟩ : ∃ Q, Q = (F n b l).1 := ⟨_, rfl⟩
  obtain ⟨B, hBB⟩ : ∃ B, B = (F n b l).2 := ⟨_, rfl⟩
  have HQ : Hid ((F n b l).1 = Q ∧ (F n b l).2 = B) := ⟨hQ.symm, hBB.symm⟩
  rw [← hQ] at HFQ
  clear hQ hBB
  have hqq : (B != B) = false := by simp
  have HB : Hid (Below w.heap.size w w) := Below.refl _ _
  have HZ0 : Hid (w.heap.size ≤ w.heap.size) := Nat.le_refl _
  go_enter Try.func4, Try.ntmps4
  go_wp2_with fail
  have hsp := HSp n b l w HW.out.1 HW.out.2
  rw [HQ.out.1, HQ.out.2] at hsp
  refine (hsp).mono ?_
  rintro e x1 ⟨s2, rfl, ho, hb⟩
  have HC0A : Hid (OwnC w.heap.size x1.heap.size x1 Q s2) := ho
  have HBN : Hid (Below w.heap.size w x1) := bt HB.out hb
  have HZ1 : Hid (w.heap.size ≤ x1.heap.size) := hb.size
  clear HB
  have HB := HBN
  clear HBN
  have HC0 := HC0A
  clear HC0A
  clear ho hb hsp
  go_wp2_with (first | (refine wpList_store_blk rfl _ _ _ rfl x1.heap.size (clusA Q s2) rfl rfl 55 zeroC (heap_alloc_new x1 _) (by kernel_rfl) rfl (clusA_one HC0.out) ?_; intro x2 hg hk hz; have hb : Below x1.heap.size x1 x2 := made_below hg; have hlt : x1.heap.size < x2.heap.size := (Array.getElem?_eq_some_iff.1 hk).1; have HBN : Hid (Below w.heap.size w x2) := bt HB.out hb; have HC0N : Hid (OwnC w.heap.size x1.heap.size x2 Q s2) := HC0.out.below hb; have HZ2 : Hid (x1.heap.size < x2.heap.size) := hlt; clear HB HC0; have HB := HBN; clear HBN; have HC0 := HC0N; clear HC0N; have HK0 : Hid (x2.heap[x1.heap.size]? = Option.some (.cells (clusA Q s2) 55 (0, 0))) := hk; clear hg hk hz hb hlt) | (refine wpList_load_row rfl _ _ rfl x1.heap.size rfl 55 _ (0, 0) _ HK0.out Try.underlying55 rfl (by kernel_rfl) ?_) | (refine wpList_load_row_w (by first | rfl | simp [Region.wanted, yielded] | simp [Region.wanted, yielded, hk0]) _ _ rfl x1.heap.size rfl 55 _ (0, 0) _ HK0.out Try.underlying55 rfl (by kernel_rfl) ?_))
  have hsp := HI n b l x2 HW.out.1 HW.out.2
  rw [HQ.out.1, HQ.out.2] at hsp
  refine (hsp).mono ?_
  rintro e x3 ⟨s4, rfl, ho, hb⟩
  have HC2A : Hid (OwnC x2.heap.size x3.heap.size x3 Q s4) := ho
  have HBN : Hid (Below w.heap.size w x3) := bt HB.out hb
  have HC0N : Hid (OwnC w.heap.size x1.heap.size x3 Q s2) := HC0.out.below hb
  have HK0N : Hid (x3.heap[x1.heap.size]? = Option.some (.cells (clusA Q s2) 55 (0, 0))) := (hb.block _ (Array.getElem?_eq_some_iff.1 HK0.out).1).trans HK0.out
  have HZ3 : Hid (x2.heap.size ≤ x3.heap.size) := hb.size
  clear HB HC0 HK0
  have HB := HBN
  clear HBN
  have HC0 := HC0N
  clear HC0N
  have HK0 := HK0N
  clear HK0N
  have HC2 := HC2A
  clear HC2A
  clear ho hb hsp
  go_wp2_with (first | (refine wpList_store_blk rfl _ _ _ rfl x3.heap.size (clusA Q s4) rfl rfl 55 zeroC (heap_alloc_new x3 _) (by kernel_rfl) rfl (clusA_one HC2.out) ?_; intro x4 hg hk hz; have hb : Below x3.heap.size x3 x4 := made_below hg; have hlt : x3.heap.size < x4.heap.size := (Array.getElem?_eq_some_iff.1 hk).1; have HBN : Hid (Below w.heap.size w x4) := bt HB.out hb; have HC0N : Hid (OwnC w.heap.size x1.heap.size x4 Q s2) := HC0.out.below hb; have HK0N : Hid (x4.heap[x1.heap.size]? = Option.some (.cells (clusA Q s2) 55 (0, 0))) := (hb.block _ (Array.getElem?_eq_some_iff.1 HK0.out).1).trans HK0.out; have HC2N : Hid (OwnC x2.heap.size x3.heap.size x4 Q s4) := HC2.out.below hb; have HZ4 : Hid (x3.heap.size < x4.heap.size) := hlt; clear HB HC0 HK0 HC2; have HB := HBN; clear HBN; have HC0 := HC0N; clear HC0N; have HK0 := HK0N; clear HK0N; have HC2 := HC2N; clear HC2N; have HK2 : Hid (x4.heap[x3.heap.size]? = Option.some (.cells (clusA Q s4) 55 (0, 0))) := hk; clear hg hk hz hb hlt) | (refine wpList_load_row rfl _ _ rfl x1.heap.size rfl 55 _ (0, 0) _ HK0.out Try.underlying55 rfl (by kernel_rfl) ?_) | (refine wpList_load_row rfl _ _ rfl x3.heap.size rfl 55 _ (0, 0) _ HK2.out Try.underlying55 rfl (by kernel_rfl) ?_) | (refine wpList_load_row_w (by first | rfl | simp [Region.wanted, yielded] | simp [Region.wanted, yielded, hk0]) _ _ rfl x1.heap.size rfl 55 _ (0, 0) _ HK0.out Try.underlying55 rfl (by kernel_rfl) ?_) | (refine wpList_load_row_w (by first | rfl | simp [Region.wanted, yielded] | simp [Region.wanted, yielded, hk0]) _ _ rfl x3.heap.size rfl 55 _ (0, 0) _ HK2.out Try.underlying55 rfl (by kernel_rfl) ?_))
  refine (eqCluster_yes Q s4 s2 x4 HC2.out.reads HC0.out.reads HFQ.out.1).mono ?_
  rintro e x5 ⟨rfl, hb⟩
  have HBN : Hid (Below w.heap.size w x5) := bt HB.out hb
  have HC0N : Hid (OwnC w.heap.size x1.heap.size x5 Q s2) := HC0.out.below hb
  have HK0N : Hid (x5.heap[x1.heap.size]? = Option.some (.cells (clusA Q s2) 55 (0, 0))) := (hb.block _ (Array.getElem?_eq_some_iff.1 HK0.out).1).trans HK0.out
  have HC2N : Hid (OwnC x2.heap.size x3.heap.size x5 Q s4) := HC2.out.below hb
  have HK2N : Hid (x5.heap[x3.heap.size]? = Option.some (.cells (clusA Q s4) 55 (0, 0))) := (hb.block _ (Array.getElem?_eq_some_iff.1 HK2.out).1).trans HK2.out
  have HZ5 : Hid (x4.heap.size ≤ x5.heap.size) := hb.size
  clear HB HC0 HK0 HC2 HK2
  have HB := HBN
  clear HBN
  have HC0 := HC0N
  clear HC0N
  have HK0 := HK0N
  clear HK0N
  have HC2 := HC2N
  clear HC2N
  have HK2 := HK2N
  clear HK2N
  clear hb
  go_wp2_with (first | (refine wpList_load_row rfl _ _ rfl x1.heap.size rfl 55 _ (0, 0) _ HK0.out Try.underlying55 rfl (by kernel_rfl) ?_) | (refine wpList_load_row rfl _ _ rfl x3.heap.size rfl 55 _ (0, 0) _ HK2.out Try.underlying55 rfl (by kernel_rfl) ?_) | (refine wpList_load_row_w (by first | rfl | simp [Region.wanted, yielded] | simp [Region.wanted, yielded, hk0]) _ _ rfl x1.heap.size rfl 55 _ (0, 0) _ HK0.out Try.underlying55 rfl (by kernel_rfl) ?_) | (refine wpList_load_row_w (by first | rfl | simp [Region.wanted, yielded] | simp [Region.wanted, yielded, hk0]) _ _ rfl x3.heap.size rfl 55 _ (0, 0) _ HK2.out Try.underlying55 rfl (by kernel_rfl) ?_))
  have HMK : Hid (mkC 1 Q s4) := mkC_of HC2.out.etree HC2.out.epeers (by decide) (by decide) HFQ.out.1 HFQ.out.2
  refine (markCluster_own Q s4 1 x2.heap.size x3.heap.size x5 HC2.out HMK.out).mono ?_
  rintro e x6 ⟨rfl, hm, hf⟩
  have hmA : Hid (OwnC x2.heap.size x3.heap.size x6 (cmC 1 Q s4) (cmS 1 s4)) := hm
  clear hm
  have HBN : Hid (Below w.heap.size w x6) := HB.out.trans ⟨hf.os, hf.tape, hf.output, hf.size, fun k hk => hf.block k (Nat.lt_of_lt_of_le hk HB.out.size) (Or.inl (by have := HZ0.out; have := HZ1.out; have := HZ2.out; have := HZ3.out; have := HZ4.out; have := HZ5.out; omega))⟩
  have HC0N : Hid (OwnC w.heap.size x1.heap.size x6 Q s2) := HC0.out.fr hf (by have := HZ0.out; have := HZ1.out; have := HZ2.out; have := HZ3.out; have := HZ4.out; have := HZ5.out; omega)
  have HK0N : Hid (x6.heap[x1.heap.size]? = Option.some (.cells (clusA Q s2) 55 (0, 0))) := (hf.block _ (Array.getElem?_eq_some_iff.1 HK0.out).1 (by have := HZ0.out; have := HZ1.out; have := HZ2.out; have := HZ3.out; have := HZ4.out; have := HZ5.out; omega)).trans HK0.out
  have HK2N : Hid (x6.heap[x3.heap.size]? = Option.some (.cells (clusA Q s4) 55 (0, 0))) := (hf.block _ (Array.getElem?_eq_some_iff.1 HK2.out).1 (by have := HZ0.out; have := HZ1.out; have := HZ2.out; have := HZ3.out; have := HZ4.out; have := HZ5.out; omega)).trans HK2.out
  have HZ6 : Hid (x5.heap.size ≤ x6.heap.size) := hf.size
  clear HB HC0 HK0 HK2
  have HB := HBN
  clear HBN
  have HC0 := HC0N
  clear HC0N
  have HK0 := HK0N
  clear HK0N
  have HK2 := HK2N
  clear HK2N
  clear HC2 hf
  have HM2 : Hid (OwnC x2.heap.size x3.heap.size x6 (cmC 1 Q s4) (cmS 1 s4)) := hmA
  clear hmA
  have hk0 : ¬ (((cnum 1 Q s4 : Nat) : Int) < 0) := by omega
  go_wp2_with (first | (refine wpList_load_row rfl _ _ rfl x1.heap.size rfl 55 _ (0, 0) _ HK0.out Try.underlying55 rfl (by kernel_rfl) ?_) | (refine wpList_load_row rfl _ _ rfl x3.heap.size rfl 55 _ (0, 0) _ HK2.out Try.underlying55 rfl (by kernel_rfl) ?_) | (refine wpList_load_row_w (by first | rfl | simp [Region.wanted, yielded] | simp [Region.wanted, yielded, hk0]) _ _ rfl x1.heap.size rfl 55 _ (0, 0) _ HK0.out Try.underlying55 rfl (by kernel_rfl) ?_) | (refine wpList_load_row_w (by first | rfl | simp [Region.wanted, yielded] | simp [Region.wanted, yielded, hk0]) _ _ rfl x3.heap.size rfl 55 _ (0, 0) _ HK2.out Try.underlying55 rfl (by kernel_rfl) ?_))
  refine (heldCluster_own Q s4 1 x2.heap.size x3.heap.size x6 HM2.out HMK.out Q).mono ?_
  rintro e x7 ⟨rfl, hb⟩
  have HBN : Hid (Below w.heap.size w x7) := bt HB.out hb
  have HC0N : Hid (OwnC w.heap.size x1.heap.size x7 Q s2) := HC0.out.below hb
  have HK0N : Hid (x7.heap[x1.heap.size]? = Option.some (.cells (clusA Q s2) 55 (0, 0))) := (hb.block _ (Array.getElem?_eq_some_iff.1 HK0.out).1).trans HK0.out
  have HK2N : Hid (x7.heap[x3.heap.size]? = Option.some (.cells (clusA Q s4) 55 (0, 0))) := (hb.block _ (Array.getElem?_eq_some_iff.1 HK2.out).1).trans HK2.out
  have HM2N : Hid (OwnC x2.heap.size x3.heap.size x7 (cmC 1 Q s4) (cmS 1 s4)) := HM2.out.below hb
  have HZ7 : Hid (x6.heap.size ≤ x7.heap.size) := hb.size
  clear HB HC0 HK0 HK2 HM2
  have HB := HBN
  clear HBN
  have HC0 := HC0N
  clear HC0N
  have HK0 := HK0N
  clear HK0N
  have HK2 := HK2N
  clear HK2N
  have HM2 := HM2N
  clear HM2N
  clear hb
  go_wp2_with (first | (refine wpList_load_row rfl _ _ rfl x1.heap.size rfl 55 _ (0, 0) _ HK0.out Try.underlying55 rfl (by kernel_rfl) ?_) | (refine wpList_load_row rfl _ _ rfl x3.heap.size rfl 55 _ (0, 0) _ HK2.out Try.underlying55 rfl (by kernel_rfl) ?_) | (refine wpList_load_row_w (by first | rfl | simp [Region.wanted, yielded] | simp [Region.wanted, yielded, hk0]) _ _ rfl x1.heap.size rfl 55 _ (0, 0) _ HK0.out Try.underlying55 rfl (by kernel_rfl) ?_) | (refine wpList_load_row_w (by first | rfl | simp [Region.wanted, yielded] | simp [Region.wanted, yielded, hk0]) _ _ rfl x3.heap.size rfl 55 _ (0, 0) _ HK2.out Try.underlying55 rfl (by kernel_rfl) ?_))
  have hsp := HI n b l x7 HW.out.1 HW.out.2
  rw [HQ.out.1, HQ.out.2] at hsp
  refine (hsp).mono ?_
  rintro e x8 ⟨s7, rfl, ho, hb⟩
  have HC4A : Hid (OwnC x7.heap.size x8.heap.size x8 Q s7) := ho
  have HBN : Hid (Below w.heap.size w x8) := bt HB.out hb
  have HC0N : Hid (OwnC w.heap.size x1.heap.size x8 Q s2) := HC0.out.below hb
  have HK0N : Hid (x8.heap[x1.heap.size]? = Option.some (.cells (clusA Q s2) 55 (0, 0))) := (hb.block _ (Array.getElem?_eq_some_iff.1 HK0.out).1).trans HK0.out
  have HK2N : Hid (x8.heap[x3.heap.size]? = Option.some (.cells (clusA Q s4) 55 (0, 0))) := (hb.block _ (Array.getElem?_eq_some_iff.1 HK2.out).1).trans HK2.out
  have HM2N : Hid (OwnC x2.heap.size x3.heap.size x8 (cmC 1 Q s4) (cmS 1 s4)) := HM2.out.below hb
  have HZ8 : Hid (x7.heap.size ≤ x8.heap.size) := hb.size
  clear HB HC0 HK0 HK2 HM2
  have HB := HBN
  clear HBN
  have HC0 := HC0N
  clear HC0N
  have HK0 := HK0N
  clear HK0N
  have HK2 := HK2N
  clear HK2N
  have HM2 := HM2N
  clear HM2N
  have HC4 := HC4A
  clear HC4A
  clear ho hb hsp
  go_wp2_with (first | (refine wpList_store_blk rfl _ _ _ rfl x8.heap.size (clusA Q s7) rfl rfl 55 zeroC (heap_alloc_new x8 _) (by kernel_rfl) rfl (clusA_one HC4.out) ?_; intro x9 hg hk hz; have hb : Below x8.heap.size x8 x9 := made_below hg; have hlt : x8.heap.size < x9.heap.size := (Array.getElem?_eq_some_iff.1 hk).1; have HBN : Hid (Below w.heap.size w x9) := bt HB.out hb; have HC0N : Hid (OwnC w.heap.size x1.heap.size x9 Q s2) := HC0.out.below hb; have HK0N : Hid (x9.heap[x1.heap.size]? = Option.some (.cells (clusA Q s2) 55 (0, 0))) := (hb.block _ (Array.getElem?_eq_some_iff.1 HK0.out).1).trans HK0.out; have HK2N : Hid (x9.heap[x3.heap.size]? = Option.some (.cells (clusA Q s4) 55 (0, 0))) := (hb.block _ (Array.getElem?_eq_some_iff.1 HK2.out).1).trans HK2.out; have HM2N : Hid (OwnC x2.heap.size x3.heap.size x9 (cmC 1 Q s4) (cmS 1 s4)) := HM2.out.below hb; have HC4N : Hid (OwnC x7.heap.size x8.heap.size x9 Q s7) := HC4.out.below hb; have HZ9 : Hid (x8.heap.size < x9.heap.size) := hlt; clear HB HC0 HK0 HK2 HM2 HC4; have HB := HBN; clear HBN; have HC0 := HC0N; clear HC0N; have HK0 := HK0N; clear HK0N; have HK2 := HK2N; clear HK2N; have HM2 := HM2N; clear HM2N; have HC4 := HC4N; clear HC4N; have HK3 : Hid (x9.heap[x8.heap.size]? = Option.some (.cells (clusA Q s7) 55 (0, 0))) := hk; clear hg hk hz hb hlt) | (refine wpList_load_row rfl _ _ rfl x1.heap.size rfl 55 _ (0, 0) _ HK0.out Try.underlying55 rfl (by kernel_rfl) ?_) | (refine wpList_load_row rfl _ _ rfl x3.heap.size rfl 55 _ (0, 0) _ HK2.out Try.underlying55 rfl (by kernel_rfl) ?_) | (refine wpList_load_row rfl _ _ rfl x8.heap.size rfl 55 _ (0, 0) _ HK3.out Try.underlying55 rfl (by kernel_rfl) ?_) | (refine wpList_load_row_w (by first | rfl | simp [Region.wanted, yielded] | simp [Region.wanted, yielded, hk0]) _ _ rfl x1.heap.size rfl 55 _ (0, 0) _ HK0.out Try.underlying55 rfl (by kernel_rfl) ?_) | (refine wpList_load_row_w (by first | rfl | simp [Region.wanted, yielded] | simp [Region.wanted, yielded, hk0]) _ _ rfl x3.heap.size rfl 55 _ (0, 0) _ HK2.out Try.underlying55 rfl (by kernel_rfl) ?_) | (refine wpList_load_row_w (by first | rfl | simp [Region.wanted, yielded] | simp [Region.wanted, yielded, hk0]) _ _ rfl x8.heap.size rfl 55 _ (0, 0) _ HK3.out Try.underlying55 rfl (by kernel_rfl) ?_))
  refine (eqCluster_yes Q s7 s2 x9 HC4.out.reads HC0.out.reads HFQ.out.1).mono ?_
  rintro e x10 ⟨rfl, hb⟩
  have HBN : Hid (Below w.heap.size w x10) := bt HB.out hb
  have HC0N : Hid (OwnC w.heap.size x1.heap.size x10 Q s2) := HC0.out.below hb
  have HK0N : Hid (x10.heap[x1.heap.size]? = Option.some (.cells (clusA Q s2) 55 (0, 0))) := (hb.block _ (Array.getElem?_eq_some_iff.1 HK0.out).1).trans HK0.out
  have HK2N : Hid (x10.heap[x3.heap.size]? = Option.some (.cells (clusA Q s4) 55 (0, 0))) := (hb.block _ (Array.getElem?_eq_some_iff.1 HK2.out).1).trans HK2.out
  have HM2N : Hid (OwnC x2.heap.size x3.heap.size x10 (cmC 1 Q s4) (cmS 1 s4)) := HM2.out.below hb
  have HC4N : Hid (OwnC x7.heap.size x8.heap.size x10 Q s7) := HC4.out.below hb
  have HK3N : Hid (x10.heap[x8.heap.size]? = Option.some (.cells (clusA Q s7) 55 (0, 0))) := (hb.block _ (Array.getElem?_eq_some_iff.1 HK3.out).1).trans HK3.out
  have HZ10 : Hid (x9.heap.size ≤ x10.heap.size) := hb.size
  clear HB HC0 HK0 HK2 HM2 HC4 HK3
  have HB := HBN
  clear HBN
  have HC0 := HC0N
  clear HC0N
  have HK0 := HK0N
  clear HK0N
  have HK2 := HK2N
  clear HK2N
  have HM2 := HM2N
  clear HM2N
  have HC4 := HC4N
  clear HC4N
  have HK3 := HK3N
  clear HK3N
  clear hb
  go_wp2_with (first | (refine wpList_load_row rfl _ _ rfl x1.heap.size rfl 55 _ (0, 0) _ HK0.out Try.underlying55 rfl (by kernel_rfl) ?_) | (refine wpList_load_row rfl _ _ rfl x3.heap.size rfl 55 _ (0, 0) _ HK2.out Try.underlying55 rfl (by kernel_rfl) ?_) | (refine wpList_load_row rfl _ _ rfl x8.heap.size rfl 55 _ (0, 0) _ HK3.out Try.underlying55 rfl (by kernel_rfl) ?_) | (refine wpList_load_row_w (by first | rfl | simp [Region.wanted, yielded] | simp [Region.wanted, yielded, hk0]) _ _ rfl x1.heap.size rfl 55 _ (0, 0) _ HK0.out Try.underlying55 rfl (by kernel_rfl) ?_) | (refine wpList_load_row_w (by first | rfl | simp [Region.wanted, yielded] | simp [Region.wanted, yielded, hk0]) _ _ rfl x3.heap.size rfl 55 _ (0, 0) _ HK2.out Try.underlying55 rfl (by kernel_rfl) ?_) | (refine wpList_load_row_w (by first | rfl | simp [Region.wanted, yielded] | simp [Region.wanted, yielded, hk0]) _ _ rfl x8.heap.size rfl 55 _ (0, 0) _ HK3.out Try.underlying55 rfl (by kernel_rfl) ?_))
  refine (heldCluster_own Q s4 1 x2.heap.size x3.heap.size x10 HM2.out HMK.out Q).mono ?_
  rintro e x11 ⟨rfl, hb⟩
  have HBN : Hid (Below w.heap.size w x11) := bt HB.out hb
  have HC0N : Hid (OwnC w.heap.size x1.heap.size x11 Q s2) := HC0.out.below hb
  have HK0N : Hid (x11.heap[x1.heap.size]? = Option.some (.cells (clusA Q s2) 55 (0, 0))) := (hb.block _ (Array.getElem?_eq_some_iff.1 HK0.out).1).trans HK0.out
  have HK2N : Hid (x11.heap[x3.heap.size]? = Option.some (.cells (clusA Q s4) 55 (0, 0))) := (hb.block _ (Array.getElem?_eq_some_iff.1 HK2.out).1).trans HK2.out
  have HM2N : Hid (OwnC x2.heap.size x3.heap.size x11 (cmC 1 Q s4) (cmS 1 s4)) := HM2.out.below hb
  have HC4N : Hid (OwnC x7.heap.size x8.heap.size x11 Q s7) := HC4.out.below hb
  have HK3N : Hid (x11.heap[x8.heap.size]? = Option.some (.cells (clusA Q s7) 55 (0, 0))) := (hb.block _ (Array.getElem?_eq_some_iff.1 HK3.out).1).trans HK3.out
  have HZ11 : Hid (x10.heap.size ≤ x11.heap.size) := hb.size
  clear HB HC0 HK0 HK2 HM2 HC4 HK3
  have HB := HBN
  clear HBN
  have HC0 := HC0N
  clear HC0N
  have HK0 := HK0N
  clear HK0N
  have HK2 := HK2N
  clear HK2N
  have HM2 := HM2N
  clear HM2N
  have HC4 := HC4N
  clear HC4N
  have HK3 := HK3N
  clear HK3N
  clear hb
  go_wp2
  go_ret
  exact ⟨rfl, HB.out⟩

end Go.Proofs.Ytjieklilojmifat.WFnExactClusterNew
