/-
  The walk of the law FnExactTimedOut: the specification's answer and the program's are the same; what came in is as it was; the program's answer owns its memory. (Made by gl14.py.)
-/
import Derived.Test.YtdopefimjabigatTimeS
import Derived.Test.YtdopefimjabigatLetsL
import Derived.Test.YtdopefimjabigatVotedS
namespace Go.Proofs.Ytdopefimjabigat.WFnExactTimedOut
open Go.RowKit Num

/-- the program's contract -/
def Prg : Prop := ∀ (p : PE) (s : PV) (lo hi : Nat) (n : Int) (w : World) (_ : OwnD lo hi w p s) (_ : smallPe p) (_ : goodPe p) (_ : (Lit.int .i64 n).wf = true), Calls Try.prog 7 #[peerV p s, .int .i64 n] w fun e w' => ∃ s', e = .returned (.tuple #[peerV (timedP p n) s', .agg (letA (timedL p n)), .bool (goesB p n)]) ∧ OwnD w.heap.size w'.heap.size w' (timedP p n) s' ∧ Below w.heap.size w w'

set_option maxRecDepth 100000 in
set_option maxHeartbeats 32000000 in
theorem walk_of (HI : Prg) (w : World) (p : PE) (s : PV) (hR : PeerR w p s) (hg : goodPe p) (n : Int) (hwn : (Lit.int .i64 n).wf = true) :
    Calls Try.prog 3 #[peerV p s, .int .i64 n] w fun e w' => e = .returned (.bool true) ∧ Below w.heap.size w w' := by
  have HR : Hid (PeerR w p s) := hR
  have HG : Hid (goodPe p) := hg
  clear hR hg
  have HWn : Hid ((Lit.int .i64 n).wf = true) := hwn
  clear hwn
  obtain ⟨X, hX⟩ : ∃ X, X = w.alloc (.cells (peerA p s) 32) := ⟨_, rfl⟩
  have HB : Hid (Below w.heap.size w X) := (by rw [hX]; exact ba (Below.refl _ _) _ : Below w.heap.size w X)
  have HKa : Hid (X.heap[w.heap.size]? = Option.some (.cells (peerA p s) 32 (0, 0))) := (by rw [hX]; exact heap_alloc_new w _ : X.heap[w.heap.size]? = _)
  have HZ0 : Hid (w.heap.size < X.heap.size) := (Array.getElem?_eq_some_iff.1 HKa.out).1
  go_enter Try.func3, Try.ntmps3
  go_wp2_with (first | (rw [← hX]; clear hX; (refine wpList_load_row rfl _ _ rfl w.heap.size rfl 32 _ (0, 0) _ HKa.out Try.underlying32 rfl (by kernel_rfl) ?_)) | (refine wpList_load_row rfl _ _ rfl w.heap.size rfl 32 _ (0, 0) _ HKa.out Try.underlying32 rfl (by kernel_rfl) ?_))
  refine (szPeer_any p s 1048576 X (by decide) (by decide) (HR.out.below HB.out) HG.out).mono ?_
  rintro e x1 ⟨z, rfl, hz, hb⟩
  have HBN : Hid (Below w.heap.size w x1) := bt HB.out hb
  have HKaN : Hid (x1.heap[w.heap.size]? = Option.some (.cells (peerA p s) 32 (0, 0))) := (hb.block _ (Array.getElem?_eq_some_iff.1 HKa.out).1).trans HKa.out
  have HZ1 : Hid (X.heap.size ≤ x1.heap.size) := hb.size
  clear HB HKa
  have HB := HBN
  clear HBN
  have HKa := HKaN
  clear HKaN
  clear hb
  rcases hz with rfl | ⟨z0, hsum, hsm⟩
  · go_wp2
    go_ret
    exact ⟨rfl, HB.out⟩
  have HS : Hid (smallPe p) := hsm
  have HLP : Hid (lenPe p ≤ 1048576) := (by unfold lenPe; omega : lenPe p ≤ 1048576)
  have HSM : Hid (sumPe p) := (by have a0 := hsm.row; have a1 := hsm.cells; have a2 := hsm.early; have a3 := hsm.undos; have a4 := hsm.votes; have a5 := hsm.news; have := HLP.out; exact ⟨by omega, by omega, by omega, by omega, by omega, by omega, by omega⟩ : sumPe p)
  have HSQ : Hid (smallPe (timedP p n)) := timed_small HS.out n
  have HMQ : Hid (sumPe (timedP p n) ∧ lenPe (timedP p n) ≤ 1048576) := ⟨timed_sum HSM.out n, Nat.le_trans (timed_len p n) HLP.out⟩
  obtain ⟨Q, hQ⟩ : ∃ Q, Q = timedP p n := ⟨_, rfl⟩
  obtain ⟨LL, hLL⟩ : ∃ LL, LL = timedL p n := ⟨_, rfl⟩
  obtain ⟨B, hBB⟩ : ∃ B, B = goesB p n := ⟨_, rfl⟩
  have HQ : Hid (timedP p n = Q ∧ timedL p n = LL ∧ goesB p n = B) := ⟨hQ.symm, hLL.symm, hBB.symm⟩
  rw [← hQ] at HSQ HMQ
  clear hQ hLL hBB hsm hsum
  have hqq : (B != B) = false := by simp
  go_wp2_with (first | (refine wpList_load_row rfl _ _ rfl w.heap.size rfl 32 _ (0, 0) _ HKa.out Try.underlying32 rfl (by kernel_rfl) ?_) | (refine wpList_load_row_w (by first | rfl | simp [Region.wanted, yielded] | simp [Region.wanted, yielded, hk0]) _ _ rfl w.heap.size rfl 32 _ (0, 0) _ HKa.out Try.underlying32 rfl (by kernel_rfl) ?_))
  refine (toPeer_any p s x1 (HR.out.below HB.out) HS.out).mono ?_
  rintro e x2 ⟨s1, rfl, ho, hb⟩
  have HRaA : Hid (PeerR x2 p s1) := ho.reads
  have HBN : Hid (Below w.heap.size w x2) := bt HB.out hb
  have HKaN : Hid (x2.heap[w.heap.size]? = Option.some (.cells (peerA p s) 32 (0, 0))) := (hb.block _ (Array.getElem?_eq_some_iff.1 HKa.out).1).trans HKa.out
  have HZ2 : Hid (x1.heap.size ≤ x2.heap.size) := hb.size
  clear HB HKa
  have HB := HBN
  clear HBN
  have HKa := HKaN
  clear HKaN
  have HRa := HRaA
  clear HRaA
  clear ho hb
  go_wp2_with (first | (refine wpList_load_row rfl _ _ rfl w.heap.size rfl 32 _ (0, 0) _ HKa.out Try.underlying32 rfl (by kernel_rfl) ?_) | (refine wpList_load_row_w (by first | rfl | simp [Region.wanted, yielded] | simp [Region.wanted, yielded, hk0]) _ _ rfl w.heap.size rfl 32 _ (0, 0) _ HKa.out Try.underlying32 rfl (by kernel_rfl) ?_))
  have hsp := timedOut_s p s1 n x2 HG.out HWn.out HRa.out HS.out
  rw [HQ.out.1, HQ.out.2.1, HQ.out.2.2] at hsp
  refine (hsp).mono ?_
  rintro e x3 ⟨s2, rfl, ho, hb⟩
  have HO0A : Hid (OwnD x2.heap.size x3.heap.size x3 Q s2) := ho
  have HBN : Hid (Below w.heap.size w x3) := bt HB.out hb
  have HKaN : Hid (x3.heap[w.heap.size]? = Option.some (.cells (peerA p s) 32 (0, 0))) := (hb.block _ (Array.getElem?_eq_some_iff.1 HKa.out).1).trans HKa.out
  have HRaN : Hid (PeerR x3 p s1) := HRa.out.below hb
  have HZ3 : Hid (x2.heap.size ≤ x3.heap.size) := hb.size
  clear HB HKa HRa
  have HB := HBN
  clear HBN
  have HKa := HKaN
  clear HKaN
  have HRa := HRaN
  clear HRaN
  have HO0 := HO0A
  clear HO0A
  clear ho hb hsp
  clear HRa
  go_wp2_with (first | (refine wpList_store_blk rfl _ _ _ rfl x3.heap.size (peerA Q s2) rfl rfl 41 zeroA (alloc2 x3 _ _).1 (by kernel_rfl) rfl (peerA_one HO0.out.1) ?_; intro y4 hg hk hz; have hbA : Below x3.heap.size x3 y4 := (((Below.refl _ _).alloc (Nat.le_refl _) _).alloc (by simp) _).grown hg (by simp; omega) (fun k hk => by cases hk; exact Nat.le_refl _); have HkA : Hid (y4.heap[x3.heap.size]? = Option.some (.cells (peerA Q s2) 41 (0, 0))) := hk; have HvA : Hid (y4.heap[x3.heap.size + 1]? = Option.some (.cells (letA ((0, 0, 0, 0, 0), (0, 0, 0, 0), (0, 0, 0, 0))) 43 (0, 0))) := (hg.block _ (by simp) (fun e => by have e := Option.some.inj e; omega)).trans (alloc2 x3 _ _).2; have HbA : Hid (Below x3.heap.size x3 y4) := hbA; clear hg hk hz hbA) | (refine wpList_store_blk rfl _ _ _ rfl (x3.heap.size + 1) (letA LL) rfl rfl 43 (letA ((0, 0, 0, 0, 0), (0, 0, 0, 0), (0, 0, 0, 0))) HvA.out (by kernel_rfl) rfl (letA_one LL) ?_; intro x5 hg hk hz; have hb : Below x3.heap.size x3 x5 := HbA.out.grown hg HbA.out.size (fun k hk => by cases hk; omega); have HkB : Hid (x5.heap[x3.heap.size]? = Option.some (.cells (peerA Q s2) 41 (0, 0))) := (hg.block _ (Array.getElem?_eq_some_iff.1 HkA.out).1 (fun e => by have e := Option.some.inj e; omega)).trans HkA.out; have hlt : x3.heap.size + 1 < x5.heap.size := (Array.getElem?_eq_some_iff.1 hk).1; have HBN : Hid (Below w.heap.size w x5) := bt HB.out hb; have HKaN : Hid (x5.heap[w.heap.size]? = Option.some (.cells (peerA p s) 32 (0, 0))) := (hb.block _ (Array.getElem?_eq_some_iff.1 HKa.out).1).trans HKa.out; have HO0N : Hid (OwnD x2.heap.size x3.heap.size x5 Q s2) := HO0.out.below hb; have HZ5 : Hid (x3.heap.size < x5.heap.size) := (show x3.heap.size < x5.heap.size by omega); clear HB HKa HO0; have HB := HBN; clear HBN; have HKa := HKaN; clear HKaN; have HO0 := HO0N; clear HO0N; have HK0 : Hid (x5.heap[x3.heap.size]? = Option.some (.cells (peerA Q s2) 41 (0, 0))) := HkB; have HV0 : Hid (x5.heap[(x3.heap.size + 1)]? = Option.some (.cells (letA LL) 43 (0, 0))) := hk; have HY5 : Hid (x3.heap.size + 1 < x5.heap.size) := hlt; clear hg hk hz hb hlt HkA HvA HbA HkB) | (refine wpList_load_row rfl _ _ rfl w.heap.size rfl 32 _ (0, 0) _ HKa.out Try.underlying32 rfl (by kernel_rfl) ?_) | (refine wpList_load_row rfl _ _ rfl x3.heap.size rfl 41 _ (0, 0) _ HK0.out Try.underlying41 rfl (by kernel_rfl) ?_) | (refine wpList_load_row rfl _ _ rfl (x3.heap.size + 1) rfl 43 _ (0, 0) _ HV0.out Try.underlying43 rfl (by kernel_rfl) ?_) | (refine wpList_load_row_w (by first | rfl | simp [Region.wanted, yielded] | simp [Region.wanted, yielded, hk0]) _ _ rfl w.heap.size rfl 32 _ (0, 0) _ HKa.out Try.underlying32 rfl (by kernel_rfl) ?_) | (refine wpList_load_row_w (by first | rfl | simp [Region.wanted, yielded] | simp [Region.wanted, yielded, hk0]) _ _ rfl x3.heap.size rfl 41 _ (0, 0) _ HK0.out Try.underlying41 rfl (by kernel_rfl) ?_) | (refine wpList_load_row_w (by first | rfl | simp [Region.wanted, yielded] | simp [Region.wanted, yielded, hk0]) _ _ rfl (x3.heap.size + 1) rfl 43 _ (0, 0) _ HV0.out Try.underlying43 rfl (by kernel_rfl) ?_))
  refine (toPeer_any p s x5 (HR.out.below HB.out) HS.out).mono ?_
  rintro e x6 ⟨s3, rfl, ho, hb⟩
  have HO1A : Hid (OwnD x5.heap.size x6.heap.size x6 p s3) := ho.toD
  have HBN : Hid (Below w.heap.size w x6) := bt HB.out hb
  have HKaN : Hid (x6.heap[w.heap.size]? = Option.some (.cells (peerA p s) 32 (0, 0))) := (hb.block _ (Array.getElem?_eq_some_iff.1 HKa.out).1).trans HKa.out
  have HO0N : Hid (OwnD x2.heap.size x3.heap.size x6 Q s2) := HO0.out.below hb
  have HK0N : Hid (x6.heap[x3.heap.size]? = Option.some (.cells (peerA Q s2) 41 (0, 0))) := (hb.block _ (Array.getElem?_eq_some_iff.1 HK0.out).1).trans HK0.out
  have HV0N : Hid (x6.heap[(x3.heap.size + 1)]? = Option.some (.cells (letA LL) 43 (0, 0))) := (hb.block _ (Array.getElem?_eq_some_iff.1 HV0.out).1).trans HV0.out
  have HZ6 : Hid (x5.heap.size ≤ x6.heap.size) := hb.size
  clear HB HKa HO0 HK0 HV0
  have HB := HBN
  clear HBN
  have HKa := HKaN
  clear HKaN
  have HO0 := HO0N
  clear HO0N
  have HK0 := HK0N
  clear HK0N
  have HV0 := HV0N
  clear HV0N
  have HO1 := HO1A
  clear HO1A
  clear ho hb
  go_wp2_with (first | (refine wpList_store_blk rfl _ _ _ rfl x6.heap.size (peerA p s3) rfl rfl 41 zeroA (heap_alloc_new x6 _) (by kernel_rfl) rfl (peerA_one HO1.out.1) ?_; intro x7 hg hk hz; have hb : Below x6.heap.size x6 x7 := made_below hg; have hlt : x6.heap.size < x7.heap.size := (Array.getElem?_eq_some_iff.1 hk).1; have HBN : Hid (Below w.heap.size w x7) := bt HB.out hb; have HKaN : Hid (x7.heap[w.heap.size]? = Option.some (.cells (peerA p s) 32 (0, 0))) := (hb.block _ (Array.getElem?_eq_some_iff.1 HKa.out).1).trans HKa.out; have HO0N : Hid (OwnD x2.heap.size x3.heap.size x7 Q s2) := HO0.out.below hb; have HK0N : Hid (x7.heap[x3.heap.size]? = Option.some (.cells (peerA Q s2) 41 (0, 0))) := (hb.block _ (Array.getElem?_eq_some_iff.1 HK0.out).1).trans HK0.out; have HV0N : Hid (x7.heap[(x3.heap.size + 1)]? = Option.some (.cells (letA LL) 43 (0, 0))) := (hb.block _ (Array.getElem?_eq_some_iff.1 HV0.out).1).trans HV0.out; have HO1N : Hid (OwnD x5.heap.size x6.heap.size x7 p s3) := HO1.out.below hb; have HZ7 : Hid (x6.heap.size < x7.heap.size) := hlt; clear HB HKa HO0 HK0 HV0 HO1; have HB := HBN; clear HBN; have HKa := HKaN; clear HKaN; have HO0 := HO0N; clear HO0N; have HK0 := HK0N; clear HK0N; have HV0 := HV0N; clear HV0N; have HO1 := HO1N; clear HO1N; have HK1 : Hid (x7.heap[x6.heap.size]? = Option.some (.cells (peerA p s3) 41 (0, 0))) := hk; clear hg hk hz hb hlt) | (refine wpList_load_row rfl _ _ rfl w.heap.size rfl 32 _ (0, 0) _ HKa.out Try.underlying32 rfl (by kernel_rfl) ?_) | (refine wpList_load_row rfl _ _ rfl x3.heap.size rfl 41 _ (0, 0) _ HK0.out Try.underlying41 rfl (by kernel_rfl) ?_) | (refine wpList_load_row rfl _ _ rfl (x3.heap.size + 1) rfl 43 _ (0, 0) _ HV0.out Try.underlying43 rfl (by kernel_rfl) ?_) | (refine wpList_load_row rfl _ _ rfl x6.heap.size rfl 41 _ (0, 0) _ HK1.out Try.underlying41 rfl (by kernel_rfl) ?_) | (refine wpList_load_row_w (by first | rfl | simp [Region.wanted, yielded] | simp [Region.wanted, yielded, hk0]) _ _ rfl w.heap.size rfl 32 _ (0, 0) _ HKa.out Try.underlying32 rfl (by kernel_rfl) ?_) | (refine wpList_load_row_w (by first | rfl | simp [Region.wanted, yielded] | simp [Region.wanted, yielded, hk0]) _ _ rfl x3.heap.size rfl 41 _ (0, 0) _ HK0.out Try.underlying41 rfl (by kernel_rfl) ?_) | (refine wpList_load_row_w (by first | rfl | simp [Region.wanted, yielded] | simp [Region.wanted, yielded, hk0]) _ _ rfl (x3.heap.size + 1) rfl 43 _ (0, 0) _ HV0.out Try.underlying43 rfl (by kernel_rfl) ?_) | (refine wpList_load_row_w (by first | rfl | simp [Region.wanted, yielded] | simp [Region.wanted, yielded, hk0]) _ _ rfl x6.heap.size rfl 41 _ (0, 0) _ HK1.out Try.underlying41 rfl (by kernel_rfl) ?_))
  have hsp := HI p s3 x5.heap.size x6.heap.size n x7 HO1.out HS.out HG.out HWn.out
  rw [HQ.out.1, HQ.out.2.1, HQ.out.2.2] at hsp
  refine (hsp).mono ?_
  rintro e x8 ⟨s4, rfl, ho, hb⟩
  have HO2A : Hid (OwnD x7.heap.size x8.heap.size x8 Q s4) := ho
  have HBN : Hid (Below w.heap.size w x8) := bt HB.out hb
  have HKaN : Hid (x8.heap[w.heap.size]? = Option.some (.cells (peerA p s) 32 (0, 0))) := (hb.block _ (Array.getElem?_eq_some_iff.1 HKa.out).1).trans HKa.out
  have HO0N : Hid (OwnD x2.heap.size x3.heap.size x8 Q s2) := HO0.out.below hb
  have HK0N : Hid (x8.heap[x3.heap.size]? = Option.some (.cells (peerA Q s2) 41 (0, 0))) := (hb.block _ (Array.getElem?_eq_some_iff.1 HK0.out).1).trans HK0.out
  have HV0N : Hid (x8.heap[(x3.heap.size + 1)]? = Option.some (.cells (letA LL) 43 (0, 0))) := (hb.block _ (Array.getElem?_eq_some_iff.1 HV0.out).1).trans HV0.out
  have HO1N : Hid (OwnD x5.heap.size x6.heap.size x8 p s3) := HO1.out.below hb
  have HK1N : Hid (x8.heap[x6.heap.size]? = Option.some (.cells (peerA p s3) 41 (0, 0))) := (hb.block _ (Array.getElem?_eq_some_iff.1 HK1.out).1).trans HK1.out
  have HZ8 : Hid (x7.heap.size ≤ x8.heap.size) := hb.size
  clear HB HKa HO0 HK0 HV0 HO1 HK1
  have HB := HBN
  clear HBN
  have HKa := HKaN
  clear HKaN
  have HO0 := HO0N
  clear HO0N
  have HK0 := HK0N
  clear HK0N
  have HV0 := HV0N
  clear HV0N
  have HO1 := HO1N
  clear HO1N
  have HK1 := HK1N
  clear HK1N
  have HO2 := HO2A
  clear HO2A
  clear ho hb hsp
  go_wp2_with (first | (refine wpList_store_blk rfl _ _ _ rfl x8.heap.size (peerA Q s4) rfl rfl 41 zeroA (alloc2 x8 _ _).1 (by kernel_rfl) rfl (peerA_one HO2.out.1) ?_; intro y9 hg hk hz; have hbA : Below x8.heap.size x8 y9 := (((Below.refl _ _).alloc (Nat.le_refl _) _).alloc (by simp) _).grown hg (by simp; omega) (fun k hk => by cases hk; exact Nat.le_refl _); have HkA : Hid (y9.heap[x8.heap.size]? = Option.some (.cells (peerA Q s4) 41 (0, 0))) := hk; have HvA : Hid (y9.heap[x8.heap.size + 1]? = Option.some (.cells (letA ((0, 0, 0, 0, 0), (0, 0, 0, 0), (0, 0, 0, 0))) 43 (0, 0))) := (hg.block _ (by simp) (fun e => by have e := Option.some.inj e; omega)).trans (alloc2 x8 _ _).2; have HbA : Hid (Below x8.heap.size x8 y9) := hbA; clear hg hk hz hbA) | (refine wpList_store_blk rfl _ _ _ rfl (x8.heap.size + 1) (letA LL) rfl rfl 43 (letA ((0, 0, 0, 0, 0), (0, 0, 0, 0), (0, 0, 0, 0))) HvA.out (by kernel_rfl) rfl (letA_one LL) ?_; intro x10 hg hk hz; have hb : Below x8.heap.size x8 x10 := HbA.out.grown hg HbA.out.size (fun k hk => by cases hk; omega); have HkB : Hid (x10.heap[x8.heap.size]? = Option.some (.cells (peerA Q s4) 41 (0, 0))) := (hg.block _ (Array.getElem?_eq_some_iff.1 HkA.out).1 (fun e => by have e := Option.some.inj e; omega)).trans HkA.out; have hlt : x8.heap.size + 1 < x10.heap.size := (Array.getElem?_eq_some_iff.1 hk).1; have HBN : Hid (Below w.heap.size w x10) := bt HB.out hb; have HKaN : Hid (x10.heap[w.heap.size]? = Option.some (.cells (peerA p s) 32 (0, 0))) := (hb.block _ (Array.getElem?_eq_some_iff.1 HKa.out).1).trans HKa.out; have HO0N : Hid (OwnD x2.heap.size x3.heap.size x10 Q s2) := HO0.out.below hb; have HK0N : Hid (x10.heap[x3.heap.size]? = Option.some (.cells (peerA Q s2) 41 (0, 0))) := (hb.block _ (Array.getElem?_eq_some_iff.1 HK0.out).1).trans HK0.out; have HV0N : Hid (x10.heap[(x3.heap.size + 1)]? = Option.some (.cells (letA LL) 43 (0, 0))) := (hb.block _ (Array.getElem?_eq_some_iff.1 HV0.out).1).trans HV0.out; have HO1N : Hid (OwnD x5.heap.size x6.heap.size x10 p s3) := HO1.out.below hb; have HK1N : Hid (x10.heap[x6.heap.size]? = Option.some (.cells (peerA p s3) 41 (0, 0))) := (hb.block _ (Array.getElem?_eq_some_iff.1 HK1.out).1).trans HK1.out; have HO2N : Hid (OwnD x7.heap.size x8.heap.size x10 Q s4) := HO2.out.below hb; have HZ10 : Hid (x8.heap.size < x10.heap.size) := (show x8.heap.size < x10.heap.size by omega); clear HB HKa HO0 HK0 HV0 HO1 HK1 HO2; have HB := HBN; clear HBN; have HKa := HKaN; clear HKaN; have HO0 := HO0N; clear HO0N; have HK0 := HK0N; clear HK0N; have HV0 := HV0N; clear HV0N; have HO1 := HO1N; clear HO1N; have HK1 := HK1N; clear HK1N; have HO2 := HO2N; clear HO2N; have HK2 : Hid (x10.heap[x8.heap.size]? = Option.some (.cells (peerA Q s4) 41 (0, 0))) := HkB; have HV2 : Hid (x10.heap[(x8.heap.size + 1)]? = Option.some (.cells (letA LL) 43 (0, 0))) := hk; have HY10 : Hid (x8.heap.size + 1 < x10.heap.size) := hlt; clear hg hk hz hb hlt HkA HvA HbA HkB) | (refine wpList_load_row rfl _ _ rfl w.heap.size rfl 32 _ (0, 0) _ HKa.out Try.underlying32 rfl (by kernel_rfl) ?_) | (refine wpList_load_row rfl _ _ rfl x3.heap.size rfl 41 _ (0, 0) _ HK0.out Try.underlying41 rfl (by kernel_rfl) ?_) | (refine wpList_load_row rfl _ _ rfl (x3.heap.size + 1) rfl 43 _ (0, 0) _ HV0.out Try.underlying43 rfl (by kernel_rfl) ?_) | (refine wpList_load_row rfl _ _ rfl x6.heap.size rfl 41 _ (0, 0) _ HK1.out Try.underlying41 rfl (by kernel_rfl) ?_) | (refine wpList_load_row rfl _ _ rfl x8.heap.size rfl 41 _ (0, 0) _ HK2.out Try.underlying41 rfl (by kernel_rfl) ?_) | (refine wpList_load_row rfl _ _ rfl (x8.heap.size + 1) rfl 43 _ (0, 0) _ HV2.out Try.underlying43 rfl (by kernel_rfl) ?_) | (refine wpList_load_row_w (by first | rfl | simp [Region.wanted, yielded] | simp [Region.wanted, yielded, hk0]) _ _ rfl w.heap.size rfl 32 _ (0, 0) _ HKa.out Try.underlying32 rfl (by kernel_rfl) ?_) | (refine wpList_load_row_w (by first | rfl | simp [Region.wanted, yielded] | simp [Region.wanted, yielded, hk0]) _ _ rfl x3.heap.size rfl 41 _ (0, 0) _ HK0.out Try.underlying41 rfl (by kernel_rfl) ?_) | (refine wpList_load_row_w (by first | rfl | simp [Region.wanted, yielded] | simp [Region.wanted, yielded, hk0]) _ _ rfl (x3.heap.size + 1) rfl 43 _ (0, 0) _ HV0.out Try.underlying43 rfl (by kernel_rfl) ?_) | (refine wpList_load_row_w (by first | rfl | simp [Region.wanted, yielded] | simp [Region.wanted, yielded, hk0]) _ _ rfl x6.heap.size rfl 41 _ (0, 0) _ HK1.out Try.underlying41 rfl (by kernel_rfl) ?_) | (refine wpList_load_row_w (by first | rfl | simp [Region.wanted, yielded] | simp [Region.wanted, yielded, hk0]) _ _ rfl x8.heap.size rfl 41 _ (0, 0) _ HK2.out Try.underlying41 rfl (by kernel_rfl) ?_) | (refine wpList_load_row_w (by first | rfl | simp [Region.wanted, yielded] | simp [Region.wanted, yielded, hk0]) _ _ rfl (x8.heap.size + 1) rfl 43 _ (0, 0) _ HV2.out Try.underlying43 rfl (by kernel_rfl) ?_))
  refine (eqPeer_yes Q s4 s2 x10 HO2.out.reads HO0.out.reads HSQ.out).mono ?_
  rintro e x11 ⟨rfl, hb⟩
  have HBN : Hid (Below w.heap.size w x11) := bt HB.out hb
  have HKaN : Hid (x11.heap[w.heap.size]? = Option.some (.cells (peerA p s) 32 (0, 0))) := (hb.block _ (Array.getElem?_eq_some_iff.1 HKa.out).1).trans HKa.out
  have HO0N : Hid (OwnD x2.heap.size x3.heap.size x11 Q s2) := HO0.out.below hb
  have HK0N : Hid (x11.heap[x3.heap.size]? = Option.some (.cells (peerA Q s2) 41 (0, 0))) := (hb.block _ (Array.getElem?_eq_some_iff.1 HK0.out).1).trans HK0.out
  have HV0N : Hid (x11.heap[(x3.heap.size + 1)]? = Option.some (.cells (letA LL) 43 (0, 0))) := (hb.block _ (Array.getElem?_eq_some_iff.1 HV0.out).1).trans HV0.out
  have HO1N : Hid (OwnD x5.heap.size x6.heap.size x11 p s3) := HO1.out.below hb
  have HK1N : Hid (x11.heap[x6.heap.size]? = Option.some (.cells (peerA p s3) 41 (0, 0))) := (hb.block _ (Array.getElem?_eq_some_iff.1 HK1.out).1).trans HK1.out
  have HO2N : Hid (OwnD x7.heap.size x8.heap.size x11 Q s4) := HO2.out.below hb
  have HK2N : Hid (x11.heap[x8.heap.size]? = Option.some (.cells (peerA Q s4) 41 (0, 0))) := (hb.block _ (Array.getElem?_eq_some_iff.1 HK2.out).1).trans HK2.out
  have HV2N : Hid (x11.heap[(x8.heap.size + 1)]? = Option.some (.cells (letA LL) 43 (0, 0))) := (hb.block _ (Array.getElem?_eq_some_iff.1 HV2.out).1).trans HV2.out
  have HZ11 : Hid (x10.heap.size ≤ x11.heap.size) := hb.size
  clear HB HKa HO0 HK0 HV0 HO1 HK1 HO2 HK2 HV2
  have HB := HBN
  clear HBN
  have HKa := HKaN
  clear HKaN
  have HO0 := HO0N
  clear HO0N
  have HK0 := HK0N
  clear HK0N
  have HV0 := HV0N
  clear HV0N
  have HO1 := HO1N
  clear HO1N
  have HK1 := HK1N
  clear HK1N
  have HO2 := HO2N
  clear HO2N
  have HK2 := HK2N
  clear HK2N
  have HV2 := HV2N
  clear HV2N
  clear hb
  go_wp2_with (first | (refine wpList_load_row rfl _ _ rfl w.heap.size rfl 32 _ (0, 0) _ HKa.out Try.underlying32 rfl (by kernel_rfl) ?_) | (refine wpList_load_row rfl _ _ rfl x3.heap.size rfl 41 _ (0, 0) _ HK0.out Try.underlying41 rfl (by kernel_rfl) ?_) | (refine wpList_load_row rfl _ _ rfl (x3.heap.size + 1) rfl 43 _ (0, 0) _ HV0.out Try.underlying43 rfl (by kernel_rfl) ?_) | (refine wpList_load_row rfl _ _ rfl x6.heap.size rfl 41 _ (0, 0) _ HK1.out Try.underlying41 rfl (by kernel_rfl) ?_) | (refine wpList_load_row rfl _ _ rfl x8.heap.size rfl 41 _ (0, 0) _ HK2.out Try.underlying41 rfl (by kernel_rfl) ?_) | (refine wpList_load_row rfl _ _ rfl (x8.heap.size + 1) rfl 43 _ (0, 0) _ HV2.out Try.underlying43 rfl (by kernel_rfl) ?_) | (refine wpList_load_row_w (by first | rfl | simp [Region.wanted, yielded] | simp [Region.wanted, yielded, hk0]) _ _ rfl w.heap.size rfl 32 _ (0, 0) _ HKa.out Try.underlying32 rfl (by kernel_rfl) ?_) | (refine wpList_load_row_w (by first | rfl | simp [Region.wanted, yielded] | simp [Region.wanted, yielded, hk0]) _ _ rfl x3.heap.size rfl 41 _ (0, 0) _ HK0.out Try.underlying41 rfl (by kernel_rfl) ?_) | (refine wpList_load_row_w (by first | rfl | simp [Region.wanted, yielded] | simp [Region.wanted, yielded, hk0]) _ _ rfl (x3.heap.size + 1) rfl 43 _ (0, 0) _ HV0.out Try.underlying43 rfl (by kernel_rfl) ?_) | (refine wpList_load_row_w (by first | rfl | simp [Region.wanted, yielded] | simp [Region.wanted, yielded, hk0]) _ _ rfl x6.heap.size rfl 41 _ (0, 0) _ HK1.out Try.underlying41 rfl (by kernel_rfl) ?_) | (refine wpList_load_row_w (by first | rfl | simp [Region.wanted, yielded] | simp [Region.wanted, yielded, hk0]) _ _ rfl x8.heap.size rfl 41 _ (0, 0) _ HK2.out Try.underlying41 rfl (by kernel_rfl) ?_) | (refine wpList_load_row_w (by first | rfl | simp [Region.wanted, yielded] | simp [Region.wanted, yielded, hk0]) _ _ rfl (x8.heap.size + 1) rfl 43 _ (0, 0) _ HV2.out Try.underlying43 rfl (by kernel_rfl) ?_))
  refine (eqLetter_yes LL x11).mono ?_
  rintro e x12 ⟨rfl, hb⟩
  have HBN : Hid (Below w.heap.size w x12) := bt HB.out hb
  have HKaN : Hid (x12.heap[w.heap.size]? = Option.some (.cells (peerA p s) 32 (0, 0))) := (hb.block _ (Array.getElem?_eq_some_iff.1 HKa.out).1).trans HKa.out
  have HO0N : Hid (OwnD x2.heap.size x3.heap.size x12 Q s2) := HO0.out.below hb
  have HK0N : Hid (x12.heap[x3.heap.size]? = Option.some (.cells (peerA Q s2) 41 (0, 0))) := (hb.block _ (Array.getElem?_eq_some_iff.1 HK0.out).1).trans HK0.out
  have HV0N : Hid (x12.heap[(x3.heap.size + 1)]? = Option.some (.cells (letA LL) 43 (0, 0))) := (hb.block _ (Array.getElem?_eq_some_iff.1 HV0.out).1).trans HV0.out
  have HO1N : Hid (OwnD x5.heap.size x6.heap.size x12 p s3) := HO1.out.below hb
  have HK1N : Hid (x12.heap[x6.heap.size]? = Option.some (.cells (peerA p s3) 41 (0, 0))) := (hb.block _ (Array.getElem?_eq_some_iff.1 HK1.out).1).trans HK1.out
  have HO2N : Hid (OwnD x7.heap.size x8.heap.size x12 Q s4) := HO2.out.below hb
  have HK2N : Hid (x12.heap[x8.heap.size]? = Option.some (.cells (peerA Q s4) 41 (0, 0))) := (hb.block _ (Array.getElem?_eq_some_iff.1 HK2.out).1).trans HK2.out
  have HV2N : Hid (x12.heap[(x8.heap.size + 1)]? = Option.some (.cells (letA LL) 43 (0, 0))) := (hb.block _ (Array.getElem?_eq_some_iff.1 HV2.out).1).trans HV2.out
  have HZ12 : Hid (x11.heap.size ≤ x12.heap.size) := hb.size
  clear HB HKa HO0 HK0 HV0 HO1 HK1 HO2 HK2 HV2
  have HB := HBN
  clear HBN
  have HKa := HKaN
  clear HKaN
  have HO0 := HO0N
  clear HO0N
  have HK0 := HK0N
  clear HK0N
  have HV0 := HV0N
  clear HV0N
  have HO1 := HO1N
  clear HO1N
  have HK1 := HK1N
  clear HK1N
  have HO2 := HO2N
  clear HO2N
  have HK2 := HK2N
  clear HK2N
  have HV2 := HV2N
  clear HV2N
  clear hb
  go_wp2
  refine wp_region_H (fun x => x.heap[w.heap.size]? = some (.cells (peerA p s) 32 (0, 0)) ∧ x.heap[x6.heap.size]? = some (.cells (peerA p s3) 41 (0, 0))) (by kernel_rfl) ?_
  show wpAnyH Try.prog _ _ _ _ (4 + 1) (Array.replicate 5 false) _ _
  have hS : x12.drew.heap[w.heap.size]? = some (.cells (peerA p s) 32 (0, 0)) ∧ x12.drew.heap[x6.heap.size]? = some (.cells (peerA p s3) 41 (0, 0)) := ⟨HKa.out, HK1.out⟩
  refine h_take (j := 0) (e' := some 56) (v := .agg (peerA p s3)) rfl rfl (by kernel_rfl) (by kernel_rfl) (by kernel_rfl) (fun _ _ _ h => h) (Or.inl ⟨by rfl, fun x hx => exec_load_blk _ _ rfl x6.heap.size rfl _ _ _ _ hx.2 Try.underlying41 rfl (by kernel_rfl)⟩) hS ?_
  simp only [Act.put, List.setIfInBounds_toArray, List.set_cons_zero, List.set_cons_succ]
  refine h_take (j := 1) (e' := some 57) (v := .agg (peerA p s)) rfl rfl (by kernel_rfl) (by kernel_rfl) (by kernel_rfl) (fun _ _ _ h => h) (Or.inl ⟨by rfl, fun x hx => exec_load_blk _ _ rfl w.heap.size rfl _ _ _ _ hx.1 Try.underlying32 rfl (by kernel_rfl)⟩) hS ?_
  simp only [Act.put, List.setIfInBounds_toArray, List.set_cons_zero, List.set_cons_succ]
  refine h_call (c := 2) (e' := some 58) (fn := 6) (args := #[.agg (peerA p s)]) rfl rfl (by kernel_rfl) (by rfl) ?_ ((toPeer_any p s x12.drew (HR.out.below (HB.out.trans (Below.refl _ _).drew)) HS.out).mono ?_)
  · go_simp
    try with_reducible rfl
  rintro e x13 ⟨s5, rfl, ho, hb0⟩
  have hb : Below x12.heap.size x12 x13 := ((Below.refl _ _).drew).trans hb0
  have HRb : Hid (PeerR x13 p s5) := ho.reads
  have HBN : Hid (Below w.heap.size w x13) := bt HB.out hb
  have HKaN : Hid (x13.heap[w.heap.size]? = Option.some (.cells (peerA p s) 32 (0, 0))) := (hb.block _ (Array.getElem?_eq_some_iff.1 HKa.out).1).trans HKa.out
  have HO0N : Hid (OwnD x2.heap.size x3.heap.size x13 Q s2) := HO0.out.below hb
  have HK0N : Hid (x13.heap[x3.heap.size]? = Option.some (.cells (peerA Q s2) 41 (0, 0))) := (hb.block _ (Array.getElem?_eq_some_iff.1 HK0.out).1).trans HK0.out
  have HV0N : Hid (x13.heap[(x3.heap.size + 1)]? = Option.some (.cells (letA LL) 43 (0, 0))) := (hb.block _ (Array.getElem?_eq_some_iff.1 HV0.out).1).trans HV0.out
  have HO1N : Hid (OwnD x5.heap.size x6.heap.size x13 p s3) := HO1.out.below hb
  have HK1N : Hid (x13.heap[x6.heap.size]? = Option.some (.cells (peerA p s3) 41 (0, 0))) := (hb.block _ (Array.getElem?_eq_some_iff.1 HK1.out).1).trans HK1.out
  have HO2N : Hid (OwnD x7.heap.size x8.heap.size x13 Q s4) := HO2.out.below hb
  have HK2N : Hid (x13.heap[x8.heap.size]? = Option.some (.cells (peerA Q s4) 41 (0, 0))) := (hb.block _ (Array.getElem?_eq_some_iff.1 HK2.out).1).trans HK2.out
  have HV2N : Hid (x13.heap[(x8.heap.size + 1)]? = Option.some (.cells (letA LL) 43 (0, 0))) := (hb.block _ (Array.getElem?_eq_some_iff.1 HV2.out).1).trans HV2.out
  have HZ13 : Hid (x12.heap.size ≤ x13.heap.size) := hb.size
  clear HB HKa HO0 HK0 HV0 HO1 HK1 HO2 HK2 HV2
  have HB := HBN
  clear HBN
  have HKa := HKaN
  clear HKaN
  have HO0 := HO0N
  clear HO0N
  have HK0 := HK0N
  clear HK0N
  have HV0 := HV0N
  clear HV0N
  have HO1 := HO1N
  clear HO1N
  have HK1 := HK1N
  clear HK1N
  have HO2 := HO2N
  clear HO2N
  have HK2 := HK2N
  clear HK2N
  have HV2 := HV2N
  clear HV2N
  have hS1 : x13.heap[w.heap.size]? = some (.cells (peerA p s) 32 (0, 0)) ∧ x13.heap[x6.heap.size]? = some (.cells (peerA p s3) 41 (0, 0)) := ⟨HKa.out, HK1.out⟩
  clear ho hb hb0 hS
  refine ⟨_, rfl, hS1, ?_⟩
  simp only [Act.put, List.setIfInBounds_toArray, List.set_cons_zero, List.set_cons_succ]
  refine h_call (c := 3) (e' := some 59) (fn := 8) (args := #[.agg (peerA p s3), .agg (peerA p s5)]) rfl rfl (by kernel_rfl) (by rfl) ?_ ((eqPeer_yes p s3 s5 x13 HO1.out.reads HRb.out HS.out).mono ?_)
  · go_simp
    try with_reducible rfl
  rintro e x14 ⟨rfl, hb⟩
  have HBN : Hid (Below w.heap.size w x14) := bt HB.out hb
  have HKaN : Hid (x14.heap[w.heap.size]? = Option.some (.cells (peerA p s) 32 (0, 0))) := (hb.block _ (Array.getElem?_eq_some_iff.1 HKa.out).1).trans HKa.out
  have HO0N : Hid (OwnD x2.heap.size x3.heap.size x14 Q s2) := HO0.out.below hb
  have HK0N : Hid (x14.heap[x3.heap.size]? = Option.some (.cells (peerA Q s2) 41 (0, 0))) := (hb.block _ (Array.getElem?_eq_some_iff.1 HK0.out).1).trans HK0.out
  have HV0N : Hid (x14.heap[(x3.heap.size + 1)]? = Option.some (.cells (letA LL) 43 (0, 0))) := (hb.block _ (Array.getElem?_eq_some_iff.1 HV0.out).1).trans HV0.out
  have HO1N : Hid (OwnD x5.heap.size x6.heap.size x14 p s3) := HO1.out.below hb
  have HK1N : Hid (x14.heap[x6.heap.size]? = Option.some (.cells (peerA p s3) 41 (0, 0))) := (hb.block _ (Array.getElem?_eq_some_iff.1 HK1.out).1).trans HK1.out
  have HO2N : Hid (OwnD x7.heap.size x8.heap.size x14 Q s4) := HO2.out.below hb
  have HK2N : Hid (x14.heap[x8.heap.size]? = Option.some (.cells (peerA Q s4) 41 (0, 0))) := (hb.block _ (Array.getElem?_eq_some_iff.1 HK2.out).1).trans HK2.out
  have HV2N : Hid (x14.heap[(x8.heap.size + 1)]? = Option.some (.cells (letA LL) 43 (0, 0))) := (hb.block _ (Array.getElem?_eq_some_iff.1 HV2.out).1).trans HV2.out
  have HZ14 : Hid (x13.heap.size ≤ x14.heap.size) := hb.size
  clear HB HKa HO0 HK0 HV0 HO1 HK1 HO2 HK2 HV2
  have HB := HBN
  clear HBN
  have HKa := HKaN
  clear HKaN
  have HO0 := HO0N
  clear HO0N
  have HK0 := HK0N
  clear HK0N
  have HV0 := HV0N
  clear HV0N
  have HO1 := HO1N
  clear HO1N
  have HK1 := HK1N
  clear HK1N
  have HO2 := HO2N
  clear HO2N
  have HK2 := HK2N
  clear HK2N
  have HV2 := HV2N
  clear HV2N
  have hS2 : x14.heap[w.heap.size]? = some (.cells (peerA p s) 32 (0, 0)) ∧ x14.heap[x6.heap.size]? = some (.cells (peerA p s3) 41 (0, 0)) := ⟨HKa.out, HK1.out⟩
  clear hb hS1 HRb
  refine ⟨_, rfl, hS2, ?_⟩
  simp only [Act.put, List.setIfInBounds_toArray, List.set_cons_zero, List.set_cons_succ]
  refine h_take (j := 4) (e' := some 60) (v := .bool false) rfl rfl (by kernel_rfl) (by kernel_rfl) (by kernel_rfl) (fun _ _ _ h => h) (Or.inl ⟨by rfl, ?_⟩) hS2 ?_
  · intro x hx
    go_simp
    try with_reducible rfl
  simp only [Act.put, List.setIfInBounds_toArray, List.set_cons_zero, List.set_cons_succ]
  refine wpAnyH_done (by kernel_rfl) ?_ _
  clear hS2
  go_wp2_with (first | (refine wpList_load_row rfl _ _ rfl w.heap.size rfl 32 _ (0, 0) _ HKa.out Try.underlying32 rfl (by kernel_rfl) ?_) | (refine wpList_load_row rfl _ _ rfl x3.heap.size rfl 41 _ (0, 0) _ HK0.out Try.underlying41 rfl (by kernel_rfl) ?_) | (refine wpList_load_row rfl _ _ rfl (x3.heap.size + 1) rfl 43 _ (0, 0) _ HV0.out Try.underlying43 rfl (by kernel_rfl) ?_) | (refine wpList_load_row rfl _ _ rfl x6.heap.size rfl 41 _ (0, 0) _ HK1.out Try.underlying41 rfl (by kernel_rfl) ?_) | (refine wpList_load_row rfl _ _ rfl x8.heap.size rfl 41 _ (0, 0) _ HK2.out Try.underlying41 rfl (by kernel_rfl) ?_) | (refine wpList_load_row rfl _ _ rfl (x8.heap.size + 1) rfl 43 _ (0, 0) _ HV2.out Try.underlying43 rfl (by kernel_rfl) ?_) | (refine wpList_load_row_w (by first | rfl | simp [Region.wanted, yielded] | simp [Region.wanted, yielded, hk0]) _ _ rfl w.heap.size rfl 32 _ (0, 0) _ HKa.out Try.underlying32 rfl (by kernel_rfl) ?_) | (refine wpList_load_row_w (by first | rfl | simp [Region.wanted, yielded] | simp [Region.wanted, yielded, hk0]) _ _ rfl x3.heap.size rfl 41 _ (0, 0) _ HK0.out Try.underlying41 rfl (by kernel_rfl) ?_) | (refine wpList_load_row_w (by first | rfl | simp [Region.wanted, yielded] | simp [Region.wanted, yielded, hk0]) _ _ rfl (x3.heap.size + 1) rfl 43 _ (0, 0) _ HV0.out Try.underlying43 rfl (by kernel_rfl) ?_) | (refine wpList_load_row_w (by first | rfl | simp [Region.wanted, yielded] | simp [Region.wanted, yielded, hk0]) _ _ rfl x6.heap.size rfl 41 _ (0, 0) _ HK1.out Try.underlying41 rfl (by kernel_rfl) ?_) | (refine wpList_load_row_w (by first | rfl | simp [Region.wanted, yielded] | simp [Region.wanted, yielded, hk0]) _ _ rfl x8.heap.size rfl 41 _ (0, 0) _ HK2.out Try.underlying41 rfl (by kernel_rfl) ?_) | (refine wpList_load_row_w (by first | rfl | simp [Region.wanted, yielded] | simp [Region.wanted, yielded, hk0]) _ _ rfl (x8.heap.size + 1) rfl 43 _ (0, 0) _ HV2.out Try.underlying43 rfl (by kernel_rfl) ?_))
  refine (markPeer_own p s3 1 x5.heap.size x6.heap.size x14 HO1.out HSM.out (by decide) (by have := HLP.out; omega)).mono ?_
  rintro e x15 ⟨rfl, hm, hf⟩
  have HAP15 : Hid (Apart6 x5.heap.size x6.heap.size s3) := HO1.out.2.1
  have hmA : Hid (MarkD 1 x5.heap.size x15 p s3) := hm
  clear hm
  have HBN : Hid (Below w.heap.size w x15) := HB.out.trans ⟨hf.os, hf.tape, hf.output, hf.size, fun k hk => hf.block k (Nat.lt_of_lt_of_le hk HB.out.size) (Or.inl (by have := HZ0.out; have := HZ1.out; have := HZ2.out; have := HZ3.out; have := HZ5.out; have := HY5.out; have := HZ6.out; have := HZ7.out; have := HZ8.out; have := HZ10.out; have := HY10.out; have := HZ11.out; have := HZ12.out; have := HZ13.out; have := HZ14.out; omega))⟩
  have HKaN : Hid (x15.heap[w.heap.size]? = Option.some (.cells (peerA p s) 32 (0, 0))) := (hf.block _ (Array.getElem?_eq_some_iff.1 HKa.out).1 (by have := HZ0.out; have := HZ1.out; have := HZ2.out; have := HZ3.out; have := HZ5.out; have := HY5.out; have := HZ6.out; have := HZ7.out; have := HZ8.out; have := HZ10.out; have := HY10.out; have := HZ11.out; have := HZ12.out; have := HZ13.out; have := HZ14.out; omega)).trans HKa.out
  have HO0N : Hid (OwnD x2.heap.size x3.heap.size x15 Q s2) := ⟨hf.own6 HO0.out.1 HO0.out.2.1 (by have := HZ0.out; have := HZ1.out; have := HZ2.out; have := HZ3.out; have := HZ5.out; have := HY5.out; have := HZ6.out; have := HZ7.out; have := HZ8.out; have := HZ10.out; have := HY10.out; have := HZ11.out; have := HZ12.out; have := HZ13.out; have := HZ14.out; omega), HO0.out.2.1, Nat.le_trans HO0.out.2.2 hf.size⟩
  have HK0N : Hid (x15.heap[x3.heap.size]? = Option.some (.cells (peerA Q s2) 41 (0, 0))) := (hf.block _ (Array.getElem?_eq_some_iff.1 HK0.out).1 (by have := HZ0.out; have := HZ1.out; have := HZ2.out; have := HZ3.out; have := HZ5.out; have := HY5.out; have := HZ6.out; have := HZ7.out; have := HZ8.out; have := HZ10.out; have := HY10.out; have := HZ11.out; have := HZ12.out; have := HZ13.out; have := HZ14.out; omega)).trans HK0.out
  have HV0N : Hid (x15.heap[(x3.heap.size + 1)]? = Option.some (.cells (letA LL) 43 (0, 0))) := (hf.block _ (Array.getElem?_eq_some_iff.1 HV0.out).1 (by have := HZ0.out; have := HZ1.out; have := HZ2.out; have := HZ3.out; have := HZ5.out; have := HY5.out; have := HZ6.out; have := HZ7.out; have := HZ8.out; have := HZ10.out; have := HY10.out; have := HZ11.out; have := HZ12.out; have := HZ13.out; have := HZ14.out; omega)).trans HV0.out
  have HK1N : Hid (x15.heap[x6.heap.size]? = Option.some (.cells (peerA p s3) 41 (0, 0))) := (hf.block _ (Array.getElem?_eq_some_iff.1 HK1.out).1 (by have := HZ0.out; have := HZ1.out; have := HZ2.out; have := HZ3.out; have := HZ5.out; have := HY5.out; have := HZ6.out; have := HZ7.out; have := HZ8.out; have := HZ10.out; have := HY10.out; have := HZ11.out; have := HZ12.out; have := HZ13.out; have := HZ14.out; omega)).trans HK1.out
  have HO2N : Hid (OwnD x7.heap.size x8.heap.size x15 Q s4) := ⟨hf.own6 HO2.out.1 HO2.out.2.1 (by have := HZ0.out; have := HZ1.out; have := HZ2.out; have := HZ3.out; have := HZ5.out; have := HY5.out; have := HZ6.out; have := HZ7.out; have := HZ8.out; have := HZ10.out; have := HY10.out; have := HZ11.out; have := HZ12.out; have := HZ13.out; have := HZ14.out; omega), HO2.out.2.1, Nat.le_trans HO2.out.2.2 hf.size⟩
  have HK2N : Hid (x15.heap[x8.heap.size]? = Option.some (.cells (peerA Q s4) 41 (0, 0))) := (hf.block _ (Array.getElem?_eq_some_iff.1 HK2.out).1 (by have := HZ0.out; have := HZ1.out; have := HZ2.out; have := HZ3.out; have := HZ5.out; have := HY5.out; have := HZ6.out; have := HZ7.out; have := HZ8.out; have := HZ10.out; have := HY10.out; have := HZ11.out; have := HZ12.out; have := HZ13.out; have := HZ14.out; omega)).trans HK2.out
  have HV2N : Hid (x15.heap[(x8.heap.size + 1)]? = Option.some (.cells (letA LL) 43 (0, 0))) := (hf.block _ (Array.getElem?_eq_some_iff.1 HV2.out).1 (by have := HZ0.out; have := HZ1.out; have := HZ2.out; have := HZ3.out; have := HZ5.out; have := HY5.out; have := HZ6.out; have := HZ7.out; have := HZ8.out; have := HZ10.out; have := HY10.out; have := HZ11.out; have := HZ12.out; have := HZ13.out; have := HZ14.out; omega)).trans HV2.out
  have HZ15 : Hid (x14.heap.size ≤ x15.heap.size) := hf.size
  clear HB HKa HO0 HK0 HV0 HK1 HO2 HK2 HV2
  have HB := HBN
  clear HBN
  have HKa := HKaN
  clear HKaN
  have HO0 := HO0N
  clear HO0N
  have HK0 := HK0N
  clear HK0N
  have HV0 := HV0N
  clear HV0N
  have HK1 := HK1N
  clear HK1N
  have HO2 := HO2N
  clear HO2N
  have HK2 := HK2N
  clear HK2N
  have HV2 := HV2N
  clear HV2N
  clear HO1 hf
  have HM1 : Hid (MarkD 1 x5.heap.size x15 p s3) := hmA
  clear hmA
  have hk0 : ¬ (((mk6 1 p : Nat) : Int) < 0) := by omega
  clear HM1
  clear HK1
  go_wp2_with (first | (refine wpList_load_row rfl _ _ rfl w.heap.size rfl 32 _ (0, 0) _ HKa.out Try.underlying32 rfl (by kernel_rfl) ?_) | (refine wpList_load_row rfl _ _ rfl x3.heap.size rfl 41 _ (0, 0) _ HK0.out Try.underlying41 rfl (by kernel_rfl) ?_) | (refine wpList_load_row rfl _ _ rfl (x3.heap.size + 1) rfl 43 _ (0, 0) _ HV0.out Try.underlying43 rfl (by kernel_rfl) ?_) | (refine wpList_load_row rfl _ _ rfl x8.heap.size rfl 41 _ (0, 0) _ HK2.out Try.underlying41 rfl (by kernel_rfl) ?_) | (refine wpList_load_row rfl _ _ rfl (x8.heap.size + 1) rfl 43 _ (0, 0) _ HV2.out Try.underlying43 rfl (by kernel_rfl) ?_) | (refine wpList_load_row_w (by first | rfl | simp [Region.wanted, yielded] | simp [Region.wanted, yielded, hk0]) _ _ rfl w.heap.size rfl 32 _ (0, 0) _ HKa.out Try.underlying32 rfl (by kernel_rfl) ?_) | (refine wpList_load_row_w (by first | rfl | simp [Region.wanted, yielded] | simp [Region.wanted, yielded, hk0]) _ _ rfl x3.heap.size rfl 41 _ (0, 0) _ HK0.out Try.underlying41 rfl (by kernel_rfl) ?_) | (refine wpList_load_row_w (by first | rfl | simp [Region.wanted, yielded] | simp [Region.wanted, yielded, hk0]) _ _ rfl (x3.heap.size + 1) rfl 43 _ (0, 0) _ HV0.out Try.underlying43 rfl (by kernel_rfl) ?_) | (refine wpList_load_row_w (by first | rfl | simp [Region.wanted, yielded] | simp [Region.wanted, yielded, hk0]) _ _ rfl x8.heap.size rfl 41 _ (0, 0) _ HK2.out Try.underlying41 rfl (by kernel_rfl) ?_) | (refine wpList_load_row_w (by first | rfl | simp [Region.wanted, yielded] | simp [Region.wanted, yielded, hk0]) _ _ rfl (x8.heap.size + 1) rfl 43 _ (0, 0) _ HV2.out Try.underlying43 rfl (by kernel_rfl) ?_))
  refine (eqPeer_yes Q s4 s2 x15 HO2.out.reads HO0.out.reads HSQ.out).mono ?_
  rintro e x16 ⟨rfl, hb⟩
  have HBN : Hid (Below w.heap.size w x16) := bt HB.out hb
  have HKaN : Hid (x16.heap[w.heap.size]? = Option.some (.cells (peerA p s) 32 (0, 0))) := (hb.block _ (Array.getElem?_eq_some_iff.1 HKa.out).1).trans HKa.out
  have HO0N : Hid (OwnD x2.heap.size x3.heap.size x16 Q s2) := HO0.out.below hb
  have HK0N : Hid (x16.heap[x3.heap.size]? = Option.some (.cells (peerA Q s2) 41 (0, 0))) := (hb.block _ (Array.getElem?_eq_some_iff.1 HK0.out).1).trans HK0.out
  have HV0N : Hid (x16.heap[(x3.heap.size + 1)]? = Option.some (.cells (letA LL) 43 (0, 0))) := (hb.block _ (Array.getElem?_eq_some_iff.1 HV0.out).1).trans HV0.out
  have HO2N : Hid (OwnD x7.heap.size x8.heap.size x16 Q s4) := HO2.out.below hb
  have HK2N : Hid (x16.heap[x8.heap.size]? = Option.some (.cells (peerA Q s4) 41 (0, 0))) := (hb.block _ (Array.getElem?_eq_some_iff.1 HK2.out).1).trans HK2.out
  have HV2N : Hid (x16.heap[(x8.heap.size + 1)]? = Option.some (.cells (letA LL) 43 (0, 0))) := (hb.block _ (Array.getElem?_eq_some_iff.1 HV2.out).1).trans HV2.out
  have HZ16 : Hid (x15.heap.size ≤ x16.heap.size) := hb.size
  clear HB HKa HO0 HK0 HV0 HO2 HK2 HV2
  have HB := HBN
  clear HBN
  have HKa := HKaN
  clear HKaN
  have HO0 := HO0N
  clear HO0N
  have HK0 := HK0N
  clear HK0N
  have HV0 := HV0N
  clear HV0N
  have HO2 := HO2N
  clear HO2N
  have HK2 := HK2N
  clear HK2N
  have HV2 := HV2N
  clear HV2N
  clear hb
  go_wp2_with (first | (refine wpList_load_row rfl _ _ rfl w.heap.size rfl 32 _ (0, 0) _ HKa.out Try.underlying32 rfl (by kernel_rfl) ?_) | (refine wpList_load_row rfl _ _ rfl x3.heap.size rfl 41 _ (0, 0) _ HK0.out Try.underlying41 rfl (by kernel_rfl) ?_) | (refine wpList_load_row rfl _ _ rfl (x3.heap.size + 1) rfl 43 _ (0, 0) _ HV0.out Try.underlying43 rfl (by kernel_rfl) ?_) | (refine wpList_load_row rfl _ _ rfl x8.heap.size rfl 41 _ (0, 0) _ HK2.out Try.underlying41 rfl (by kernel_rfl) ?_) | (refine wpList_load_row rfl _ _ rfl (x8.heap.size + 1) rfl 43 _ (0, 0) _ HV2.out Try.underlying43 rfl (by kernel_rfl) ?_) | (refine wpList_load_row_w (by first | rfl | simp [Region.wanted, yielded] | simp [Region.wanted, yielded, hk0]) _ _ rfl w.heap.size rfl 32 _ (0, 0) _ HKa.out Try.underlying32 rfl (by kernel_rfl) ?_) | (refine wpList_load_row_w (by first | rfl | simp [Region.wanted, yielded] | simp [Region.wanted, yielded, hk0]) _ _ rfl x3.heap.size rfl 41 _ (0, 0) _ HK0.out Try.underlying41 rfl (by kernel_rfl) ?_) | (refine wpList_load_row_w (by first | rfl | simp [Region.wanted, yielded] | simp [Region.wanted, yielded, hk0]) _ _ rfl (x3.heap.size + 1) rfl 43 _ (0, 0) _ HV0.out Try.underlying43 rfl (by kernel_rfl) ?_) | (refine wpList_load_row_w (by first | rfl | simp [Region.wanted, yielded] | simp [Region.wanted, yielded, hk0]) _ _ rfl x8.heap.size rfl 41 _ (0, 0) _ HK2.out Try.underlying41 rfl (by kernel_rfl) ?_) | (refine wpList_load_row_w (by first | rfl | simp [Region.wanted, yielded] | simp [Region.wanted, yielded, hk0]) _ _ rfl (x8.heap.size + 1) rfl 43 _ (0, 0) _ HV2.out Try.underlying43 rfl (by kernel_rfl) ?_))
  refine (eqLetter_yes LL x16).mono ?_
  rintro e x17 ⟨rfl, hb⟩
  have HBN : Hid (Below w.heap.size w x17) := bt HB.out hb
  have HKaN : Hid (x17.heap[w.heap.size]? = Option.some (.cells (peerA p s) 32 (0, 0))) := (hb.block _ (Array.getElem?_eq_some_iff.1 HKa.out).1).trans HKa.out
  have HO0N : Hid (OwnD x2.heap.size x3.heap.size x17 Q s2) := HO0.out.below hb
  have HK0N : Hid (x17.heap[x3.heap.size]? = Option.some (.cells (peerA Q s2) 41 (0, 0))) := (hb.block _ (Array.getElem?_eq_some_iff.1 HK0.out).1).trans HK0.out
  have HV0N : Hid (x17.heap[(x3.heap.size + 1)]? = Option.some (.cells (letA LL) 43 (0, 0))) := (hb.block _ (Array.getElem?_eq_some_iff.1 HV0.out).1).trans HV0.out
  have HO2N : Hid (OwnD x7.heap.size x8.heap.size x17 Q s4) := HO2.out.below hb
  have HK2N : Hid (x17.heap[x8.heap.size]? = Option.some (.cells (peerA Q s4) 41 (0, 0))) := (hb.block _ (Array.getElem?_eq_some_iff.1 HK2.out).1).trans HK2.out
  have HV2N : Hid (x17.heap[(x8.heap.size + 1)]? = Option.some (.cells (letA LL) 43 (0, 0))) := (hb.block _ (Array.getElem?_eq_some_iff.1 HV2.out).1).trans HV2.out
  have HZ17 : Hid (x16.heap.size ≤ x17.heap.size) := hb.size
  clear HB HKa HO0 HK0 HV0 HO2 HK2 HV2
  have HB := HBN
  clear HBN
  have HKa := HKaN
  clear HKaN
  have HO0 := HO0N
  clear HO0N
  have HK0 := HK0N
  clear HK0N
  have HV0 := HV0N
  clear HV0N
  have HO2 := HO2N
  clear HO2N
  have HK2 := HK2N
  clear HK2N
  have HV2 := HV2N
  clear HV2N
  clear hb
  clear hk0
  go_wp2_with (first | (refine wpList_load_row rfl _ _ rfl w.heap.size rfl 32 _ (0, 0) _ HKa.out Try.underlying32 rfl (by kernel_rfl) ?_) | (refine wpList_load_row rfl _ _ rfl x3.heap.size rfl 41 _ (0, 0) _ HK0.out Try.underlying41 rfl (by kernel_rfl) ?_) | (refine wpList_load_row rfl _ _ rfl (x3.heap.size + 1) rfl 43 _ (0, 0) _ HV0.out Try.underlying43 rfl (by kernel_rfl) ?_) | (refine wpList_load_row rfl _ _ rfl x8.heap.size rfl 41 _ (0, 0) _ HK2.out Try.underlying41 rfl (by kernel_rfl) ?_) | (refine wpList_load_row rfl _ _ rfl (x8.heap.size + 1) rfl 43 _ (0, 0) _ HV2.out Try.underlying43 rfl (by kernel_rfl) ?_) | (refine wpList_load_row_w (by first | rfl | simp [Region.wanted, yielded] | simp [Region.wanted, yielded, hk0]) _ _ rfl w.heap.size rfl 32 _ (0, 0) _ HKa.out Try.underlying32 rfl (by kernel_rfl) ?_) | (refine wpList_load_row_w (by first | rfl | simp [Region.wanted, yielded] | simp [Region.wanted, yielded, hk0]) _ _ rfl x3.heap.size rfl 41 _ (0, 0) _ HK0.out Try.underlying41 rfl (by kernel_rfl) ?_) | (refine wpList_load_row_w (by first | rfl | simp [Region.wanted, yielded] | simp [Region.wanted, yielded, hk0]) _ _ rfl (x3.heap.size + 1) rfl 43 _ (0, 0) _ HV0.out Try.underlying43 rfl (by kernel_rfl) ?_) | (refine wpList_load_row_w (by first | rfl | simp [Region.wanted, yielded] | simp [Region.wanted, yielded, hk0]) _ _ rfl x8.heap.size rfl 41 _ (0, 0) _ HK2.out Try.underlying41 rfl (by kernel_rfl) ?_) | (refine wpList_load_row_w (by first | rfl | simp [Region.wanted, yielded] | simp [Region.wanted, yielded, hk0]) _ _ rfl (x8.heap.size + 1) rfl 43 _ (0, 0) _ HV2.out Try.underlying43 rfl (by kernel_rfl) ?_))
  refine (markPeer_own Q s4 1 x7.heap.size x8.heap.size x17 HO2.out HMQ.out.1 (by decide) (by have := HMQ.out.2; omega)).mono ?_
  rintro e x18 ⟨rfl, hm, hf⟩
  have HAP18 : Hid (Apart6 x7.heap.size x8.heap.size s4) := HO2.out.2.1
  have hmA : Hid (MarkD 1 x7.heap.size x18 Q s4) := hm
  clear hm
  have HBN : Hid (Below w.heap.size w x18) := HB.out.trans ⟨hf.os, hf.tape, hf.output, hf.size, fun k hk => hf.block k (Nat.lt_of_lt_of_le hk HB.out.size) (Or.inl (by have := HZ0.out; have := HZ1.out; have := HZ2.out; have := HZ3.out; have := HZ5.out; have := HY5.out; have := HZ6.out; have := HZ7.out; have := HZ8.out; have := HZ10.out; have := HY10.out; have := HZ11.out; have := HZ12.out; have := HZ13.out; have := HZ14.out; have := HZ15.out; have := HZ16.out; have := HZ17.out; omega))⟩
  have HKaN : Hid (x18.heap[w.heap.size]? = Option.some (.cells (peerA p s) 32 (0, 0))) := (hf.block _ (Array.getElem?_eq_some_iff.1 HKa.out).1 (by have := HZ0.out; have := HZ1.out; have := HZ2.out; have := HZ3.out; have := HZ5.out; have := HY5.out; have := HZ6.out; have := HZ7.out; have := HZ8.out; have := HZ10.out; have := HY10.out; have := HZ11.out; have := HZ12.out; have := HZ13.out; have := HZ14.out; have := HZ15.out; have := HZ16.out; have := HZ17.out; omega)).trans HKa.out
  have HO0N : Hid (OwnD x2.heap.size x3.heap.size x18 Q s2) := ⟨hf.own6 HO0.out.1 HO0.out.2.1 (by have := HZ0.out; have := HZ1.out; have := HZ2.out; have := HZ3.out; have := HZ5.out; have := HY5.out; have := HZ6.out; have := HZ7.out; have := HZ8.out; have := HZ10.out; have := HY10.out; have := HZ11.out; have := HZ12.out; have := HZ13.out; have := HZ14.out; have := HZ15.out; have := HZ16.out; have := HZ17.out; omega), HO0.out.2.1, Nat.le_trans HO0.out.2.2 hf.size⟩
  have HK0N : Hid (x18.heap[x3.heap.size]? = Option.some (.cells (peerA Q s2) 41 (0, 0))) := (hf.block _ (Array.getElem?_eq_some_iff.1 HK0.out).1 (by have := HZ0.out; have := HZ1.out; have := HZ2.out; have := HZ3.out; have := HZ5.out; have := HY5.out; have := HZ6.out; have := HZ7.out; have := HZ8.out; have := HZ10.out; have := HY10.out; have := HZ11.out; have := HZ12.out; have := HZ13.out; have := HZ14.out; have := HZ15.out; have := HZ16.out; have := HZ17.out; omega)).trans HK0.out
  have HV0N : Hid (x18.heap[(x3.heap.size + 1)]? = Option.some (.cells (letA LL) 43 (0, 0))) := (hf.block _ (Array.getElem?_eq_some_iff.1 HV0.out).1 (by have := HZ0.out; have := HZ1.out; have := HZ2.out; have := HZ3.out; have := HZ5.out; have := HY5.out; have := HZ6.out; have := HZ7.out; have := HZ8.out; have := HZ10.out; have := HY10.out; have := HZ11.out; have := HZ12.out; have := HZ13.out; have := HZ14.out; have := HZ15.out; have := HZ16.out; have := HZ17.out; omega)).trans HV0.out
  have HK2N : Hid (x18.heap[x8.heap.size]? = Option.some (.cells (peerA Q s4) 41 (0, 0))) := (hf.block _ (Array.getElem?_eq_some_iff.1 HK2.out).1 (by have := HZ0.out; have := HZ1.out; have := HZ2.out; have := HZ3.out; have := HZ5.out; have := HY5.out; have := HZ6.out; have := HZ7.out; have := HZ8.out; have := HZ10.out; have := HY10.out; have := HZ11.out; have := HZ12.out; have := HZ13.out; have := HZ14.out; have := HZ15.out; have := HZ16.out; have := HZ17.out; omega)).trans HK2.out
  have HV2N : Hid (x18.heap[(x8.heap.size + 1)]? = Option.some (.cells (letA LL) 43 (0, 0))) := (hf.block _ (Array.getElem?_eq_some_iff.1 HV2.out).1 (by have := HZ0.out; have := HZ1.out; have := HZ2.out; have := HZ3.out; have := HZ5.out; have := HY5.out; have := HZ6.out; have := HZ7.out; have := HZ8.out; have := HZ10.out; have := HY10.out; have := HZ11.out; have := HZ12.out; have := HZ13.out; have := HZ14.out; have := HZ15.out; have := HZ16.out; have := HZ17.out; omega)).trans HV2.out
  have HZ18 : Hid (x17.heap.size ≤ x18.heap.size) := hf.size
  clear HB HKa HO0 HK0 HV0 HK2 HV2
  have HB := HBN
  clear HBN
  have HKa := HKaN
  clear HKaN
  have HO0 := HO0N
  clear HO0N
  have HK0 := HK0N
  clear HK0N
  have HV0 := HV0N
  clear HV0N
  have HK2 := HK2N
  clear HK2N
  have HV2 := HV2N
  clear HV2N
  clear HO2 hf
  have HM2 : Hid (MarkD 1 x7.heap.size x18 Q s4) := hmA
  clear hmA
  go_wp2_with (first | (refine wpList_load_row rfl _ _ rfl w.heap.size rfl 32 _ (0, 0) _ HKa.out Try.underlying32 rfl (by kernel_rfl) ?_) | (refine wpList_load_row rfl _ _ rfl x3.heap.size rfl 41 _ (0, 0) _ HK0.out Try.underlying41 rfl (by kernel_rfl) ?_) | (refine wpList_load_row rfl _ _ rfl (x3.heap.size + 1) rfl 43 _ (0, 0) _ HV0.out Try.underlying43 rfl (by kernel_rfl) ?_) | (refine wpList_load_row rfl _ _ rfl x8.heap.size rfl 41 _ (0, 0) _ HK2.out Try.underlying41 rfl (by kernel_rfl) ?_) | (refine wpList_load_row rfl _ _ rfl (x8.heap.size + 1) rfl 43 _ (0, 0) _ HV2.out Try.underlying43 rfl (by kernel_rfl) ?_) | (refine wpList_load_row_w (by first | rfl | simp [Region.wanted, yielded] | simp [Region.wanted, yielded, hk0]) _ _ rfl w.heap.size rfl 32 _ (0, 0) _ HKa.out Try.underlying32 rfl (by kernel_rfl) ?_) | (refine wpList_load_row_w (by first | rfl | simp [Region.wanted, yielded] | simp [Region.wanted, yielded, hk0]) _ _ rfl x3.heap.size rfl 41 _ (0, 0) _ HK0.out Try.underlying41 rfl (by kernel_rfl) ?_) | (refine wpList_load_row_w (by first | rfl | simp [Region.wanted, yielded] | simp [Region.wanted, yielded, hk0]) _ _ rfl (x3.heap.size + 1) rfl 43 _ (0, 0) _ HV0.out Try.underlying43 rfl (by kernel_rfl) ?_) | (refine wpList_load_row_w (by first | rfl | simp [Region.wanted, yielded] | simp [Region.wanted, yielded, hk0]) _ _ rfl x8.heap.size rfl 41 _ (0, 0) _ HK2.out Try.underlying41 rfl (by kernel_rfl) ?_) | (refine wpList_load_row_w (by first | rfl | simp [Region.wanted, yielded] | simp [Region.wanted, yielded, hk0]) _ _ rfl (x8.heap.size + 1) rfl 43 _ (0, 0) _ HV2.out Try.underlying43 rfl (by kernel_rfl) ?_))
  have hk0 : ¬ (((mk6 1 Q : Nat) : Int) < 0) := by omega
  refine (heldPeer_own Q s4 1 x7.heap.size x18 HM2.out HMQ.out.1 (by decide) (by have := HMQ.out.2; omega)).mono ?_
  rintro e x19 ⟨rfl, hb⟩
  have HBN : Hid (Below w.heap.size w x19) := bt HB.out hb
  have HKaN : Hid (x19.heap[w.heap.size]? = Option.some (.cells (peerA p s) 32 (0, 0))) := (hb.block _ (Array.getElem?_eq_some_iff.1 HKa.out).1).trans HKa.out
  have HO0N : Hid (OwnD x2.heap.size x3.heap.size x19 Q s2) := HO0.out.below hb
  have HK0N : Hid (x19.heap[x3.heap.size]? = Option.some (.cells (peerA Q s2) 41 (0, 0))) := (hb.block _ (Array.getElem?_eq_some_iff.1 HK0.out).1).trans HK0.out
  have HV0N : Hid (x19.heap[(x3.heap.size + 1)]? = Option.some (.cells (letA LL) 43 (0, 0))) := (hb.block _ (Array.getElem?_eq_some_iff.1 HV0.out).1).trans HV0.out
  have HK2N : Hid (x19.heap[x8.heap.size]? = Option.some (.cells (peerA Q s4) 41 (0, 0))) := (hb.block _ (Array.getElem?_eq_some_iff.1 HK2.out).1).trans HK2.out
  have HV2N : Hid (x19.heap[(x8.heap.size + 1)]? = Option.some (.cells (letA LL) 43 (0, 0))) := (hb.block _ (Array.getElem?_eq_some_iff.1 HV2.out).1).trans HV2.out
  have HM2N : Hid (MarkD 1 x7.heap.size x19 Q s4) := Own6.below HM2.out hb
  have HZ19 : Hid (x18.heap.size ≤ x19.heap.size) := hb.size
  clear HB HKa HO0 HK0 HV0 HK2 HV2 HM2
  have HB := HBN
  clear HBN
  have HKa := HKaN
  clear HKaN
  have HO0 := HO0N
  clear HO0N
  have HK0 := HK0N
  clear HK0N
  have HV0 := HV0N
  clear HV0N
  have HK2 := HK2N
  clear HK2N
  have HV2 := HV2N
  clear HV2N
  have HM2 := HM2N
  clear HM2N
  clear hb
  go_wp2_with (first | (refine wpList_load_row rfl _ _ rfl w.heap.size rfl 32 _ (0, 0) _ HKa.out Try.underlying32 rfl (by kernel_rfl) ?_) | (refine wpList_load_row rfl _ _ rfl x3.heap.size rfl 41 _ (0, 0) _ HK0.out Try.underlying41 rfl (by kernel_rfl) ?_) | (refine wpList_load_row rfl _ _ rfl (x3.heap.size + 1) rfl 43 _ (0, 0) _ HV0.out Try.underlying43 rfl (by kernel_rfl) ?_) | (refine wpList_load_row rfl _ _ rfl x8.heap.size rfl 41 _ (0, 0) _ HK2.out Try.underlying41 rfl (by kernel_rfl) ?_) | (refine wpList_load_row rfl _ _ rfl (x8.heap.size + 1) rfl 43 _ (0, 0) _ HV2.out Try.underlying43 rfl (by kernel_rfl) ?_) | (refine wpList_load_row_w (by first | rfl | simp [Region.wanted, yielded] | simp [Region.wanted, yielded, hk0]) _ _ rfl w.heap.size rfl 32 _ (0, 0) _ HKa.out Try.underlying32 rfl (by kernel_rfl) ?_) | (refine wpList_load_row_w (by first | rfl | simp [Region.wanted, yielded] | simp [Region.wanted, yielded, hk0]) _ _ rfl x3.heap.size rfl 41 _ (0, 0) _ HK0.out Try.underlying41 rfl (by kernel_rfl) ?_) | (refine wpList_load_row_w (by first | rfl | simp [Region.wanted, yielded] | simp [Region.wanted, yielded, hk0]) _ _ rfl (x3.heap.size + 1) rfl 43 _ (0, 0) _ HV0.out Try.underlying43 rfl (by kernel_rfl) ?_) | (refine wpList_load_row_w (by first | rfl | simp [Region.wanted, yielded] | simp [Region.wanted, yielded, hk0]) _ _ rfl x8.heap.size rfl 41 _ (0, 0) _ HK2.out Try.underlying41 rfl (by kernel_rfl) ?_) | (refine wpList_load_row_w (by first | rfl | simp [Region.wanted, yielded] | simp [Region.wanted, yielded, hk0]) _ _ rfl (x8.heap.size + 1) rfl 43 _ (0, 0) _ HV2.out Try.underlying43 rfl (by kernel_rfl) ?_))
  refine (toPeer_any p s x19 (HR.out.below HB.out) HS.out).mono ?_
  rintro e x20 ⟨s6, rfl, ho, hb⟩
  have HO3A : Hid (OwnD x19.heap.size x20.heap.size x20 p s6) := ho.toD
  have HBN : Hid (Below w.heap.size w x20) := bt HB.out hb
  have HKaN : Hid (x20.heap[w.heap.size]? = Option.some (.cells (peerA p s) 32 (0, 0))) := (hb.block _ (Array.getElem?_eq_some_iff.1 HKa.out).1).trans HKa.out
  have HO0N : Hid (OwnD x2.heap.size x3.heap.size x20 Q s2) := HO0.out.below hb
  have HK0N : Hid (x20.heap[x3.heap.size]? = Option.some (.cells (peerA Q s2) 41 (0, 0))) := (hb.block _ (Array.getElem?_eq_some_iff.1 HK0.out).1).trans HK0.out
  have HV0N : Hid (x20.heap[(x3.heap.size + 1)]? = Option.some (.cells (letA LL) 43 (0, 0))) := (hb.block _ (Array.getElem?_eq_some_iff.1 HV0.out).1).trans HV0.out
  have HK2N : Hid (x20.heap[x8.heap.size]? = Option.some (.cells (peerA Q s4) 41 (0, 0))) := (hb.block _ (Array.getElem?_eq_some_iff.1 HK2.out).1).trans HK2.out
  have HV2N : Hid (x20.heap[(x8.heap.size + 1)]? = Option.some (.cells (letA LL) 43 (0, 0))) := (hb.block _ (Array.getElem?_eq_some_iff.1 HV2.out).1).trans HV2.out
  have HM2N : Hid (MarkD 1 x7.heap.size x20 Q s4) := Own6.below HM2.out hb
  have HZ20 : Hid (x19.heap.size ≤ x20.heap.size) := hb.size
  clear HB HKa HO0 HK0 HV0 HK2 HV2 HM2
  have HB := HBN
  clear HBN
  have HKa := HKaN
  clear HKaN
  have HO0 := HO0N
  clear HO0N
  have HK0 := HK0N
  clear HK0N
  have HV0 := HV0N
  clear HV0N
  have HK2 := HK2N
  clear HK2N
  have HV2 := HV2N
  clear HV2N
  have HM2 := HM2N
  clear HM2N
  have HO3 := HO3A
  clear HO3A
  clear ho hb
  go_wp2_with (first | (refine wpList_load_row rfl _ _ rfl w.heap.size rfl 32 _ (0, 0) _ HKa.out Try.underlying32 rfl (by kernel_rfl) ?_) | (refine wpList_load_row rfl _ _ rfl x3.heap.size rfl 41 _ (0, 0) _ HK0.out Try.underlying41 rfl (by kernel_rfl) ?_) | (refine wpList_load_row rfl _ _ rfl (x3.heap.size + 1) rfl 43 _ (0, 0) _ HV0.out Try.underlying43 rfl (by kernel_rfl) ?_) | (refine wpList_load_row rfl _ _ rfl x8.heap.size rfl 41 _ (0, 0) _ HK2.out Try.underlying41 rfl (by kernel_rfl) ?_) | (refine wpList_load_row rfl _ _ rfl (x8.heap.size + 1) rfl 43 _ (0, 0) _ HV2.out Try.underlying43 rfl (by kernel_rfl) ?_) | (refine wpList_load_row_w (by first | rfl | simp [Region.wanted, yielded] | simp [Region.wanted, yielded, hk0]) _ _ rfl w.heap.size rfl 32 _ (0, 0) _ HKa.out Try.underlying32 rfl (by kernel_rfl) ?_) | (refine wpList_load_row_w (by first | rfl | simp [Region.wanted, yielded] | simp [Region.wanted, yielded, hk0]) _ _ rfl x3.heap.size rfl 41 _ (0, 0) _ HK0.out Try.underlying41 rfl (by kernel_rfl) ?_) | (refine wpList_load_row_w (by first | rfl | simp [Region.wanted, yielded] | simp [Region.wanted, yielded, hk0]) _ _ rfl (x3.heap.size + 1) rfl 43 _ (0, 0) _ HV0.out Try.underlying43 rfl (by kernel_rfl) ?_) | (refine wpList_load_row_w (by first | rfl | simp [Region.wanted, yielded] | simp [Region.wanted, yielded, hk0]) _ _ rfl x8.heap.size rfl 41 _ (0, 0) _ HK2.out Try.underlying41 rfl (by kernel_rfl) ?_) | (refine wpList_load_row_w (by first | rfl | simp [Region.wanted, yielded] | simp [Region.wanted, yielded, hk0]) _ _ rfl (x8.heap.size + 1) rfl 43 _ (0, 0) _ HV2.out Try.underlying43 rfl (by kernel_rfl) ?_))
  have hsp := HI p s6 x19.heap.size x20.heap.size n x20 HO3.out HS.out HG.out HWn.out
  rw [HQ.out.1, HQ.out.2.1, HQ.out.2.2] at hsp
  refine (hsp).mono ?_
  rintro e x21 ⟨s7, rfl, ho, hb⟩
  have HO4A : Hid (OwnD x20.heap.size x21.heap.size x21 Q s7) := ho
  have HBN : Hid (Below w.heap.size w x21) := bt HB.out hb
  have HKaN : Hid (x21.heap[w.heap.size]? = Option.some (.cells (peerA p s) 32 (0, 0))) := (hb.block _ (Array.getElem?_eq_some_iff.1 HKa.out).1).trans HKa.out
  have HO0N : Hid (OwnD x2.heap.size x3.heap.size x21 Q s2) := HO0.out.below hb
  have HK0N : Hid (x21.heap[x3.heap.size]? = Option.some (.cells (peerA Q s2) 41 (0, 0))) := (hb.block _ (Array.getElem?_eq_some_iff.1 HK0.out).1).trans HK0.out
  have HV0N : Hid (x21.heap[(x3.heap.size + 1)]? = Option.some (.cells (letA LL) 43 (0, 0))) := (hb.block _ (Array.getElem?_eq_some_iff.1 HV0.out).1).trans HV0.out
  have HK2N : Hid (x21.heap[x8.heap.size]? = Option.some (.cells (peerA Q s4) 41 (0, 0))) := (hb.block _ (Array.getElem?_eq_some_iff.1 HK2.out).1).trans HK2.out
  have HV2N : Hid (x21.heap[(x8.heap.size + 1)]? = Option.some (.cells (letA LL) 43 (0, 0))) := (hb.block _ (Array.getElem?_eq_some_iff.1 HV2.out).1).trans HV2.out
  have HM2N : Hid (MarkD 1 x7.heap.size x21 Q s4) := Own6.below HM2.out hb
  have HO3N : Hid (OwnD x19.heap.size x20.heap.size x21 p s6) := HO3.out.below hb
  have HZ21 : Hid (x20.heap.size ≤ x21.heap.size) := hb.size
  clear HB HKa HO0 HK0 HV0 HK2 HV2 HM2 HO3
  have HB := HBN
  clear HBN
  have HKa := HKaN
  clear HKaN
  have HO0 := HO0N
  clear HO0N
  have HK0 := HK0N
  clear HK0N
  have HV0 := HV0N
  clear HV0N
  have HK2 := HK2N
  clear HK2N
  have HV2 := HV2N
  clear HV2N
  have HM2 := HM2N
  clear HM2N
  have HO3 := HO3N
  clear HO3N
  have HO4 := HO4A
  clear HO4A
  clear ho hb hsp
  clear HO3
  go_wp2_with (first | (refine wpList_store_blk rfl _ _ _ rfl x21.heap.size (peerA Q s7) rfl rfl 41 zeroA (alloc2 x21 _ _).1 (by kernel_rfl) rfl (peerA_one HO4.out.1) ?_; intro y22 hg hk hz; have hbA : Below x21.heap.size x21 y22 := (((Below.refl _ _).alloc (Nat.le_refl _) _).alloc (by simp) _).grown hg (by simp; omega) (fun k hk => by cases hk; exact Nat.le_refl _); have HkA : Hid (y22.heap[x21.heap.size]? = Option.some (.cells (peerA Q s7) 41 (0, 0))) := hk; have HvA : Hid (y22.heap[x21.heap.size + 1]? = Option.some (.cells (letA ((0, 0, 0, 0, 0), (0, 0, 0, 0), (0, 0, 0, 0))) 43 (0, 0))) := (hg.block _ (by simp) (fun e => by have e := Option.some.inj e; omega)).trans (alloc2 x21 _ _).2; have HbA : Hid (Below x21.heap.size x21 y22) := hbA; clear hg hk hz hbA) | (refine wpList_store_blk rfl _ _ _ rfl (x21.heap.size + 1) (letA LL) rfl rfl 43 (letA ((0, 0, 0, 0, 0), (0, 0, 0, 0), (0, 0, 0, 0))) HvA.out (by kernel_rfl) rfl (letA_one LL) ?_; intro x23 hg hk hz; have hb : Below x21.heap.size x21 x23 := HbA.out.grown hg HbA.out.size (fun k hk => by cases hk; omega); have HkB : Hid (x23.heap[x21.heap.size]? = Option.some (.cells (peerA Q s7) 41 (0, 0))) := (hg.block _ (Array.getElem?_eq_some_iff.1 HkA.out).1 (fun e => by have e := Option.some.inj e; omega)).trans HkA.out; have hlt : x21.heap.size + 1 < x23.heap.size := (Array.getElem?_eq_some_iff.1 hk).1; have HBN : Hid (Below w.heap.size w x23) := bt HB.out hb; have HKaN : Hid (x23.heap[w.heap.size]? = Option.some (.cells (peerA p s) 32 (0, 0))) := (hb.block _ (Array.getElem?_eq_some_iff.1 HKa.out).1).trans HKa.out; have HO0N : Hid (OwnD x2.heap.size x3.heap.size x23 Q s2) := HO0.out.below hb; have HK0N : Hid (x23.heap[x3.heap.size]? = Option.some (.cells (peerA Q s2) 41 (0, 0))) := (hb.block _ (Array.getElem?_eq_some_iff.1 HK0.out).1).trans HK0.out; have HV0N : Hid (x23.heap[(x3.heap.size + 1)]? = Option.some (.cells (letA LL) 43 (0, 0))) := (hb.block _ (Array.getElem?_eq_some_iff.1 HV0.out).1).trans HV0.out; have HK2N : Hid (x23.heap[x8.heap.size]? = Option.some (.cells (peerA Q s4) 41 (0, 0))) := (hb.block _ (Array.getElem?_eq_some_iff.1 HK2.out).1).trans HK2.out; have HV2N : Hid (x23.heap[(x8.heap.size + 1)]? = Option.some (.cells (letA LL) 43 (0, 0))) := (hb.block _ (Array.getElem?_eq_some_iff.1 HV2.out).1).trans HV2.out; have HM2N : Hid (MarkD 1 x7.heap.size x23 Q s4) := Own6.below HM2.out hb; have HO4N : Hid (OwnD x20.heap.size x21.heap.size x23 Q s7) := HO4.out.below hb; have HZ23 : Hid (x21.heap.size < x23.heap.size) := (show x21.heap.size < x23.heap.size by omega); clear HB HKa HO0 HK0 HV0 HK2 HV2 HM2 HO4; have HB := HBN; clear HBN; have HKa := HKaN; clear HKaN; have HO0 := HO0N; clear HO0N; have HK0 := HK0N; clear HK0N; have HV0 := HV0N; clear HV0N; have HK2 := HK2N; clear HK2N; have HV2 := HV2N; clear HV2N; have HM2 := HM2N; clear HM2N; have HO4 := HO4N; clear HO4N; have HK3 : Hid (x23.heap[x21.heap.size]? = Option.some (.cells (peerA Q s7) 41 (0, 0))) := HkB; have HV3 : Hid (x23.heap[(x21.heap.size + 1)]? = Option.some (.cells (letA LL) 43 (0, 0))) := hk; have HY23 : Hid (x21.heap.size + 1 < x23.heap.size) := hlt; clear hg hk hz hb hlt HkA HvA HbA HkB) | (refine wpList_load_row rfl _ _ rfl w.heap.size rfl 32 _ (0, 0) _ HKa.out Try.underlying32 rfl (by kernel_rfl) ?_) | (refine wpList_load_row rfl _ _ rfl x3.heap.size rfl 41 _ (0, 0) _ HK0.out Try.underlying41 rfl (by kernel_rfl) ?_) | (refine wpList_load_row rfl _ _ rfl (x3.heap.size + 1) rfl 43 _ (0, 0) _ HV0.out Try.underlying43 rfl (by kernel_rfl) ?_) | (refine wpList_load_row rfl _ _ rfl x8.heap.size rfl 41 _ (0, 0) _ HK2.out Try.underlying41 rfl (by kernel_rfl) ?_) | (refine wpList_load_row rfl _ _ rfl (x8.heap.size + 1) rfl 43 _ (0, 0) _ HV2.out Try.underlying43 rfl (by kernel_rfl) ?_) | (refine wpList_load_row rfl _ _ rfl x21.heap.size rfl 41 _ (0, 0) _ HK3.out Try.underlying41 rfl (by kernel_rfl) ?_) | (refine wpList_load_row rfl _ _ rfl (x21.heap.size + 1) rfl 43 _ (0, 0) _ HV3.out Try.underlying43 rfl (by kernel_rfl) ?_) | (refine wpList_load_row_w (by first | rfl | simp [Region.wanted, yielded] | simp [Region.wanted, yielded, hk0]) _ _ rfl w.heap.size rfl 32 _ (0, 0) _ HKa.out Try.underlying32 rfl (by kernel_rfl) ?_) | (refine wpList_load_row_w (by first | rfl | simp [Region.wanted, yielded] | simp [Region.wanted, yielded, hk0]) _ _ rfl x3.heap.size rfl 41 _ (0, 0) _ HK0.out Try.underlying41 rfl (by kernel_rfl) ?_) | (refine wpList_load_row_w (by first | rfl | simp [Region.wanted, yielded] | simp [Region.wanted, yielded, hk0]) _ _ rfl (x3.heap.size + 1) rfl 43 _ (0, 0) _ HV0.out Try.underlying43 rfl (by kernel_rfl) ?_) | (refine wpList_load_row_w (by first | rfl | simp [Region.wanted, yielded] | simp [Region.wanted, yielded, hk0]) _ _ rfl x8.heap.size rfl 41 _ (0, 0) _ HK2.out Try.underlying41 rfl (by kernel_rfl) ?_) | (refine wpList_load_row_w (by first | rfl | simp [Region.wanted, yielded] | simp [Region.wanted, yielded, hk0]) _ _ rfl (x8.heap.size + 1) rfl 43 _ (0, 0) _ HV2.out Try.underlying43 rfl (by kernel_rfl) ?_) | (refine wpList_load_row_w (by first | rfl | simp [Region.wanted, yielded] | simp [Region.wanted, yielded, hk0]) _ _ rfl x21.heap.size rfl 41 _ (0, 0) _ HK3.out Try.underlying41 rfl (by kernel_rfl) ?_) | (refine wpList_load_row_w (by first | rfl | simp [Region.wanted, yielded] | simp [Region.wanted, yielded, hk0]) _ _ rfl (x21.heap.size + 1) rfl 43 _ (0, 0) _ HV3.out Try.underlying43 rfl (by kernel_rfl) ?_))
  refine (eqPeer_yes Q s7 s2 x23 HO4.out.reads HO0.out.reads HSQ.out).mono ?_
  rintro e x24 ⟨rfl, hb⟩
  have HBN : Hid (Below w.heap.size w x24) := bt HB.out hb
  have HKaN : Hid (x24.heap[w.heap.size]? = Option.some (.cells (peerA p s) 32 (0, 0))) := (hb.block _ (Array.getElem?_eq_some_iff.1 HKa.out).1).trans HKa.out
  have HO0N : Hid (OwnD x2.heap.size x3.heap.size x24 Q s2) := HO0.out.below hb
  have HK0N : Hid (x24.heap[x3.heap.size]? = Option.some (.cells (peerA Q s2) 41 (0, 0))) := (hb.block _ (Array.getElem?_eq_some_iff.1 HK0.out).1).trans HK0.out
  have HV0N : Hid (x24.heap[(x3.heap.size + 1)]? = Option.some (.cells (letA LL) 43 (0, 0))) := (hb.block _ (Array.getElem?_eq_some_iff.1 HV0.out).1).trans HV0.out
  have HK2N : Hid (x24.heap[x8.heap.size]? = Option.some (.cells (peerA Q s4) 41 (0, 0))) := (hb.block _ (Array.getElem?_eq_some_iff.1 HK2.out).1).trans HK2.out
  have HV2N : Hid (x24.heap[(x8.heap.size + 1)]? = Option.some (.cells (letA LL) 43 (0, 0))) := (hb.block _ (Array.getElem?_eq_some_iff.1 HV2.out).1).trans HV2.out
  have HM2N : Hid (MarkD 1 x7.heap.size x24 Q s4) := Own6.below HM2.out hb
  have HO4N : Hid (OwnD x20.heap.size x21.heap.size x24 Q s7) := HO4.out.below hb
  have HK3N : Hid (x24.heap[x21.heap.size]? = Option.some (.cells (peerA Q s7) 41 (0, 0))) := (hb.block _ (Array.getElem?_eq_some_iff.1 HK3.out).1).trans HK3.out
  have HV3N : Hid (x24.heap[(x21.heap.size + 1)]? = Option.some (.cells (letA LL) 43 (0, 0))) := (hb.block _ (Array.getElem?_eq_some_iff.1 HV3.out).1).trans HV3.out
  have HZ24 : Hid (x23.heap.size ≤ x24.heap.size) := hb.size
  clear HB HKa HO0 HK0 HV0 HK2 HV2 HM2 HO4 HK3 HV3
  have HB := HBN
  clear HBN
  have HKa := HKaN
  clear HKaN
  have HO0 := HO0N
  clear HO0N
  have HK0 := HK0N
  clear HK0N
  have HV0 := HV0N
  clear HV0N
  have HK2 := HK2N
  clear HK2N
  have HV2 := HV2N
  clear HV2N
  have HM2 := HM2N
  clear HM2N
  have HO4 := HO4N
  clear HO4N
  have HK3 := HK3N
  clear HK3N
  have HV3 := HV3N
  clear HV3N
  clear hb
  go_wp2_with (first | (refine wpList_load_row rfl _ _ rfl w.heap.size rfl 32 _ (0, 0) _ HKa.out Try.underlying32 rfl (by kernel_rfl) ?_) | (refine wpList_load_row rfl _ _ rfl x3.heap.size rfl 41 _ (0, 0) _ HK0.out Try.underlying41 rfl (by kernel_rfl) ?_) | (refine wpList_load_row rfl _ _ rfl (x3.heap.size + 1) rfl 43 _ (0, 0) _ HV0.out Try.underlying43 rfl (by kernel_rfl) ?_) | (refine wpList_load_row rfl _ _ rfl x8.heap.size rfl 41 _ (0, 0) _ HK2.out Try.underlying41 rfl (by kernel_rfl) ?_) | (refine wpList_load_row rfl _ _ rfl (x8.heap.size + 1) rfl 43 _ (0, 0) _ HV2.out Try.underlying43 rfl (by kernel_rfl) ?_) | (refine wpList_load_row rfl _ _ rfl x21.heap.size rfl 41 _ (0, 0) _ HK3.out Try.underlying41 rfl (by kernel_rfl) ?_) | (refine wpList_load_row rfl _ _ rfl (x21.heap.size + 1) rfl 43 _ (0, 0) _ HV3.out Try.underlying43 rfl (by kernel_rfl) ?_) | (refine wpList_load_row_w (by first | rfl | simp [Region.wanted, yielded] | simp [Region.wanted, yielded, hk0]) _ _ rfl w.heap.size rfl 32 _ (0, 0) _ HKa.out Try.underlying32 rfl (by kernel_rfl) ?_) | (refine wpList_load_row_w (by first | rfl | simp [Region.wanted, yielded] | simp [Region.wanted, yielded, hk0]) _ _ rfl x3.heap.size rfl 41 _ (0, 0) _ HK0.out Try.underlying41 rfl (by kernel_rfl) ?_) | (refine wpList_load_row_w (by first | rfl | simp [Region.wanted, yielded] | simp [Region.wanted, yielded, hk0]) _ _ rfl (x3.heap.size + 1) rfl 43 _ (0, 0) _ HV0.out Try.underlying43 rfl (by kernel_rfl) ?_) | (refine wpList_load_row_w (by first | rfl | simp [Region.wanted, yielded] | simp [Region.wanted, yielded, hk0]) _ _ rfl x8.heap.size rfl 41 _ (0, 0) _ HK2.out Try.underlying41 rfl (by kernel_rfl) ?_) | (refine wpList_load_row_w (by first | rfl | simp [Region.wanted, yielded] | simp [Region.wanted, yielded, hk0]) _ _ rfl (x8.heap.size + 1) rfl 43 _ (0, 0) _ HV2.out Try.underlying43 rfl (by kernel_rfl) ?_) | (refine wpList_load_row_w (by first | rfl | simp [Region.wanted, yielded] | simp [Region.wanted, yielded, hk0]) _ _ rfl x21.heap.size rfl 41 _ (0, 0) _ HK3.out Try.underlying41 rfl (by kernel_rfl) ?_) | (refine wpList_load_row_w (by first | rfl | simp [Region.wanted, yielded] | simp [Region.wanted, yielded, hk0]) _ _ rfl (x21.heap.size + 1) rfl 43 _ (0, 0) _ HV3.out Try.underlying43 rfl (by kernel_rfl) ?_))
  refine (eqLetter_yes LL x24).mono ?_
  rintro e x25 ⟨rfl, hb⟩
  have HBN : Hid (Below w.heap.size w x25) := bt HB.out hb
  have HKaN : Hid (x25.heap[w.heap.size]? = Option.some (.cells (peerA p s) 32 (0, 0))) := (hb.block _ (Array.getElem?_eq_some_iff.1 HKa.out).1).trans HKa.out
  have HO0N : Hid (OwnD x2.heap.size x3.heap.size x25 Q s2) := HO0.out.below hb
  have HK0N : Hid (x25.heap[x3.heap.size]? = Option.some (.cells (peerA Q s2) 41 (0, 0))) := (hb.block _ (Array.getElem?_eq_some_iff.1 HK0.out).1).trans HK0.out
  have HV0N : Hid (x25.heap[(x3.heap.size + 1)]? = Option.some (.cells (letA LL) 43 (0, 0))) := (hb.block _ (Array.getElem?_eq_some_iff.1 HV0.out).1).trans HV0.out
  have HK2N : Hid (x25.heap[x8.heap.size]? = Option.some (.cells (peerA Q s4) 41 (0, 0))) := (hb.block _ (Array.getElem?_eq_some_iff.1 HK2.out).1).trans HK2.out
  have HV2N : Hid (x25.heap[(x8.heap.size + 1)]? = Option.some (.cells (letA LL) 43 (0, 0))) := (hb.block _ (Array.getElem?_eq_some_iff.1 HV2.out).1).trans HV2.out
  have HM2N : Hid (MarkD 1 x7.heap.size x25 Q s4) := Own6.below HM2.out hb
  have HO4N : Hid (OwnD x20.heap.size x21.heap.size x25 Q s7) := HO4.out.below hb
  have HK3N : Hid (x25.heap[x21.heap.size]? = Option.some (.cells (peerA Q s7) 41 (0, 0))) := (hb.block _ (Array.getElem?_eq_some_iff.1 HK3.out).1).trans HK3.out
  have HV3N : Hid (x25.heap[(x21.heap.size + 1)]? = Option.some (.cells (letA LL) 43 (0, 0))) := (hb.block _ (Array.getElem?_eq_some_iff.1 HV3.out).1).trans HV3.out
  have HZ25 : Hid (x24.heap.size ≤ x25.heap.size) := hb.size
  clear HB HKa HO0 HK0 HV0 HK2 HV2 HM2 HO4 HK3 HV3
  have HB := HBN
  clear HBN
  have HKa := HKaN
  clear HKaN
  have HO0 := HO0N
  clear HO0N
  have HK0 := HK0N
  clear HK0N
  have HV0 := HV0N
  clear HV0N
  have HK2 := HK2N
  clear HK2N
  have HV2 := HV2N
  clear HV2N
  have HM2 := HM2N
  clear HM2N
  have HO4 := HO4N
  clear HO4N
  have HK3 := HK3N
  clear HK3N
  have HV3 := HV3N
  clear HV3N
  clear hb
  go_wp2_with (first | (refine wpList_load_row rfl _ _ rfl w.heap.size rfl 32 _ (0, 0) _ HKa.out Try.underlying32 rfl (by kernel_rfl) ?_) | (refine wpList_load_row rfl _ _ rfl x3.heap.size rfl 41 _ (0, 0) _ HK0.out Try.underlying41 rfl (by kernel_rfl) ?_) | (refine wpList_load_row rfl _ _ rfl (x3.heap.size + 1) rfl 43 _ (0, 0) _ HV0.out Try.underlying43 rfl (by kernel_rfl) ?_) | (refine wpList_load_row rfl _ _ rfl x8.heap.size rfl 41 _ (0, 0) _ HK2.out Try.underlying41 rfl (by kernel_rfl) ?_) | (refine wpList_load_row rfl _ _ rfl (x8.heap.size + 1) rfl 43 _ (0, 0) _ HV2.out Try.underlying43 rfl (by kernel_rfl) ?_) | (refine wpList_load_row rfl _ _ rfl x21.heap.size rfl 41 _ (0, 0) _ HK3.out Try.underlying41 rfl (by kernel_rfl) ?_) | (refine wpList_load_row rfl _ _ rfl (x21.heap.size + 1) rfl 43 _ (0, 0) _ HV3.out Try.underlying43 rfl (by kernel_rfl) ?_) | (refine wpList_load_row_w (by first | rfl | simp [Region.wanted, yielded] | simp [Region.wanted, yielded, hk0]) _ _ rfl w.heap.size rfl 32 _ (0, 0) _ HKa.out Try.underlying32 rfl (by kernel_rfl) ?_) | (refine wpList_load_row_w (by first | rfl | simp [Region.wanted, yielded] | simp [Region.wanted, yielded, hk0]) _ _ rfl x3.heap.size rfl 41 _ (0, 0) _ HK0.out Try.underlying41 rfl (by kernel_rfl) ?_) | (refine wpList_load_row_w (by first | rfl | simp [Region.wanted, yielded] | simp [Region.wanted, yielded, hk0]) _ _ rfl (x3.heap.size + 1) rfl 43 _ (0, 0) _ HV0.out Try.underlying43 rfl (by kernel_rfl) ?_) | (refine wpList_load_row_w (by first | rfl | simp [Region.wanted, yielded] | simp [Region.wanted, yielded, hk0]) _ _ rfl x8.heap.size rfl 41 _ (0, 0) _ HK2.out Try.underlying41 rfl (by kernel_rfl) ?_) | (refine wpList_load_row_w (by first | rfl | simp [Region.wanted, yielded] | simp [Region.wanted, yielded, hk0]) _ _ rfl (x8.heap.size + 1) rfl 43 _ (0, 0) _ HV2.out Try.underlying43 rfl (by kernel_rfl) ?_) | (refine wpList_load_row_w (by first | rfl | simp [Region.wanted, yielded] | simp [Region.wanted, yielded, hk0]) _ _ rfl x21.heap.size rfl 41 _ (0, 0) _ HK3.out Try.underlying41 rfl (by kernel_rfl) ?_) | (refine wpList_load_row_w (by first | rfl | simp [Region.wanted, yielded] | simp [Region.wanted, yielded, hk0]) _ _ rfl (x21.heap.size + 1) rfl 43 _ (0, 0) _ HV3.out Try.underlying43 rfl (by kernel_rfl) ?_))
  refine (heldPeer_own Q s4 1 x7.heap.size x25 HM2.out HMQ.out.1 (by decide) (by have := HMQ.out.2; omega)).mono ?_
  rintro e x26 ⟨rfl, hb⟩
  have HBN : Hid (Below w.heap.size w x26) := bt HB.out hb
  have HKaN : Hid (x26.heap[w.heap.size]? = Option.some (.cells (peerA p s) 32 (0, 0))) := (hb.block _ (Array.getElem?_eq_some_iff.1 HKa.out).1).trans HKa.out
  have HO0N : Hid (OwnD x2.heap.size x3.heap.size x26 Q s2) := HO0.out.below hb
  have HK0N : Hid (x26.heap[x3.heap.size]? = Option.some (.cells (peerA Q s2) 41 (0, 0))) := (hb.block _ (Array.getElem?_eq_some_iff.1 HK0.out).1).trans HK0.out
  have HV0N : Hid (x26.heap[(x3.heap.size + 1)]? = Option.some (.cells (letA LL) 43 (0, 0))) := (hb.block _ (Array.getElem?_eq_some_iff.1 HV0.out).1).trans HV0.out
  have HK2N : Hid (x26.heap[x8.heap.size]? = Option.some (.cells (peerA Q s4) 41 (0, 0))) := (hb.block _ (Array.getElem?_eq_some_iff.1 HK2.out).1).trans HK2.out
  have HV2N : Hid (x26.heap[(x8.heap.size + 1)]? = Option.some (.cells (letA LL) 43 (0, 0))) := (hb.block _ (Array.getElem?_eq_some_iff.1 HV2.out).1).trans HV2.out
  have HM2N : Hid (MarkD 1 x7.heap.size x26 Q s4) := Own6.below HM2.out hb
  have HO4N : Hid (OwnD x20.heap.size x21.heap.size x26 Q s7) := HO4.out.below hb
  have HK3N : Hid (x26.heap[x21.heap.size]? = Option.some (.cells (peerA Q s7) 41 (0, 0))) := (hb.block _ (Array.getElem?_eq_some_iff.1 HK3.out).1).trans HK3.out
  have HV3N : Hid (x26.heap[(x21.heap.size + 1)]? = Option.some (.cells (letA LL) 43 (0, 0))) := (hb.block _ (Array.getElem?_eq_some_iff.1 HV3.out).1).trans HV3.out
  have HZ26 : Hid (x25.heap.size ≤ x26.heap.size) := hb.size
  clear HB HKa HO0 HK0 HV0 HK2 HV2 HM2 HO4 HK3 HV3
  have HB := HBN
  clear HBN
  have HKa := HKaN
  clear HKaN
  have HO0 := HO0N
  clear HO0N
  have HK0 := HK0N
  clear HK0N
  have HV0 := HV0N
  clear HV0N
  have HK2 := HK2N
  clear HK2N
  have HV2 := HV2N
  clear HV2N
  have HM2 := HM2N
  clear HM2N
  have HO4 := HO4N
  clear HO4N
  have HK3 := HK3N
  clear HK3N
  have HV3 := HV3N
  clear HV3N
  clear hb
  go_wp2
  go_ret
  exact ⟨rfl, HB.out⟩

end Go.Proofs.Ytdopefimjabigat.WFnExactTimedOut
