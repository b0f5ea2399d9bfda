/-
  The walk of the law FnExactPeerNew: the specification's answer and the program's are the same; the program's owns its memory. (Made by gpn.py.)
-/
import Derived.Test.YtnghhfgbobpnkapPeerB
namespace Go.Proofs.Ytnghhfgbobpnkap.WFnExactPeerNew
open Go.RowKit Num

/-- the program's contract -/
def Prg : Prop := ∀ (id : Int) (w : World), Calls Try.prog 6 #[.int .i64 id] w fun e w' => ∃ s, e = .returned (peerV (newP id) s) ∧ OwnD w.heap.size w'.heap.size w' (newP id) s ∧ Below w.heap.size w w'

set_option maxRecDepth 100000 in
set_option maxHeartbeats 8000000 in
theorem walk_of (HI : Prg) (w : World) (id : Int) (_ : (Lit.int .i64 id).wf = true) :
    Calls Try.prog 3 #[.int .i64 id] w fun e w' => e = .returned (.bool true) ∧ Below w.heap.size w w' := by
  go_enter Try.func3, Try.ntmps3
  go_wp2_with fail
  refine (peerNew_s id w).mono ?_
  rintro e w1 ⟨s1, rfl, ho, hb⟩
  have HB1 : Hid (Below w.heap.size w w1) := hb
  have HO1 : Hid (OwnD w.heap.size w1.heap.size w1 (newP id) s1) := ho
  clear ho hb
  go_wp2_with (refine wpList_store_blk rfl _ _ _ rfl w1.heap.size (peerA (newP id) s1) rfl rfl 32 zeroA (heap_alloc_new w1 _) (by kernel_rfl) rfl (peerA_one HO1.out.1) ?_; intro w2 hg hk hz; have HB2 : Hid (Below w.heap.size w w2) := (ba HB1.out _).grown hg (by have := HB1.out.size; simp; omega) (fun y hy => by cases hy; exact HB1.out.size); have HK2 : Hid (w2.heap[w1.heap.size]? = Option.some (.cells (peerA (newP id) s1) 32 (0, 0))) := hk; have HO2 : Hid (OwnD w.heap.size w1.heap.size w2 (newP id) s1) := (HO1.out.below (ba (Below.refl _ _) _)).far hg (Or.inr (Nat.le_refl _)); have HL2 : Hid (w1.heap.size < w2.heap.size) := (Array.getElem?_eq_some_iff.1 hk).1; clear hg hk hz)
  refine (HI id w2).mono ?_
  rintro e w3 ⟨s2, rfl, ho, hb⟩
  have HB3 : Hid (Below w.heap.size w w3) := bt HB2.out hb
  have HO3 : Hid (OwnD w.heap.size w1.heap.size w3 (newP id) s1) := HO2.out.below hb
  have HK3 : Hid (w3.heap[w1.heap.size]? = Option.some (.cells (peerA (newP id) s1) 32 (0, 0))) := (hb.block _ HL2.out).trans HK2.out
  have HP3 : Hid (OwnD w2.heap.size w3.heap.size w3 (newP id) s2) := ho
  have HL3 : Hid (w1.heap.size < w2.heap.size ∧ w2.heap.size ≤ w3.heap.size) := ⟨HL2.out, hb.size⟩
  clear ho hb HB2 HO2 HK2
  go_wp2_with (first
    | (refine wpList_store_blk rfl _ _ _ rfl w3.heap.size (peerA (newP id) s2) rfl rfl 32 zeroA (heap_alloc_new w3 _) (by kernel_rfl) rfl (peerA_one HP3.out.1) ?_; intro w4 hg hk hz; have HB4 : Hid (Below w.heap.size w w4) := (ba HB3.out _).grown hg (by have := HB3.out.size; simp; omega) (fun y hy => by cases hy; exact HB3.out.size); have HG4 : Hid (w4.heap[w3.heap.size]? = Option.some (.cells (peerA (newP id) s2) 32 (0, 0))) := hk; have HO4 : Hid (OwnD w.heap.size w1.heap.size w4 (newP id) s1) := (HO3.out.below (ba (Below.refl _ _) _)).far hg (Or.inr (by have := HL3.out; omega)); have HP4 : Hid (OwnD w2.heap.size w3.heap.size w4 (newP id) s2) := (HP3.out.below (ba (Below.refl _ _) _)).far hg (Or.inr (Nat.le_refl _)); have HK4 : Hid (w4.heap[w1.heap.size]? = Option.some (.cells (peerA (newP id) s1) 32 (0, 0))) := (hg.block _ (by have := HL3.out; simp; omega) (fun e => by have := Option.some.inj e; have := HL3.out; omega)).trans (((Below.refl w3.heap.size w3).alloc (Nat.le_refl _) _).block _ (by have := HL3.out; omega) |>.trans HK3.out); have HL4 : Hid (w3.heap.size < w4.heap.size) := (Array.getElem?_eq_some_iff.1 hk).1; clear hg hk hz)
    | (refine wpList_load_row rfl _ _ rfl w3.heap.size rfl 32 _ (0, 0) _ HG4.out Try.underlying32 rfl (by kernel_rfl) ?_) | (refine wpList_load_row rfl _ _ rfl w1.heap.size rfl 32 _ (0, 0) _ HK4.out Try.underlying32 rfl (by kernel_rfl) ?_))
  refine (eqPeer_yes (newP id) s2 s1 w4 HP4.out.reads HO4.out.reads (new_small id)).mono ?_
  rintro e w5 ⟨rfl, hb⟩
  have HB5 : Hid (Below w.heap.size w w5) := bt HB4.out hb
  have HO5 : Hid (OwnD w.heap.size w1.heap.size w5 (newP id) s1) := HO4.out.below hb
  have HP5 : Hid (OwnD w2.heap.size w3.heap.size w5 (newP id) s2) := HP4.out.below hb
  have HK5 : Hid (w5.heap[w1.heap.size]? = Option.some (.cells (peerA (newP id) s1) 32 (0, 0))) := (hb.block _ (by have := HL3.out; have := HL4.out; omega)).trans HK4.out
  have HG5 : Hid (w5.heap[w3.heap.size]? = Option.some (.cells (peerA (newP id) s2) 32 (0, 0))) := (hb.block _ (by have := HL4.out; omega)).trans HG4.out
  have HL5 : Hid (w3.heap.size < w5.heap.size) := Nat.lt_of_lt_of_le HL4.out hb.size
  clear hb HB4 HO4 HP4 HK4 HG4
  go_wp2_with (refine wpList_load_row rfl _ _ rfl w3.heap.size rfl 32 _ (0, 0) _ HG5.out Try.underlying32 rfl (by kernel_rfl) ?_)
  refine (markPeer_own (newP id) s2 1 w2.heap.size w3.heap.size w5 HP5.out (new_sum id) (by decide) (by simp [lenPe, newP])).mono ?_
  rintro e w6 ⟨rfl, hm, hf⟩
  have HB6 : Hid (Below w.heap.size w w6) := HB5.out.trans ⟨hf.os, hf.tape, hf.output, hf.size, fun k hk => hf.block k (Nat.lt_of_lt_of_le hk HB5.out.size) (Or.inl (by have := HL3.out; have := HB1.out.size; omega))⟩
  have HO6 : Hid (OwnD w.heap.size w1.heap.size w6 (newP id) s1) := ⟨hf.own6 HO5.out.1 HO5.out.2.1 (Or.inl (by have := HL3.out; omega)), HO5.out.2.1, Nat.le_trans HO5.out.2.2 hf.size⟩
  have HM6 : Hid (MarkD 1 w2.heap.size w6 (newP id) s2) := hm
  have HK6 : Hid (w6.heap[w1.heap.size]? = Option.some (.cells (peerA (newP id) s1) 32 (0, 0))) := (hf.block _ (by have := HL3.out; have := HL5.out; omega) (Or.inl (by have := HL3.out; omega))).trans HK5.out
  have HG6 : Hid (w6.heap[w3.heap.size]? = Option.some (.cells (peerA (newP id) s2) 32 (0, 0))) := (hf.block _ HL5.out (Or.inr (Nat.le_refl _))).trans HG5.out
  have HL6 : Hid (w3.heap.size < w6.heap.size) := Nat.lt_of_lt_of_le HL5.out hf.size
  have HA6 : Hid (Apart6 w2.heap.size w3.heap.size s2) := HP5.out.2.1
  have hmk : mk6 1 (newP id) = 1 := by simp [mk6, mk5, mk4, mk3, mk2, newP]
  rw [hmk]
  clear hm hf HB5 HO5 HP5 HK5 HG5
  go_wp2_with (refine wpList_load_row rfl _ _ rfl w3.heap.size rfl 32 _ (0, 0) _ HG6.out Try.underlying32 rfl (by kernel_rfl) ?_)
  refine (heldPeer_own (newP id) s2 1 w2.heap.size w6 HM6.out (new_sum id) (by decide) (by simp [lenPe, newP])).mono ?_
  rintro e w7 ⟨rfl, hb⟩
  rw [hmk]
  have HB7 : Hid (Below w.heap.size w w7) := bt HB6.out hb
  have HO7 : Hid (OwnD w.heap.size w1.heap.size w7 (newP id) s1) := HO6.out.below hb
  have HM7 : Hid (MarkD 1 w2.heap.size w7 (newP id) s2) := Own6.below HM6.out hb
  have HK7 : Hid (w7.heap[w1.heap.size]? = Option.some (.cells (peerA (newP id) s1) 32 (0, 0))) := (hb.block _ (by have := HL3.out; have := HL6.out; omega)).trans HK6.out
  have HG7 : Hid (w7.heap[w3.heap.size]? = Option.some (.cells (peerA (newP id) s2) 32 (0, 0))) := (hb.block _ HL6.out).trans HG6.out
  have HL7 : Hid (w3.heap.size < w7.heap.size) := Nat.lt_of_lt_of_le HL6.out hb.size
  clear hb HB6 HO6 HM6 HK6 HG6
  go_wp2_with fail
  refine (HI id w7).mono ?_
  rintro e w8 ⟨s3, rfl, ho, hb⟩
  have HB8 : Hid (Below w.heap.size w w8) := bt HB7.out hb
  have HO8 : Hid (OwnD w.heap.size w1.heap.size w8 (newP id) s1) := HO7.out.below hb
  have HQ8 : Hid (OwnD w7.heap.size w8.heap.size w8 (newP id) s3) := ho
  have HM8 : Hid (MarkD 1 w2.heap.size w8 (newP id) s2) := Own6.below HM7.out hb
  have HK8 : Hid (w8.heap[w1.heap.size]? = Option.some (.cells (peerA (newP id) s1) 32 (0, 0))) := (hb.block _ (by have := HL3.out; have := HL7.out; omega)).trans HK7.out
  have HG8 : Hid (w8.heap[w3.heap.size]? = Option.some (.cells (peerA (newP id) s2) 32 (0, 0))) := (hb.block _ HL7.out).trans HG7.out
  have HL8 : Hid (w3.heap.size < w8.heap.size) := Nat.lt_of_lt_of_le HL7.out hb.size
  clear ho hb HB7 HO7 HM7 HK7 HG7
  go_wp2_with (first
    | (refine wpList_store_blk rfl _ _ _ rfl w8.heap.size (peerA (newP id) s3) rfl rfl 32 zeroA (heap_alloc_new w8 _) (by kernel_rfl) rfl (peerA_one HQ8.out.1) ?_; intro w9 hg hk hz; have HB9 : Hid (Below w.heap.size w w9) := (ba HB8.out _).grown hg (by have := HB8.out.size; simp; omega) (fun y hy => by cases hy; exact HB8.out.size); have HH9 : Hid (w9.heap[w8.heap.size]? = Option.some (.cells (peerA (newP id) s3) 32 (0, 0))) := hk; have HO9 : Hid (OwnD w.heap.size w1.heap.size w9 (newP id) s1) := (HO8.out.below (ba (Below.refl _ _) _)).far hg (Or.inr (by have := HL3.out; have := HL8.out; omega)); have HQ9 : Hid (OwnD w7.heap.size w8.heap.size w9 (newP id) s3) := (HQ8.out.below (ba (Below.refl _ _) _)).far hg (Or.inr (Nat.le_refl _)); have HM9 : Hid (MarkD 1 w2.heap.size w9 (newP id) s2) := Own6.far (Own6.below HM8.out (ba (Below.refl _ _) _)) HA6.out hg (Or.inr (by have := HL8.out; omega)); have HK9 : Hid (w9.heap[w1.heap.size]? = Option.some (.cells (peerA (newP id) s1) 32 (0, 0))) := (hg.block _ (by have := HL3.out; have := HL8.out; simp; omega) (fun e => by have := Option.some.inj e; have := HL3.out; have := HL8.out; omega)).trans (((Below.refl w8.heap.size w8).alloc (Nat.le_refl _) _).block _ (by have := HL3.out; have := HL8.out; omega) |>.trans HK8.out); have HG9 : Hid (w9.heap[w3.heap.size]? = Option.some (.cells (peerA (newP id) s2) 32 (0, 0))) := (hg.block _ (by have := HL8.out; simp; omega) (fun e => by have := Option.some.inj e; have := HL8.out; omega)).trans (((Below.refl w8.heap.size w8).alloc (Nat.le_refl _) _).block _ HL8.out |>.trans HG8.out); have HL9 : Hid (w8.heap.size < w9.heap.size) := (Array.getElem?_eq_some_iff.1 hk).1; clear hg hk hz)
    | (refine wpList_load_row rfl _ _ rfl w8.heap.size rfl 32 _ (0, 0) _ HH9.out Try.underlying32 rfl (by kernel_rfl) ?_) | (refine wpList_load_row rfl _ _ rfl w1.heap.size rfl 32 _ (0, 0) _ HK9.out Try.underlying32 rfl (by kernel_rfl) ?_))
  refine (eqPeer_yes (newP id) s3 s1 w9 HQ9.out.reads HO9.out.reads (new_small id)).mono ?_
  rintro e w10 ⟨rfl, hb⟩
  have HB10 : Hid (Below w.heap.size w w10) := bt HB9.out hb
  have HM10 : Hid (MarkD 1 w2.heap.size w10 (newP id) s2) := Own6.below HM9.out hb
  have HG10 : Hid (w10.heap[w3.heap.size]? = Option.some (.cells (peerA (newP id) s2) 32 (0, 0))) := (hb.block _ (by have := HL8.out; have := HL9.out; omega)).trans HG9.out
  clear hb HB9 HM9 HG9 HO9 HQ9 HK9 HH9
  go_wp2_with (refine wpList_load_row rfl _ _ rfl w3.heap.size rfl 32 _ (0, 0) _ HG10.out Try.underlying32 rfl (by kernel_rfl) ?_)
  refine (heldPeer_own (newP id) s2 1 w2.heap.size w10 HM10.out (new_sum id) (by decide) (by simp [lenPe, newP])).mono ?_
  rintro e w11 ⟨rfl, hb⟩
  rw [hmk]
  have HB11 : Hid (Below w.heap.size w w11) := bt HB10.out hb
  clear hb
  go_wp2
  go_ret
  exact ⟨rfl, HB11.out⟩

end Go.Proofs.Ytnghhfgbobpnkap.WFnExactPeerNew
