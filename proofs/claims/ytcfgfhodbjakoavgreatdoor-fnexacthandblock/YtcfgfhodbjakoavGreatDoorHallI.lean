/-
  One thing is done to a cluster under a mutex: the contracts of the program's do and leave.
-/
import Derived.Test.YtcfgfhodbjakoavGreatDoorHallX
import Derived.Test.YtcfgfhodbjakoavGreatDoorClusS
import Derived.Test.YtcfgfhodbjakoavGreatDoorJ0
namespace Go.Proofs.YtcfgfhodbjakoavGreatDoor
open Go.RowKit Num

set_option maxRecDepth 100000 in
set_option maxHeartbeats 4000000 in
theorem do_i (F : FuncId) (hent : ∀ (args : Array Value) (w : World), (callFunc F args).run Tryz.prog w = .ok (.enter F args) w) (bx : Value) (c c' : CU) (s : CW) (b : Bool) (N lo hi : Nat) (w : World) (hbox : HallAt w N 0 c s) (hown : OwnC lo hi w c s)
    (hcall : ∀ w1, HallAt w1 N 1 c s → OwnC lo hi w1 c s → FrS (fun k => k = N) w w1 → Calls Tryz.prog F #[.pointer (some ⟨N, 2, none⟩), bx] w1 fun e w' => e = .returned (.bool b) ∧ ∃ s', InH N lo w1 w' 1 c' s') :
    Calls Tryz.prog 119 #[.pointer (some ⟨N, 0, none⟩), .func (.func F) #[] #[bx]] w fun e w' => e = .returned (.bool b) ∧ ∃ s', InH N lo w w' 0 c' s' := by
  have c0 : w.cell? ⟨N, 0, none⟩ = some (.int .i32 0) := blk_cell hbox 0 _ rfl
  have f0 : w.frozen? ⟨N, 0, none⟩ = false := frozen_of_row w N 0 _ _ hbox
  obtain ⟨b1, g1⟩ := cell_set (t := 1) hbox
  have HC : Hid (∀ w1, HallAt w1 N 1 c s → OwnC lo hi w1 c s → FrS (fun k => k = N) w w1 → Calls Tryz.prog F #[.pointer (some ⟨N, 2, none⟩), bx] w1 fun e w' => e = .returned (.bool b) ∧ ∃ s', InH N lo w1 w' 1 c' s') := hcall
  obtain ⟨w1, hw1⟩ : ∃ w1, w1 = w.setCell ⟨N, 0, none⟩ (.int .i32 1) := ⟨_, rfl⟩
  rw [← hw1] at b1 g1
  have HW : Hid (HallAt w1 N 1 c s ∧ OwnC lo hi w1 c s ∧ FrS (fun k => k = N) w w1) := ⟨b1, hown.hallT hbox g1, FrS.of_grown g1 (fun k e => by cases e; rfl)⟩
  clear hcall hbox hown b1 g1
  go_enter_defers Tryz.func119, Tryz.ntmps119
  go_wp2_with (go_at_call 147; refine (Go.MuLone.lock_free muLib ⟨N, 0, none⟩ _ c0 f0).mono ?_; rintro e w' ⟨rfl, rfl⟩; rw [← hw1]; clear hw1 c0 f0)
  refine (HC.out w1 HW.out.1 HW.out.2.1 HW.out.2.2).mono ?_
  rintro e w2 ⟨rfl, s', hin⟩
  have HI := hid hin
  clear hin
  go_wp2
  refine leaves_cons (f := 148) (args := #[.pointer (some ⟨N, 0, none⟩)]) (by simp) (by simp [go_sem]) ?_
  refine (Go.MuLone.unlock_deferred muLib ⟨N, 0, none⟩ .returning _ (blk_cell HI.out.box 0 _ rfl) (frozen_of_row w2 N 0 _ _ HI.out.box)).mono ?_
  rintro e u' w3 ⟨rfl, rfl, rfl⟩
  obtain ⟨b3, g3⟩ := cell_set (t := 0) HI.out.box
  exact ⟨_, results_tmp rfl _ _ _, rfl, s', b3, (HI.out.own.hallT HI.out.box g3).wide g3.size (Nat.le_refl _), ((HW.out.2.2.mono (fun k hk => Or.inl hk)).trans HI.out.fr).trans (FrS.of_grown g3 (fun k e => by cases e; exact Or.inl rfl))⟩

theorem hall_range {w : World} {N : Nat} {st : Int} {c : CU} {s : CW} (h : HallAt w N st c s) : w.rangeAt N 2 (clusL c s) := fun j v hj => by
  refine blk_cell h (2 + j) v ?_
  match j, hj with
  | 0, h => exact h
  | 1, h => exact h
  | 2, h => exact h
  | 3, h => exact h
  | 4, h => exact h
  | 5, h => exact h
  | 6, h => exact h
  | 7, h => exact h
  | j + 8, h => simp [clusL] at h
theorem cell_any {w : World} {N : Nat} {A : Array Value} {t : TypeId} (h : w.heap[N]? = some (.cells A t (0, 0))) (v : Value) : (w.setCell ⟨N, 0, none⟩ v).heap[N]? = some (.cells (A.setIfInBounds 0 v) t (0, 0)) ∧ w.grownBy (w.setCell ⟨N, 0, none⟩ v) (some N) :=
  ⟨heap_setCell_same w N 0 _ t v h, rfl, rfl, rfl, by simp, fun k _ hk => heap_setCell_other w ⟨N, 0, none⟩ k _ (fun e => hk (by simp [e]))⟩
theorem frs_below {n : Nat} {B : Nat → Prop} {w y z : World} (h : Below n w y) (hf : FrS B y z) (hn : n ≤ y.heap.size) (hB : ∀ k, B k → n ≤ k) : Below n w z :=
  ⟨hf.os.trans h.os, hf.tape.trans h.tape, hf.output.trans h.output, Nat.le_trans h.size hf.size, fun k hk => (hf.block k (by omega) (fun hb => by have := hB k hb; omega)).trans (h.block k hk)⟩
def hallZ : Array Value := #[.int .i32 1, .int .u32 0, .int .i64 0, .bool false, .int .i64 0, .slice none 0 0, .slice none 0 0, .slice none 0 0, .slice none 0 0, .slice none 0 0]
/-- what leaves a hall: while it goes -/
structure LvB (w y : World) (N : Nat) (A : Array Value) (lo hi : Nat) (c : CU) (s : CW) : Prop where
  hall : y.heap[N]? = some (.cells A 191 (0, 0))
  own : OwnC lo hi y c s
  zero : y.heap[w.heap.size]? = some (.cells zeroC 43 (0, 0))
  fr : FrS (fun k => k = N ∨ w.heap.size ≤ k) w y

set_option maxRecDepth 100000 in
set_option maxHeartbeats 8000000 in
theorem leave_i (c : CU) (s : CW) (N lo hi : Nat) (w : World) (hbox : HallAt w N 0 c s) (hown : OwnC lo hi w c s) :
    Calls Tryz.prog 120 #[.pointer (some ⟨N, 0, none⟩)] w fun e w' => e = .returned (clusV c s) ∧ OwnC lo hi w' c s ∧ FrS (fun k => k = N) w w' := by
  have hN : N < w.heap.size := (Array.getElem?_eq_some_iff.1 hbox).1
  obtain ⟨W, hW⟩ : ∃ W, W = w.alloc (.cells zeroC 43) := ⟨_, rfl⟩
  have hb0 : Below w.heap.size w W := by rw [hW]; exact alloc_below _ _
  have hz0 : W.heap[w.heap.size]? = some (.cells zeroC 43 (0, 0)) := by rw [hW]; exact heap_alloc_new w _
  have hs0 : W.heap.size = w.heap.size + 1 := by rw [hW]; simp
  have hbW : HallAt W N 0 c s := (hb0.block N hN).trans hbox
  have c0 : W.cell? ⟨N, 0, none⟩ = some (.int .i32 0) := blk_cell hbW 0 _ rfl
  have f0 : W.frozen? ⟨N, 0, none⟩ = false := frozen_of_row W N 0 _ _ hbW
  obtain ⟨b1, g1⟩ := cell_set (t := 1) hbW
  obtain ⟨w1, hw1⟩ : ∃ w1, w1 = W.setCell ⟨N, 0, none⟩ (.int .i32 1) := ⟨_, rfl⟩
  rw [← hw1] at b1 g1
  have HS1 : Hid (w1.heap.size = w.heap.size + 1) := (by rw [hw1]; simpa using hs0 : w1.heap.size = w.heap.size + 1)
  have HN : Hid (N < w.heap.size) := hN
  have HW : Hid (LvB w w1 N (hallA 1 c s) lo hi c s) := ⟨b1, (hown.below hb0).hallT hbW g1, (g1.block _ (by rw [hs0]; omega) (fun e => by have := Option.some.inj e; omega)).trans hz0, (FrS.of_below hb0).trans (FrS.of_grown g1 (fun k e => by cases e; exact Or.inl rfl))⟩
  have HRG : Hid (w1.rangeAt N 2 (clusL c s)) := hall_range b1
  clear hbox hown b1 g1 hbW hb0 hz0 hN
  unfold zeroC at hW
  go_enter_defers Tryz.func120, Tryz.ntmps120
  go_wp2_with (first
    | (rw [← hW]; clear hW; go_at_call 147; refine (Go.MuLone.lock_free muLib ⟨N, 0, none⟩ _ c0 f0).mono ?_; rintro e w' ⟨rfl, rfl⟩; rw [← hw1]; clear hw1 c0 f0 hs0)
    | (refine wpList_load_mid rfl _ _ rfl N 2 rfl (clusL c s) _ HRG.out Tryz.underlying43 rfl (by kernel_rfl) ?_)
    | (refine wpList_store_blk rfl _ _ _ rfl w1.heap.size (clusA c s) rfl rfl 43 zeroC (heap_alloc_new w1 _) (by kernel_rfl) rfl (clusA_one HW.out.own) ?_; intro y1 hg hk hz; have hb : Below w1.heap.size w1 y1 := made_below hg; have HY1 : Hid (LvB w y1 N (hallA 1 c s) lo hi c s ∧ y1.heap[w1.heap.size]? = some (.cells (clusA c s) 43 (0, 0))) := ⟨⟨(hb.block _ (Array.getElem?_eq_some_iff.1 HW.out.hall).1).trans HW.out.hall, HW.out.own.below hb, (hb.block _ (Array.getElem?_eq_some_iff.1 HW.out.zero).1).trans HW.out.zero, HW.out.fr.trans (FrS.of_below hb)⟩, hk⟩; clear hg hk hz hb HW HRG)
    | (refine wpList_store_part rfl _ (.tmp 18) (.tmp 16) rfl N 2 zeroC rfl rfl 191 (hallA 1 c s) HY1.out.1.hall (by kernel_rfl) (by simp [hallA, zeroC]) (by kernel_rfl) hallZ (by kernel_rfl) ?_; intro y2 hg hk; have HY2 : Hid (LvB w y2 N hallZ lo hi c s ∧ y2.heap[w1.heap.size]? = some (.cells (clusA c s) 43 (0, 0))) := ⟨⟨hk, HY1.out.1.own.hallT HY1.out.1.hall hg, (hg.block _ (Array.getElem?_eq_some_iff.1 HY1.out.1.zero).1 (fun e => by have := Option.some.inj e; have := HN.out; omega)).trans HY1.out.1.zero, HY1.out.1.fr.trans (FrS.of_grown hg (fun k e => by cases e; exact Or.inl rfl))⟩, (hg.block _ (Array.getElem?_eq_some_iff.1 HY1.out.2).1 (fun e => by have := Option.some.inj e; have := HN.out; have := HS1.out; omega)).trans HY1.out.2⟩; clear hg hk HY1)
    | (refine wpList_load_row rfl _ _ rfl w1.heap.size rfl 43 _ (0, 0) _ HY2.out.2 Tryz.underlying43 rfl (by kernel_rfl) ?_)
    | (refine wpList_store_blk rfl _ _ _ rfl w.heap.size (clusA c s) rfl rfl 43 zeroC HY2.out.1.zero (by kernel_rfl) rfl (clusA_one HY2.out.1.own) ?_; intro y3 hg hk hz; have HY3 : Hid (y3.heap[N]? = some (.cells hallZ 191 (0, 0)) ∧ OwnC lo hi y3 c s ∧ y3.heap[w.heap.size]? = some (.cells (clusA c s) 43 (0, 0)) ∧ FrS (fun k => k = N ∨ w.heap.size ≤ k) w y3) := ⟨(hg.block _ (Array.getElem?_eq_some_iff.1 HY2.out.1.hall).1 (fun e => by have := Option.some.inj e; have := HN.out; omega)).trans HY2.out.1.hall, HY2.out.1.own.boxT HY2.out.1.zero hg, hk, HY2.out.1.fr.trans (FrS.of_grown hg (fun k e => by cases e; exact Or.inr (Nat.le_refl _)))⟩; clear hg hk hz HY2))
  refine leaves_cons (f := 148) (args := #[.pointer (some ⟨N, 0, none⟩)]) (by simp) (by simp [go_sem]) ?_
  refine (Go.MuLone.unlock_deferred muLib ⟨N, 0, none⟩ .returning _ (blk_cell HY3.out.1 0 _ rfl) (frozen_of_row y3 N 0 _ _ HY3.out.1)).mono ?_
  rintro e u' w3 ⟨rfl, rfl, rfl⟩
  obtain ⟨b3, g3⟩ := cell_any HY3.out.1 (.int .i32 0)
  have hr : (y3.setCell ⟨N, 0, none⟩ (.int .i32 0)).heap[w.heap.size]? = some (.cells (clusA c s) 43 (0, 0)) := (g3.block _ (Array.getElem?_eq_some_iff.1 HY3.out.2.2.1).1 (fun e => by have := Option.some.inj e; have := HN.out; omega)).trans HY3.out.2.2.1
  have hf := HY3.out.2.2.2.trans (FrS.of_grown g3 (fun k e => by cases e; exact Or.inl rfl))
  exact ⟨_, results_cell_row Tryz.results120 _ _ w.heap.size 43 _ (0, 0) _ rfl hr Tryz.underlying43 rfl (by kernel_rfl), rfl, HY3.out.2.1.hallT HY3.out.1 g3, ⟨hf.os, hf.tape, hf.output, hf.size, fun k hk hn => hf.block k hk (by omega)⟩⟩

end Go.Proofs.YtcfgfhodbjakoavGreatDoor
