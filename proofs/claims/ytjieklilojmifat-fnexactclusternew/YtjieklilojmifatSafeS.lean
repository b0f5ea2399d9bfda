/-
  What a replica may vote for: the contracts of the specification's MayVote, Entered, Voted.
-/
import Derived.Test.YtjieklilojmifatPeerC
import Derived.Test.YtjieklilojmifatJ2
namespace Go.Proofs.Ytjieklilojmifat
open Go.RowKit Num

/-- whether it may give a vote of this Phase and View -/
def mayB (p : PE) (phase view : Int) : Bool := decide (p.last.2.1 < view) || (decide (p.last.2.1 = view) && decide (p.last.1 < phase))
/-- .. in a View of its own -/
def enterP (p : PE) (view : Int) : PE := if view > p.view ∧ view ≤ 900 then { p with view := view, votes := [], news := [] } else p
/-- .. that gave a vote -/
def votedP (p : PE) (phase view block : Int) : PE := { p with last := (phase, view, block, p.id) }
theorem voted_small {p : PE} (h : smallPe p) (phase view block : Int) : smallPe (votedP p phase view block) := ⟨h.row, h.cells, h.early, h.undos, h.votes, h.news, h.kcells, h.kundos⟩
theorem enter_small {p : PE} (h : smallPe p) (view : Int) : smallPe (enterP p view) := by
  unfold enterP
  split
  · exact ⟨h.row, h.cells, h.early, h.undos, by simp, by simp, h.kcells, h.kundos⟩
  · exact h
theorem enter_len (p : PE) (view : Int) : lenPe (enterP p view) ≤ lenPe p := by
  unfold enterP
  split
  · unfold lenPe; simp; omega
  · exact Nat.le_refl _

theorem enter_sum {p : PE} (h : sumPe p) (view : Int) : sumPe (enterP p view) := by
  have hl := enter_len p view
  unfold enterP at hl ⊢
  split
  · rename_i hc
    rw [if_pos hc] at hl
    exact ⟨Nat.le_trans hl h.1, h.2.1, h.2.2.1, h.2.2.2.1, h.2.2.2.2.1, by simp, by simp⟩
  · exact h


/-- three boxes: of the one that came in, of the answer, and one more -/
structure Bx3 (w y : World) (N : Nat) (A Z O : Array Value) : Prop where
  below : Below w.heap.size w y
  box : y.heap[w.heap.size]? = some (.cells A 41 (0, 0))
  zero : y.heap[w.heap.size + 1]? = some (.cells Z 41 (0, 0))
  out : y.heap[N]? = some (.cells O 41 (0, 0))
  far : w.heap.size + 1 < N
theorem Bx3.lt {w y : World} {N : Nat} {A Z O : Array Value} (h : Bx3 w y N A Z O) : N < y.heap.size := (Array.getElem?_eq_some_iff.1 h.out).1
theorem Bx3.more {w y x : World} {N : Nat} {A Z O : Array Value} (h : Bx3 w y N A Z O) (hb : Below y.heap.size y x) : Bx3 w x N A Z O := by
  have := h.lt
  have := h.far
  exact ⟨bt h.below hb, (hb.block _ (by omega)).trans h.box, (hb.block _ (by omega)).trans h.zero, (hb.block _ (by omega)).trans h.out, h.far⟩
theorem Bx3.put {w y x : World} {N : Nat} {A Z O O' : Array Value} (h : Bx3 w y N A Z O) (hg : y.grownBy x (some N)) (hk : x.heap[N]? = some (.cells O' 41 (0, 0))) : Bx3 w x N A Z O' := by
  have := h.lt
  have := h.far
  exact ⟨h.below.grown hg h.below.size (fun k hk => by cases hk; omega), (hg.block _ (by omega) (fun e => by have := Option.some.inj e; omega)).trans h.box, (hg.block _ (by omega) (fun e => by have := Option.some.inj e; omega)).trans h.zero, hk, h.far⟩

set_option maxRecDepth 100000 in
set_option maxHeartbeats 8000000 in
theorem entered_s (p : PE) (s : PV) (view : Int) (w : World) (hR : PeerR w p s) (hs : smallPe p) :
    Calls Try.prog 25 #[peerV p s, .int .i64 view] w fun e w' => ∃ s', e = .returned (peerV (enterP p view) s') ∧ OwnD w.heap.size w'.heap.size w' (enterP p view) s' ∧ Below w.heap.size w w' := by
  have HR := hid hR
  have HS := hid hs
  clear hR hs
  obtain ⟨W, hW⟩ : ∃ W, W = (w.alloc (.cells (peerA p s) 41)).alloc (.cells zeroA 41) := ⟨_, rfl⟩
  have HC : Hid (Below w.heap.size w W ∧ W.heap[w.heap.size]? = some (.cells (peerA p s) 41 (0, 0)) ∧ W.heap[w.heap.size + 1]? = some (.cells zeroA 41 (0, 0))) := by
    rw [hW]; exact ⟨ba (ba (Below.refl _ _) _) _, alloc2 w _ _⟩
  have HWS : Hid (W.heap.size = w.heap.size + 1 + 1) := (by rw [hW]; simp : W.heap.size = w.heap.size + 1 + 1)
  unfold zeroA at hW
  go_enter Try.func25, Try.ntmps25
  go_wp2_with (rw [← hW]; clear hW; refine wpList_load_row rfl _ _ rfl w.heap.size rfl 41 _ (0, 0) _ HC.out.2.1 Try.underlying41 rfl (by kernel_rfl) ?_)
  refine (copy_s p s W (HR.out.below HC.out.1) HS.out).mono ?_
  rintro e x1 ⟨s1, rfl, ho, hb⟩
  have HO1 : Hid (OwnD W.heap.size x1.heap.size x1 p s1) := ho.toD
  have HB1 : Hid (Below W.heap.size W x1) := hb
  clear ho hb
  by_cases hin : view > p.view ∧ view ≤ 900
  · have h1 : view > p.view := hin.1
    have h1' : p.view < view := hin.1
    have h2 : view ≤ 900 := hin.2
    have HE : Hid (enterP p view = { p with view := view, votes := [], news := [] }) := (by unfold enterP; rw [if_pos hin] : enterP p view = _)
    clear hin
    go_wp2_with (first
      | (refine wpList_store_blk rfl _ _ _ rfl x1.heap.size (peerA p s1) rfl rfl 41 zeroA (heap_alloc_new x1 _) (by kernel_rfl) rfl (peerA_one HO1.out.1) ?_; intro y1 hg hk hz; have hb1 : Below x1.heap.size x1 y1 := made_below hg; have HY1 : Hid (Bx3 w y1 x1.heap.size (peerA p s) zeroA (peerA p s1)) := ⟨bt HC.out.1 (bt HB1.out hb1), (hb1.block _ (by have := HB1.out.size; have := HWS.out; omega)).trans ((HB1.out.block _ (by have := HWS.out; omega)).trans HC.out.2.1), (hb1.block _ (by have := HB1.out.size; have := HWS.out; omega)).trans ((HB1.out.block _ (by have := HWS.out; omega)).trans HC.out.2.2), hk, (by have := HB1.out.size; have := HWS.out; omega)⟩; have HD1 : Hid (OwnD W.heap.size x1.heap.size y1 p s1) := HO1.out.below hb1; clear hg hk hz hb1 HO1; have c1 := blk_cell HY1.out.box 1 (.int .i64 p.view) rfl)
      | (refine wpList_store_cell rfl _ _ _ rfl x1.heap.size 1 (.int .i64 view) rfl rfl _ _ HY1.out.out (by kernel_rfl) (by simp [peerA]) rfl (peerA { p with view := view } s1) rfl ?_; intro y2 hg hk; have HY2 : Hid (Bx3 w y2 x1.heap.size (peerA p s) zeroA (peerA { p with view := view } s1)) := HY1.out.put hg hk; have HD2 : Hid (OwnD W.heap.size x1.heap.size y2 p s1) := HD1.out.far hg (Or.inr (Nat.le_refl _)); clear hg hk HY1 HD1 c1)
      | (refine wpList_store_cell rfl _ _ _ rfl x1.heap.size 18 (.slice (some ⟨y2.heap.size, 0, none⟩) 0 0) rfl rfl _ _ (HY2.out.more ((Below.refl _ _).alloc (Nat.le_refl _) (.cells #[] 35))).out (by kernel_rfl) (by simp [peerA]) rfl (peerA { p with view := view } { s1 with votes := .slice (some ⟨y2.heap.size, 0, none⟩) 0 0 }) rfl ?_; intro y3 hg hk; have HY3 : Hid (Bx3 w y3 x1.heap.size (peerA p s) zeroA (peerA { p with view := view } { s1 with votes := .slice (some ⟨y2.heap.size, 0, none⟩) 0 0 })) := (HY2.out.more ((Below.refl _ _).alloc (Nat.le_refl _) _)).put hg hk; have HD3 : Hid (OwnD W.heap.size x1.heap.size y3 p s1) := (HD2.out.below ((Below.refl _ _).alloc (Nat.le_refl _) _)).far hg (Or.inr (Nat.le_refl _)); have HV3 : Hid (y3.ownsRow y2.heap.size 35 4 (.slice (some ⟨y2.heap.size, 0, none⟩) 0 0) 0 []) := World.ownsRow.kept (own_new y2 _ _) hg (Or.inr (fun e => by have e := Option.some.inj e; have := HY2.out.lt; simp at e; omega)); have HL3 : Hid (x1.heap.size < y2.heap.size ∧ y2.heap.size < y3.heap.size) := ⟨HY2.out.lt, Nat.lt_of_lt_of_le (by simp) hg.size⟩; clear hg hk HY2 HD2)
      | (refine wpList_store_cell rfl _ _ _ rfl x1.heap.size 19 (.slice (some ⟨y3.heap.size, 0, none⟩) 0 0) rfl rfl _ _ (HY3.out.more ((Below.refl _ _).alloc (Nat.le_refl _) (.cells #[] 43))).out (by kernel_rfl) (by simp [peerA]) rfl (peerA { p with view := view } { s1 with votes := .slice (some ⟨y2.heap.size, 0, none⟩) 0 0, news := .slice (some ⟨y3.heap.size, 0, none⟩) 0 0 }) rfl ?_; intro y4 hg hk; have HY4 : Hid (Bx3 w y4 x1.heap.size (peerA p s) zeroA (peerA { p with view := view } { s1 with votes := .slice (some ⟨y2.heap.size, 0, none⟩) 0 0, news := .slice (some ⟨y3.heap.size, 0, none⟩) 0 0 })) := (HY3.out.more ((Below.refl _ _).alloc (Nat.le_refl _) _)).put hg hk; have HD4 : Hid (OwnD W.heap.size x1.heap.size y4 p s1) := (HD3.out.below ((Below.refl _ _).alloc (Nat.le_refl _) _)).far hg (Or.inr (Nat.le_refl _)); have HV4 : Hid (y4.ownsRow y2.heap.size 35 4 (.slice (some ⟨y2.heap.size, 0, none⟩) 0 0) 0 []) := World.ownsRow.kept (HV3.out.alloc _) hg (Or.inr (fun e => by have e := Option.some.inj e; have := HL3.out; simp at e; omega)); have HN4 : Hid (y4.ownsRow y3.heap.size 43 13 (.slice (some ⟨y3.heap.size, 0, none⟩) 0 0) 0 []) := World.ownsRow.kept (own_new y3 _ _) hg (Or.inr (fun e => by have e := Option.some.inj e; have := HL3.out; simp at e; omega)); have HL4 : Hid (y3.heap.size < y4.heap.size) := Nat.lt_of_lt_of_le (by simp) hg.size; have HF4 : Hid (OwnD W.heap.size y4.heap.size y4 { p with view := view, votes := [], news := [] } { s1 with votes := .slice (some ⟨y2.heap.size, 0, none⟩) 0 0, news := .slice (some ⟨y3.heap.size, 0, none⟩) 0 0 }) := OwnD.setNews (l := []) (OwnD.setVotes (l := []) (hi' := y3.heap.size) (HD4.out.other (q := { p with view := view }) rfl rfl rfl rfl rfl rfl) (by have := HL3.out; omega) (by have := HL4.out; omega) (own_base HV4.out (by have := HB1.out.size; have := HL3.out; omega)) (fun g e => by cases e; exact HL3.out.2) (fun g e => by cases e; exact Or.inr (Nat.le_of_lt HL3.out.1))) (by have := HL4.out; omega) (Nat.le_refl _) (own_base HN4.out (by have := HB1.out.size; have := HL3.out; omega)) (fun g e => by cases e; exact HL4.out) (fun g e => by cases e; exact Or.inr (Nat.le_refl _)); clear hg hk HY3 HD3 HV3)
      | (refine wpList_load_row rfl _ _ rfl x1.heap.size rfl 41 _ (0, 0) _ HY4.out.out Try.underlying41 rfl (by kernel_rfl) ?_)
      | (refine wpList_store_blk rfl _ _ _ rfl (w.heap.size + 1) (peerA { p with view := view, votes := [], news := [] } { s1 with votes := .slice (some ⟨y2.heap.size, 0, none⟩) 0 0, news := .slice (some ⟨y3.heap.size, 0, none⟩) 0 0 }) rfl rfl 41 zeroA HY4.out.zero (by kernel_rfl) rfl (peerA_one HF4.out.1) ?_; intro z hg hk hz; have HBz : Hid (Below w.heap.size w z) := HY4.out.below.grown hg HY4.out.below.size (fun k hk => by cases hk; omega); have HKz : Hid (z.heap[w.heap.size + 1]? = Option.some (.cells (peerA { p with view := view, votes := [], news := [] } { s1 with votes := .slice (some ⟨y2.heap.size, 0, none⟩) 0 0, news := .slice (some ⟨y3.heap.size, 0, none⟩) 0 0 }) 41 (0, 0))) := hk; have HFz : Hid (OwnD W.heap.size y4.heap.size z { p with view := view, votes := [], news := [] } { s1 with votes := .slice (some ⟨y2.heap.size, 0, none⟩) 0 0, news := .slice (some ⟨y3.heap.size, 0, none⟩) 0 0 }) := HF4.out.far hg (Or.inl (by have := HWS.out; omega)); have HSz : Hid (y4.heap.size ≤ z.heap.size) := hg.size; clear hg hk hz HY4 HF4))
    refine bodyPost_ret (v := .agg (peerA { p with view := view, votes := [], news := [] } { s1 with votes := .slice (some ⟨y2.heap.size, 0, none⟩) 0 0, news := .slice (some ⟨y3.heap.size, 0, none⟩) 0 0 })) (results_cell_row Try.results25 _ _ (w.heap.size + 1) 41 _ (0, 0) _ rfl HKz.out Try.underlying41 rfl (by kernel_rfl)) rfl ?_
    rw [HE.out]
    exact ⟨_, rfl, (HFz.out.wide HSz.out (Nat.le_refl _)).low HC.out.1.size, HBz.out⟩
  · have HE : Hid (enterP p view = p) := (by unfold enterP; rw [if_neg hin] : enterP p view = p)
    by_cases h1 : p.view < view
    · have h2 : ¬ view ≤ 900 := fun h => hin ⟨h1, h⟩
      clear hin
      go_wp2_with (first
        | (refine wpList_store_blk rfl _ _ _ rfl x1.heap.size (peerA p s1) rfl rfl 41 zeroA (heap_alloc_new x1 _) (by kernel_rfl) rfl (peerA_one HO1.out.1) ?_; intro y1 hg hk hz; have hb1 : Below x1.heap.size x1 y1 := made_below hg; have HY1 : Hid (Bx3 w y1 x1.heap.size (peerA p s) zeroA (peerA p s1)) := ⟨bt HC.out.1 (bt HB1.out hb1), (hb1.block _ (by have := HB1.out.size; have := HWS.out; omega)).trans ((HB1.out.block _ (by have := HWS.out; omega)).trans HC.out.2.1), (hb1.block _ (by have := HB1.out.size; have := HWS.out; omega)).trans ((HB1.out.block _ (by have := HWS.out; omega)).trans HC.out.2.2), hk, (by have := HB1.out.size; have := HWS.out; omega)⟩; have HD1 : Hid (OwnD W.heap.size x1.heap.size y1 p s1) := HO1.out.below hb1; clear hg hk hz hb1 HO1; have c1 := blk_cell HY1.out.box 1 (.int .i64 p.view) rfl)
        | (refine wpList_load_row rfl _ _ rfl x1.heap.size rfl 41 _ (0, 0) _ HY1.out.out Try.underlying41 rfl (by kernel_rfl) ?_)
        | (refine wpList_store_blk rfl _ _ _ rfl (w.heap.size + 1) (peerA p s1) rfl rfl 41 zeroA HY1.out.zero (by kernel_rfl) rfl (peerA_one HD1.out.1) ?_; intro z hg hk hz; have HBz : Hid (Below w.heap.size w z) := HY1.out.below.grown hg HY1.out.below.size (fun k hk => by cases hk; omega); have HKz : Hid (z.heap[w.heap.size + 1]? = Option.some (.cells (peerA p s1) 41 (0, 0))) := hk; have HFz : Hid (OwnD W.heap.size x1.heap.size z p s1) := HD1.out.far hg (Or.inl (by have := HWS.out; omega)); have HSz : Hid (x1.heap.size ≤ z.heap.size) := Nat.le_trans (Nat.le_of_lt HY1.out.lt) hg.size; clear hg hk hz HY1 HD1))
      refine bodyPost_ret (v := .agg (peerA p s1)) (results_cell_row Try.results25 _ _ (w.heap.size + 1) 41 _ (0, 0) _ rfl HKz.out Try.underlying41 rfl (by kernel_rfl)) rfl ?_
      rw [HE.out]
      exact ⟨_, rfl, (HFz.out.wide HSz.out (Nat.le_refl _)).low HC.out.1.size, HBz.out⟩
    · clear hin
      go_wp2_with (first
        | (refine wpList_store_blk rfl _ _ _ rfl x1.heap.size (peerA p s1) rfl rfl 41 zeroA (heap_alloc_new x1 _) (by kernel_rfl) rfl (peerA_one HO1.out.1) ?_; intro y1 hg hk hz; have hb1 : Below x1.heap.size x1 y1 := made_below hg; have HY1 : Hid (Bx3 w y1 x1.heap.size (peerA p s) zeroA (peerA p s1)) := ⟨bt HC.out.1 (bt HB1.out hb1), (hb1.block _ (by have := HB1.out.size; have := HWS.out; omega)).trans ((HB1.out.block _ (by have := HWS.out; omega)).trans HC.out.2.1), (hb1.block _ (by have := HB1.out.size; have := HWS.out; omega)).trans ((HB1.out.block _ (by have := HWS.out; omega)).trans HC.out.2.2), hk, (by have := HB1.out.size; have := HWS.out; omega)⟩; have HD1 : Hid (OwnD W.heap.size x1.heap.size y1 p s1) := HO1.out.below hb1; clear hg hk hz hb1 HO1; have c1 := blk_cell HY1.out.box 1 (.int .i64 p.view) rfl)
        | (refine wpList_load_row rfl _ _ rfl x1.heap.size rfl 41 _ (0, 0) _ HY1.out.out Try.underlying41 rfl (by kernel_rfl) ?_)
        | (refine wpList_store_blk rfl _ _ _ rfl (w.heap.size + 1) (peerA p s1) rfl rfl 41 zeroA HY1.out.zero (by kernel_rfl) rfl (peerA_one HD1.out.1) ?_; intro z hg hk hz; have HBz : Hid (Below w.heap.size w z) := HY1.out.below.grown hg HY1.out.below.size (fun k hk => by cases hk; omega); have HKz : Hid (z.heap[w.heap.size + 1]? = Option.some (.cells (peerA p s1) 41 (0, 0))) := hk; have HFz : Hid (OwnD W.heap.size x1.heap.size z p s1) := HD1.out.far hg (Or.inl (by have := HWS.out; omega)); have HSz : Hid (x1.heap.size ≤ z.heap.size) := Nat.le_trans (Nat.le_of_lt HY1.out.lt) hg.size; clear hg hk hz HY1 HD1))
      refine bodyPost_ret (v := .agg (peerA p s1)) (results_cell_row Try.results25 _ _ (w.heap.size + 1) 41 _ (0, 0) _ rfl HKz.out Try.underlying41 rfl (by kernel_rfl)) rfl ?_
      rw [HE.out]
      exact ⟨_, rfl, (HFz.out.wide HSz.out (Nat.le_refl _)).low HC.out.1.size, HBz.out⟩

end Go.Proofs.Ytjieklilojmifat
