/-
  One thing done to a copy of a cluster, under a mutex: the contract of the program's stepped.
-/
import Derived.Test.YtcfgfhodbjakoavGreatDoorHallI
import Derived.Test.YtcfgfhodbjakoavGreatDoorCopCI
namespace Go.Proofs.YtcfgfhodbjakoavGreatDoor
open Go.RowKit Num

/-- what a step asks of the hall that it is done in, and what becomes of that -/
def StepOk (F : FuncId) (bx : Value) (w : World) (c c' : CU) (b : Bool) : Prop := ∀ (w1 : World) (N lo hi : Nat) (s1 : CW), Below w.heap.size w w1 → HallAt w1 N 1 c s1 → OwnC lo hi w1 c s1 → w.heap.size ≤ lo → lo ≤ hi → w.heap.size ≤ N → Calls Tryz.prog F #[.pointer (some ⟨N, 2, none⟩), bx] w1 fun e w' => e = .returned (.bool b) ∧ ∃ s', InH N lo w1 w' 1 c' s'
set_option maxRecDepth 100000 in
set_option maxHeartbeats 8000000 in
theorem stepped_i (F : FuncId) (hent : ∀ (args : Array Value) (w : World), (callFunc F args).run Tryz.prog w = .ok (.enter F args) w) (bx : Value) (c c' : CU) (s : CW) (b : Bool) (lo hi : Nat) (w : World) (hO : OwnC lo hi w c s) (hk : okC c) (hstep : StepOk F bx w c c' b) :
    Calls Tryz.prog 81 #[clusV c s, .func (.func F) #[] #[bx]] w fun e w' => ∃ s', e = .returned (.tuple #[clusV c' s', .bool b]) ∧ OwnC w.heap.size w'.heap.size w' c' s' ∧ Below w.heap.size w w' := by
  have HO := hid hO
  have HK := hid hk
  have HST := hid hstep
  have HEN := hid hent
  clear hO hk hstep hent
  obtain ⟨W, hW⟩ : ∃ W, W = (w.alloc (.cells (clusA c s) 43)).alloc (.cells zeroC 43) := ⟨_, rfl⟩
  have HC : Hid (Below w.heap.size w W ∧ W.heap[w.heap.size]? = some (.cells (clusA c s) 43 (0, 0)) ∧ W.heap[w.heap.size + 1]? = some (.cells zeroC 43 (0, 0))) := by
    rw [hW]; exact ⟨ba (ba (Below.refl _ _) _) _, alloc2 w _ _⟩
  have HCW : Hid (w.heap.size + 1 < W.heap.size) := (Array.getElem?_eq_some_iff.1 HC.out.2.2).1
  unfold zeroC at hW
  go_enter Tryz.func81, Tryz.ntmps81
  go_wp2_with (rw [← hW]; clear hW; refine wpList_load_row rfl _ _ rfl w.heap.size rfl 43 _ (0, 0) _ HC.out.2.1 Tryz.underlying43 rfl (by kernel_rfl) ?_)
  refine (copyC_i c s W (HO.out.below HC.out.1).reads (HO.out.below HC.out.1).tree.read HK.out).mono ?_
  rintro e x1 ⟨s1, rfl, ho, hb⟩
  have HX1 : Hid (Below w.heap.size w x1 ∧ x1.heap[w.heap.size + 1]? = some (.cells zeroC 43 (0, 0)) ∧ W.heap.size ≤ x1.heap.size) := ⟨bt HC.out.1 hb, (hb.block _ (Array.getElem?_eq_some_iff.1 HC.out.2.2).1).trans HC.out.2.2, hb.size⟩
  have HO1 : Hid (OwnC W.heap.size x1.heap.size x1 c s1) := ho
  have HONE : Hid ((hallA 0 c s1).all (·.oneCell') = true) := (by have := clusA_one ho; simp only [clusA, List.all_toArray, List.all_cons, List.all_nil, Bool.and_eq_true] at this; simp only [hallA, List.all_toArray, List.all_cons, List.all_nil, Bool.and_eq_true]; exact ⟨rfl, rfl, this⟩ : (hallA 0 c s1).all (·.oneCell') = true)
  clear ho hb HC HO
  unfold clusV clusA
  go_wp2_with (refine wpList_store_blk rfl _ _ _ rfl x1.heap.size (hallA 0 c s1) rfl rfl 191 _ (heap_alloc_new x1 _) (by kernel_rfl) rfl HONE.out ?_; intro y1 hg hk hz; have hb1 : Below x1.heap.size x1 y1 := made_below hg; have HY1 : Hid (Below w.heap.size w y1 ∧ y1.heap[w.heap.size + 1]? = some (.cells zeroC 43 (0, 0)) ∧ HallAt y1 x1.heap.size 0 c s1 ∧ OwnC W.heap.size x1.heap.size y1 c s1 ∧ x1.heap.size < y1.heap.size) := ⟨bt HX1.out.1 hb1, (hb1.block _ (Array.getElem?_eq_some_iff.1 HX1.out.2.1).1).trans HX1.out.2.1, hk, HO1.out.below hb1, (Array.getElem?_eq_some_iff.1 hk).1⟩; clear hg hk hz hb1 HO1 HONE)
  refine (do_i F HEN.out bx c c' s1 b x1.heap.size W.heap.size x1.heap.size y1 HY1.out.2.2.1 HY1.out.2.2.2.1 (fun w1 h1 h2 h3 => HST.out w1 x1.heap.size W.heap.size x1.heap.size s1 (frs_below HY1.out.1 h3 HY1.out.1.size (fun k e => by have := HX1.out.1.size; omega)) h1 h2 (by have := HCW.out; omega) HX1.out.2.2 HX1.out.1.size)).mono ?_
  rintro e y2 ⟨rfl, s2, hin⟩
  have HY2 : Hid (HallAt y2 x1.heap.size 0 c' s2 ∧ OwnC W.heap.size y2.heap.size y2 c' s2 ∧ y2.heap[w.heap.size + 1]? = some (.cells zeroC 43 (0, 0)) ∧ Below w.heap.size w y2) := ⟨hin.box, hin.own, (hin.fr.block _ (Array.getElem?_eq_some_iff.1 HY1.out.2.1).1 (fun e => by have := HCW.out; have := HX1.out.2.2; omega)).trans HY1.out.2.1, frs_below HY1.out.1 hin.fr HY1.out.1.size (fun k e => by have := HX1.out.1.size; have := HCW.out; omega)⟩
  clear hin HY1 HST
  go_wp2_with fail
  refine (leave_i c' s2 x1.heap.size W.heap.size y2.heap.size y2 HY2.out.1 HY2.out.2.1).mono ?_
  rintro e y3 ⟨rfl, ho, hf⟩
  have HY3 : Hid (OwnC W.heap.size y3.heap.size y3 c' s2 ∧ y3.heap[w.heap.size + 1]? = some (.cells zeroC 43 (0, 0)) ∧ Below w.heap.size w y3) := ⟨ho.wide hf.size (Nat.le_refl _), (hf.block _ (Array.getElem?_eq_some_iff.1 HY2.out.2.2.1).1 (fun e => by have := HCW.out; have := HX1.out.2.2; omega)).trans HY2.out.2.2.1, frs_below HY2.out.2.2.2 hf HY2.out.2.2.2.size (fun k e => by have := HX1.out.1.size; omega)⟩
  clear ho hf HY2
  go_wp2_with (refine wpList_store_blk rfl _ _ _ rfl (w.heap.size + 1) (clusA c' s2) rfl rfl 43 zeroC HY3.out.2.1 (by kernel_rfl) rfl (clusA_one HY3.out.1) ?_; intro z hg hk hz; have HBz : Hid (Below w.heap.size w z ∧ z.heap[w.heap.size + 1]? = some (.cells (clusA c' s2) 43 (0, 0)) ∧ OwnC w.heap.size z.heap.size z c' s2) := ⟨HY3.out.2.2.grown hg HY3.out.2.2.size (fun k hk => by cases hk; omega), hk, ((HY3.out.1.boxT HY3.out.2.1 hg).low (by have := HCW.out; omega)).wide hg.size (Nat.le_refl _)⟩; clear hg hk hz)
  refine bodyPost_ret (v := .tuple #[.agg (clusA c' s2), .bool b]) (results_ct Tryz.results81 _ _ (w.heap.size + 1) 43 _ (0, 0) _ _ rfl HBz.out.2.1 Tryz.underlying43 rfl (by kernel_rfl) rfl) rfl ?_
  exact ⟨s2, rfl, HBz.out.2.2, HBz.out.1⟩

end Go.Proofs.YtcfgfhodbjakoavGreatDoor
