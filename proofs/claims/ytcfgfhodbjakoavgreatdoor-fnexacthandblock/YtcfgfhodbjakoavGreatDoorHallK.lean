/-
  One thing is done to a cluster under a mutex by a closure of two boxes that writes a number into the first one: the contracts of the program's do and stepped. (Made by ghk16.py.)
-/
import Derived.Test.YtcfgfhodbjakoavGreatDoorStepI
namespace Go.Proofs.YtcfgfhodbjakoavGreatDoor
open Go.RowKit Num

/-- a hall, and a number's box beside it: what became of them -/
structure InK (K : Nat) (v : Int) (N lo : Nat) (w w' : World) (st : Int) (c : CU) (s : CW) : Prop where
  box : HallAt w' N st c s
  own : OwnC lo w'.heap.size w' c s
  num : w'.heap[K]? = some (.cells #[.int .i64 v] 3 (0, 0))
  fr : FrS (fun k => (k = N ∨ lo ≤ k) ∨ k = K) w w'
set_option maxRecDepth 100000 in
set_option maxHeartbeats 4000000 in
theorem doK_i (F : FuncId) (hent : ∀ (args : Array Value) (w : World), (callFunc F args).run Tryz.prog w = .ok (.enter F args) w) (bx by' : Value) (K : Nat) (v : Int) (c c' : CU) (s : CW) (b : Bool) (N lo hi : Nat) (w : World) (hKN : K ≠ N) (hbox : HallAt w N 0 c s) (hown : OwnC lo hi w c s)
    (hcall : ∀ w1, HallAt w1 N 1 c s → OwnC lo hi w1 c s → FrS (fun k => k = N) w w1 → Calls Tryz.prog F #[.pointer (some ⟨N, 2, none⟩), bx, by'] w1 fun e w' => e = .returned (.bool b) ∧ ∃ s', InK K v N lo w1 w' 1 c' s') :
    Calls Tryz.prog 119 #[.pointer (some ⟨N, 0, none⟩), .func (.func F) #[] #[bx, by']] w fun e w' => e = .returned (.bool b) ∧ ∃ s', InK K v N lo w w' 0 c' s' := by
  have c0 : w.cell? ⟨N, 0, none⟩ = some (.int .i32 0) := blk_cell hbox 0 _ rfl
  have f0 : w.frozen? ⟨N, 0, none⟩ = false := frozen_of_row w N 0 _ _ hbox
  obtain ⟨b1, g1⟩ := cell_set (t := 1) hbox
  have HC : Hid (∀ w1, HallAt w1 N 1 c s → OwnC lo hi w1 c s → FrS (fun k => k = N) w w1 → Calls Tryz.prog F #[.pointer (some ⟨N, 2, none⟩), bx, by'] w1 fun e w' => e = .returned (.bool b) ∧ ∃ s', InK K v N lo w1 w' 1 c' s') := hcall
  obtain ⟨w1, hw1⟩ : ∃ w1, w1 = w.setCell ⟨N, 0, none⟩ (.int .i32 1) := ⟨_, rfl⟩
  rw [← hw1] at b1 g1
  have HW : Hid (HallAt w1 N 1 c s ∧ OwnC lo hi w1 c s ∧ FrS (fun k => k = N) w w1) := ⟨b1, hown.hallT hbox g1, FrS.of_grown g1 (fun k e => by cases e; rfl)⟩
  have HKN : Hid (K ≠ N) := hKN
  clear hcall hbox hown b1 g1 hKN
  go_enter_defers Tryz.func119, Tryz.ntmps119
  go_wp2_with (go_at_call 147; refine (Go.MuLone.lock_free muLib ⟨N, 0, none⟩ _ c0 f0).mono ?_; rintro e w' ⟨rfl, rfl⟩; rw [← hw1]; clear hw1 c0 f0)
  refine (HC.out w1 HW.out.1 HW.out.2.1 HW.out.2.2).mono ?_
  rintro e w2 ⟨rfl, s', hin⟩
  have HI := hid hin
  clear hin
  go_wp2
  refine leaves_cons (f := 148) (args := #[.pointer (some ⟨N, 0, none⟩)]) (by simp) (by simp [go_sem]) ?_
  refine (Go.MuLone.unlock_deferred muLib ⟨N, 0, none⟩ .returning _ (blk_cell HI.out.box 0 _ rfl) (frozen_of_row w2 N 0 _ _ HI.out.box)).mono ?_
  rintro e u' w3 ⟨rfl, rfl, rfl⟩
  obtain ⟨b3, g3⟩ := cell_set (t := 0) HI.out.box
  exact ⟨_, results_tmp rfl _ _ _, rfl, s', b3, (HI.out.own.hallT HI.out.box g3).wide g3.size (Nat.le_refl _), (g3.block K (Array.getElem?_eq_some_iff.1 HI.out.num).1 (fun e => HKN.out (Option.some.inj e))).trans HI.out.num, ((HW.out.2.2.mono (fun k hk => Or.inl (Or.inl hk))).trans HI.out.fr).trans (FrS.of_grown g3 (fun k e => by cases e; exact Or.inl (Or.inl rfl)))⟩

/-- what a step asks of the hall that it is done in, and what becomes of that and of a number's box -/
def StepK (F : FuncId) (bx by' : Value) (K : Nat) (v : Int) (w : World) (c c' : CU) (b : Bool) : Prop := ∀ (w1 : World) (N lo hi : Nat) (s1 : CW), Below w.heap.size w w1 → HallAt w1 N 1 c s1 → OwnC lo hi w1 c s1 → w.heap.size ≤ lo → lo ≤ hi → w.heap.size ≤ N → Calls Tryz.prog F #[.pointer (some ⟨N, 2, none⟩), bx, by'] w1 fun e w' => e = .returned (.bool b) ∧ ∃ s', InK K v N lo w1 w' 1 c' s'
/-- what lies below n, but for one block, is as it was -/
structure BelowBut (n K : Nat) (w w' : World) : Prop where
  os : w'.os = w.os
  tape : w'.tape = w.tape
  output : w'.output = w.output
  size : n ≤ w'.heap.size
  block : ∀ k, k < n → k ≠ K → w'.heap[k]? = w.heap[k]?
theorem BelowBut.of_below {n K : Nat} {w w' : World} (hn : n ≤ w.heap.size) (h : Below n w w') : BelowBut n K w w' := ⟨h.os, h.tape, h.output, Nat.le_trans hn h.size, fun k hk _ => h.block k hk⟩
theorem BelowBut.frs {n K : Nat} {B : Nat → Prop} {w y z : World} (h : BelowBut n K w y) (hf : FrS B y z) (hn : n ≤ y.heap.size) (hB : ∀ k, B k → n ≤ k ∨ k = K) : BelowBut n K w z :=
  ⟨hf.os.trans h.os, hf.tape.trans h.tape, hf.output.trans h.output, Nat.le_trans hn hf.size, fun k hk hne => (hf.block k (by omega) (fun hb => by rcases hB k hb with h1 | h1 <;> omega)).trans (h.block k hk hne)⟩
theorem BelowBut.grown {n K b : Nat} {w y z : World} (h : BelowBut n K w y) (hg : y.grownBy z (some b)) (hn : n ≤ y.heap.size) (hb : n ≤ b) : BelowBut n K w z :=
  h.frs (FrS.of_grown hg (fun k e => by cases e; exact rfl) : FrS (fun k => k = b) y z) hn (fun k e => Or.inl (by rw [e]; exact hb))
set_option maxRecDepth 100000 in
set_option maxHeartbeats 8000000 in
theorem steppedK_i (F : FuncId) (hent : ∀ (args : Array Value) (w : World), (callFunc F args).run Tryz.prog w = .ok (.enter F args) w) (bx by' : Value) (K : Nat) (v : Int) (c c' : CU) (s : CW) (b : Bool) (lo hi : Nat) (w : World) (hO : OwnC lo hi w c s) (hk : okC c) (hKw : K < w.heap.size) (hstep : StepK F bx by' K v w c c' b) :
    Calls Tryz.prog 81 #[clusV c s, .func (.func F) #[] #[bx, by']] w fun e w' => ∃ s', e = .returned (.tuple #[clusV c' s', .bool b]) ∧ OwnC w.heap.size w'.heap.size w' c' s' ∧ BelowBut w.heap.size K w w' ∧ w'.heap[K]? = some (.cells #[.int .i64 v] 3 (0, 0)) := by
  have HO := hid hO
  have HK := hid hk
  have HST := hid hstep
  have HEN := hid hent
  have HKW : Hid (K < w.heap.size) := hKw
  clear hO hk hstep hent hKw
  obtain ⟨W, hW⟩ : ∃ W, W = (w.alloc (.cells (clusA c s) 43)).alloc (.cells zeroC 43) := ⟨_, rfl⟩
  have HC : Hid (Below w.heap.size w W ∧ W.heap[w.heap.size]? = some (.cells (clusA c s) 43 (0, 0)) ∧ W.heap[w.heap.size + 1]? = some (.cells zeroC 43 (0, 0))) := by
    rw [hW]; exact ⟨ba (ba (Below.refl _ _) _) _, alloc2 w _ _⟩
  have HCW : Hid (w.heap.size + 1 < W.heap.size) := (Array.getElem?_eq_some_iff.1 HC.out.2.2).1
  unfold zeroC at hW
  go_enter Tryz.func81, Tryz.ntmps81
  go_wp2_with (rw [← hW]; clear hW; refine wpList_load_row rfl _ _ rfl w.heap.size rfl 43 _ (0, 0) _ HC.out.2.1 Tryz.underlying43 rfl (by kernel_rfl) ?_)
  refine (copyC_i c s W (HO.out.below HC.out.1).reads (HO.out.below HC.out.1).tree.read HK.out).mono ?_
  rintro e x1 ⟨s1, rfl, ho, hb⟩
  have HX1 : Hid (Below w.heap.size w x1 ∧ x1.heap[w.heap.size + 1]? = some (.cells zeroC 43 (0, 0)) ∧ W.heap.size ≤ x1.heap.size) := ⟨bt HC.out.1 hb, (hb.block _ (Array.getElem?_eq_some_iff.1 HC.out.2.2).1).trans HC.out.2.2, hb.size⟩
  have HO1 : Hid (OwnC W.heap.size x1.heap.size x1 c s1) := ho
  have HONE : Hid ((hallA 0 c s1).all (·.oneCell') = true) := (by have := clusA_one ho; simp only [clusA, List.all_toArray, List.all_cons, List.all_nil, Bool.and_eq_true] at this; simp only [hallA, List.all_toArray, List.all_cons, List.all_nil, Bool.and_eq_true]; exact ⟨rfl, rfl, this⟩ : (hallA 0 c s1).all (·.oneCell') = true)
  clear ho hb HC HO
  unfold clusV clusA
  go_wp2_with (refine wpList_store_blk rfl _ _ _ rfl x1.heap.size (hallA 0 c s1) rfl rfl 191 _ (heap_alloc_new x1 _) (by kernel_rfl) rfl HONE.out ?_; intro y1 hg hk hz; have hb1 : Below x1.heap.size x1 y1 := made_below hg; have HY1 : Hid (Below w.heap.size w y1 ∧ y1.heap[w.heap.size + 1]? = some (.cells zeroC 43 (0, 0)) ∧ HallAt y1 x1.heap.size 0 c s1 ∧ OwnC W.heap.size x1.heap.size y1 c s1 ∧ x1.heap.size < y1.heap.size) := ⟨bt HX1.out.1 hb1, (hb1.block _ (Array.getElem?_eq_some_iff.1 HX1.out.2.1).1).trans HX1.out.2.1, hk, HO1.out.below hb1, (Array.getElem?_eq_some_iff.1 hk).1⟩; clear hg hk hz hb1 HO1 HONE)
  refine (doK_i F HEN.out bx by' K v c c' s1 b x1.heap.size W.heap.size x1.heap.size y1 (by have := HKW.out; have := HX1.out.1.size; omega) HY1.out.2.2.1 HY1.out.2.2.2.1 (fun w1 h1 h2 h3 => HST.out w1 x1.heap.size W.heap.size x1.heap.size s1 (frs_below HY1.out.1 h3 HY1.out.1.size (fun k e => by have := HX1.out.1.size; omega)) h1 h2 (by have := HCW.out; omega) HX1.out.2.2 HX1.out.1.size)).mono ?_
  rintro e y2 ⟨rfl, s2, hin⟩
  have HY2 : Hid (HallAt y2 x1.heap.size 0 c' s2 ∧ OwnC W.heap.size y2.heap.size y2 c' s2 ∧ y2.heap[w.heap.size + 1]? = some (.cells zeroC 43 (0, 0)) ∧ BelowBut w.heap.size K w y2 ∧ y2.heap[K]? = some (.cells #[.int .i64 v] 3 (0, 0)) ∧ w.heap.size ≤ y2.heap.size) := ⟨hin.box, hin.own, (hin.fr.block _ (Array.getElem?_eq_some_iff.1 HY1.out.2.1).1 (fun e => by have := HCW.out; have := HX1.out.2.2; have := HKW.out; omega)).trans HY1.out.2.1, (BelowBut.of_below (Nat.le_refl _) HY1.out.1).frs hin.fr HY1.out.1.size (fun k e => by have := HX1.out.1.size; have := HCW.out; omega), hin.num, by have := hin.fr.size; have := HY1.out.1.size; omega⟩
  clear hin HY1 HST
  go_wp2_with fail
  refine (leave_i c' s2 x1.heap.size W.heap.size y2.heap.size y2 HY2.out.1 HY2.out.2.1).mono ?_
  rintro e y3 ⟨rfl, ho, hf⟩
  have HY3 : Hid (OwnC W.heap.size y3.heap.size y3 c' s2 ∧ y3.heap[w.heap.size + 1]? = some (.cells zeroC 43 (0, 0)) ∧ BelowBut w.heap.size K w y3 ∧ y3.heap[K]? = some (.cells #[.int .i64 v] 3 (0, 0)) ∧ w.heap.size ≤ y3.heap.size) := ⟨ho.wide hf.size (Nat.le_refl _), (hf.block _ (Array.getElem?_eq_some_iff.1 HY2.out.2.2.1).1 (fun e => by have := HCW.out; have := HX1.out.2.2; omega)).trans HY2.out.2.2.1, HY2.out.2.2.2.1.frs hf HY2.out.2.2.2.2.2 (fun k e => by have := HX1.out.1.size; omega), (hf.block _ (Array.getElem?_eq_some_iff.1 HY2.out.2.2.2.2.1).1 (fun e => by have := HKW.out; have := HX1.out.1.size; omega)).trans HY2.out.2.2.2.2.1, Nat.le_trans HY2.out.2.2.2.2.2 hf.size⟩
  clear ho hf HY2
  go_wp2_with (refine wpList_store_blk rfl _ _ _ rfl (w.heap.size + 1) (clusA c' s2) rfl rfl 43 zeroC HY3.out.2.1 (by kernel_rfl) rfl (clusA_one HY3.out.1) ?_; intro z hg hk hz; have HBz : Hid (BelowBut w.heap.size K w z ∧ z.heap[w.heap.size + 1]? = some (.cells (clusA c' s2) 43 (0, 0)) ∧ OwnC w.heap.size z.heap.size z c' s2 ∧ z.heap[K]? = some (.cells #[.int .i64 v] 3 (0, 0))) := ⟨HY3.out.2.2.1.grown hg HY3.out.2.2.2.2 (by omega), hk, ((HY3.out.1.boxT HY3.out.2.1 hg).low (by have := HCW.out; omega)).wide hg.size (Nat.le_refl _), (hg.block K (Array.getElem?_eq_some_iff.1 HY3.out.2.2.2.1).1 (fun e => by have := Option.some.inj e; have := HKW.out; omega)).trans HY3.out.2.2.2.1⟩; clear hg hk hz)
  refine bodyPost_ret (v := .tuple #[.agg (clusA c' s2), .bool b]) (results_ct Tryz.results81 _ _ (w.heap.size + 1) 43 _ (0, 0) _ _ rfl HBz.out.2.1 Tryz.underlying43 rfl (by kernel_rfl) rfl) rfl ?_
  exact ⟨s2, rfl, HBz.out.2.2.1, HBz.out.1, HBz.out.2.2.2⟩

end Go.Proofs.YtcfgfhodbjakoavGreatDoor
