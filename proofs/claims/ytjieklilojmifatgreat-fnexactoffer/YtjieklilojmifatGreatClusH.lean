/-
  Who lies, who does not: the contracts of the specification's Lies and l15Honest.
-/
import Derived.Test.YtjieklilojmifatGreatClusO
import Derived.Test.YtjieklilojmifatGreatQcS
namespace Go.Proofs.YtjieklilojmifatGreat
open Go.RowKit Num

theorem bitC_neq (x : Int) (k : Nat) : ((x / 2 ^ k).tmod 2 != 0) = decide (bitT x k ≠ 0) := by
  by_cases h : bitT x k = 0
  · rw [(shr_odd x k).2 h, h]; rfl
  · have h2 : ¬ (x / 2 ^ k).tmod 2 = 0 := fun e => h ((shr_odd x k).1 e)
    rw [decide_eq_true h]; simpa using h2
/-- one of 0 .. n - 1 (below seven) whose bit is set -/
def liesB (c : CU) (i : Int) : Bool := inB i 0 (wrap64 (c.n - 1)) && (decide (i < 7) && decide (bitT c.liars i.toNat ≠ 0))
/-- one that is there, and does not lie -/
def honestB (c : CU) (i : Int) : Bool := inB i 0 ((c.peers.length : Int) - 1) && (inB i 0 (wrap64 (c.n - 1)) && !liesB c i)

set_option maxRecDepth 100000 in
set_option maxHeartbeats 400000 in
theorem lies_s (c : CU) (s : CW) (i : Int) (w : World) :
    Calls Tryz.prog 109 #[clusV c s, .int .i64 i] w fun e w' => e = .returned (.bool (liesB c i)) ∧ Below w.heap.size w w' := by
  obtain ⟨W, hW⟩ : ∃ W, W = w.alloc (.cells (clusA c s) 39) := ⟨_, rfl⟩
  have HB : Hid (Below w.heap.size w W) := (by rw [hW]; exact ba (Below.refl _ _) _ : Below w.heap.size w W)
  have HK : Hid (W.heap[w.heap.size]? = some (.cells (clusA c s) 39 (0, 0))) := (by rw [hW]; exact heap_alloc_new w _ : W.heap[w.heap.size]? = _)
  go_enter Tryz.func109, Tryz.ntmps109
  have c0 := blk_cell HK.out 0 (.int .i64 c.n) rfl
  rw [hW] at c0
  go_wp2_with fail
  rw [← hW]
  clear hW c0
  refine (in_any i 0 (wrap64 (c.n - 1)) W).mono ?_
  rintro e w1 ⟨rfl, hw⟩
  obtain rfl := hw.symm
  clear hw
  have c2 := blk_cell HK.out 2 (.int .i64 c.liars) rfl
  cases hi : inB i 0 (wrap64 (c.n - 1)) with
  | false =>
    have HE : Hid (liesB c i = false) := (by unfold liesB; rw [hi]; rfl : liesB c i = false)
    go_wp2
    go_ret
    exact ⟨ret_bool HE.out.symm, HB.out⟩
  | true =>
    have h0 : 0 ≤ i := by unfold inB at hi; simp at hi; exact hi.1
    by_cases h7 : i < 7
    · obtain ⟨j, hj⟩ : ∃ j : Nat, i = (j : Int) := ⟨i.toNat, by omega⟩
      subst hj
      have HE : Hid (liesB c (j : Int) = decide (bitT c.liars j ≠ 0)) := (by unfold liesB; rw [hi, decide_eq_true h7]; simp : liesB c (j : Int) = _)
      have hj7 : (j : Int) < 7 := h7
      clear hi h7
      go_wp2
      go_ret
      exact ⟨ret_bool (by rw [HE.out, bitC_neq]), HB.out⟩
    · have HE : Hid (liesB c i = false) := (by unfold liesB; rw [hi, decide_eq_false h7]; rfl : liesB c i = false)
      go_wp2
      go_ret
      exact ⟨ret_bool HE.out.symm, HB.out⟩
theorem lies_con : ConB 109 liesB := fun c s _ _ k w _ _ _ _ _ => lies_s c s k w
set_option maxRecDepth 100000 in
set_option maxHeartbeats 400000 in
theorem honest_s (c : CU) (s : CW) (i : Int) (w : World) (hR : ClusR w c s) (hk : (c.peers.length : Int) ≤ 1048576) :
    Calls Tryz.prog 75 #[clusV c s, .int .i64 i] w fun e w' => e = .returned (.bool (honestB c i)) ∧ Below w.heap.size w w' := by
  obtain ⟨ap, cp, ep, -⟩ := hR.peers.row
  have hpl : s.peers.length = c.peers.length := by rw [← hR.epeers, pes_len]
  rw [hpl] at ep
  clear hR hpl
  obtain ⟨W, hW⟩ : ∃ W, W = w.alloc (.cells (clusA c s) 39) := ⟨_, rfl⟩
  have HB : Hid (Below w.heap.size w W) := (by rw [hW]; exact ba (Below.refl _ _) _ : Below w.heap.size w W)
  have HK : Hid (W.heap[w.heap.size]? = some (.cells (clusA c s) 39 (0, 0))) := (by rw [hW]; exact heap_alloc_new w _ : W.heap[w.heap.size]? = _)
  go_enter Tryz.func75, Tryz.ntmps75
  have c0 := blk_cell HK.out 4 (.slice ap c.peers.length cp) (by rw [← ep]; rfl)
  rw [hW] at c0
  go_wp2_with fail
  rw [← hW]
  clear hW c0
  refine (in_any i 0 ((c.peers.length : Int) - 1) W).mono ?_
  rintro e w1 ⟨rfl, hw⟩
  obtain rfl := hw.symm
  clear hw
  have c2 := blk_cell HK.out 0 (.int .i64 c.n) rfl
  cases hi : inB i 0 ((c.peers.length : Int) - 1) with
  | false =>
    have HE : Hid (honestB c i = false) := (by unfold honestB; rw [hi]; rfl : honestB c i = false)
    go_wp2
    go_ret
    exact ⟨ret_bool HE.out.symm, HB.out⟩
  | true =>
    go_wp2_with fail
    refine (in_any i 0 (wrap64 (c.n - 1)) W).mono ?_
    rintro e w1 ⟨rfl, hw⟩
    obtain rfl := hw.symm
    clear hw
    cases hj : inB i 0 (wrap64 (c.n - 1)) with
    | false =>
      have HE : Hid (honestB c i = false) := (by unfold honestB; rw [hi, hj]; rfl : honestB c i = false)
      go_wp2
      go_ret
      exact ⟨ret_bool HE.out.symm, HB.out⟩
    | true =>
      have HE : Hid (honestB c i = !liesB c i) := (by unfold honestB; rw [hi, hj]; rfl : honestB c i = _)
      clear c2
      go_wp2_with (refine wpList_load_row_w (by first | rfl | simp [Region.wanted, yielded]) _ _ rfl w.heap.size rfl 39 _ (0, 0) _ HK.out Tryz.underlying39 rfl (by kernel_rfl) ?_)
      refine (lies_s c s i W).mono ?_
      rintro e w1 ⟨rfl, hb⟩
      have HB1 : Hid (Below w.heap.size w w1) := bt HB.out hb
      clear hb
      obtain ⟨b, hbb⟩ : ∃ b, b = liesB c i := ⟨_, rfl⟩
      rw [← hbb] at HE ⊢
      clear hbb
      go_wp2
      go_ret
      exact ⟨ret_bool HE.out.symm, HB1.out⟩

end Go.Proofs.YtjieklilojmifatGreat
