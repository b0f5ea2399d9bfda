/-
  Whether a replica may vote: the contracts of the program's MayVote and of what it asks.
-/
import Derived.Test.YtnghhfgbobpnkaqSafeS
namespace Go.Proofs.Ytnghhfgbobpnkaq
open Go.RowKit Num

/-- a vote that is asked for, beside the last one -/
def turnA (l : VT) (phase view : Int) : Array Value := #[.int .i64 l.1, .int .i64 l.2.1, .int .i64 l.2.2.1, .int .i64 l.2.2.2, .int .i64 phase, .int .i64 view]

set_option maxRecDepth 100000 in
theorem isView_i (l : VT) (phase view : Int) (w : World) :
    Calls Try.prog 64 #[.agg (turnA l phase view)] w fun e w' => e = .returned (.bool (decide (l.2.1 < view))) ∧ Below w.heap.size w w' := by
  have HK : Hid ((w.alloc (.cells (turnA l phase view) 109)).heap[w.heap.size]? = some (.cells (turnA l phase view) 109 (0, 0))) := heap_alloc_new w _
  have c1 := blk_cell HK.out 1 (.int .i64 l.2.1) rfl
  have c5 := blk_cell HK.out 5 (.int .i64 view) rfl
  go_enter Try.func64, Try.ntmps64
  go_wp2
  go_ret
  exact ⟨rfl, ba (Below.refl _ _) _⟩

set_option maxRecDepth 100000 in
theorem isPhase_i (l : VT) (phase view : Int) (w : World) :
    Calls Try.prog 65 #[.agg (turnA l phase view)] w fun e w' => e = .returned (.bool (decide (l.2.1 = view) && decide (l.1 < phase))) ∧ Below w.heap.size w w' := by
  have HK : Hid ((w.alloc (.cells (turnA l phase view) 109)).heap[w.heap.size]? = some (.cells (turnA l phase view) 109 (0, 0))) := heap_alloc_new w _
  have c0 := blk_cell HK.out 0 (.int .i64 l.1) rfl
  have c1 := blk_cell HK.out 1 (.int .i64 l.2.1) rfl
  have c4 := blk_cell HK.out 4 (.int .i64 phase) rfl
  have c5 := blk_cell HK.out 5 (.int .i64 view) rfl
  by_cases h2 : l.2.1 = view
  · have b2 : (l.2.1 == view) = true := by simpa using h2
    have HR : Hid ((decide (l.2.1 = view) && decide (l.1 < phase)) = decide (l.1 < phase)) := (by rw [decide_eq_true h2]; simp : (decide (l.2.1 = view) && decide (l.1 < phase)) = _)
    clear h2
    go_enter Try.func65, Try.ntmps65
    go_wp2
    go_ret
    exact ⟨ret_bool HR.out.symm, ba (Below.refl _ _) _⟩
  · have b2 : (l.2.1 == view) = false := by simpa using h2
    have HR : Hid ((decide (l.2.1 = view) && decide (l.1 < phase)) = false) := (by rw [decide_eq_false h2]; simp : (decide (l.2.1 = view) && decide (l.1 < phase)) = _)
    go_enter Try.func65, Try.ntmps65
    go_wp2
    go_ret
    exact ⟨ret_bool HR.out.symm, ba (Below.refl _ _) _⟩

set_option maxRecDepth 100000 in
set_option maxHeartbeats 4000000 in
theorem oneTurn_i (l : VT) (phase view : Int) (g cap : Nat) (w : World) (hg : g < w.heap.size)
    (h0 : w.cell? ⟨g, 0, none⟩ = some (.func (.func 64) #[] #[])) (h1 : w.cell? ⟨g, 1, none⟩ = some (.func (.func 65) #[] #[])) :
    Calls Try.prog 63 #[.agg (turnA l phase view), .slice (some ⟨g, 0, none⟩) 2 cap] w fun e w' => e = .returned (.bool (decide (l.2.1 < view) || (decide (l.2.1 = view) && decide (l.1 < phase)))) ∧ Below w.heap.size w w' := by
  have H0 := hid h0
  have H1 := hid h1
  obtain ⟨W, hW⟩ : ∃ W, W = w.alloc (.cells (turnA l phase view) 109) := ⟨_, rfl⟩
  have HW : Hid (Below w.heap.size w W ∧ W.heap[w.heap.size]? = some (.cells (turnA l phase view) 109 (0, 0))) := (by rw [hW]; exact ⟨ba (Below.refl _ _) _, heap_alloc_new w _⟩ : _ ∧ _)
  clear h0 h1
  go_enter Try.func63, Try.ntmps63
  go_wp2
  rw [← hW]
  clear hW
  go_loopw [9] (fun i wr => ∃ k : Nat, k ≤ 2 ∧ i = .int .i64 (k : Int) ∧ Hid (0 < k → decide (l.2.1 < view) = false) ∧ Hid (1 < k → (decide (l.2.1 = view) && decide (l.1 < phase)) = false) ∧ Hid (Below w.heap.size w wr ∧ wr.heap[w.heap.size]? = some (.cells (turnA l phase view) 109 (0, 0)))) (fun i _ => 2 - (intOf i).toNat)
  case atStart => exact ⟨0, by omega, rfl, fun h => absurd h (by omega), fun h => absurd h (by omega), HW.out⟩
  case round =>
    obtain ⟨k, hk, rfl, HA, HB, HC⟩ := hrel
    have hk3 : k = 0 ∨ k = 1 ∨ k = 2 := by omega
    rcases hk3 with rfl | rfl | rfl
    · have cc : wr.cell? ⟨g, 0, none⟩ = some (.func (.func 64) #[] #[]) := by rw [HC.out.1.cell (by exact hg)]; exact H0.out
      go_wp2_with (refine wpList_load_row rfl _ _ rfl w.heap.size rfl 109 _ (0, 0) _ HC.out.2 Try.underlying109 rfl (by kernel_rfl) ?_)
      refine (isView_i l phase view wr).mono ?_
      rintro e w1 ⟨rfl, hb⟩
      have HC1 : Hid (Below w.heap.size w w1 ∧ w1.heap[w.heap.size]? = some (.cells (turnA l phase view) 109 (0, 0))) := ⟨bt HC.out.1 hb, (hb.block _ (Array.getElem?_eq_some_iff.1 HC.out.2).1).trans HC.out.2⟩
      clear hb cc
      by_cases hv : decide (l.2.1 < view) = true
      · have HV := hid hv
        rw [hv]
        clear hv
        go_wp2
        go_ret
        exact ⟨by rw [HV.out]; rfl, HC1.out.1⟩
      · have HV : Hid (decide (l.2.1 < view) = false) := Bool.eq_false_iff.2 hv
        rw [HV.out]
        clear hv
        go_wp2
        go_roundw
        case rel => exact ⟨1, by omega, by go_num, fun _ => HV.out, fun h => absurd h (by omega), HC1.out⟩
        case measure => simp [intOf]
    · have cc : wr.cell? ⟨g, 1, none⟩ = some (.func (.func 65) #[] #[]) := by rw [HC.out.1.cell (by exact hg)]; exact H1.out
      go_wp2_with (refine wpList_load_row rfl _ _ rfl w.heap.size rfl 109 _ (0, 0) _ HC.out.2 Try.underlying109 rfl (by kernel_rfl) ?_)
      refine (isPhase_i l phase view wr).mono ?_
      rintro e w1 ⟨rfl, hb⟩
      have HC1 : Hid (Below w.heap.size w w1 ∧ w1.heap[w.heap.size]? = some (.cells (turnA l phase view) 109 (0, 0))) := ⟨bt HC.out.1 hb, (hb.block _ (Array.getElem?_eq_some_iff.1 HC.out.2).1).trans HC.out.2⟩
      clear hb cc
      have HV0 : Hid (decide (l.2.1 < view) = false) := HA.out (by omega)
      by_cases hv : (decide (l.2.1 = view) && decide (l.1 < phase)) = true
      · have HV := hid hv
        rw [hv]
        clear hv
        go_wp2
        go_ret
        exact ⟨by rw [HV0.out, HV.out]; rfl, HC1.out.1⟩
      · have HV : Hid ((decide (l.2.1 = view) && decide (l.1 < phase)) = false) := Bool.eq_false_iff.2 hv
        rw [HV.out]
        clear hv
        go_wp2
        go_roundw
        case rel => exact ⟨2, by omega, by go_num, fun _ => HV0.out, fun _ => HV.out, HC1.out⟩
        case measure => simp [intOf]
    · have HV0 : Hid (decide (l.2.1 < view) = false) := HA.out (by omega)
      have HV1 : Hid ((decide (l.2.1 = view) && decide (l.1 < phase)) = false) := HB.out (by omega)
      go_wp2
      go_ret
      exact ⟨by rw [HV0.out, HV1.out]; rfl, HC.out.1⟩

set_option maxRecDepth 100000 in
set_option maxHeartbeats 4000000 in
theorem mayVoteR_i (p : PE) (s : PV) (phase view : Int) (w : World) :
    Calls Try.prog 32 #[peerV p s, .int .i64 phase, .int .i64 view] w fun e w' => e = .returned (.bool (mayB p phase view)) ∧ Below w.heap.size w w' := by
  obtain ⟨W, hW⟩ : ∃ W, W = w.alloc (.cells (peerA p s) 63) := ⟨_, rfl⟩
  have HW : Hid (Below w.heap.size w W ∧ W.heap[w.heap.size]? = some (.cells (peerA p s) 63 (0, 0))) := (by rw [hW]; exact ⟨ba (Below.refl _ _) _, heap_alloc_new w _⟩ : _ ∧ _)
  have c10 := blk_cell HW.out.2 10 (.int .i64 p.last.1) rfl
  have c11 := blk_cell HW.out.2 11 (.int .i64 p.last.2.1) rfl
  have c12 := blk_cell HW.out.2 12 (.int .i64 p.last.2.2.1) rfl
  have c13 := blk_cell HW.out.2 13 (.int .i64 p.last.2.2.2) rfl
  go_enter Try.func32, Try.ntmps32
  go_wp2_with (first
    | (refine wpList_store_blk rfl _ _ _ rfl W.heap.size (turnA p.last phase view) rfl rfl 109 _ (heap_alloc_new W _) (by kernel_rfl) rfl (by simp [turnA, Value.oneCell']) ?_; intro y1 hg hk hz; have HY1 : Hid (Below w.heap.size w y1 ∧ y1.heap[W.heap.size]? = Option.some (.cells (turnA p.last phase view) 109 (0, 0))) := ⟨bt HW.out.1 (made_below hg), hk⟩; clear hg hk hz c10 c11 c12 c13)
    | (rw [← hW]; clear hW)
    | (refine wpList_load_row rfl _ _ rfl W.heap.size rfl 109 _ (0, 0) _ HY1.out.2 Try.underlying109 rfl (by kernel_rfl) ?_))
  have HZ : Hid (Below w.heap.size w (y1.alloc (Obj.cells #[Value.func (Fn.func 64) #[] #[], Value.func (Fn.func 65) #[] #[]] 111))) := ba HY1.out.1 _
  refine (oneTurn_i p.last phase view y1.heap.size 2 _ (by simp) (blk_cell (heap_alloc_new y1 _) 0 _ rfl) (blk_cell (heap_alloc_new y1 _) 1 _ rfl)).mono ?_
  rintro e w2 ⟨rfl, hb⟩
  have HB : Hid (Below w.heap.size w w2) := bt HZ.out hb
  clear hb HZ
  go_wp2
  go_ret
  exact ⟨ret_bool rfl, HB.out⟩

end Go.Proofs.Ytnghhfgbobpnkaq
