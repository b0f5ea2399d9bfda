/-
  What is safe: the contracts of the program's SafeBlock and of what it asks.
-/
import Derived.Test.YtnghhfgbobpnkaqHeightI
import Derived.Test.YtnghhfgbobpnkaqSafeB
import Derived.Test.YtnghhfgbobpnkaqJ0
namespace Go.Proofs.Ytnghhfgbobpnkaq
open Go.RowKit Num

/-- a block that a vote is asked for, beside a lock -/
def propA (v : Value) (q : QC) (k : Int) : Array Value := #[v, .int .i64 q.1, .int .i64 q.2.1, .int .i64 q.2.2.1, .int .i64 q.2.2.2, .int .i64 k]
theorem treeQ_one {w : World} {v : Value} {ps : TL} (h : TreeQ w v ps) : v.oneCell' = true := by
  obtain ⟨a, cap, rfl, -⟩ := h.1
  rfl
theorem placeOk_is {k : Int} {n cap : Nat} {a : Option Addr} {r : Bool} (h : inB k 0 ((n : Int) - 1) = r) (w : World) :
    Calls Try.prog 45 #[.slice a n cap, .int .i64 k] w fun e w' => e = .returned (.bool r) ∧ w' = w := by
  subst h
  by_cases h0 : 0 ≤ k
  · by_cases h1 : k < n
    · have HR : Hid (inB k 0 ((n : Int) - 1) = true) := inB_yes ⟨h0, by omega⟩
      go_enter Try.func45, Try.ntmps45
      go_wp2
      go_ret
      exact ⟨ret_bool HR.out.symm, rfl⟩
    · have HR : Hid (inB k 0 ((n : Int) - 1) = false) := inB_no (by omega)
      go_enter Try.func45, Try.ntmps45
      go_wp2
      go_ret
      exact ⟨ret_bool HR.out.symm, rfl⟩
  · have HR : Hid (inB k 0 ((n : Int) - 1) = false) := inB_no (by omega)
    go_enter Try.func45, Try.ntmps45
    go_wp2
    go_ret
    exact ⟨ret_bool HR.out.symm, rfl⟩

set_option maxRecDepth 100000 in
theorem standsOn_i (ps : TL) (v : Value) (q : QC) (k : Int) (w : World) (hT : TreeQ w v ps) (hl : (ps.length : Int) ≤ 1048576) :
    Calls Try.prog 54 #[.agg (propA v q k)] w fun e w' => e = .returned (.bool (extT (bks ps) k q.2.2.1)) ∧ Below w.heap.size w w' := by
  have HT := hid hT
  obtain ⟨W, hW⟩ : ∃ W, W = w.alloc (.cells (propA v q k) 97) := ⟨_, rfl⟩
  have HW : Hid (Below w.heap.size w W ∧ W.heap[w.heap.size]? = some (.cells (propA v q k) 97 (0, 0))) := (by rw [hW]; exact ⟨ba (Below.refl _ _) _, heap_alloc_new w _⟩ : _ ∧ _)
  obtain ⟨a, cap, rfl, -⟩ := hT.1
  have c0 := blk_cell HW.out.2 0 (.slice a ps.length cap) rfl
  have c3 := blk_cell HW.out.2 3 (.int .i64 q.2.2.1) rfl
  have c5 := blk_cell HW.out.2 5 (.int .i64 k) rfl
  clear hT
  go_enter Try.func54, Try.ntmps54
  go_wp2_with (rw [← hW]; clear hW)
  refine (extends_i ps _ k q.2.2.1 W (HT.out.below HW.out.1) hl).mono ?_
  rintro e w1 ⟨rfl, hb⟩
  have HB : Hid (Below w.heap.size w w1) := bt HW.out.1 hb
  clear hb c0 c3 c5
  go_wp2
  go_ret
  exact ⟨rfl, HB.out⟩

theorem made_below' {y x : World} {o : Obj} (hg : (y.alloc o).grownBy x (some y.heap.size)) : Below y.heap.size y x :=
  ((Below.refl y.heap.size y).alloc (Nat.le_refl _) o).grown hg (by simp) (fun k hk => by cases hk; exact Nat.le_refl _)
/-- whether its Just is of a higher View -/
def aboveB (t : List BK) (lock : QC) (k : Int) : Bool := if 0 ≤ k ∧ k ≤ (t.length : Int) - 1 then decide ((t[k.toNat]?.getD firstB).2.2.2.1 > lock.2.1) else false
theorem safe_or {ps : TL} {q : QC} {k : Int} : safeB (bks ps) q k = (extT (bks ps) k q.2.2.1 || aboveB (bks ps) q k) := by
  unfold safeB aboveB
  by_cases h : 0 ≤ k ∧ k ≤ ((bks ps).length : Int) - 1
  · rw [if_pos h, if_pos h]
  · rw [if_neg h, if_neg h, Bool.or_false]
    exact (extT_none (by unfold down; rw [if_neg (by omega)])).symm

set_option maxRecDepth 100000 in
set_option maxHeartbeats 4000000 in
theorem justAbove_i (ps : TL) (v : Value) (q : QC) (k : Int) (w : World) (hT : TreeQ w v ps) (hl : (ps.length : Int) ≤ 1048576) :
    Calls Try.prog 55 #[.agg (propA v q k)] w fun e w' => e = .returned (.bool (aboveB (bks ps) q k)) ∧ Below w.heap.size w w' := by
  have HT := hid hT
  have HBL : Hid ((bks ps).length = ps.length) := bks_len ps
  obtain ⟨W1, hW1⟩ : ∃ W, W = w.alloc (.cells (propA v q k) 97) := ⟨_, rfl⟩
  have HW : Hid (W1.heap[w.heap.size]? = some (.cells (propA v q k) 97 (0, 0)) ∧ Below w.heap.size w W1) := by
    rw [hW1]; exact ⟨heap_alloc_new w _, ba (Below.refl _ _) _⟩
  have l0 : w.heap.size < W1.heap.size := (Array.getElem?_eq_some_iff.1 HW.out.1).1
  have HX : Hid (∀ w', Below W1.heap.size W1 w' → w'.heap[w.heap.size]? = some (.cells (propA v q k) 97 (0, 0))) := fun w' h' => (h'.block _ l0).trans HW.out.1
  have hne := bw_some W1
  obtain ⟨a, cap, rfl, hr⟩ := treeq_cells hT
  have HR : Hid (0 < ps.length → _) := hr
  have y0 : ∀ x : Bw W1, x.to.cell? ⟨w.heap.size, 0, none⟩ = some (.slice a ps.length cap) := fun x => blk_cell (HX.out _ x.below) 0 _ rfl
  have y2 : ∀ x : Bw W1, x.to.cell? ⟨w.heap.size, 2, none⟩ = some (.int .i64 q.2.1) := fun x => blk_cell (HX.out _ x.below) 2 _ rfl
  have y5 : ∀ x : Bw W1, x.to.cell? ⟨w.heap.size, 5, none⟩ = some (.int .i64 k) := fun x => blk_cell (HX.out _ x.below) 5 _ rfl
  clear hr hT
  by_cases hin : 0 ≤ k ∧ k ≤ (ps.length : Int) - 1
  · have e0 := inB_yes hin
    obtain ⟨j, rfl⟩ : ∃ j : Nat, k = (j : Int) := ⟨k.toNat, by omega⟩
    have hjn : j < ps.length := by omega
    have j0 : (0 : Int) ≤ (j : Int) := by omega
    have j1 : (j : Int) < ps.length := by omega
    have HV : Hid (aboveB (bks ps) q (j : Int) = decide (ps[j].1.2.2.2.1 > q.2.1)) := (by unfold aboveB; rw [if_pos (by rw [HBL.out]; exact hin)]; simp [bks, hjn] : aboveB (bks ps) q (j : Int) = _)
    obtain ⟨g, off, rfl, hg, hc⟩ := HR.out (by omega)
    have HQ : Hid (RowsR w (.slice (some ⟨g, off, none⟩) ps.length cap) 7 blkF ps) := HT.out.1
    have hcell : w.cell? ⟨g, off + j * 7 + 4, none⟩ = some (.int .i64 ps[j].1.2.2.2.1) := by
      obtain ⟨a', c', e', hr'⟩ := HQ.out
      injection e' with e1 _ e3
      subst e1 e3
      obtain ⟨g', o', e4, _, hc'⟩ := hr' (by omega)
      injection e4 with e4
      injection e4 with e5 e6
      subst e5 e6
      exact hc' j hjn 4 (by omega)
    have y7 : ∀ x : Bw W1, x.to.cell? ⟨g, off + j * 7 + 4, none⟩ = some (.int .i64 ps[j].1.2.2.2.1) := fun x => by rw [(bt HW.out.2 x.below).cell (by exact hg)]; exact hcell
    clear hcell hc hg hin
    go_enter Try.func55, Try.ntmps55
    go_wp2
    rw [← hW1]
    clear hW1
    refine wp_region_bw (by kernel_rfl) (by kernel_rfl) ?_
    repeat (go_big_quiet_step (first | (refine calls_bw_same (placeOk_is e0 _))))
    refine wpQuiet_nil ?_
    intro _ hw'
    obtain ⟨x, rfl⟩ := hw'
    go_wp2
    go_ret
    exact ⟨ret_bool (by rw [HV.out]), bt HW.out.2 x.below⟩
  · have e0 := inB_no hin
    have HV : Hid (aboveB (bks ps) q k = false) := (by unfold aboveB; rw [if_neg (by rw [HBL.out]; exact hin)] : aboveB (bks ps) q k = _)
    clear hin
    go_enter Try.func55, Try.ntmps55
    go_wp2
    rw [← hW1]
    clear hW1
    refine wp_region_bw (by kernel_rfl) (by kernel_rfl) ?_
    repeat (go_big_quiet_step (first | (refine calls_bw_same (placeOk_is e0 _))))
    refine wpQuiet_nil ?_
    intro _ hw'
    obtain ⟨x, rfl⟩ := hw'
    go_wp2
    go_ret
    exact ⟨ret_bool HV.out.symm, bt HW.out.2 x.below⟩

set_option maxRecDepth 100000 in
set_option maxHeartbeats 4000000 in
theorem oneProp_i (ps : TL) (v : Value) (q : QC) (k : Int) (hl : (ps.length : Int) ≤ 1048576) (g cap : Nat) (w : World) (hT : TreeQ w v ps) (hg : g < w.heap.size)
    (h0 : w.cell? ⟨g, 0, none⟩ = some (.func (.func 54) #[] #[])) (h1 : w.cell? ⟨g, 1, none⟩ = some (.func (.func 55) #[] #[])) :
    Calls Try.prog 53 #[.agg (propA v q k), .slice (some ⟨g, 0, none⟩) 2 cap] w fun e w' => e = .returned (.bool (extT (bks ps) k q.2.2.1 || aboveB (bks ps) q k)) ∧ Below w.heap.size w w' := by
  have HT := hid hT
  have H0 := hid h0
  have H1 := hid h1
  obtain ⟨W, hW⟩ : ∃ W, W = w.alloc (.cells (propA v q k) 97) := ⟨_, rfl⟩
  have HW : Hid (Below w.heap.size w W ∧ W.heap[w.heap.size]? = some (.cells (propA v q k) 97 (0, 0))) := (by rw [hW]; exact ⟨ba (Below.refl _ _) _, heap_alloc_new w _⟩ : _ ∧ _)
  clear h0 h1 hT
  go_enter Try.func53, Try.ntmps53
  go_wp2
  rw [← hW]
  clear hW
  go_loopw [9] (fun i wr => ∃ m : Nat, m ≤ 2 ∧ i = .int .i64 (m : Int) ∧ Hid (0 < m → extT (bks ps) k q.2.2.1 = false) ∧ Hid (1 < m → aboveB (bks ps) q k = false) ∧ Hid (Below w.heap.size w wr ∧ wr.heap[w.heap.size]? = some (.cells (propA v q k) 97 (0, 0)))) (fun i _ => 2 - (intOf i).toNat)
  case atStart => exact ⟨0, by omega, rfl, fun h => absurd h (by omega), fun h => absurd h (by omega), HW.out⟩
  case round =>
    obtain ⟨m, hm, rfl, HA, HB, HC⟩ := hrel
    have hk3 : m = 0 ∨ m = 1 ∨ m = 2 := by omega
    rcases hk3 with rfl | rfl | rfl
    · have cc : wr.cell? ⟨g, 0, none⟩ = some (.func (.func 54) #[] #[]) := by rw [HC.out.1.cell (by exact hg)]; exact H0.out
      go_wp2_with (refine wpList_load_row rfl _ _ rfl w.heap.size rfl 97 _ (0, 0) _ HC.out.2 Try.underlying97 rfl (by kernel_rfl) ?_)
      refine (standsOn_i ps v q k wr (HT.out.below HC.out.1) hl).mono ?_
      rintro e w1 ⟨rfl, hb⟩
      have HC1 : Hid (Below w.heap.size w w1 ∧ w1.heap[w.heap.size]? = some (.cells (propA v q k) 97 (0, 0))) := ⟨bt HC.out.1 hb, (hb.block _ (Array.getElem?_eq_some_iff.1 HC.out.2).1).trans HC.out.2⟩
      clear hb cc
      by_cases hv : extT (bks ps) k q.2.2.1 = true
      · have HV := hid hv
        rw [hv]
        clear hv
        go_wp2
        go_ret
        exact ⟨by rw [HV.out]; rfl, HC1.out.1⟩
      · have HV : Hid (extT (bks ps) k q.2.2.1 = false) := Bool.eq_false_iff.2 hv
        rw [HV.out]
        clear hv
        go_wp2
        go_roundw
        case rel => exact ⟨1, by omega, by go_num, fun _ => HV.out, fun h => absurd h (by omega), HC1.out⟩
        case measure => simp [intOf]
    · have cc : wr.cell? ⟨g, 1, none⟩ = some (.func (.func 55) #[] #[]) := by rw [HC.out.1.cell (by exact hg)]; exact H1.out
      go_wp2_with (refine wpList_load_row rfl _ _ rfl w.heap.size rfl 97 _ (0, 0) _ HC.out.2 Try.underlying97 rfl (by kernel_rfl) ?_)
      refine (justAbove_i ps v q k wr (HT.out.below HC.out.1) hl).mono ?_
      rintro e w1 ⟨rfl, hb⟩
      have HC1 : Hid (Below w.heap.size w w1 ∧ w1.heap[w.heap.size]? = some (.cells (propA v q k) 97 (0, 0))) := ⟨bt HC.out.1 hb, (hb.block _ (Array.getElem?_eq_some_iff.1 HC.out.2).1).trans HC.out.2⟩
      clear hb cc
      have HV0 : Hid (extT (bks ps) k q.2.2.1 = false) := HA.out (by omega)
      by_cases hv : aboveB (bks ps) q k = true
      · have HV := hid hv
        rw [hv]
        clear hv
        go_wp2
        go_ret
        exact ⟨by rw [HV0.out, HV.out]; rfl, HC1.out.1⟩
      · have HV : Hid (aboveB (bks ps) q k = false) := Bool.eq_false_iff.2 hv
        rw [HV.out]
        clear hv
        go_wp2
        go_roundw
        case rel => exact ⟨2, by omega, by go_num, fun _ => HV0.out, fun _ => HV.out, HC1.out⟩
        case measure => simp [intOf]
    · have HV0 : Hid (extT (bks ps) k q.2.2.1 = false) := HA.out (by omega)
      have HV1 : Hid (aboveB (bks ps) q k = false) := HB.out (by omega)
      go_wp2
      go_ret
      exact ⟨by rw [HV0.out, HV1.out]; rfl, HC.out.1⟩

set_option maxRecDepth 100000 in
set_option maxHeartbeats 4000000 in
theorem safeBlockQ_i (ps : TL) (v : Value) (q : QC) (k : Int) (w : World) (hT : TreeQ w v ps) (hl : (ps.length : Int) ≤ 1048576) :
    Calls Try.prog 28 #[v, qcVal q, .int .i64 k] w fun e w' => e = .returned (.bool (safeB (bks ps) q k)) ∧ Below w.heap.size w w' := by
  have HT := hid hT
  obtain ⟨q0, q1, q2, q3⟩ := q
  unfold qcVal
  simp only
  obtain ⟨a, cap, rfl, -⟩ := hT.1
  obtain ⟨W, hW⟩ : ∃ W, W = w.alloc (.cells #[.int .i64 q0, .int .i64 q1, .int .i64 q2, .int .i64 q3] 47) := ⟨_, rfl⟩
  have HW : Hid (Below w.heap.size w W ∧ W.heap[w.heap.size]? = some (.cells #[.int .i64 q0, .int .i64 q1, .int .i64 q2, .int .i64 q3] 47 (0, 0))) := (by rw [hW]; exact ⟨ba (Below.refl _ _) _, heap_alloc_new w _⟩ : _ ∧ _)
  clear hT
  go_enter Try.func28, Try.ntmps28
  go_wp2_with (first
    | (refine wpList_store_blk rfl _ _ _ rfl W.heap.size (propA (.slice a ps.length cap) (q0, q1, q2, q3) k) rfl rfl 97 _ (heap_alloc_new W _) (by kernel_rfl) rfl (by simp [propA, Value.oneCell']) ?_; intro y1 hg hk hz; have HY1 : Hid (Below w.heap.size w y1 ∧ y1.heap[W.heap.size]? = Option.some (.cells (propA (.slice a ps.length cap) (q0, q1, q2, q3) k) 97 (0, 0))) := ⟨bt HW.out.1 (made_below' hg), hk⟩; clear hg hk hz)
    | (rw [← hW]; clear hW; refine wpList_load_row rfl _ _ rfl w.heap.size rfl 47 _ (0, 0) _ HW.out.2 Try.underlying47 rfl (by kernel_rfl) ?_)
    | (refine wpList_load_row rfl _ _ rfl W.heap.size rfl 97 _ (0, 0) _ HY1.out.2 Try.underlying97 rfl (by kernel_rfl) ?_))
  have HZ : Hid (Below w.heap.size w (y1.alloc (Obj.cells #[Value.func (Fn.func 54) #[] #[], Value.func (Fn.func 55) #[] #[]] 99))) := ba HY1.out.1 _
  refine (oneProp_i ps _ (q0, q1, q2, q3) k hl y1.heap.size 2 _ (HT.out.below HZ.out) (by simp) (blk_cell (heap_alloc_new y1 _) 0 _ rfl) (blk_cell (heap_alloc_new y1 _) 1 _ rfl)).mono ?_
  rintro e w2 ⟨rfl, hb⟩
  have HB : Hid (Below w.heap.size w w2) := bt HZ.out hb
  clear hb HZ
  go_wp2
  go_ret
  exact ⟨ret_bool (safe_or (q := (q0, q1, q2, q3))).symm, HB.out⟩

end Go.Proofs.Ytnghhfgbobpnkaq
