/-
  Commands marked with greater numbers than in CmdsM and CmdsH. (Made by gtm15.py.)
-/
import Derived.Test.YtjieklilojmifatCmdsH
namespace Go.Proofs.Ytjieklilojmifat
open Go.RowKit Num

set_option maxRecDepth 100000 in
set_option maxHeartbeats 1000000 in
theorem markCmds_big (n k : Nat) (v : Value) (base : Nat) (xs : List Value) (w : World) (h : w.ownsRow base 134 3 v n xs) (hk : 0 < k) (hk2 : k ≤ 100000000) (hn : n ≤ 1048576) :
    Calls Try.prog 72 #[v, .int .i64 k] w fun e w' => e = .returned (.int .i64 ((k + 3 * n : Nat) : Int)) ∧ w.grownBy w' v.ownBlock := by
  obtain ⟨a, cap, rfl, hg⟩ := own_form h
  have HG : Hid (0 < n → ∃ g, a = some ⟨g, 0, none⟩) := hg
  have HO : Hid (w.ownsRow base 134 3 (.slice a n cap) n xs) := h
  clear hg h
  go_enter Try.func72, Try.ntmps72
  go_wp2
  go_loopw [1, 5] (fun q i wr => ∃ (m : Nat) (ys : List Value), m ≤ n ∧ q = .int .i64 ((k + 3 * m : Nat) : Int) ∧ i = .int .i64 m ∧ Hid (wr.ownsRow base 134 3 (.slice a n cap) n ys) ∧ Hid (w.grownBy wr (Value.slice a n cap).ownBlock)) (fun _ i _ => n - (intOf i).toNat)
  case atStart => exact ⟨0, xs, Nat.zero_le _, by simp, rfl, HO.out, ⟨rfl, rfl, rfl, Nat.le_refl _, fun _ _ _ => rfl⟩⟩
  case round =>
    obtain ⟨m, ys, hm, rfl, rfl, HOW, HGR⟩ := hrel
    by_cases hlt : (m : Int) < n
    · have q0 : (0 : Int) ≤ (m : Int) := by omega
      obtain ⟨g, rfl⟩ := HG.out (by omega)
      obtain ⟨x0, f0⟩ := own_cell HOW.out (m * 3) (by omega)
      have hyl := HOW.out.1
      rw [List.getElem?_eq_getElem (by omega)] at x0
      have S0 := HOW.out.stored (m * 3) (.int .i64 ((k : Int) + 3 * (m : Int)))
      have HS0 : Hid ((wr.setCell ⟨g, m * 3, none⟩ (.int .i64 ((k : Int) + 3 * (m : Int)))).ownsRow base 134 3 (.slice (some ⟨g, 0, none⟩) n cap) n _ ∧ wr.grownBy (wr.setCell ⟨g, m * 3, none⟩ (.int .i64 ((k : Int) + 3 * (m : Int)))) (some g)) := S0
      clear S0
      go_wp2_with fail
      have hmt := markText_any (k + 3 * m + 1) (wr.setCell ⟨g, m * 3, none⟩ (.int .i64 ((k : Int) + 3 * (m : Int)))) (by omega) (by omega)
      have hmt2 : Calls Try.prog 88 #[.int .i64 ((k : Int) + 3 * (m : Int) + 1)] (wr.setCell ⟨g, m * 3, none⟩ (.int .i64 ((k : Int) + 3 * (m : Int)))) fun e w' => e = .returned (.string (mk (k + 3 * m + 1))) ∧ Below (wr.setCell ⟨g, m * 3, none⟩ (.int .i64 ((k : Int) + 3 * (m : Int)))).heap.size (wr.setCell ⟨g, m * 3, none⟩ (.int .i64 ((k : Int) + 3 * (m : Int)))) w' := by simpa using hmt
      refine hmt2.mono ?_
      rintro e w1 ⟨rfl, hb1⟩
      have HO1 : Hid (w1.ownsRow base 134 3 (.slice (some ⟨g, 0, none⟩) n cap) n _) := own_kept HS0.out.1 hb1
      have HG1 : Hid (w.grownBy w1 (some g)) := grown_trans (grown_trans HGR.out HS0.out.2) (grown_any (below_grown hb1))
      clear hmt hmt2 hb1 x0 f0
      have hyl1 := HO1.out.1
      obtain ⟨x1, f1⟩ := own_cell HO1.out (m * 3 + 1) (by omega)
      rw [List.getElem?_eq_getElem (by omega)] at x1
      have S1 := HO1.out.stored (m * 3 + 1) (.string (mk (k + 3 * m + 1)))
      obtain ⟨x2, f2⟩ := own_cell S1.1 (m * 3 + 2) (by omega)
      have hyl2 := S1.1.1
      rw [List.getElem?_eq_getElem (by omega)] at x2
      have S2 := S1.1.stored (m * 3 + 2) (.int .i64 ((k : Int) + 3 * (m : Int) + 2))
      have HO2 : Hid (World.ownsRow _ base 134 3 (.slice (some ⟨g, 0, none⟩) n cap) n _) := S2.1
      have HG2 : Hid (w1.grownBy _ (some g)) := grown_trans S1.2 S2.2
      clear S1 S2
      go_wp2
      go_roundw
      case rel => exact ⟨m + 1, _, by omega, by go_num, by go_num, HO2.out, grown_trans HG1.out HG2.out⟩
      case measure => simp [intOf]; omega
    · have hmn : m = n := by omega
      have HM : Hid (m = n) := hmn
      clear hmn
      go_wp2
      go_ret
      exact ⟨ret_int (by rw [HM.out]), HGR.out⟩


set_option maxRecDepth 100000 in
set_option maxHeartbeats 1000000 in
theorem markCmds_set (n k : Nat) (v : Value) (base : Nat) (xs : List Value) (w : World) (h : w.ownsRow base 134 3 v n xs) (hk : 0 < k) (hk2 : k ≤ 100000000) (hn : n ≤ 1048576) :
    Calls Try.prog 72 #[v, .int .i64 k] w fun e w' => e = .returned (.int .i64 ((k + 3 * n : Nat) : Int)) ∧ w'.ownsRow base 134 3 v n (flatR cmdF (qmarks k n)) ∧ w.grownBy w' v.ownBlock := by
  obtain ⟨a, cap, rfl, hg⟩ := own_form h
  have HG : Hid (0 < n → ∃ g, a = some ⟨g, 0, none⟩) := hg
  have HO : Hid (w.ownsRow base 134 3 (.slice a n cap) n xs) := h
  clear hg h
  go_enter Try.func72, Try.ntmps72
  go_wp2
  go_loopw [1, 5] (fun q i wr => ∃ (m : Nat) (ys : List Value), m ≤ n ∧ q = .int .i64 ((k + 3 * m : Nat) : Int) ∧ i = .int .i64 m ∧ Hid (upToR cmdF 3 (qmarks k n) ys m) ∧ Hid (wr.ownsRow base 134 3 (.slice a n cap) n ys) ∧ Hid (w.grownBy wr (Value.slice a n cap).ownBlock)) (fun _ i _ => n - (intOf i).toNat)
  case atStart => exact ⟨0, xs, Nat.zero_le _, by simp, rfl, upToR_zero (by rw [qmarks_len]; exact HO.out.1), HO.out, ⟨rfl, rfl, rfl, Nat.le_refl _, fun _ _ _ => rfl⟩⟩
  case round =>
    obtain ⟨m, ys, hm, rfl, rfl, HU, HOW, HGR⟩ := hrel
    by_cases hlt : (m : Int) < n
    · have q0 : (0 : Int) ≤ (m : Int) := by omega
      obtain ⟨g, rfl⟩ := HG.out (by omega)
      obtain ⟨x0, f0⟩ := own_cell HOW.out (m * 3) (by omega)
      have hyl := HOW.out.1
      rw [List.getElem?_eq_getElem (by omega)] at x0
      have S0 := HOW.out.stored (m * 3) (.int .i64 ((k : Int) + 3 * (m : Int)))
      have HS0 : Hid ((wr.setCell ⟨g, m * 3, none⟩ (.int .i64 ((k : Int) + 3 * (m : Int)))).ownsRow base 134 3 (.slice (some ⟨g, 0, none⟩) n cap) n _ ∧ wr.grownBy (wr.setCell ⟨g, m * 3, none⟩ (.int .i64 ((k : Int) + 3 * (m : Int)))) (some g)) := S0
      clear S0
      go_wp2_with fail
      have hmt := markText_any (k + 3 * m + 1) (wr.setCell ⟨g, m * 3, none⟩ (.int .i64 ((k : Int) + 3 * (m : Int)))) (by omega) (by omega)
      have hmt2 : Calls Try.prog 88 #[.int .i64 ((k : Int) + 3 * (m : Int) + 1)] (wr.setCell ⟨g, m * 3, none⟩ (.int .i64 ((k : Int) + 3 * (m : Int)))) fun e w' => e = .returned (.string (mk (k + 3 * m + 1))) ∧ Below (wr.setCell ⟨g, m * 3, none⟩ (.int .i64 ((k : Int) + 3 * (m : Int)))).heap.size (wr.setCell ⟨g, m * 3, none⟩ (.int .i64 ((k : Int) + 3 * (m : Int)))) w' := by simpa using hmt
      refine hmt2.mono ?_
      rintro e w1 ⟨rfl, hb1⟩
      have HO1 : Hid (w1.ownsRow base 134 3 (.slice (some ⟨g, 0, none⟩) n cap) n _) := own_kept HS0.out.1 hb1
      have HG1 : Hid (w.grownBy w1 (some g)) := grown_trans (grown_trans HGR.out HS0.out.2) (grown_any (below_grown hb1))
      clear hmt hmt2 hb1 x0 f0
      have hyl1 := HO1.out.1
      obtain ⟨x1, f1⟩ := own_cell HO1.out (m * 3 + 1) (by omega)
      rw [List.getElem?_eq_getElem (by omega)] at x1
      have S1 := HO1.out.stored (m * 3 + 1) (.string (mk (k + 3 * m + 1)))
      obtain ⟨x2, f2⟩ := own_cell S1.1 (m * 3 + 2) (by omega)
      have hyl2 := S1.1.1
      rw [List.getElem?_eq_getElem (by omega)] at x2
      have S2 := S1.1.stored (m * 3 + 2) (.int .i64 ((k : Int) + 3 * (m : Int) + 2))
      have HO2 : Hid (World.ownsRow _ base 134 3 (.slice (some ⟨g, 0, none⟩) n cap) n _) := S2.1
      have HG2 : Hid (w1.grownBy _ (some g)) := grown_trans S1.2 S2.2
      clear S1 S2
      go_wp2
      go_roundw
      case rel => exact ⟨m + 1, _, by omega, by go_num, by go_num, qmarks_step HU.out (by omega), HO2.out, grown_trans HG1.out HG2.out⟩
      case measure => simp [intOf]; omega
    · have hmn : m = n := by omega
      have HM : Hid (m = n) := hmn
      clear hmn
      go_wp2
      go_ret
      have hu := HU.out
      rw [HM.out] at hu
      have hx := upToR_all cmdF_len (by rw [qmarks_len]; exact hu)
      refine ⟨ret_int (by rw [HM.out]), ?_, HGR.out⟩
      have := HOW.out
      rw [hx] at this
      exact this


set_option maxRecDepth 100000 in
set_option maxHeartbeats 1000000 in
theorem heldCmds_big (n k : Nat) (v : Value) (w : World) (h : RowsR w v 3 cmdF (qmarks k n)) (hk : 0 < k) (hk2 : k ≤ 100000000) (hn : n ≤ 1048576) :
    Calls Try.prog 75 #[v, .int .i64 k] w fun e w' => e = .returned (.int .i64 ((k + 3 * n : Nat) : Int)) ∧ Below w.heap.size w w' := by
  obtain ⟨a, cap, rfl, hr⟩ := h
  have hlen := qmarks_len k n
  have hcell : 0 < n → ∃ g off, a = some ⟨g, off, none⟩ ∧ g < w.heap.size ∧ ∀ i, i < n → w.cell? ⟨g, off + i * 3, none⟩ = some (.int .i64 ((k : Int) + 3 * (i : Int))) ∧ w.cell? ⟨g, off + i * 3 + 1, none⟩ = some (.string (mk (k + 3 * i + 1))) ∧ w.cell? ⟨g, off + i * 3 + 2, none⟩ = some (.int .i64 ((k : Int) + 3 * (i : Int) + 2)) := fun h0 => by
    obtain ⟨g, off, he, hg, hc⟩ := hr (by rw [hlen]; exact h0)
    refine ⟨g, off, he, hg, fun i hi => ?_⟩
    have h0 := hc i (by rw [hlen]; exact hi) 0 (by omega)
    have h1 := hc i (by rw [hlen]; exact hi) 1 (by omega)
    have h2 := hc i (by rw [hlen]; exact hi) 2 (by omega)
    rw [qmarks_at] at h0 h1 h2
    exact ⟨by simpa [cmdF] using h0, h1, by simpa [cmdF] using h2⟩
  have HR : Hid (0 < n → ∃ g off, a = some ⟨g, off, none⟩ ∧ g < w.heap.size ∧ ∀ i, i < n → w.cell? ⟨g, off + i * 3, none⟩ = some (.int .i64 ((k : Int) + 3 * (i : Int))) ∧ w.cell? ⟨g, off + i * 3 + 1, none⟩ = some (.string (mk (k + 3 * i + 1))) ∧ w.cell? ⟨g, off + i * 3 + 2, none⟩ = some (.int .i64 ((k : Int) + 3 * (i : Int) + 2))) := hcell
  clear hcell hr
  rw [hlen]
  clear hlen
  go_enter Try.func75, Try.ntmps75
  go_wp2
  go_loopw [1, 5] (fun q i wr => ∃ m : Nat, m ≤ n ∧ q = .int .i64 ((k + 3 * m : Nat) : Int) ∧ i = .int .i64 m ∧ Below w.heap.size w wr) (fun _ i _ => n - (intOf i).toNat)
  case atStart => exact ⟨0, Nat.zero_le _, by simp, rfl, Below.refl _ _⟩
  case round =>
    obtain ⟨m, hm, rfl, rfl, hbel⟩ := hrel
    by_cases hlt : (m : Int) < n
    · have q0 : (0 : Int) ≤ (m : Int) := by omega
      obtain ⟨g, off, rfl, hg, hc⟩ := HR.out (by omega)
      obtain ⟨hc0, hc1, hc2⟩ := hc m (by omega)
      have hne := bw_some wr
      have HC1 : Hid (∀ x : Bw wr, x.to.cell? ⟨g, off + m * 3 + 1, none⟩ = some (.string (mk (k + 3 * m + 1)))) := fun x => by rw [(bt hbel x.below).cell (by exact hg)]; exact hc1
      have c0 : wr.cell? ⟨g, off + m * 3, none⟩ = some (.int .i64 ((k : Int) + 3 * (m : Int))) := by rw [hbel.cell (by exact hg)]; exact hc0
      have hmk : ∀ x : Bw wr, Calls Try.prog 88 #[.int .i64 ((k : Int) + 3 * (m : Int) + 1)] x.to fun e w' => e = .returned (.string (mk (k + 3 * m + 1))) ∧ Below x.to.heap.size x.to w' := fun x => by
        have := markText_any (k + 3 * m + 1) x.to (by omega) (by omega)
        simpa using this
      have HK : Hid (∀ x : Bw wr, Calls Try.prog 88 #[.int .i64 ((k : Int) + 3 * (m : Int) + 1)] x.to fun e w' => e = .returned (.string (mk (k + 3 * m + 1))) ∧ Below x.to.heap.size x.to w') := hmk
      have HC2 : Hid (∀ x : Bw wr, x.to.cell? ⟨g, off + m * 3 + 2, none⟩ = some (.int .i64 ((k : Int) + 3 * (m : Int) + 2))) := fun x => by rw [(bt hbel x.below).cell (by exact hg)]; exact hc2
      clear hmk hc hc0 hc1 hc2
      go_wp2
      have c1 : ∀ x : Bw wr, x.to.cell? ⟨g, off + m * 3 + 1, none⟩ = some (.string (mk (k + 3 * m + 1))) := HC1.out
      refine wp_region_bw (by kernel_rfl) (by kernel_rfl) ?_
      repeat (go_big_quiet_step (refine calls_bw (HK.out _)))
      refine wpQuiet_nil ?_
      intro _ hw'
      obtain ⟨x, rfl⟩ := hw'
      have e2 : x.to.cell? ⟨g, off + m * 3 + 2, none⟩ = some (.int .i64 ((k : Int) + 3 * (m : Int) + 2)) := HC2.out x
      go_wp2
      go_roundw
      case rel => exact ⟨m + 1, by omega, by go_num, by go_num, bt hbel x.below⟩
      case measure => simp [intOf]; omega
    · have hmn : m = n := by omega
      have HM : Hid (m = n) := hmn
      clear hmn
      go_wp2
      go_ret
      exact ⟨ret_int (by rw [HM.out]), hbel⟩


end Go.Proofs.Ytjieklilojmifat
