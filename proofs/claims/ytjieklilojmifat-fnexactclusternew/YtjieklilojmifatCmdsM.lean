/-
  The contracts of the laws' own helpers over rows of commands and rows of numbers: held against each other, marked, looked at again.
-/
import Derived.Test.YtjieklilojmifatCmdsL
import Derived.Test.YtjieklilojmifatJ1
namespace Go.Proofs.Ytjieklilojmifat
open Go.RowKit Num

theorem eqCmd_yes (c : CM) (w : World) :
    Calls Try.prog 93 #[cmdV c, cmdV c] w fun e w' => e = .returned (.bool true) ∧ Below w.heap.size w w' := by
  obtain ⟨kd, key, num⟩ := c
  unfold cmdV
  go_enter Try.func93, Try.ntmps93
  go_wp2
  go_ret
  exact ⟨rfl, ba (ba (Below.refl _ _) _) _⟩

set_option maxRecDepth 100000 in
set_option maxHeartbeats 1000000 in
theorem eqCmds_yes (l : List CM) (a b : Value) (w : World) (ha : RowsR w a 3 cmdF l) (hb : RowsR w b 3 cmdF l) (hl : (l.length : Int) ≤ 1048576) :
    Calls Try.prog 69 #[a, b] w fun e w' => e = .returned (.bool true) ∧ Below w.heap.size w w' := by
  obtain ⟨a, ca, rfl, hra⟩ := ha
  obtain ⟨b, cb, rfl, hrb⟩ := hb
  have HA : Hid (0 < l.length → _) := hra
  have HB : Hid (0 < l.length → _) := hrb
  clear hra hrb
  go_enter Try.func69, Try.ntmps69
  go_wp2
  go_loopw [5] (fun i wr => ∃ m : Nat, m ≤ l.length ∧ i = .int .i64 m ∧ Below w.heap.size w wr) (fun i _ => l.length - (intOf i).toNat)
  case atStart => exact ⟨0, Nat.zero_le _, rfl, Below.refl _ _⟩
  case round =>
    obtain ⟨m, hm, rfl, hbel⟩ := hrel
    by_cases hlt : (m : Int) < l.length
    · have q0 : (0 : Int) ≤ (m : Int) := by omega
      have hmn : m < l.length := by omega
      obtain ⟨ga, oa, rfl, hga, hca⟩ := HA.out (by omega)
      obtain ⟨gb, ob, rfl, hgb, hcb⟩ := HB.out (by omega)
      have hne := bw_some wr
      have c0 : ∀ x : Bw wr, x.to.cell? ⟨ga, oa + m * 3, none⟩ = some (.int .i64 l[m].1) := fun x => by rw [(bt hbel x.below).cell (by exact hga)]; exact hca m hmn 0 (by omega)
      have c1 : ∀ x : Bw wr, x.to.cell? ⟨ga, oa + m * 3 + 1, none⟩ = some (.string l[m].2.1) := fun x => by rw [(bt hbel x.below).cell (by exact hga)]; exact hca m hmn 1 (by omega)
      have c2 : ∀ x : Bw wr, x.to.cell? ⟨ga, oa + m * 3 + 2, none⟩ = some (.int .i64 l[m].2.2) := fun x => by rw [(bt hbel x.below).cell (by exact hga)]; exact hca m hmn 2 (by omega)
      have d0 : ∀ x : Bw wr, x.to.cell? ⟨gb, ob + m * 3, none⟩ = some (.int .i64 l[m].1) := fun x => by rw [(bt hbel x.below).cell (by exact hgb)]; exact hcb m hmn 0 (by omega)
      have d1 : ∀ x : Bw wr, x.to.cell? ⟨gb, ob + m * 3 + 1, none⟩ = some (.string l[m].2.1) := fun x => by rw [(bt hbel x.below).cell (by exact hgb)]; exact hcb m hmn 1 (by omega)
      have d2 : ∀ x : Bw wr, x.to.cell? ⟨gb, ob + m * 3 + 2, none⟩ = some (.int .i64 l[m].2.2) := fun x => by rw [(bt hbel x.below).cell (by exact hgb)]; exact hcb m hmn 2 (by omega)
      clear hca hcb
      go_wp2
      refine wp_region_bw (by kernel_rfl) (by kernel_rfl) ?_
      repeat (go_big_quiet_step (refine calls_bw (eqCmd_yes l[m] _)))
      refine wpQuiet_nil ?_
      intro _ hw'
      obtain ⟨x, rfl⟩ := hw'
      go_wp2
      go_roundw
      case rel => exact ⟨m + 1, by omega, by go_num, bt hbel x.below⟩
      case measure => simp [intOf]; omega
    · go_wp2
      go_ret
      exact ⟨rfl, hbel⟩

set_option maxRecDepth 100000 in
set_option maxHeartbeats 1000000 in
theorem markCmds_any (n k : Nat) (v : Value) (base : Nat) (xs : List Value) (w : World) (h : w.ownsRow base 134 3 v n xs) (hk : 0 < k) (hk2 : k ≤ 10000000) (hn : n ≤ 1048576) :
    Calls Try.prog 72 #[v, .int .i64 k] w fun e w' => e = .returned (.int .i64 ((k + 3 * n : Nat) : Int)) ∧ w.grownBy w' v.ownBlock := by
  obtain ⟨a, cap, rfl, hg⟩ := own_form h
  have HG : Hid (0 < n → ∃ g, a = some ⟨g, 0, none⟩) := hg
  have HO : Hid (w.ownsRow base 134 3 (.slice a n cap) n xs) := h
  clear hg h
  go_enter Try.func72, Try.ntmps72
  go_wp2
  go_loopw [1, 5] (fun q i wr => ∃ (m : Nat) (ys : List Value), m ≤ n ∧ q = .int .i64 ((k + 3 * m : Nat) : Int) ∧ i = .int .i64 m ∧ Hid (wr.ownsRow base 134 3 (.slice a n cap) n ys) ∧ Hid (w.grownBy wr (Value.slice a n cap).ownBlock)) (fun _ i _ => n - (intOf i).toNat)
  case atStart => exact ⟨0, xs, Nat.zero_le _, by simp, rfl, HO.out, ⟨rfl, rfl, rfl, Nat.le_refl _, fun _ _ _ => rfl⟩⟩
  case round =>
    obtain ⟨m, ys, hm, rfl, rfl, HOW, HGR⟩ := hrel
    by_cases hlt : (m : Int) < n
    · have q0 : (0 : Int) ≤ (m : Int) := by omega
      obtain ⟨g, rfl⟩ := HG.out (by omega)
      obtain ⟨x0, f0⟩ := own_cell HOW.out (m * 3) (by omega)
      have hyl := HOW.out.1
      rw [List.getElem?_eq_getElem (by omega)] at x0
      have S0 := HOW.out.stored (m * 3) (.int .i64 ((k : Int) + 3 * (m : Int)))
      have HS0 : Hid ((wr.setCell ⟨g, m * 3, none⟩ (.int .i64 ((k : Int) + 3 * (m : Int)))).ownsRow base 134 3 (.slice (some ⟨g, 0, none⟩) n cap) n _ ∧ wr.grownBy (wr.setCell ⟨g, m * 3, none⟩ (.int .i64 ((k : Int) + 3 * (m : Int)))) (some g)) := S0
      clear S0
      go_wp2_with fail
      have hmt := markText_any (k + 3 * m + 1) (wr.setCell ⟨g, m * 3, none⟩ (.int .i64 ((k : Int) + 3 * (m : Int)))) (by omega) (by omega)
      have hmt2 : Calls Try.prog 88 #[.int .i64 ((k : Int) + 3 * (m : Int) + 1)] (wr.setCell ⟨g, m * 3, none⟩ (.int .i64 ((k : Int) + 3 * (m : Int)))) fun e w' => e = .returned (.string (mk (k + 3 * m + 1))) ∧ Below (wr.setCell ⟨g, m * 3, none⟩ (.int .i64 ((k : Int) + 3 * (m : Int)))).heap.size (wr.setCell ⟨g, m * 3, none⟩ (.int .i64 ((k : Int) + 3 * (m : Int)))) w' := by simpa using hmt
      refine hmt2.mono ?_
      rintro e w1 ⟨rfl, hb1⟩
      have HO1 : Hid (w1.ownsRow base 134 3 (.slice (some ⟨g, 0, none⟩) n cap) n _) := own_kept HS0.out.1 hb1
      have HG1 : Hid (w.grownBy w1 (some g)) := grown_trans (grown_trans HGR.out HS0.out.2) (grown_any (below_grown hb1))
      clear hmt hmt2 hb1 x0 f0
      have hyl1 := HO1.out.1
      obtain ⟨x1, f1⟩ := own_cell HO1.out (m * 3 + 1) (by omega)
      rw [List.getElem?_eq_getElem (by omega)] at x1
      have S1 := HO1.out.stored (m * 3 + 1) (.string (mk (k + 3 * m + 1)))
      obtain ⟨x2, f2⟩ := own_cell S1.1 (m * 3 + 2) (by omega)
      have hyl2 := S1.1.1
      rw [List.getElem?_eq_getElem (by omega)] at x2
      have S2 := S1.1.stored (m * 3 + 2) (.int .i64 ((k : Int) + 3 * (m : Int) + 2))
      have HO2 : Hid (World.ownsRow _ base 134 3 (.slice (some ⟨g, 0, none⟩) n cap) n _) := S2.1
      have HG2 : Hid (w1.grownBy _ (some g)) := grown_trans S1.2 S2.2
      clear S1 S2
      go_wp2
      go_roundw
      case rel => exact ⟨m + 1, _, by omega, by go_num, by go_num, HO2.out, grown_trans HG1.out HG2.out⟩
      case measure => simp [intOf]; omega
    · have hmn : m = n := by omega
      have HM : Hid (m = n) := hmn
      clear hmn
      go_wp2
      go_ret
      exact ⟨ret_int (by rw [HM.out]), HGR.out⟩


end Go.Proofs.Ytjieklilojmifat
