/-
  The walk of the law FnExactCmdOk: the specification's answer and the program's are the same.
-/
import Derived.Test.YtnghhfgbobpnkaiCmdL
namespace Go.Proofs.Ytnghhfgbobpnkai.WFnExactCmdOk
open Go.RowKit Num

set_option maxRecDepth 100000 in
theorem walk (w : World) (c : CM) (_w0 : (Lit.int .i64 c.1).wf = true) (w1 : c.2.1.size ≤ maxLen) (_w2 : (Lit.int .i64 c.2.2).wf = true) :
    Calls Try.prog 4 #[cmdV c] w fun e w' => e = .returned (.bool true) ∧ Below w.heap.size w w' := by
  unfold maxLen at w1
  obtain ⟨kd, key, num⟩ := c
  simp only at w1
  have HV : Hid (Value.agg #[.int .i64 kd, .string key, .int .i64 num] = cmdV (kd, key, num)) := rfl
  clear _w0 _w2
  go_enter Try.func4, Try.ntmps4
  unfold cmdV
  go_wp2_with fail
  refine (szCmd_any (kd, key, num) 1048576 _ (by decide) (by decide) (by simp only; omega)).mono ?_
  rintro e w2 ⟨rfl, hb2⟩
  by_cases hneg : (1048576 : Int) - key.size < 0
  · simp only [if_pos hneg]
    go_wp2
    go_ret
    exact ⟨rfl, bt (ba (Below.refl _ _) _) hb2⟩
  · simp only [if_neg hneg]
    have hk : (key.size : Int) ≤ 1048576 := by omega
    have c0 : w2.cell? ⟨w.heap.size, 0, none⟩ = some (.int .i64 kd) := by rw [hb2.cell (by simp)]; simp
    have c1 : w2.cell? ⟨w.heap.size, 1, none⟩ = some (.string key) := by rw [hb2.cell (by simp)]; simp
    have c2 : w2.cell? ⟨w.heap.size, 2, none⟩ = some (.int .i64 num) := by rw [hb2.cell (by simp)]; simp
    have B2 : Below w.heap.size w w2 := bt (ba (Below.refl _ _) _) hb2
    have hs2 : w.heap.size < w2.heap.size := by have := hb2.size; simp at this; omega
    clear hb2
    go_wp2_with fail
    refine (toCmd_any (kd, key, num) w2).mono ?_
    rintro e w3 ⟨rfl, hb3⟩
    unfold cmdV
    go_wp2_with fail
    refine (cmd_s (kd, key, num) w3 hk).mono ?_
    rintro e w4 ⟨rfl, hb4⟩
    have B24 := bt hb3 hb4
    have d0 : w4.cell? ⟨w.heap.size, 0, none⟩ = some (.int .i64 kd) := by rw [B24.cell (by exact hs2)]; exact c0
    have d1 : w4.cell? ⟨w.heap.size, 1, none⟩ = some (.string key) := by rw [B24.cell (by exact hs2)]; exact c1
    have d2 : w4.cell? ⟨w.heap.size, 2, none⟩ = some (.int .i64 num) := by rw [B24.cell (by exact hs2)]; exact c2
    go_wp2_with fail
    refine (toCmd_any (kd, key, num) w4).mono ?_
    rintro e w5 ⟨rfl, hb5⟩
    unfold cmdV
    go_wp2_with fail
    refine (cmd_i (kd, key, num) w5 hk).mono ?_
    rintro e w6 ⟨rfl, hb6⟩
    have B6 := bt B2 (bt B24 (bt hb5 hb6))
    cases hb : cmdB (kd, key, num)
    all_goals
      go_wp2
      go_ret
      exact ⟨rfl, B6⟩

end Go.Proofs.Ytnghhfgbobpnkai.WFnExactCmdOk
