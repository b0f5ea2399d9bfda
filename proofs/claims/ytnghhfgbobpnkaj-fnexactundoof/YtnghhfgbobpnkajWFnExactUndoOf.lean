/-
  The walk of the law FnExactUndoOf: the specification's answer and the program's are the same; the list is as it was.
-/
import Derived.Test.YtnghhfgbobpnkajUndoI
import Derived.Test.YtnghhfgbobpnkajUndoL
import Derived.Test.YtnghhfgbobpnkajCellM
namespace Go.Proofs.Ytnghhfgbobpnkaj.WFnExactUndoOf
open Go.RowKit Num

set_option maxRecDepth 100000 in
set_option maxHeartbeats 2000000 in
theorem walk (w : World) (v : Value) (cs : CL) (hC : Cells w v cs) (hl : cs.length ≤ maxLen) (hs : ∀ c ∈ cs, c.1.size ≤ maxLen) (_hw : ∀ c ∈ cs, (Lit.int .i64 c.2).wf = true) (key : ByteArray) (_w1k : key.size ≤ maxLen) :
    Calls Try.prog 6 #[v, .string key] w fun e w' => e = .returned (.bool true) ∧ Below w.heap.size w w' := by
  have HC : Hid (Cells w v cs) := hC
  have HS : Hid (∀ c ∈ cs, c.1.size ≤ maxLen) := hs
  clear hC hs _hw
  unfold maxLen at _w1k
  by_cases hbig : (1048576 : Int) < key.size
  · go_enter Try.func6, Try.ntmps6
    go_wp2
    go_ret
    exact ⟨rfl, Below.refl _ _⟩
  go_enter Try.func6, Try.ntmps6
  go_wp2_with fail
  refine (szCells_any cs v 1048576 w (by decide) (by decide) HC.out (by unfold maxLen at hl; omega) (fun c hc => by have := HS.out c hc; unfold maxLen at this; omega)).mono ?_
  rintro e w1 ⟨rfl, hb1⟩
  by_cases hneg : szCells cs 1048576 < 0
  · go_wp2
    go_ret
    exact ⟨rfl, hb1⟩
  · obtain ⟨hlen, _, hall⟩ := szCells_bd (Int.le_refl _) (Int.not_lt.1 hneg)
    have HA : Hid (∀ c ∈ cs, (c.1.size : Int) ≤ 1048576) := hall
    clear hall
    go_wp2_with fail
    refine (toCells_any cs v w1 (HC.out.below hb1) hlen).mono ?_
    rintro e w2 ⟨v2, rfl, hown2, hb2⟩
    have B2 := bt hb1 hb2
    have HO2 : Hid (w2.ownsRow w1.heap.size 71 2 v2 cs.length (flat cs)) := hown2
    clear hown2
    go_wp2_with fail
    refine (undoOf_s cs v2 key w2 (cells_of_own HO2.out) hlen).mono ?_
    rintro e w3 ⟨rfl, hb3⟩
    have B3 := bt B2 hb3
    obtain ⟨uu, huu⟩ : ∃ uu, uu = undoC cs key := ⟨_, rfl⟩
    have HUU : Hid (uu = undoC cs key) := huu
    rw [← huu]
    unfold undoV
    clear huu
    go_wp2_with fail
    have B3a : Below w.heap.size w (w3.alloc (Obj.cells #[Value.string uu.1, Value.bool uu.2.1, Value.int IntKind.i64 uu.2.2] 51)) := ba B3 _
    refine (toCells_any cs v _ (HC.out.below B3a) hlen).mono ?_
    rintro e w4 ⟨v4, rfl, hown4, hb4⟩
    have B4 := bt B3a hb4
    have HO4 : Hid (w4.ownsRow _ 71 2 v4 cs.length (flat cs)) := hown4
    have HW4 : Hid (w3.heap.size < w4.heap.size ∧ w4.cell? ⟨w3.heap.size, 0, none⟩ = some (.string uu.1) ∧ w4.cell? ⟨w3.heap.size, 1, none⟩ = some (.bool uu.2.1) ∧ w4.cell? ⟨w3.heap.size, 2, none⟩ = some (.int .i64 uu.2.2)) :=
      ⟨by have := hb4.size; simp at this; omega, by rw [hb4.cell (by simp)]; simp, by rw [hb4.cell (by simp)]; simp, by rw [hb4.cell (by simp)]; simp⟩
    clear hown4 hb4 B3a
    go_wp2_with fail
    refine (undoOf_i cs v4 key w4 (cells_of_own HO4.out) hlen (by omega)).mono ?_
    rintro e w5 ⟨rfl, hb5⟩
    rw [← HUU.out]
    unfold undoV
    have B5 := bt B4 hb5
    obtain ⟨h34, d0, d1, d2⟩ := HW4.out
    have h35 : w3.heap.size < w5.heap.size := Nat.lt_of_lt_of_le h34 hb5.size
    have BA : Below w5.heap.size w5 (w5.alloc (Obj.cells #[Value.string uu.1, Value.bool uu.2.1, Value.int IntKind.i64 uu.2.2] 51)) := ba (Below.refl _ _) _
    have e0 : (w5.alloc (Obj.cells #[Value.string uu.1, Value.bool uu.2.1, Value.int IntKind.i64 uu.2.2] 51)).cell? ⟨w3.heap.size, 0, none⟩ = some (.string uu.1) := by rw [BA.cell (by exact h35), hb5.cell (by exact h34)]; exact d0
    have e1 : (w5.alloc (Obj.cells #[Value.string uu.1, Value.bool uu.2.1, Value.int IntKind.i64 uu.2.2] 51)).cell? ⟨w3.heap.size, 1, none⟩ = some (.bool uu.2.1) := by rw [BA.cell (by exact h35), hb5.cell (by exact h34)]; exact d1
    have e2 : (w5.alloc (Obj.cells #[Value.string uu.1, Value.bool uu.2.1, Value.int IntKind.i64 uu.2.2] 51)).cell? ⟨w3.heap.size, 2, none⟩ = some (.int .i64 uu.2.2) := by rw [BA.cell (by exact h35), hb5.cell (by exact h34)]; exact d2
    have HO5 : Hid ((w5.alloc (Obj.cells #[Value.string uu.1, Value.bool uu.2.1, Value.int IntKind.i64 uu.2.2] 51)).ownsRow _ 71 2 v4 cs.length (flat cs)) := own_kept HO4.out (bt hb5 BA)
    have B5a := bt B5 BA
    clear d0 d1 d2 HW4 HO4 BA hb5 B5 B4
    go_wp2_with fail
    refine (eqUndo_yes uu _).mono ?_
    rintro e w5e ⟨rfl, hb5e⟩
    have HO5e : Hid (w5e.ownsRow _ 71 2 v4 cs.length (flat cs)) := own_kept HO5.out hb5e
    have B5e := bt B5a hb5e
    clear e0 e1 e2 HO5 B5a hb5e
    go_wp2_with fail
    refine (toCells_any cs v w5e (HC.out.below B5e) hlen).mono ?_
    rintro e w6 ⟨v6, rfl, hown6, hb6⟩
    have B6 := bt B5e hb6
    have HO6 : Hid (w6.ownsRow w5e.heap.size 71 2 v6 cs.length (flat cs)) := hown6
    clear hown6
    go_wp2_with fail
    refine (eqCells_yes cs v4 v6 w6 ((cells_of_own HO5e.out).below hb6) (cells_of_own HO6.out) hlen).mono ?_
    rintro e w7 ⟨rfl, hb7⟩
    go_wp2
    go_ret
    exact ⟨rfl, bt B6 hb7⟩

end Go.Proofs.Ytnghhfgbobpnkaj.WFnExactUndoOf
