/-
  The walk of the law FnExactCellsText: spec.CellsText and impl.CellsText tell the same text; the list is as it was.
-/
import Derived.Test.YtnghhfgbobpnkajTextS
import Derived.Test.YtnghhfgbobpnkajTextI
import Derived.Test.YtnghhfgbobpnkajCellM
namespace Go.Proofs.Ytnghhfgbobpnkaj.WFnExactCellsText
open Go.RowKit Num

set_option maxRecDepth 100000 in
set_option maxHeartbeats 2000000 in
theorem walk (w : World) (v : Value) (cs : CL) (hC : Cells w v cs) (hl : cs.length ≤ maxLen) (hs : ∀ c ∈ cs, c.1.size ≤ maxLen) (_hw : ∀ c ∈ cs, (Lit.int .i64 c.2).wf = true) :
    Calls Try.prog 5 #[v] w fun e w' => e = .returned (.bool true) ∧ Below w.heap.size w w' := by
  have HC : Hid (Cells w v cs) := hC
  have HS : Hid (∀ c ∈ cs, c.1.size ≤ maxLen) := hs
  clear hC hs _hw
  go_enter Try.func5, Try.ntmps5
  go_wp2_with fail
  refine (szCells_any cs v 1048576 w (by decide) (by decide) HC.out (by unfold maxLen at hl; omega) (fun c hc => by have := HS.out c hc; unfold maxLen at this; omega)).mono ?_
  rintro e w1 ⟨rfl, hb1⟩
  by_cases hneg : szCells cs 1048576 < 0
  · go_wp2
    go_ret
    exact ⟨rfl, hb1⟩
  · obtain ⟨hlen, _, hall⟩ := szCells_bd (Int.le_refl _) (Int.not_lt.1 hneg)
    have HA : Hid (∀ c ∈ cs, (c.1.size : Int) ≤ 1048576) := hall
    clear hall
    go_wp2_with fail
    refine (toCells_any cs v w1 (HC.out.below hb1) hlen).mono ?_
    rintro e w2 ⟨v2, rfl, hown2, hb2⟩
    have B2 := bt hb1 hb2
    have HO2 : Hid (w2.ownsRow w1.heap.size 71 2 v2 cs.length (flat cs)) := hown2
    clear hown2
    go_wp2_with fail
    refine (text_s cs v2 w2 (cells_of_own HO2.out) hlen HA.out).mono ?_
    rintro e w3 ⟨rfl, hb3⟩
    have B3 := bt B2 hb3
    go_wp2_with fail
    refine (toCells_any cs v w3 (HC.out.below B3) hlen).mono ?_
    rintro e w4 ⟨v4, rfl, hown4, hb4⟩
    have B4 := bt B3 hb4
    have HO4 : Hid (w4.ownsRow w3.heap.size 71 2 v4 cs.length (flat cs)) := hown4
    clear hown4
    go_wp2_with fail
    refine (text_i cs v4 w4 (cells_of_own HO4.out) hlen HA.out).mono ?_
    rintro e w5 ⟨rfl, hb5⟩
    have B5 := bt B4 hb5
    go_wp2_with fail
    refine (toCells_any cs v w5 (HC.out.below B5) hlen).mono ?_
    rintro e w6 ⟨v6, rfl, hown6, hb6⟩
    have B6 := bt B5 hb6
    have HO6 : Hid (w6.ownsRow w5.heap.size 71 2 v6 cs.length (flat cs)) := hown6
    clear hown6
    go_wp2_with fail
    refine (eqCells_yes cs v4 v6 w6 ((cells_of_own HO4.out).below (bt hb5 hb6)) (cells_of_own HO6.out) hlen).mono ?_
    rintro e w7 ⟨rfl, hb7⟩
    go_wp2
    go_ret
    exact ⟨rfl, bt B6 hb7⟩

end Go.Proofs.Ytnghhfgbobpnkaj.WFnExactCellsText
