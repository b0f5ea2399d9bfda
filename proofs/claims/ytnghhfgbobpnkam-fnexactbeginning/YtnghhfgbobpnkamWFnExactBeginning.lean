/-
  The walk of the law FnExactBeginning: the specification's answer and the program's are the same; what came in is as it was.
-/
import Derived.Test.YtnghhfgbobpnkamCmdsM
import Derived.Test.YtnghhfgbobpnkamIntOpen
import Derived.Test.YtnghhfgbobpnkamBeginS
import Derived.Test.YtnghhfgbobpnkamRevI
namespace Go.Proofs.Ytnghhfgbobpnkam.WFnExactBeginning
open Go.RowKit Num

set_option maxRecDepth 100000 in
set_option maxHeartbeats 4000000 in
theorem walk (w : World) (va : Value) (l : List Int) (ha : RowsR w va 1 intF l) (_ : l.length ≤ maxLen) (_ : ∀ x ∈ l, goodInt x) (vb : Value) (l' : List Int) (hb : RowsR w vb 1 intF l') (_ : l'.length ≤ maxLen) (_ : ∀ x ∈ l', goodInt x) :
    Calls Try.prog 4 #[va, vb] w fun e w' => e = .returned (.bool true) ∧ Below w.heap.size w w' := by
  have HA : Hid (RowsR w va 1 intF l) := ha
  have HB : Hid (RowsR w vb 1 intF l') := hb
  obtain ⟨aa, na, rfl⟩ := rows_form ha
  obtain ⟨ab, nb, rfl⟩ := rows_form hb
  clear ha hb
  by_cases h1 : (1048576 : Int) < l.length
  · go_enter Try.func4, Try.ntmps4
    go_wp2
    go_ret
    exact ⟨rfl, Below.refl _ _⟩
  · by_cases h2 : (1048576 : Int) < l'.length
    · go_enter Try.func4, Try.ntmps4
      go_wp2
      go_ret
      exact ⟨rfl, Below.refl _ _⟩
    · have HLA : Hid ((l.length : Int) ≤ 1048576) := (by omega : (l.length : Int) ≤ 1048576)
      have HLB : Hid ((l'.length : Int) ≤ 1048576) := (by omega : (l'.length : Int) ≤ 1048576)
      go_enter Try.func4, Try.ntmps4
      go_wp2_with fail
      refine (toInts_any l _ w HA.out HLA.out).mono ?_
      rintro e w1 ⟨v1, rfl, hown, B1⟩
      have HO1 : Hid (w1.ownsRow w.heap.size 3 1 v1 l.length (flatR intF l)) := hown
      clear hown
      go_wp2_with fail
      refine (toInts_any l' _ w1 (HB.out.below B1) HLB.out).mono ?_
      rintro e w2 ⟨v2, rfl, hown, hb2⟩
      have HO2 : Hid (w2.ownsRow w1.heap.size 3 1 v2 l'.length (flatR intF l')) := hown
      have HB2 : Hid (Below _ _ w2) := hb2
      have B2 : Below w.heap.size w w2 := bt B1 hb2
      clear hown hb2
      go_wp2_with fail
      refine (begin_s l l' v1 v2 w2 ((rows_of_own intF_len HO1.out).below HB2.out) (rows_of_own intF_len HO2.out) HLA.out HLB.out).mono ?_
      rintro e w3 ⟨rfl, hb3⟩
      have B3 : Below w.heap.size w w3 := bt B2 hb3
      clear hb3
      go_wp2_with fail
      refine (toInts_any l _ w3 (HA.out.below B3) HLA.out).mono ?_
      rintro e w4 ⟨v4, rfl, hown, hb4⟩
      have HO4 : Hid (w4.ownsRow w3.heap.size 3 1 v4 l.length (flatR intF l)) := hown
      have B4 : Below w.heap.size w w4 := bt B3 hb4
      clear hown hb4
      go_wp2_with fail
      refine (toInts_any l' _ w4 (HB.out.below B4) HLB.out).mono ?_
      rintro e w5 ⟨v5, rfl, hown, hb5⟩
      have HO5 : Hid (w5.ownsRow w4.heap.size 3 1 v5 l'.length (flatR intF l')) := hown
      have HB5 : Hid (Below _ _ w5) := hb5
      have B5 : Below w.heap.size w w5 := bt B4 hb5
      clear hown hb5
      go_wp2_with fail
      refine (begin_i l l' v4 v5 w5 ((rows_of_own intF_len HO4.out).below HB5.out) (rows_of_own intF_len HO5.out) (capOk_own HO4.out) (capOk_own HO5.out) HLA.out HLB.out).mono ?_
      rintro e w6 ⟨rfl, hb6⟩
      have HB6 : Hid (Below _ _ w6) := hb6
      have B6 : Below w.heap.size w w6 := bt B5 hb6
      clear hb6
      obtain ⟨r, hr⟩ : ∃ r, r = beginB l l' := ⟨_, rfl⟩
      rw [← hr]
      clear hr
      cases r
      all_goals
        go_wp2_with fail
        refine (toInts_any l _ w6 (HA.out.below B6) HLA.out).mono ?_
        rintro e w7 ⟨v7, rfl, hown, hb7⟩
        have HO7 : Hid (w7.ownsRow w6.heap.size 3 1 v7 l.length (flatR intF l)) := hown
        have HB7 : Hid (Below _ _ w7) := hb7
        have B7 : Below w.heap.size w w7 := bt B6 hb7
        clear hown hb7
        go_wp2_with fail
        refine (eqInts_yes l v4 v7 w7 ((rows_of_own intF_len HO4.out).below (bt (bt HB5.out HB6.out) HB7.out)) (rows_of_own intF_len HO7.out) HLA.out).mono ?_
        rintro e w8 ⟨rfl, hb8⟩
        have HB8 : Hid (Below _ _ w8) := hb8
        have B8 : Below w.heap.size w w8 := bt B7 hb8
        clear hb8
        go_wp2_with fail
        refine (toInts_any l' _ w8 (HB.out.below B8) HLB.out).mono ?_
        rintro e w9 ⟨v9, rfl, hown, hb9⟩
        have HO9 : Hid (w9.ownsRow w8.heap.size 3 1 v9 l'.length (flatR intF l')) := hown
        have HB9 : Hid (Below _ _ w9) := hb9
        have B9 : Below w.heap.size w w9 := bt B8 hb9
        clear hown hb9
        go_wp2_with fail
        refine (eqInts_yes l' v5 v9 w9 ((rows_of_own intF_len HO5.out).below (bt (bt (bt HB6.out HB7.out) HB8.out) HB9.out)) (rows_of_own intF_len HO9.out) HLB.out).mono ?_
        rintro e w10 ⟨rfl, hb10⟩
        have B10 : Below w.heap.size w w10 := bt B9 hb10
        clear hb10
        go_wp2
        go_ret
        exact ⟨rfl, B10⟩

end Go.Proofs.Ytnghhfgbobpnkam.WFnExactBeginning
