/-
  The walk of the law FnExactSaidTwice: the specification's answer and the program's are the same; what came in is as it was.
-/
import Derived.Test.YtnghhfgbobpnkaqSaidS
namespace Go.Proofs.Ytnghhfgbobpnkaq.WFnExactSaidTwice
open Go.RowKit Num

/-- the program's contract -/
def Prg : Prop := ∀ (l : List VT) (v : Value) (base : Nat) (w : World) (_ : w.ownsRow base 59 4 v l.length (flatR voteF l)) (_ : (l.length : Int) ≤ 1048576) (_ : ∀ x ∈ l, wfV x), Calls Try.prog 24 #[v] w fun e w' => e = .returned (.bool (twiceB l)) ∧ Below w.heap.size w w'

set_option maxRecDepth 100000 in
set_option maxHeartbeats 4000000 in
theorem walk_of (HI : Prg) (w : World) (va : Value) (l : List VT) (ha : RowsR w va 4 voteF l) (hl : l.length ≤ maxLen) (hwf : ∀ x ∈ l, wfV x) :
    Calls Try.prog 4 #[va] w fun e w' => e = .returned (.bool true) ∧ Below w.heap.size w w' := by
  have HA : Hid (RowsR w va 4 voteF l) := ha
  have HWF : Hid (∀ x ∈ l, wfV x) := hwf
  clear hwf
  obtain ⟨a, cap, rfl, -⟩ := ha
  by_cases hbig : (1048576 : Int) - (l.length : Int) < 0
  · go_enter Try.func4, Try.ntmps4
    go_wp2_with fail
    refine (szVotes_any l.length cap a 1048576 w (by decide) (by decide) hl).mono ?_
    rintro e w' ⟨rfl, hw⟩
    obtain rfl := hw.symm
    clear hw
    rw [if_pos (show (1048576 : Int) - (l.length : Int) < 0 by omega)]
    go_wp2
    go_ret
    exact ⟨rfl, Below.refl _ _⟩
  · have HL : Hid ((l.length : Int) ≤ 1048576) := (by omega : (l.length : Int) ≤ 1048576)
    go_enter Try.func4, Try.ntmps4
    go_wp2_with fail
    refine (szVotes_any l.length cap a 1048576 w (by decide) (by decide) hl).mono ?_
    rintro e w' ⟨rfl, hw⟩
    obtain rfl := hw.symm
    clear hw
    rw [if_neg (show ¬ ((1048576 : Int) - (l.length : Int) < 0) by omega)]
    go_wp2_with fail
    clear hbig
    refine (toVotes_any l _ w HA.out HL.out).mono ?_
    rintro e w1 ⟨v1, rfl, hown, B1⟩
    have HO1 : Hid (w1.ownsRow w.heap.size 59 4 v1 l.length (flatR voteF l)) := hown
    clear hown
    go_wp2_with fail
    refine (saidTwice_s l v1 w1 (rows_of_own voteF_len HO1.out) HL.out).mono ?_
    rintro e w2 ⟨rfl, hb2⟩
    have B2 : Below w.heap.size w w2 := bt B1 hb2
    clear hb2
    go_wp2_with fail
    refine (toVotes_any l _ w2 (HA.out.below B2) HL.out).mono ?_
    rintro e w3 ⟨v3, rfl, hown, hb3⟩
    have HO3 : Hid (w3.ownsRow w2.heap.size 59 4 v3 l.length (flatR voteF l)) := hown
    have B3 : Below w.heap.size w w3 := bt B2 hb3
    clear hown hb3
    go_wp2_with fail
    refine (HI l v3 _ w3 HO3.out HL.out HWF.out).mono ?_
    rintro e w4 ⟨rfl, hb4⟩
    have HB4 : Hid (Below _ _ w4) := hb4
    have B4 : Below w.heap.size w w4 := bt B3 hb4
    clear hb4
    obtain ⟨r, hr⟩ : ∃ r, r = twiceB l := ⟨_, rfl⟩
    rw [← hr]
    clear hr
    have d0 : (r != r) = false := by simp
    go_wp2_with fail
    refine (toVotes_any l _ w4 (HA.out.below B4) HL.out).mono ?_
    rintro e w5 ⟨v5, rfl, hown, hb5⟩
    have HO5 : Hid (w5.ownsRow w4.heap.size 59 4 v5 l.length (flatR voteF l)) := hown
    have HB5 : Hid (Below _ _ w5) := hb5
    have B5 : Below w.heap.size w w5 := bt B4 hb5
    clear hown hb5
    go_wp2_with fail
    refine (eqVotes_yes l v3 v5 w5 ((rows_of_own voteF_len HO3.out).below (bt HB4.out HB5.out)) (rows_of_own voteF_len HO5.out) HL.out).mono ?_
    rintro e w6 ⟨rfl, hb6⟩
    have B6 : Below w.heap.size w w6 := bt B5 hb6
    clear hb6
    go_wp2
    go_ret
    exact ⟨rfl, B6⟩

end Go.Proofs.Ytnghhfgbobpnkaq.WFnExactSaidTwice
