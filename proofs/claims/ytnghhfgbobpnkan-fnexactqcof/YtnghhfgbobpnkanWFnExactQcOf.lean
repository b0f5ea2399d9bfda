/-
  The walk of the law FnExactQcOf: the specification's answer and the program's are the same; what came in is as it was.
-/
import Derived.Test.YtnghhfgbobpnkanVotesL
import Derived.Test.YtnghhfgbobpnkanQcS
import Derived.Test.YtnghhfgbobpnkanBlkE
import Derived.OpenShut
namespace Go.Proofs.Ytnghhfgbobpnkan.WFnExactQcOf
open Go.RowKit Num

set_option maxRecDepth 100000 in
set_option maxHeartbeats 4000000 in
theorem walk_of (HI : ∀ (l : List VT) (va : Value) (p : Int) (_ : (Lit.int .i64 p).wf = true) (v : Int) (_ : (Lit.int .i64 v).wf = true) (b : Int) (_ : (Lit.int .i64 b).wf = true) (n : Int) (_ : (Lit.int .i64 n).wf = true) (w : World) (_ : RowsR w va 4 voteF l) (_ : capOk va) (_ : (l.length : Int) ≤ 1048576), Calls Try.prog 22 #[va, .int .i64 p, .int .i64 v, .int .i64 b, .int .i64 n] w fun e w' => e = .returned (.tuple #[qcVal (qcOfT l p v b n).1, .bool (qcOfT l p v b n).2]) ∧ Below w.heap.size w w') (w : World) (va : Value) (l : List VT) (ha : RowsR w va 4 voteF l) (hl : l.length ≤ maxLen) (_ : ∀ x ∈ l, wfV x) (p : Int) (hp : (Lit.int .i64 p).wf = true) (v : Int) (hv : (Lit.int .i64 v).wf = true) (b : Int) (hb : (Lit.int .i64 b).wf = true) (n : Int) (hn : (Lit.int .i64 n).wf = true) :
    Calls Try.prog 6 #[va, .int .i64 p, .int .i64 v, .int .i64 b, .int .i64 n] w fun e w' => e = .returned (.bool true) ∧ Below w.heap.size w w' := by
  have HI : Hid (∀ (l : List VT) (va : Value) (p : Int) (_ : (Lit.int .i64 p).wf = true) (v : Int) (_ : (Lit.int .i64 v).wf = true) (b : Int) (_ : (Lit.int .i64 b).wf = true) (n : Int) (_ : (Lit.int .i64 n).wf = true) (w : World) (_ : RowsR w va 4 voteF l) (_ : capOk va) (_ : (l.length : Int) ≤ 1048576), Calls Try.prog 22 #[va, .int .i64 p, .int .i64 v, .int .i64 b, .int .i64 n] w fun e w' => e = .returned (.tuple #[qcVal (qcOfT l p v b n).1, .bool (qcOfT l p v b n).2]) ∧ Below w.heap.size w w') := HI
  have HA : Hid (RowsR w va 4 voteF l) := ha
  obtain ⟨a, cap, rfl⟩ := rows_form ha
  clear ha
  by_cases hbig : (1048576 : Int) - (l.length : Int) < 0
  · go_enter Try.func6, Try.ntmps6
    go_wp2_with fail
    refine (szVotes_any l.length cap a 1048576 w (by decide) (by decide) hl).mono ?_
    rintro e w' ⟨rfl, hw⟩
    obtain rfl := hw.symm
    clear hw
    rw [if_pos (show (1048576 : Int) - (l.length : Int) < 0 by omega)]
    go_wp2
    go_ret
    exact ⟨rfl, Below.refl _ _⟩
  · have HL : Hid ((l.length : Int) ≤ 1048576) := (by omega : (l.length : Int) ≤ 1048576)
    go_enter Try.func6, Try.ntmps6
    go_wp2_with fail
    refine (szVotes_any l.length cap a 1048576 w (by decide) (by decide) hl).mono ?_
    rintro e w' ⟨rfl, hw⟩
    obtain rfl := hw.symm
    clear hw
    rw [if_neg (show ¬ ((1048576 : Int) - (l.length : Int) < 0) by omega)]
    go_wp2_with fail
    clear hbig
    refine (toVotes_any l _ w HA.out HL.out).mono ?_
    rintro e w1 ⟨v1, rfl, hown, B1⟩
    have HO1 : Hid (w1.ownsRow w.heap.size 49 4 v1 l.length (flatR voteF l)) := hown
    clear hown
    go_wp2_with fail
    refine (qcOf_s l v1 p v b n w1 (rows_of_own voteF_len HO1.out) HL.out (bounds_i64 hn).1 (bounds_i64 hn).2).mono ?_
    rintro e w2 ⟨rfl, hb2⟩
    have B2 : Below w.heap.size w w2 := bt B1 hb2
    clear hb2
    obtain ⟨⟨q, t⟩, hr⟩ : ∃ r, r = qcOfT l p v b n := ⟨_, rfl⟩
    have HRR : Hid (qcOfT l p v b n = (q, t)) := hr.symm
    rw [HRR.out]
    clear hr
    obtain ⟨q0, q1, q2, q3⟩ := q
    unfold qcVal
    simp only
    have HBq : Hid (Below w2.heap.size w2 (w2.alloc (.cells #[.int .i64 q0, .int .i64 q1, .int .i64 q2, .int .i64 q3] 38))) := ba (Below.refl _ _) _
    have hs2 : w2.heap.size < (w2.alloc (.cells #[.int .i64 q0, .int .i64 q1, .int .i64 q2, .int .i64 q3] 38)).heap.size := by simp
    obtain ⟨W2, hW2⟩ : ∃ W2, W2 = w2.alloc (.cells #[.int .i64 q0, .int .i64 q1, .int .i64 q2, .int .i64 q3] 38) := ⟨_, rfl⟩
    have HX2 : Hid (W2.heap[w2.heap.size]? = some (.cells #[.int .i64 q0, .int .i64 q1, .int .i64 q2, .int .i64 q3] 38 (0, 0))) := (by rw [hW2]; exact heap_alloc_new w2 _ : W2.heap[w2.heap.size]? = some (.cells #[.int .i64 q0, .int .i64 q1, .int .i64 q2, .int .i64 q3] 38 (0, 0)))
    have B2' : Below w.heap.size w W2 := by rw [hW2]; exact bt B2 HBq.out
    rw [← hW2] at hs2
    go_wp2_with fail
    rw [← hW2]
    clear hW2 HBq
    refine (toVotes_any l _ W2 (HA.out.below B2') HL.out).mono ?_
    rintro e w3 ⟨v3, rfl, hown, hb3⟩
    have HO3 : Hid (w3.ownsRow W2.heap.size 49 4 v3 l.length (flatR voteF l)) := hown
    have HB3 : Hid (Below _ _ w3) := hb3
    have B3 : Below w.heap.size w w3 := bt B2' hb3
    clear hown hb3
    go_wp2_with fail
    refine (HI.out l v3 p hp v hv b hb n hn w3 (rows_of_own voteF_len HO3.out) (capOk_own HO3.out) HL.out).mono ?_
    rintro e w4 ⟨rfl, hb4⟩
    have HB4' : Hid (Below _ _ w4) := hb4
    have B4' : Below w.heap.size w w4 := bt B3 hb4
    clear hb4
    rw [HRR.out]
    unfold qcVal
    simp only
    obtain ⟨W4, hW4⟩ : ∃ W4, W4 = w4.alloc (.cells #[.int .i64 q0, .int .i64 q1, .int .i64 q2, .int .i64 q3] 38) := ⟨_, rfl⟩
    have HBx : Hid (Below w4.heap.size w4 W4) := (by rw [hW4]; exact ba (Below.refl _ _) _ : Below w4.heap.size w4 W4)
    have HB4 : Hid (Below w3.heap.size w3 W4) := bt HB4'.out HBx.out
    have B4 : Below w.heap.size w W4 := bt B4' HBx.out
    have HX4 : Hid (W4.heap[w4.heap.size]? = some (.cells #[.int .i64 q0, .int .i64 q1, .int .i64 q2, .int .i64 q3] 38 (0, 0))) := (by rw [hW4]; exact heap_alloc_new w4 _ : W4.heap[w4.heap.size]? = some (.cells #[.int .i64 q0, .int .i64 q1, .int .i64 q2, .int .i64 q3] 38 (0, 0)))
    obtain ⟨z0, z1, z2, z3⟩ := vote_cells ((bt HB3.out HB4.out).block _ hs2 |>.trans HX2.out)
    obtain ⟨y0, y1, y2, y3⟩ := vote_cells HX4.out
    clear y0 y1 y2 y3
    rw [hW4] at z0 z1 z2 z3
    go_wp2_with fail
    rw [← hW4]
    clear hW4 z0 z1 z2 z3
    refine (eqQc_yes (q0, q1, q2, q3) W4).mono ?_
    rintro e w5 ⟨rfl, hb5⟩
    have HB5 : Hid (Below _ _ w5) := hb5
    have B5 : Below w.heap.size w w5 := bt B4 hb5
    clear hb5
    have d0 : (t != t) = false := by simp
    go_wp2_with fail
    refine (toVotes_any l _ w5 (HA.out.below B5) HL.out).mono ?_
    rintro e w6 ⟨v6, rfl, hown, hb6⟩
    have HO6 : Hid (w6.ownsRow w5.heap.size 49 4 v6 l.length (flatR voteF l)) := hown
    have HB6 : Hid (Below _ _ w6) := hb6
    have B6 : Below w.heap.size w w6 := bt B5 hb6
    clear hown hb6
    go_wp2_with fail
    refine (eqVotes_yes l v3 v6 w6 ((rows_of_own voteF_len HO3.out).below (bt (bt HB4.out HB5.out) HB6.out)) (rows_of_own voteF_len HO6.out) HL.out).mono ?_
    rintro e w7 ⟨rfl, hb7⟩
    have B7 : Below w.heap.size w w7 := bt B6 hb7
    clear hb7
    go_wp2
    go_ret
    exact ⟨rfl, B7⟩

end Go.Proofs.Ytnghhfgbobpnkan.WFnExactQcOf
