/-
  The walk of the law FnStands: of two blocks of a drawn tree one stands on the other one, or they clash; a row goes down by Parents; who stands on one stands on all below.
-/
import Derived.Test.YtjdddcldbfhbiabDrawB3
import Derived.Test.YtjdddcldbfhbiabDrawB4
import Derived.Test.YtjdddcldbfhbiabStandN
import Derived.Test.YtjdddcldbfhbiabSameI
namespace Go.Proofs.Ytjdddcldbfhbiab.WFnStands
open Go.RowKit Num

set_option maxRecDepth 100000 in
theorem walk_big (w : World) (ao : Option Addr) (len cap : Nat) (h : (1048576 : Int) < len) :
    Calls Try.prog 3 #[.slice ao len cap] w fun e w' => e = .returned (.bool true) ∧ Below w.heap.size w w' := by
  go_enter Try.func3, Try.ntmps3
  go_wp2
  go_ret
  exact ⟨rfl, Below.refl _ _⟩

theorem big_no (w : World) (ao : Option Addr) (len cap : Nat) (h : (len : Int) ≤ 1048576) :
    Calls Try.prog 8 #[.slice ao len cap] w fun e w' => e = .returned (.bool false) ∧ w' = w := by
  go_enter Try.func8, Try.ntmps8
  go_wp2
  go_ret
  exact ⟨by simp; omega, rfl⟩

set_option maxRecDepth 100000 in
set_option maxHeartbeats 16000000 in
theorem walk (w : World) (ao : Option Addr) (len cap b off : Nat) (hc : Code w ao len b off) :
    Calls Try.prog 3 #[.slice ao len cap] w fun e w' => e = .returned (.bool true) ∧ Below w.heap.size w w' := by
  have HC : Hid (Code w ao len b off) := hc
  have hle : (len : Int) ≤ 1048576 := by have := hc.le; omega
  clear hc
  go_enter Try.func3, Try.ntmps3
  go_wp2_with fail
  refine (big_no w ao len cap hle).mono ?_
  rintro e w0 ⟨rfl, hw⟩
  obtain rfl := hw.symm
  clear hw
  go_wp2_with fail
  refine (drawTree_any HC.out).mono ?_
  rintro e w1 ⟨v1, q, rfl, hd, hown1, hb1⟩
  have HD : Hid (Drw (bks q) 9) := hd
  have HO1 : Hid (OwnT w1 w.heap.size v1 q) := hown1
  have HB1 : Hid (Below w.heap.size w w1) := hb1
  have hqp : 0 < q.length := by have := hd.pos; rw [bks_len] at this; exact this
  have hq9 : q.length ≤ 9 := by have := hd.len; rw [bks_len] at this; exact this
  obtain ⟨a1, c1, h4, hz⟩ := own_form hown1.row
  subst h4
  obtain ⟨g, rfl⟩ := hz hqp
  clear hd hown1 hb1 hz
  go_wp2_with fail
  refine (drawPlaces_any (HC.out.below HB1.out)).mono ?_
  rintro e w2 ⟨v2, xs, rfl, hxl, hxs, hown2, hb2⟩
  obtain ⟨a2, c2, h4, hz⟩ := own_form hown2
  subst h4
  obtain ⟨g2, rfl⟩ := hz (by omega)
  obtain ⟨p, hp⟩ : ∃ p, p = xs[0]'(by omega) := ⟨_, rfl⟩
  obtain ⟨p', hp'⟩ : ∃ p', p' = xs[1]'(by omega) := ⟨_, rfl⟩
  have hp01 : 0 ≤ p ∧ p < 10000 := by rw [hp]; exact hxs _ (List.getElem_mem _)
  have hp01' : 0 ≤ p' ∧ p' < 10000 := by rw [hp']; exact hxs _ (List.getElem_mem _)
  have x0 : w2.cell? ⟨g2, 0, none⟩ = some (.int .i64 p) := by
    rw [(own_cell hown2 0 (by omega)).1, hp]
    have := flatR_at intF_len xs 0 (by omega) 0 (by omega)
    simpa [intF] using this
  have x1 : w2.cell? ⟨g2, 1, none⟩ = some (.int .i64 p') := by
    rw [(own_cell hown2 1 (by omega)).1, hp']
    have := flatR_at intF_len xs 1 (by omega) 0 (by omega)
    simpa [intF] using this
  have hx12 : (0 : Int) < (xs.length : Int) := by omega
  have hx13 : (1 : Int) < (xs.length : Int) := by omega
  have hp0 := hp01.1
  have hp1 := hp01.2
  have hp0' := hp01'.1
  have hp1' := hp01'.2
  have HO2 : Hid (OwnT w2 w.heap.size (.slice (some ⟨g, 0, none⟩) q.length c1) q) := HO1.out.below hb2
  have HB2 : Hid (Below w.heap.size w w2) := bt HB1.out hb2
  have hn0 : (q.length : Int) ≠ 0 := by omega
  have hn1 : (0 : Int) < (q.length : Int) := by omega
  obtain ⟨k, hk0⟩ := Int.eq_ofNat_of_zero_le (Int.emod_nonneg p hn0)
  obtain ⟨k', hk0'⟩ := Int.eq_ofNat_of_zero_le (Int.emod_nonneg p' hn0)
  have hkq : k < q.length := by have := Int.emod_lt_of_pos p hn1; omega
  have hkq' : k' < q.length := by have := Int.emod_lt_of_pos p' hn1; omega
  have HKK : Hid (p % (q.length : Int) = (k : Int)) := hk0
  have HKK' : Hid (p' % (q.length : Int) = (k' : Int)) := hk0'
  have HQL : Hid ((q.length : Int) ≤ 1048576) := (by omega : (q.length : Int) ≤ 1048576)
  have HQ2 : Hid (TreeQ w2 (.slice (some ⟨g, 0, none⟩) q.length c1) q) := HO2.out.read.q
  obtain ⟨la, hla⟩ := drw_down HD.out k k (Nat.le_refl _) (by rw [bks_len]; exact hkq)
  obtain ⟨lb, hlb⟩ := drw_down HD.out k' k' (Nat.le_refl _) (by rw [bks_len]; exact hkq')
  have HLA : Hid (down (bks q) (k : Int) = some la) := hla
  have HLB : Hid (down (bks q) (k' : Int) = some lb) := hlb
  have hrl : (rowI (bks q) (k : Int)).length ≤ 9 := by have := row_le (bks q) (k : Int); rw [bks_len] at this; omega
  have HAL : Hid ((afterI (bks q) (k : Int) (k' : Int)).length ≤ 9) := (by have := after_le (bks q) (k : Int) (k' : Int); rw [bks_len] at this; omega : (afterI (bks q) (k : Int) (k' : Int)).length ≤ 9)
  have hh9 : 0 ≤ heightT (bks q) (k' : Int) ∧ heightT (bks q) (k' : Int) ≤ 9 := by rw [heightT_some hlb]; have := down_len hlb; rw [bks_len] at this; omega
  clear hp hp' hp01 hp01' hown2 hxs hxl hz hb2 hk0 hk0' HO1 HB1 hla hlb
  go_wp2_with fail
  clear x0 x1 hx12 hx13
  rw [HKK.out, HKK'.out]
  clear hp0 hp1 hp0' hp1' HKK HKK'
  refine (rowTo_i q _ (k : Int) w2 HQ2.out HQL.out).mono ?_
  rintro e w3 ⟨vr, rfl, hown, hb3⟩
  obtain ⟨ar, cr, e4, hz⟩ := own_form hown
  subst e4
  obtain ⟨r, hr⟩ : ∃ r, r = rowI (bks q) (k : Int) := ⟨_, rfl⟩
  have HRR : Hid (rowI (bks q) (k : Int) = r) := hr.symm
  rw [← hr] at hown hz hrl ⊢
  clear hr
  have HR3 : Hid (w3.ownsRow w2.heap.size 3 1 (.slice ar r.length cr) r.length (flatR intF r)) := hown
  have HZ : Hid (0 < r.length → ∃ g, ar = some ⟨g, 0, none⟩) := hz
  have HQ3 : Hid (TreeQ w3 (.slice (some ⟨g, 0, none⟩) q.length c1) q) := HQ2.out.below hb3
  have HB3 : Hid (Below w.heap.size w w3) := bt HB2.out hb3
  have HO3 : Hid (OwnT w3 w.heap.size (.slice (some ⟨g, 0, none⟩) q.length c1) q) := HO2.out.below hb3
  clear hown hz hb3
  go_wp2
  go_loopw [8, 9] (fun i _ wr => ∃ m : Nat, m ≤ r.length ∧ i = .int .i64 (m : Int) ∧ Below w3.heap.size w3 wr) (fun i _ _ => r.length - (intOf i).toNat)
  case atStart => exact ⟨0, Nat.zero_le _, rfl, Below.refl _ _⟩
  case round =>
    obtain ⟨i, hi, rfl, hbel⟩ := hrel
    have HBE : Hid (Below w3.heap.size w3 wr) := hbel
    clear hbel
    by_cases hlt : (i : Int) < r.length
    · have hin : i < r.length := by omega
      obtain ⟨gr, rfl⟩ := HZ.out (by omega)
      have hst : ∃ m : Nat, m < q.length ∧ r[i] = (m : Int) ∧ parAt (bks q) m = (if 0 < i then r[i - 1]'(by omega) else 0) ∧ extT (bks q) (k : Int) (m : Int) = true ∧ heightT (bks q) (m : Int) = (i : Int) + 1 := by
        have := row_step (t := bks q) (k := (k : Int)) (i := i) (by rw [HRR.out]; exact hin)
        simp only [HRR.out, bks_len] at this
        exact this
      obtain ⟨m, hm, e1, e2, e3, e4⟩ := hst
      rw [bks_par hm] at e2
      have q0 : (0 : Int) ≤ (i : Int) := by omega
      have q2 : (0 : Int) ≤ (m : Int) := by omega
      have q3 : (m : Int) < (q.length : Int) := by omega
      have HCR : Hid (∀ w', Below w3.heap.size w3 w' → w'.cell? ⟨gr, i, none⟩ = some (.int .i64 (m : Int))) := fun w' h' => by
        rw [(own_cell (own_kept HR3.out h') i (by omega)).1, flatI_at hin, e1]
      have HE3 : Hid (extT (bks q) (k : Int) (m : Int) = true) := e3
      have HE4 : Hid (heightT (bks q) (m : Int) = (i : Int) + 1) := e4
      have hwr : ((i : Int) + 1 != (i : Int) + 1) = false := by simp
      clear e3 e4
      cases i with
      | zero =>
        have hpar : q[m].1.1.1 = 0 := e2
        have c1' : wr.cell? ⟨g, m * 7, none⟩ = some (.int .i64 0) := by
          have := (own_blk (own_kept HO3.out.row HBE.out) rfl hm).1
          rw [hpar] at this
          exact this
        have c0 := HCR.out _ HBE.out
        clear e1 e2 hpar
        go_wp2_with fail
        refine (extends_i q _ (k : Int) (m : Int) wr (HQ3.out.below HBE.out) HQL.out).mono ?_
        rintro e w4 ⟨rfl, hb4⟩
        rw [HE3.out]
        have HB4 : Hid (Below w3.heap.size w3 w4) := bt HBE.out hb4
        clear hb4 c0 c1'
        have c0 := HCR.out _ HB4.out
        go_wp2_with fail
        refine (height_i q _ (m : Int) w4 (HQ3.out.below HB4.out) HQL.out).mono ?_
        rintro e w5 ⟨rfl, hb5⟩
        rw [HE4.out]
        have HB5 : Hid (Below w3.heap.size w3 w5) := bt HB4.out hb5
        clear hb5 c0
        go_wp2
        go_roundw
        case rel => exact ⟨1, by omega, by go_num, HB5.out⟩
        case measure => simp [intOf]; omega
      | succ i =>
        have hpar : q[m].1.1.1 = r[i] := by rw [e2, if_pos (by omega)]; rfl
        have c1' : wr.cell? ⟨g, m * 7, none⟩ = some (.int .i64 r[i]) := by
          have := (own_blk (own_kept HO3.out.row HBE.out) rfl hm).1
          rw [hpar] at this
          exact this
        have c2' : wr.cell? ⟨gr, i, none⟩ = some (.int .i64 r[i]) := by rw [(own_cell (own_kept HR3.out HBE.out) i (by omega)).1, flatI_at (by omega)]
        have c0 := HCR.out _ HBE.out
        have d0 : (r[i] != r[i]) = false := by simp
        have q4 : (0 : Int) < (i : Int) + 1 := by omega
        have q5 : (0 : Int) ≤ (i : Int) := by omega
        have q6 : (i : Int) < (r.length : Int) := by omega
        clear e1 e2 hpar
        go_wp2_with fail
        refine (extends_i q _ (k : Int) (m : Int) wr (HQ3.out.below HBE.out) HQL.out).mono ?_
        rintro e w4 ⟨rfl, hb4⟩
        rw [HE3.out]
        have HB4 : Hid (Below w3.heap.size w3 w4) := bt HBE.out hb4
        clear hb4 c0 c1' c2'
        have c0 := HCR.out _ HB4.out
        go_wp2_with fail
        refine (height_i q _ (m : Int) w4 (HQ3.out.below HB4.out) HQL.out).mono ?_
        rintro e w5 ⟨rfl, hb5⟩
        rw [HE4.out]
        have HB5 : Hid (Below w3.heap.size w3 w5) := bt HB4.out hb5
        clear hb5 c0
        go_wp2
        go_roundw
        case rel => exact ⟨i + 1 + 1, by omega, by go_num, HB5.out⟩
        case measure => simp [intOf]; omega
    · go_wp2_with fail
      clear hlt hi
      refine (extends_i q _ (k : Int) (k' : Int) wr (HQ3.out.below HBE.out) HQL.out).mono ?_
      rintro e w4 ⟨rfl, hb4⟩
      have HB4 : Hid (Below w3.heap.size w3 w4) := bt HBE.out hb4
      clear hb4
      go_wp2_with fail
      refine (rowAfter_i q _ (k : Int) (k' : Int) w4 (HQ3.out.below HB4.out) HQL.out).mono ?_
      rintro e w5 ⟨va, rfl, hown, hb5⟩
      have HB5 : Hid (Below w3.heap.size w3 w5) := bt HB4.out hb5
      obtain ⟨aa, ca, e4, _⟩ := own_form hown
      subst e4
      clear hown hb5
      obtain ⟨n, hn⟩ : ∃ n, n = (afterI (bks q) (k : Int) (k' : Int)).length := ⟨_, rfl⟩
      have HN : Hid ((afterI (bks q) (k : Int) (k' : Int)).length = n) := hn.symm
      rw [← hn]
      have hn9 : n ≤ 9 := by rw [hn]; exact HAL.out
      clear hn
      obtain ⟨hb, hhb⟩ : ∃ hb, hb = heightT (bks q) (k' : Int) := ⟨_, rfl⟩
      have HHB : Hid (heightT (bks q) (k' : Int) = hb) := hhb.symm
      rw [← hhb] at hh9
      have hh0 := hh9.1
      have hh1 := hh9.2
      clear hhb hh9
      have HRH : Hid (heightT (bks q) (k : Int) = (r.length : Int)) := (by have := row_len HLA.out; rw [HRR.out] at this; exact this.symm : heightT (bks q) (k : Int) = (r.length : Int))
      have HIS : Hid (extT (bks q) (k : Int) (k' : Int) = (decide ((k : Int) = (k' : Int)) || (decide ((k' : Int) = 0) || decide ((k' : Int) ∈ r)))) := (by have := ext_is (b := (k' : Int)) HLA.out; rw [HRR.out] at this; exact this : extT (bks q) (k : Int) (k' : Int) = (decide ((k : Int) = (k' : Int)) || (decide ((k' : Int) = 0) || decide ((k' : Int) ∈ r))))
      have HCL : Hid (clashT (bks q) (k : Int) (k' : Int) = (!extT (bks q) (k : Int) (k' : Int) && !extT (bks q) (k' : Int) (k : Int))) := clash_is HLA.out HLB.out
      have HEZ : Hid (extT (bks q) (k : Int) 0 = true) := ext_zero HLA.out
      have dr : ((r.length : Int) == (r.length : Int)) = true := by simp
      cases hon : extT (bks q) (k : Int) (k' : Int) with
      | true =>
        have HAF : Hid ((n : Int) = (r.length : Int) - hb) := (by have := after_len HLA.out hon; rw [HRR.out, HN.out, HHB.out] at this; exact this : (n : Int) = (r.length : Int) - hb)
        have HC1 : Hid (clashT (bks q) (k : Int) (k' : Int) = false) := (by rw [HCL.out, hon]; rfl : clashT (bks q) (k : Int) (k' : Int) = false)
        have HIN : Hid (true = (decide ((k : Int) = (k' : Int)) || (decide ((k' : Int) = 0) || decide ((k' : Int) ∈ r)))) := (by rw [← hon]; exact HIS.out : true = (decide ((k : Int) = (k' : Int)) || (decide ((k' : Int) = 0) || decide ((k' : Int) ∈ r))))
        clear hon HIS HCL
        have da : ((n : Int) != (r.length : Int) - hb) = false := by rw [HAF.out]; simp
        go_wp2_with fail
        refine (height_i q _ (k' : Int) w5 (HQ3.out.below HB5.out) HQL.out).mono ?_
        rintro e w6 ⟨rfl, hb6⟩
        rw [HHB.out]
        have HB6 : Hid (Below w3.heap.size w3 w6) := bt HB5.out hb6
        clear hb6
        go_wp2_with fail
        clear da
        refine (height_i q _ (k : Int) w6 (HQ3.out.below HB6.out) HQL.out).mono ?_
        rintro e w7 ⟨rfl, hb7⟩
        rw [HRH.out]
        have HB7 : Hid (Below w3.heap.size w3 w7) := bt HB6.out hb7
        clear hb7
        go_wp2_with fail
        clear dr
        refine (clash_i q _ (k : Int) (k' : Int) w7 (HQ3.out.below HB7.out) HQL.out).mono ?_
        rintro e w8 ⟨rfl, hb8⟩
        rw [HC1.out]
        have HB8 : Hid (Below w3.heap.size w3 w8) := bt HB7.out hb8
        clear hb8
        go_wp2_with fail
        refine (extends_i q _ (k : Int) 0 w8 (HQ3.out.below HB8.out) HQL.out).mono ?_
        rintro e w9 ⟨rfl, hb9⟩
        rw [HEZ.out]
        have HB9 : Hid (Below w3.heap.size w3 w9) := bt HB8.out hb9
        clear hb9
        by_cases hab : (k : Int) = (k' : Int)
        · have d1 : ((k : Int) == (k' : Int)) = true := by simpa using hab
          clear hab
          go_wp2
          go_ret
          exact ⟨rfl, bt HB3.out HB9.out⟩
        · have d1 : ((k : Int) == (k' : Int)) = false := by simpa using hab
          by_cases hb0 : (k' : Int) = 0
          · have d2 : ((k' : Int) == 0) = true := by simpa using hb0
            clear hab hb0
            go_wp2
            go_ret
            exact ⟨rfl, bt HB3.out HB9.out⟩
          · have d2 : ((k' : Int) == 0) = false := by simpa using hb0
            have HI2 : Hid (decide ((k' : Int) ∈ r) = true) := (by have := HIN.out; rw [decide_eq_false hab, decide_eq_false hb0, Bool.false_or, Bool.false_or] at this; exact this.symm : decide ((k' : Int) ∈ r) = true)
            clear hab hb0
            go_wp2_with fail
            refine (inInts_any r _ (k' : Int) w9 ((rows_of_own intF_len HR3.out).below HB9.out) (by omega)).mono ?_
            rintro e w' ⟨rfl, hw⟩
            obtain rfl := hw.symm
            clear hw
            rw [HI2.out]
            go_wp2
            go_ret
            exact ⟨rfl, bt HB3.out HB9.out⟩
      | false =>
        have hn0' : n = 0 := by have := HN.out; rw [after_no hon] at this; exact this.symm
        subst hn0'
        have HC1 : Hid (clashT (bks q) (k : Int) (k' : Int) = !extT (bks q) (k' : Int) (k : Int)) := (by rw [HCL.out, hon]; rfl : clashT (bks q) (k : Int) (k' : Int) = !extT (bks q) (k' : Int) (k : Int))
        have hin : false = (decide ((k : Int) = (k' : Int)) || (decide ((k' : Int) = 0) || decide ((k' : Int) ∈ r))) := by rw [← hon]; exact HIS.out
        have hab : ¬ (k : Int) = (k' : Int) := fun h => by rw [decide_eq_true h] at hin; cases hin
        rw [decide_eq_false hab, Bool.false_or] at hin
        have hb0 : ¬ (k' : Int) = 0 := fun h => by rw [decide_eq_true h] at hin; cases hin
        rw [decide_eq_false hb0, Bool.false_or] at hin
        have HI2 : Hid (decide ((k' : Int) ∈ r) = false) := hin.symm
        have d1 : ((k : Int) == (k' : Int)) = false := by simpa using hab
        have d2 : ((k' : Int) == 0) = false := by simpa using hb0
        clear hon HIS HCL hin hab hb0
        go_wp2_with fail
        refine (height_i q _ (k : Int) w5 (HQ3.out.below HB5.out) HQL.out).mono ?_
        rintro e w7 ⟨rfl, hb7⟩
        rw [HRH.out]
        have HB7 : Hid (Below w3.heap.size w3 w7) := bt HB5.out hb7
        clear hb7
        go_wp2_with fail
        clear dr
        refine (clash_i q _ (k : Int) (k' : Int) w7 (HQ3.out.below HB7.out) HQL.out).mono ?_
        rintro e w8 ⟨rfl, hb8⟩
        rw [HC1.out]
        have HB8 : Hid (Below w3.heap.size w3 w8) := bt HB7.out hb8
        clear hb8
        obtain ⟨u, hu⟩ : ∃ u, u = extT (bks q) (k' : Int) (k : Int) := ⟨_, rfl⟩
        have HU : Hid (extT (bks q) (k' : Int) (k : Int) = u) := hu.symm
        rw [← hu]
        clear hu
        cases u
        all_goals
          go_wp2_with fail
          refine (extends_i q _ (k' : Int) (k : Int) w8 (HQ3.out.below HB8.out) HQL.out).mono ?_
          rintro e w9 ⟨rfl, hb9⟩
          rw [HU.out]
          have HB9 : Hid (Below w3.heap.size w3 w9) := bt HB8.out hb9
          clear hb9
          go_wp2_with fail
          refine (extends_i q _ (k : Int) 0 w9 (HQ3.out.below HB9.out) HQL.out).mono ?_
          rintro e w10 ⟨rfl, hb10⟩
          rw [HEZ.out]
          have HB10 : Hid (Below w3.heap.size w3 w10) := bt HB9.out hb10
          clear hb10
          go_wp2_with fail
          refine (inInts_any r _ (k' : Int) w10 ((rows_of_own intF_len HR3.out).below HB10.out) (by omega)).mono ?_
          rintro e w' ⟨rfl, hw⟩
          obtain rfl := hw.symm
          clear hw
          rw [HI2.out]
          go_wp2
          go_ret
          exact ⟨rfl, bt HB3.out HB10.out⟩

end Go.Proofs.Ytjdddcldbfhbiab.WFnStands
