/-
  The walk of the law FnStandsTold: what the program tells of a drawn tree, right or not, is what the specification tells.
-/
import Derived.Test.YtjdddcldbfhbiabDraw6
import Derived.Test.YtjdddcldbfhbiabSameI
import Derived.Test.YtjdddcldbfhbiabRowI
import Derived.Test.YtjdddcldbfhbiabBeginS
namespace Go.Proofs.Ytjdddcldbfhbiab.WFnStandsTold
open Go.RowKit Num

set_option maxRecDepth 100000 in
theorem walk_big (w : World) (ao : Option Addr) (len cap : Nat) (h : (1048576 : Int) < len) :
    Calls Try.prog 4 #[.slice ao len cap] w fun e w' => e = .returned (.bool true) ∧ Below w.heap.size w w' := by
  go_enter Try.func4, Try.ntmps4
  go_wp2
  go_ret
  exact ⟨rfl, Below.refl _ _⟩

theorem big_no (w : World) (ao : Option Addr) (len cap : Nat) (h : (len : Int) ≤ 1048576) :
    Calls Try.prog 8 #[.slice ao len cap] w fun e w' => e = .returned (.bool false) ∧ w' = w := by
  go_enter Try.func8, Try.ntmps8
  go_wp2
  go_ret
  exact ⟨by simp; omega, rfl⟩

theorem begin_self (l : List Int) : beginB l l = true := by rw [beginB_take l l l.length (by simp)]; simp
theorem begin_nil (l : List Int) : beginB [] l = true := by simp [beginB]

set_option maxRecDepth 100000 in
set_option maxHeartbeats 8000000 in
theorem walk (w : World) (ao : Option Addr) (len cap b off : Nat) (hc : Code w ao len b off) :
    Calls Try.prog 4 #[.slice ao len cap] w fun e w' => e = .returned (.bool true) ∧ Below w.heap.size w w' := by
  have HC : Hid (Code w ao len b off) := hc
  have hle : (len : Int) ≤ 1048576 := by have := hc.le; omega
  clear hc
  go_enter Try.func4, Try.ntmps4
  go_wp2_with fail
  refine (big_no w ao len cap hle).mono ?_
  rintro e w0 ⟨rfl, hw⟩
  obtain rfl := hw.symm
  clear hw
  go_wp2_with fail
  refine (drawExtends_any HC.out).mono ?_
  rintro e w1 ⟨v, q, x, y, rfl, hd, hown, B1⟩
  have HQ : Hid (TreeQ w1 v q) := hown.read.q
  have hql : (q.length : Int) ≤ 1048576 := by have := hd.2.1; rw [bks_len] at this; omega
  have HQL : Hid ((q.length : Int) ≤ 1048576) := hql
  have HR1 : Hid ((rowI (bks q) x).length ≤ 10 ∧ (afterI (bks q) x y).length ≤ 10) := ⟨Nat.le_trans (row_le _ _) hd.2.1, Nat.le_trans (after_le _ _ _) hd.2.1⟩
  clear hd hown hql
  go_wp2_with fail
  refine (drawBegin_any (HC.out.below B1)).mono ?_
  rintro e w2 ⟨v1, v2, l1, l2, rfl, hl1, hl2, ho1, ho2, hb2⟩
  have HL1 : Hid ((l1.length : Int) ≤ 1048576) := (by omega : (l1.length : Int) ≤ 1048576)
  have HL2 : Hid ((l2.length : Int) ≤ 1048576) := (by omega : (l2.length : Int) ≤ 1048576)
  have HO1 : Hid (RowsR w2 v1 1 intF l1 ∧ capOk v1) := ⟨rows_of_own intF_len ho1, capOk_own ho1⟩
  have HO2 : Hid (RowsR w2 v2 1 intF l2 ∧ capOk v2) := ⟨rows_of_own intF_len ho2, capOk_own ho2⟩
  have HQ2 : Hid (TreeQ w2 v q) := HQ.out.below hb2
  have B2 : Below w.heap.size w w2 := bt B1 hb2
  clear ho1 ho2 hb2 hl1 hl2
  go_wp2_with fail
  refine (height_i q v x w2 HQ2.out HQL.out).mono ?_
  rintro e w3 ⟨rfl, hb3⟩
  have HQ3 : Hid (TreeQ w3 v q) := HQ2.out.below hb3
  have HD3 : Hid (Below w2.heap.size w2 w3) := hb3
  clear hb3
  obtain ⟨r, hr⟩ : ∃ r, r = heightT (bks q) x := ⟨_, rfl⟩
  have HRR : Hid (heightT (bks q) x = r) := hr.symm
  rw [← hr]
  clear hr
  go_wp2_with fail
  refine (height_s q v x w3 HQ3.out HQL.out).mono ?_
  rintro e w' ⟨rfl, hw⟩
  obtain rfl := hw.symm
  clear hw
  rw [HRR.out]
  have d0 : (r == r) = true := by simp
  go_wp2_with fail
  clear d0 HRR
  refine (extends_i q v x y w3 HQ3.out HQL.out).mono ?_
  rintro e w4 ⟨rfl, hb4⟩
  have HQ4 : Hid (TreeQ w4 v q) := HQ3.out.below hb4
  have HD4 : Hid (Below w2.heap.size w2 w4) := bt HD3.out hb4
  clear hb4
  obtain ⟨t, ht⟩ : ∃ t, t = extT (bks q) x y := ⟨_, rfl⟩
  have HTT : Hid (extT (bks q) x y = t) := ht.symm
  rw [← ht]
  clear ht
  go_wp2_with fail
  refine (extends_s q v x y w4 HQ4.out HQL.out).mono ?_
  rintro e w' ⟨rfl, hw⟩
  obtain rfl := hw.symm
  clear hw
  rw [HTT.out]
  have d0 : (t == t) = true := by simp
  go_wp2_with fail
  clear d0 HTT
  refine (rowTo_i q v x w4 HQ4.out HQL.out).mono ?_
  rintro e w5 ⟨v5, rfl, hown, hb5⟩
  have HQ5 : Hid (TreeQ w5 v q) := HQ4.out.below hb5
  have HD5 : Hid (Below w2.heap.size w2 w5) := bt HD4.out hb5
  have HV5 : Hid (RowsR w5 v5 1 intF (rowI (bks q) x)) := rows_of_own intF_len hown
  clear hown hb5
  go_wp2_with fail
  refine (rowTo_s q v x w5 HQ5.out HQL.out).mono ?_
  rintro e w6 ⟨v6, rfl, hown, hb6⟩
  have HQ6 : Hid (TreeQ w6 v q) := HQ5.out.below hb6
  have HD6 : Hid (Below w2.heap.size w2 w6) := bt HD5.out hb6
  have HV6 : Hid (RowsR w6 v6 1 intF (rowI (bks q) x)) := rows_of_own intF_len hown
  have HU6 : Hid (RowsR w6 v5 1 intF (rowI (bks q) x)) := HV5.out.below hb6
  clear hown hb6
  go_wp2_with fail
  refine (sameInts_yes _ v5 v6 w6 HU6.out HV6.out (by have := HR1.out.1; omega)).mono ?_
  rintro e w7 ⟨rfl, hb7⟩
  have HQ7 : Hid (TreeQ w7 v q) := HQ6.out.below hb7
  have HD7 : Hid (Below w2.heap.size w2 w7) := bt HD6.out hb7
  clear hb7
  go_wp2_with fail
  refine (clash_i q v x y w7 HQ7.out HQL.out).mono ?_
  rintro e w8 ⟨rfl, hb8⟩
  have HQ8 : Hid (TreeQ w8 v q) := HQ7.out.below hb8
  have HD8 : Hid (Below w2.heap.size w2 w8) := bt HD7.out hb8
  clear hb8
  obtain ⟨t2, ht⟩ : ∃ t2, t2 = clashT (bks q) x y := ⟨_, rfl⟩
  have HTT : Hid (clashT (bks q) x y = t2) := ht.symm
  rw [← ht]
  clear ht
  go_wp2_with fail
  refine (clash_s q v x y w8 HQ8.out HQL.out).mono ?_
  rintro e w' ⟨rfl, hw⟩
  obtain rfl := hw.symm
  clear hw
  rw [HTT.out]
  have d0 : (t2 == t2) = true := by simp
  go_wp2_with fail
  clear d0 HTT
  refine (rowAfter_i q v x y w8 HQ8.out HQL.out).mono ?_
  rintro e w9 ⟨v9, rfl, hown, hb9⟩
  have HQ9 : Hid (TreeQ w9 v q) := HQ8.out.below hb9
  have HD9 : Hid (Below w2.heap.size w2 w9) := bt HD8.out hb9
  have HV9 : Hid (RowsR w9 v9 1 intF (afterI (bks q) x y)) := rows_of_own intF_len hown
  clear hown hb9
  go_wp2_with fail
  refine (rowAfter_s q v x y w9 HQ9.out HQL.out).mono ?_
  rintro e w10 ⟨v10, rfl, hown, hb10⟩
  have HD10 : Hid (Below w2.heap.size w2 w10) := bt HD9.out hb10
  have HV10 : Hid (RowsR w10 v10 1 intF (afterI (bks q) x y)) := rows_of_own intF_len hown
  have HU10 : Hid (RowsR w10 v9 1 intF (afterI (bks q) x y)) := HV9.out.below hb10
  clear hown hb10
  go_wp2_with fail
  refine (sameInts_yes _ v9 v10 w10 HU10.out HV10.out (by have := HR1.out.2; omega)).mono ?_
  rintro e w11 ⟨rfl, hb11⟩
  have HD11 : Hid (Below w2.heap.size w2 w11) := bt HD10.out hb11
  clear hb11
  go_wp2_with fail
  refine (begin_i l1 l2 v1 v2 w11 (HO1.out.1.below HD11.out) (HO2.out.1.below HD11.out) HO1.out.2 HO2.out.2 HL1.out HL2.out).mono ?_
  rintro e w12 ⟨rfl, hb12⟩
  have HD12 : Hid (Below w2.heap.size w2 w12) := bt HD11.out hb12
  clear hb12
  obtain ⟨t3, ht⟩ : ∃ t3, t3 = beginB l1 l2 := ⟨_, rfl⟩
  have HTT : Hid (beginB l1 l2 = t3) := ht.symm
  rw [← ht]
  clear ht
  go_wp2_with fail
  refine (begin_s l1 l2 v1 v2 w12 (HO1.out.1.below HD12.out) (HO2.out.1.below HD12.out) HL1.out HL2.out).mono ?_
  rintro e w13 ⟨rfl, hb13⟩
  have HD13 : Hid (Below w2.heap.size w2 w13) := bt HD12.out hb13
  clear hb13
  rw [HTT.out]
  have d0 : (t3 == t3) = true := by simp
  go_wp2_with fail
  clear d0 HTT
  refine (begin_i l1 l1 v1 v1 w13 (HO1.out.1.below HD13.out) (HO1.out.1.below HD13.out) HO1.out.2 HO1.out.2 HL1.out HL1.out).mono ?_
  rintro e w14 ⟨rfl, hb14⟩
  have HD14 : Hid (Below w2.heap.size w2 w14) := bt HD13.out hb14
  clear hb14
  rw [begin_self]
  have HBx : Hid (Below w14.heap.size w14 (w14.alloc (.cells #[] 3))) := ba (Below.refl _ _) _
  go_wp2_with fail
  refine (begin_i [] l2 _ v2 _ (rows_of_own intF_len (own_new w14 3 1)) (HO2.out.1.below (bt HD14.out HBx.out)) (capOk_own (own_new w14 3 1)) HO2.out.2 (by simp) HL2.out).mono ?_
  rintro e w15 ⟨rfl, hb15⟩
  rw [begin_nil]
  have HD15 : Hid (Below w2.heap.size w2 w15) := bt (bt HD14.out HBx.out) hb15
  clear hb15
  go_wp2
  go_ret
  exact ⟨rfl, bt B2 HD15.out⟩

end Go.Proofs.Ytjdddcldbfhbiab.WFnStandsTold
