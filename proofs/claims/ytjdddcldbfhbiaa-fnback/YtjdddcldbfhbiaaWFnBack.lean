/-
  The walk of the law FnBack: what was done is taken back, all of it, the last one first; then it is as it was; the specification's answers and the program's are the same.
-/
import Derived.Test.YtjdddcldbfhbiaaDrawU
import Derived.Test.YtjdddcldbfhbiaaBackI
import Derived.Test.YtjdddcldbfhbiaaUndoneI
import Derived.Test.YtjdddcldbfhbiaaUndoAllS
import Derived.Deep.RegionHeld3
namespace Go.Proofs.Ytjdddcldbfhbiaa.WFnBack
open Go.RowKit Num

theorem eqU (k : ByteArray) (h : Bool) (n : Int) (w : World) : (Op.equalIn 10000 48 (.agg #[.string k, .bool h, .int .i64 n]) (.agg #[.string k, .bool h, .int .i64 n])).run Try.prog w = .ok true w := by
  have u3 := Try.underlying3
  have u4 := Try.underlying4
  have u9 := Try.underlying9
  have hS : Try.prog.underlying 48 = some (.struct (Try.prog.fieldsOf 48)) := by kernel_rfl
  have hp : Try.prog.stoodInHeld 48 = false := by kernel_rfl
  rw [show (10000 : Nat) = 9999 + 1 from rfl, run_equalIn_agg w 9999 48 _ _ hS hp]
  simp only [Program.fieldsOf, Try.underlying48]
  go_simp
theorem guardU : Try.prog.eqGuardType Try.prog.depth 48 = false := by kernel_rfl

set_option maxRecDepth 100000 in
theorem walk_big (w : World) (ao : Option Addr) (len cap : Nat) (h : (1048576 : Int) < len) :
    Calls Try.prog 4 #[.slice ao len cap] w fun e w' => e = .returned (.bool true) ∧ Below w.heap.size w w' := by
  go_enter Try.func4, Try.ntmps4
  go_wp2
  go_ret
  exact ⟨rfl, Below.refl _ _⟩

theorem big_no (w : World) (ao : Option Addr) (len cap : Nat) (h : (len : Int) ≤ 1048576) :
    Calls Try.prog 6 #[.slice ao len cap] w fun e w' => e = .returned (.bool false) ∧ w' = w := by
  go_enter Try.func6, Try.ntmps6
  go_wp2
  go_ret
  exact ⟨by simp; omega, rfl⟩

set_option maxRecDepth 100000 in
set_option maxHeartbeats 8000000 in
theorem walk (w : World) (ao : Option Addr) (len cap b off : Nat) (hc : Code w ao len b off) :
    Calls Try.prog 4 #[.slice ao len cap] w fun e w' => e = .returned (.bool true) ∧ Below w.heap.size w w' := by
  have HC : Hid (Code w ao len b off) := hc
  have hle : (len : Int) ≤ 1048576 := by have := hc.le; omega
  clear hc
  go_enter Try.func4, Try.ntmps4
  go_wp2_with fail
  refine (big_no w ao len cap hle).mono ?_
  rintro e w0 ⟨rfl, hw⟩
  obtain rfl := hw.symm
  clear hw
  go_wp2_with fail
  refine (drawCells_any HC.out).mono ?_
  rintro e w1 ⟨v1, cs, rfl, hcb, hok, hown1, B1⟩
  have HCB : Hid (cellsB cs = true) := hcb
  have HOK : Hid (okL cs) := hok
  have HL1 : Hid (Cells w1 v1 cs) := cells_of_own hown1
  have hl1 := hok.1
  clear hcb hok hown1
  go_wp2_with fail
  refine (drawCmds_any (HC.out.below B1)).mono ?_
  rintro e w2 ⟨v2, l, rfl, hl2, hall, hown2, hb2⟩
  have B2 := bt B1 hb2
  have HAL : Hid (∀ c ∈ l, (c.2.1.size : Int) ≤ 1048576) := fun c hc => by have := (hall c hc).2; omega
  obtain ⟨a2, cap2, rfl, _⟩ := own_form hown2
  have HR2 : Hid (RowsR w2 (.slice a2 l.length cap2) 3 cmdF l) := rows_of_own cmdF_len hown2
  have HL2 : Hid (Cells w2 v1 cs) := HL1.out.below hb2
  clear hall hown2 hb2 HL1 B1
  go_wp2_with fail
  refine (doneBack_i cs l v1 _ w2 HL2.out HR2.out HOK.out (by omega) HAL.out).mono ?_
  rintro e w3 ⟨v3, u3, rfl, hown3, hrow3, _, hb3⟩
  have B3 := bt B2 hb3
  rw [undosC_len] at hrow3
  obtain ⟨a3, cap3, rfl, _⟩ := own_form hrow3
  have HV3 : Hid (Cells w3 v3 (doneAllC cs l)) := cells_of_own hown3
  have HU3 : Hid (RowsR w3 (.slice a3 l.length cap3) 3 undoF (undosC cs l)) := rows_of_own undoF_len (by rw [undosC_len]; exact hrow3)
  have HL3 : Hid (Cells w3 v1 cs) := HL2.out.below hb3
  have HR3 : Hid (RowsR w3 (.slice a2 l.length cap2) 3 cmdF l) := HR2.out.below hb3
  clear hown3 hrow3 hb3 HL2 HR2 B2
  go_wp2_with fail
  refine (doneAll_s cs l v1 _ w3 HL3.out HR3.out HOK.out (by omega) HAL.out).mono ?_
  rintro e w4 ⟨v4, c4, rfl, hown4, _, hb4⟩
  have B4 := bt B3 hb4
  have HV4 : Hid (Cells w4 v4 (doneAllC cs l)) := cells_of_own hown4
  have HB34 : Hid (Below w3.heap.size w3 w4) := hb4
  clear hown4 hb4 HR3 B3
  go_wp2_with fail
  refine (drawUndone_any (HC.out.below B4)).mono ?_
  rintro e w5 ⟨v5, cs5, ⟨ok, oh, on⟩, rfl, hsm5, hk5, hown5, hb5⟩
  have B5 := bt B4 hb5
  have HV5 : Hid (Cells w5 v5 cs5) := cells_of_own hown5
  have HOK5 : Hid (okL cs5) := smallL_ok hsm5 (by omega)
  have HB45 : Hid (Below w4.heap.size w4 w5) := hb5
  simp only at hk5
  unfold undoV
  clear hown5 hb5 hsm5 B4
  go_wp2_with fail
  have B5a : Below w.heap.size w (w5.alloc (Obj.cells #[Value.string ok, Value.bool oh, Value.int IntKind.i64 on] 48)) := ba B5 _
  refine (drawUndoOf_any (HC.out.below B5a)).mono ?_
  rintro e w6 ⟨v6, cs6, key, rfl, hsm6, hk6, hown6, hb6⟩
  have B6 := bt B5a hb6
  have HV6 : Hid (Cells w6 v6 cs6) := cells_of_own hown6
  have HOK6 : Hid (okL cs6) := smallL_ok hsm6 (by omega)
  have HB56 : Hid (Below w5.heap.size w5 w6) := bt (ba (Below.refl _ _) _) hb6
  have HX6 : Hid (w5.heap.size < w6.heap.size ∧ w6.cell? ⟨w5.heap.size, 0, none⟩ = some (.string ok) ∧ w6.cell? ⟨w5.heap.size, 1, none⟩ = some (.bool oh) ∧ w6.cell? ⟨w5.heap.size, 2, none⟩ = some (.int .i64 on)) :=
    ⟨by have := hb6.size; simp at this; omega, by rw [hb6.cell (by simp)]; simp, by rw [hb6.cell (by simp)]; simp, by rw [hb6.cell (by simp)]; simp⟩
  clear hown6 hb6 hsm6 B5 B5a
  go_wp2_with fail
  refine (drawUndoneAll_any (HC.out.below B6)).mono ?_
  rintro e w7 ⟨v7, u7, cs7, us7, rfl, hok7, hl7, hall7, hV7, hU7, hb7⟩
  have B7 := bt B6 hb7
  have HB37 : Hid (Below w3.heap.size w3 w7) := bt HB34.out (bt HB45.out (bt HB56.out hb7))
  have HB47 : Hid (Below w4.heap.size w4 w7) := bt HB45.out (bt HB56.out hb7)
  have HB57 : Hid (Below w5.heap.size w5 w7) := bt HB56.out hb7
  have HX : Hid (∀ w', Below w7.heap.size w7 w' → w'.cell? ⟨w5.heap.size, 0, none⟩ = some (.string ok) ∧ w'.cell? ⟨w5.heap.size, 1, none⟩ = some (.bool oh) ∧ w'.cell? ⟨w5.heap.size, 2, none⟩ = some (.int .i64 on)) := fun w' h' => by
    obtain ⟨h0, x0, x1, x2⟩ := HX6.out
    have h7 := bt hb7 h'
    refine ⟨?_, ?_, ?_⟩ <;> rw [h7.cell (by exact h0)] <;> assumption
  have hokD : okL (doneAllC cs l) := okL_all l HOK.out HAL.out
  have hl2' : (l.length : Int) ≤ 1048576 := by omega
  have Q1 : Hid (∀ w', Below w7.heap.size w7 w' → Calls Try.prog 11 #[v3, v4] w' fun e w'' => e = .returned (.bool true) ∧ Below w'.heap.size w' w'') := fun w' h' => same_yes _ v3 v4 w' (HV3.out.below (bt HB37.out h')) (HV4.out.below (bt HB47.out h')) hokD.1
  have Q2 : Hid (∀ w', Below w7.heap.size w7 w' → Calls Try.prog 25 #[v3, .slice a3 l.length cap3] w' fun e w'' => ∃ v, e = .returned v ∧ Cells w'' v cs ∧ Below w'.heap.size w' w'') := fun w' h' =>
    (undoneAll_i (doneAllC cs l) (undosC cs l) v3 _ w' (HV3.out.below (bt HB37.out h')) (HU3.out.below (bt HB37.out h')) hokD (by rw [undosC_len]; exact hl2') (undos_keys cs l HAL.out)).mono fun e w'' ⟨v, he, hown, hb⟩ => ⟨v, he, by rw [undoneAll_done l HCB.out] at hown; exact cells_of_own hown, hb⟩
  have Q3 : Hid (∀ w' v, Below w7.heap.size w7 w' → Cells w' v cs → Calls Try.prog 11 #[v, v1] w' fun e w'' => e = .returned (.bool true) ∧ Below w'.heap.size w' w'') := fun w' v h' hv => same_yes _ v v1 w' hv (HL3.out.below (bt HB37.out h')) hl1
  have Q4 : Hid (∀ w', Below w7.heap.size w7 w' → Calls Try.prog 26 #[v5, .agg #[.string ok, .bool oh, .int .i64 on]] w' fun e w'' => ∃ v, e = .returned v ∧ Cells w'' v (undoneC cs5 (ok, oh, on)) ∧ Below w'.heap.size w' w'') := fun w' h' =>
    (undone_i cs5 v5 (ok, oh, on) w' (HV5.out.below (bt HB57.out h')) HOK5.out (by simp only; omega)).mono fun e w'' ⟨v, he, hown, hb⟩ => ⟨v, he, cells_of_own hown, hb⟩
  have Q5 : Hid (∀ w', Below w7.heap.size w7 w' → Calls Try.prog 27 #[v5, .agg #[.string ok, .bool oh, .int .i64 on]] w' fun e w'' => ∃ v, e = .returned v ∧ Cells w'' v (undoneC cs5 (ok, oh, on)) ∧ Below w'.heap.size w' w'') := fun w' h' =>
    (undone_s cs5 v5 (ok, oh, on) w' (HV5.out.below (bt HB57.out h')) HOK5.out (by simp only; omega)).mono fun e w'' ⟨v, he, hown, hb⟩ => ⟨v, he, cells_of_own hown, hb⟩
  have hokU : okL (undoneC cs5 (ok, oh, on)) := okL_undone HOK5.out (by simp only; omega)
  have Q6 : Hid (∀ w' v v', Cells w' v (undoneC cs5 (ok, oh, on)) → Cells w' v' (undoneC cs5 (ok, oh, on)) → Calls Try.prog 11 #[v, v'] w' fun e w'' => e = .returned (.bool true) ∧ Below w'.heap.size w' w'') := fun w' v v' h1 h2 => same_yes _ v v' w' h1 h2 hokU.1
  obtain ⟨⟨ck, ch, cn⟩, hcu⟩ : ∃ x : UN, x = undoC cs6 key := ⟨_, rfl⟩
  have Q7 : Hid (∀ w', Below w7.heap.size w7 w' → Calls Try.prog 28 #[v6, .string key] w' fun e w'' => e = .returned (.agg #[.string ck, .bool ch, .int .i64 cn]) ∧ Below w'.heap.size w' w'') := fun w' h' => by
    have := undoOf_i cs6 v6 key w' (HV6.out.below (bt hb7 h')) HOK6.out.1 (by omega)
    rw [← hcu] at this; exact this
  have Q8 : Hid (∀ w', Below w7.heap.size w7 w' → Calls Try.prog 29 #[v6, .string key] w' fun e w'' => e = .returned (.agg #[.string ck, .bool ch, .int .i64 cn]) ∧ Below w'.heap.size w' w'') := fun w' h' => by
    have := undoOf_s cs6 v6 key w' (HV6.out.below (bt hb7 h')) HOK6.out.1
    rw [← hcu] at this; exact this
  have Q9 : Hid (∀ w', Below w7.heap.size w7 w' → Calls Try.prog 25 #[v7, u7] w' fun e w'' => ∃ v, e = .returned v ∧ Cells w'' v (undoneAllC cs7 us7) ∧ Below w'.heap.size w' w'') := fun w' h' =>
    (undoneAll_i cs7 us7 v7 u7 w' (hV7.below h') (hU7.below h') hok7 (by omega) hall7).mono fun e w'' ⟨v, he, hown, hb⟩ => ⟨v, he, cells_of_own hown, hb⟩
  have Q10 : Hid (∀ w', Below w7.heap.size w7 w' → Calls Try.prog 30 #[v7, u7] w' fun e w'' => ∃ v, e = .returned v ∧ Cells w'' v (undoneAllC cs7 us7) ∧ Below w'.heap.size w' w'') := fun w' h' =>
    (undoneAll_s cs7 us7 v7 u7 w' (hV7.below h') (hU7.below h') hok7 (by omega) hall7).mono fun e w'' ⟨v, he, hown, hb⟩ => ⟨v, he, cells_of_own hown, hb⟩
  have hokA : okL (undoneAllC cs7 us7) := okL_undoneAll hok7 us7 hall7
  have Q11 : Hid (∀ w' v v', Cells w' v (undoneAllC cs7 us7) → Cells w' v' (undoneAllC cs7 us7) → Calls Try.prog 11 #[v, v'] w' fun e w'' => e = .returned (.bool true) ∧ Below w'.heap.size w' w'') := fun w' v v' h1 h2 => same_yes _ v v' w' h1 h2 hokA.1
  have E1 := eqU ck ch cn
  have E2 := guardU
  have HB7 : Hid (Below w.heap.size w w7) := B7
  clear hokD hokU hokA hV7 hU7 hok7 hall7 hb7 HV3 HV4 HV5 HV6 HU3 HL3 HX6 HB34 HB45 HB56 HB37 HB47 HB57 HOK5 HOK6 HCB HOK HAL hcu B6 B7 HC hle hl1 hl2 hl7 hk5 hk6
  go_wp2
  go_region_held3 (fun w' => w'.cell? ⟨w5.heap.size, 0, none⟩ = some (.string ok) ∧ w'.cell? ⟨w5.heap.size, 1, none⟩ = some (.bool oh) ∧ w'.cell? ⟨w5.heap.size, 2, none⟩ = some (.int .i64 on))
    (first | (refine HX.out _ ?_; assumption) | exact HX.out _ (Below.refl _ _).drew)
    (first
      | (go_at_call 11; (with_reducible show Calls Try.prog _ #[v3, v4] _ _); refine (Q1.out _ ?_).mono ?_; exact (Below.refl _ _).drew; rintro e z1 ⟨rfl, hz1⟩; have b1 : Below w7.heap.size w7 z1 := (Below.refl _ _).drew.trans hz1)
      | (go_at_call 25; (with_reducible show Calls Try.prog _ #[v3, _] _ _); (with_reducible refine (Q2.out _ b1).mono ?_); rintro e z2 ⟨x2, rfl, HX2, hz2⟩; have b2 : Below w7.heap.size w7 z2 := bt b1 hz2)
      | (go_at_call 11; (with_reducible show Calls Try.prog _ #[x2, v1] _ _); (with_reducible refine (Q3.out _ x2 b2 HX2).mono ?_); rintro e z3 ⟨rfl, hz3⟩; have b3 : Below w7.heap.size w7 z3 := bt b2 hz3)
      | (go_at_call 26; (with_reducible refine (Q4.out _ b3).mono ?_); rintro e z4 ⟨x4, rfl, HX4, hz4⟩; have b4 : Below w7.heap.size w7 z4 := bt b3 hz4)
      | (go_at_call 27; (with_reducible refine (Q5.out _ b4).mono ?_); rintro e z5 ⟨x5, rfl, HX5, hz5⟩; have b5 : Below w7.heap.size w7 z5 := bt b4 hz5)
      | (go_at_call 11; (with_reducible show Calls Try.prog _ #[x4, x5] _ _); (with_reducible refine (Q6.out _ x4 x5 (HX4.below hz5) HX5).mono ?_); rintro e z6 ⟨rfl, hz6⟩; have b6 : Below w7.heap.size w7 z6 := bt b5 hz6)
      | (go_at_call 28; (with_reducible refine (Q7.out _ b6).mono ?_); rintro e z7 ⟨rfl, hz7⟩; have b7 : Below w7.heap.size w7 z7 := bt b6 hz7)
      | (go_at_call 29; (with_reducible refine (Q8.out _ b7).mono ?_); rintro e z8 ⟨rfl, hz8⟩; have b8 : Below w7.heap.size w7 z8 := bt b7 hz8)
      | (go_at_call 25; (with_reducible refine (Q9.out _ b8).mono ?_); rintro e z9 ⟨x9, rfl, HX9, hz9⟩; have b9 : Below w7.heap.size w7 z9 := bt b8 hz9)
      | (go_at_call 30; (with_reducible refine (Q10.out _ b9).mono ?_); rintro e z10 ⟨x10, rfl, HX10, hz10⟩; have b10 : Below w7.heap.size w7 z10 := bt b9 hz10)
      | (go_at_call 11; (with_reducible refine (Q11.out _ x9 x10 (HX9.below hz10) HX10).mono ?_); rintro e z11 ⟨rfl, hz11⟩; have b11 : Below w7.heap.size w7 z11 := bt b10 hz11))
  all_goals
    go_wp2
    go_ret
    exact ⟨rfl, bt HB7.out b11⟩

end Go.Proofs.Ytjdddcldbfhbiaa.WFnBack
