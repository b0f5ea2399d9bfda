/-
  The walk of the law FnCells: a command does what it tells, or tells why not; the specification's answers and the program's are the same.
-/
import Derived.Test.YtnghhfgbobpnkaaDrawD
import Derived.Test.YtnghhfgbobpnkaaDoneI
import Derived.Test.YtnghhfgbobpnkaaTextI
import Derived.Test.YtnghhfgbobpnkaaCellsN
namespace Go.Proofs.Ytnghhfgbobpnkaa.WFnCells
open Go.RowKit Num

set_option maxRecDepth 100000 in
theorem walk_big (w : World) (ao : Option Addr) (len cap : Nat) (h : (1048576 : Int) < len) :
    Calls Try.prog 3 #[.slice ao len cap] w fun e w' => e = .returned (.bool true) ∧ Below w.heap.size w w' := by
  go_enter Try.func3, Try.ntmps3
  go_wp2
  go_ret
  exact ⟨rfl, Below.refl _ _⟩

theorem big_no (w : World) (ao : Option Addr) (len cap : Nat) (h : (len : Int) ≤ 1048576) :
    Calls Try.prog 6 #[.slice ao len cap] w fun e w' => e = .returned (.bool false) ∧ w' = w := by
  go_enter Try.func6, Try.ntmps6
  go_wp2
  go_ret
  exact ⟨by simp; omega, rfl⟩

set_option maxRecDepth 100000 in
set_option maxHeartbeats 8000000 in
theorem walk (w : World) (ao : Option Addr) (len cap b off : Nat) (hc : Code w ao len b off) :
    Calls Try.prog 3 #[.slice ao len cap] w fun e w' => e = .returned (.bool true) ∧ Below w.heap.size w w' := by
  have HC : Hid (Code w ao len b off) := hc
  have hle : (len : Int) ≤ 1048576 := by have := hc.le; omega
  clear hc
  go_enter Try.func3, Try.ntmps3
  go_wp2_with fail
  refine (big_no w ao len cap hle).mono ?_
  rintro e w0 ⟨rfl, hw⟩
  obtain rfl := hw.symm
  clear hw
  go_wp2_with fail
  refine (drawCells_any HC.out).mono ?_
  rintro e w1 ⟨v1, cs, rfl, hcb, hok, hown1, B1⟩
  have HCB : Hid (cellsB cs = true) := hcb
  have HOK : Hid (okL cs) := hok
  have HL1 : Hid (Cells w1 v1 cs) := cells_of_own hown1
  have hl1 := (cellsB_iff.1 hcb).2.2
  clear hcb hok hown1
  go_wp2_with fail
  refine (drawCmds_any (HC.out.below B1)).mono ?_
  rintro e w2 ⟨v2, l, rfl, hl2, hall, hown2, hb2⟩
  have B2 := bt B1 hb2
  have HAL : Hid (∀ c ∈ l, cmdB c = true ∧ c.2.1.size ≤ 3) := hall
  have HR2 : Hid (RowsR w2 v2 3 cmdF l) := rows_of_own cmdF_len hown2
  have HL2 : Hid (Cells w2 v1 cs) := HL1.out.below hb2
  obtain ⟨a2, cap2, rfl, _⟩ := own_form hown2
  have hr := HR2.out
  obtain ⟨_, _, e2, hr2⟩ := hr
  have HRR : Hid (0 < l.length → _) := hr2
  obtain ⟨rfl, rfl⟩ : a2 = _ ∧ cap2 = _ := by injection e2 with x _ y; exact ⟨x, y⟩
  clear hall hown2 hb2 HL1 B1 hr2 e2
  go_wp2
  go_loopw [5, 6] (fun o i wr => ∃ k : Nat, k ≤ l.length ∧ i = .int .i64 (k : Int) ∧ Hid (Cells wr o (doneAllC cs (l.take k))) ∧ Hid (Below w2.heap.size w2 wr)) (fun _ i _ => l.length - (intOf i).toNat)
  case atStart => exact ⟨0, Nat.zero_le _, rfl, HL2.out, Below.refl _ _⟩
  case round =>
    obtain ⟨k, hk, rfl, HA, HB⟩ := hrel
    by_cases hlt : (k : Int) < l.length
    · have hkn : k < l.length := by omega
      obtain ⟨g, off2, rfl, hg, hc⟩ := HRR.out (by omega)
      have q0 : (0 : Int) ≤ (k : Int) := by omega
      have c0 : wr.cell? ⟨g, off2 + k * 3, none⟩ = some (.int .i64 l[k].1) := by rw [HB.out.cell (by exact hg)]; exact hc k hkn 0 (by omega)
      have c1 : wr.cell? ⟨g, off2 + k * 3 + 1, none⟩ = some (.string l[k].2.1) := by rw [HB.out.cell (by exact hg)]; exact hc k hkn 1 (by omega)
      have c2 : wr.cell? ⟨g, off2 + k * 3 + 2, none⟩ = some (.int .i64 l[k].2.2) := by rw [HB.out.cell (by exact hg)]; exact hc k hkn 2 (by omega)
      have HS : Hid (l.take (k + 1) = l.take k ++ [l[k]]) := Go.Proofs.Ytnghhfgbobpnkaa.take_snoc hkn
      obtain ⟨⟨kd, key, num⟩, hx⟩ : ∃ x : CM, x = l[k] := ⟨_, rfl⟩
      have hxr := HAL.out l[k] (List.getElem_mem hkn)
      rw [← hx] at c0 c1 c2 HS hxr
      clear hx hc
      simp only at c0 c1 c2 hxr
      obtain ⟨hmb, hks⟩ := hxr
      have HMB : Hid (cmdB (kd, key, num) = true) := hmb
      have hkd := (cmdB_bd hmb).1
      simp only at hkd
      clear hmb
      obtain ⟨A, hA⟩ : ∃ A, A = (doneAllC cs (l.take k)) := ⟨_, rfl⟩
      have HDA : Hid (A = (doneAllC cs (l.take k))) := hA
      rw [← hA] at HA
      have HAC : Hid (cellsB A = true) := (by rw [hA]; exact doneAll_ok _ HCB.out : cellsB A = true)
      have HAK : Hid (okL A) := (by rw [hA]; exact okL_all _ HOK.out fun c hc => by have := (HAL.out c (List.mem_of_mem_take hc)).2; omega : okL A)
      obtain ⟨hallA, hAsc, hA12⟩ := cellsB_iff.1 HAC.out
      have HAS : Hid (Asc A) := hAsc
      have HALL : Hid (∀ c ∈ A, keyB c.1 = true ∧ numB c.2 = true) := hallA
      clear hA hallA hAsc
      go_wp2_with fail
      refine (done_i A _ (kd, key, num) _ (HA.out.below (ba (Below.refl _ _) _)) HAK.out (by simp only; omega)).mono ?_
      rintro e w3 ⟨v3, rfl, hown3, hb3⟩
      have hbr3 : Below wr.heap.size wr w3 := bt (ba (Below.refl _ _) _) hb3
      have k0 : ∀ w', Below w3.heap.size w3 w' → w'.cell? ⟨wr.heap.size, 0, none⟩ = some (.int .i64 kd) ∧ w'.cell? ⟨wr.heap.size, 1, none⟩ = some (.string key) ∧ w'.cell? ⟨wr.heap.size, 2, none⟩ = some (.int .i64 num) := fun w' h' => by
        refine ⟨?_, ?_, ?_⟩ <;> rw [(bt hb3 h').cell (by simp)] <;> simp
      have HK : Hid (∀ w', Below w3.heap.size w3 w' → w'.cell? ⟨wr.heap.size, 0, none⟩ = some (.int .i64 kd) ∧ w'.cell? ⟨wr.heap.size, 1, none⟩ = some (.string key) ∧ w'.cell? ⟨wr.heap.size, 2, none⟩ = some (.int .i64 num)) := k0
      have HA3 : Hid (Cells w3 u5 A) := HA.out.below hbr3
      have HB3 : Hid (Cells w3 v3 (doneC A (kd, key, num))) := cells_of_own hown3
      have HBB3 : Hid (Below w2.heap.size w2 w3) := bt HB.out hbr3
      have hok3 := okL_done (c := (kd, key, num)) HAK.out (by simp only; omega)
      have hl3 := hok3.1
      clear k0 hown3 hb3 hbr3 c0 c1 c2 HA
      obtain ⟨d0, d1, d2⟩ := HK.out w3 (Below.refl _ _)
      go_wp2_with fail
      refine (cellAt_i A _ key w3 HA3.out (by omega)).mono ?_
      rintro e w4 ⟨rfl, hb4⟩
      clear d0 d1 d2
      obtain ⟨d0, d1, d2⟩ := HK.out w4 hb4
      go_wp2_with fail
      refine (cellAt_i (doneC A (kd, key, num)) _ key w4 (HB3.out.below hb4) hl3).mono ?_
      rintro e w5 ⟨rfl, hb5⟩
      have hb45 := bt hb4 hb5
      clear d0 d1 d2 hb4 hb5
      rcases code_cases A (kd, key, num) with h0 | h1 | h2
      · have HD : Hid (doneC A (kd, key, num) = putC A (key, comes A (kd, key, num))) := done_zero h0
        have HZ : Hid (¬ (kd ≠ 1 ∧ hasK A key = false)) := code_zero h0
        obtain ⟨j, hj, hat, hjx⟩ := put_at (cs := A) (key, comes A (kd, key, num))
        have hat2 : cellAt (doneC A (kd, key, num)) key = (j : Int) := by rw [HD.out]; exact hat
        have hjl : (j : Int) < ((doneC A (kd, key, num)).length : Int) := by rw [HD.out]; omega
        have j0 : (0 : Int) ≤ (j : Int) := by omega
        have hb3c := HB3.out
        obtain ⟨ab, capb, rfl, hrb⟩ := hb3c
        obtain ⟨gb, ob, rfl, hgb, hcb⟩ := hrb (by omega)
        have HCJ : Hid (∀ x : Bw w5, x.to.cell? ⟨gb, ob + j * 2 + 1, none⟩ = some (.int .i64 (comes A (kd, key, num)))) := fun x => by
          rw [(bt hb45 x.below).cell (by exact hgb)]
          have := (hcb j (by omega)).2
          have e : (doneC A (kd, key, num))[j]'(by omega) = (key, comes A (kd, key, num)) := by
            have e1 : ∀ (X : CL) (hX : X = putC A (key, comes A (kd, key, num))) (hj' : j < X.length), X[j] = (key, comes A (kd, key, num)) := fun X hX hj' => by subst hX; exact hjx
            exact e1 _ HD.out _
          rw [e] at this
          exact this
        have hne := bw_some w5
        have d0 : ∀ x : Bw w5, x.to.cell? ⟨wr.heap.size, 0, none⟩ = some (.int .i64 kd) := fun x => (HK.out _ (bt hb45 x.below)).1
        have d2 : ∀ x : Bw w5, x.to.cell? ⟨wr.heap.size, 2, none⟩ = some (.int .i64 num) := fun x => (HK.out _ (bt hb45 x.below)).2.2
        rw [h0, hat2]
        clear hcb hrb hat hat2 hjx hj h0
        by_cases e1 : kd = 1
        · subst e1
          have HN : Hid (comes A (1, key, num) = num) := comes_set rfl
          have cj : ∀ x : Bw w5, x.to.cell? ⟨gb, ob + j * 2 + 1, none⟩ = some (.int .i64 (num)) := fun x => by have := HCJ.out x; rw [HN.out] at this; exact this
          go_wp2
          refine wp_region_bw (by kernel_rfl) (by kernel_rfl) ?_
          repeat (go_big_quiet_step (fail))
          refine wpQuiet_nil ?_
          intro _ hw'
          obtain ⟨x, rfl⟩ := hw'
          go_wp2
          go_roundw
          case rel => exact ⟨k + 1, by omega, by go_num, by rw [HS.out, doneAll_snoc, ← HDA.out]; exact (HB3.out.below (bt hb45 x.below)), bt HBB3.out (bt hb45 x.below)⟩
          case measure => simp [intOf]; omega
        · have hh : hasK A key = true := by
            cases hh : hasK A key with
            | true => rfl
            | false => exact absurd ⟨e1, hh⟩ HZ.out
          obtain ⟨i, hi, hati, hik⟩ := cellAt_yes hh
          obtain ⟨hi0, hi1⟩ := numB_bd (HALL.out A[i] (List.getElem_mem hi)).2
          obtain ⟨hn0, hn1⟩ := numB_bd (cmdB_bd HMB.out).2.2
          simp only at hn0 hn1
          have hil : (i : Int) < (A.length : Int) := by omega
          have i0 : (0 : Int) ≤ (i : Int) := by omega
          have ha3c := HA3.out
          obtain ⟨aa, capa, rfl, hra⟩ := ha3c
          obtain ⟨ga, oa, rfl, hga, hca⟩ := hra (by omega)
          have ci : ∀ x : Bw w5, x.to.cell? ⟨ga, oa + i * 2 + 1, none⟩ = some (.int .i64 A[i].2) := fun x => by rw [(bt hb45 x.below).cell (by exact hga)]; exact (hca i hi).2
          rw [hati]
          subst hik
          clear hca hra hati
          by_cases e2 : kd = 2
          · subst e2
            have HN : Hid (comes A (2, A[i].1, num) = A[i].2 + num) := comes_add HAS.out hi (by decide) (by decide)
            have cj : ∀ x : Bw w5, x.to.cell? ⟨gb, ob + j * 2 + 1, none⟩ = some (.int .i64 (A[i].2 + num)) := fun x => by have := HCJ.out x; rw [HN.out] at this; exact this
            go_wp2
            refine wp_region_bw (by kernel_rfl) (by kernel_rfl) ?_
            repeat (go_big_quiet_step (fail))
            refine wpQuiet_nil ?_
            intro _ hw'
            obtain ⟨x, rfl⟩ := hw'
            go_wp2
            go_roundw
            case rel => exact ⟨k + 1, by omega, by go_num, by rw [HS.out, doneAll_snoc, ← HDA.out]; exact (HB3.out.below (bt hb45 x.below)), bt HBB3.out (bt hb45 x.below)⟩
            case measure => simp [intOf]; omega
          · obtain rfl : kd = 3 := by omega
            have HN : Hid (comes A (3, A[i].1, num) = A[i].2 - num) := comes_take HAS.out hi
            have cj : ∀ x : Bw w5, x.to.cell? ⟨gb, ob + j * 2 + 1, none⟩ = some (.int .i64 (A[i].2 - num)) := fun x => by have := HCJ.out x; rw [HN.out] at this; exact this
            go_wp2
            refine wp_region_bw (by kernel_rfl) (by kernel_rfl) ?_
            repeat (go_big_quiet_step (fail))
            refine wpQuiet_nil ?_
            intro _ hw'
            obtain ⟨x, rfl⟩ := hw'
            go_wp2
            go_roundw
            case rel => exact ⟨k + 1, by omega, by go_num, by rw [HS.out, doneAll_snoc, ← HDA.out]; exact (HB3.out.below (bt hb45 x.below)), bt HBB3.out (bt hb45 x.below)⟩
            case measure => simp [intOf]; omega
      · have hat : cellAt A key = -1 := cellAt_no (code_one h1).2
        rw [h1, hat]
        have HD : Hid (doneC A (kd, key, num) = A) := done_code (by omega)
        have HB3' : Hid (Cells w3 v3 A) := (by have := HB3.out; rw [HD.out] at this; exact this : Cells w3 v3 A)
        have hne := bw_some w5
        go_wp2_with fail
        refine (same_yes A _ _ w5 (HA3.out.below hb45) (HB3'.out.below hb45) (by omega)).mono ?_
        rintro e w6 ⟨rfl, hb6⟩
        have hb36 := bt hb45 hb6
        have hne6 := bw_some w6
        clear hb6
        go_wp2
        refine wp_region_bw (by kernel_rfl) (by kernel_rfl) ?_
        repeat (go_big_quiet_step (fail))
        refine wpQuiet_nil ?_
        intro _ hw'
        obtain ⟨x, rfl⟩ := hw'
        go_wp2
        go_roundw
        case rel => exact ⟨k + 1, by omega, by go_num, by rw [HS.out, doneAll_snoc, ← HDA.out]; exact (HB3.out.below (bt hb36 x.below)), bt HBB3.out (bt hb36 x.below)⟩
        case measure => simp [intOf]; omega
      · rw [h2]
        have HD : Hid (doneC A (kd, key, num) = A) := done_code (by omega)
        have HB3' : Hid (Cells w3 v3 A) := (by have := HB3.out; rw [HD.out] at this; exact this : Cells w3 v3 A)
        have hne := bw_some w5
        go_wp2_with fail
        refine (same_yes A _ _ w5 (HA3.out.below hb45) (HB3'.out.below hb45) (by omega)).mono ?_
        rintro e w6 ⟨rfl, hb6⟩
        have hb36 := bt hb45 hb6
        have hne6 := bw_some w6
        clear hb6
        go_wp2
        refine wp_region_bw (by kernel_rfl) (by kernel_rfl) ?_
        repeat (go_big_quiet_step (fail))
        refine wpQuiet_nil ?_
        intro _ hw'
        obtain ⟨x, rfl⟩ := hw'
        go_wp2
        go_roundw
        case rel => exact ⟨k + 1, by omega, by go_num, by rw [HS.out, doneAll_snoc, ← HDA.out]; exact (HB3.out.below (bt hb36 x.below)), bt HBB3.out (bt hb36 x.below)⟩
        case measure => simp [intOf]; omega
    · have hkl : k = l.length := by omega
      have HU : Hid (Cells wr u5 (doneAllC cs l)) := (by have := HA.out; rw [hkl, List.take_length] at this; exact this : Cells wr u5 (doneAllC cs l))
      clear hkl HA
      have hal : ∀ c ∈ l, (c.2.1.size : Int) ≤ 1048576 := fun c hc => by have := (HAL.out c hc).2; omega
      have HOD : Hid (okL (doneAllC cs l)) := okL_all l HOK.out hal
      have hlD := HOD.out.1
      have HALs : Hid (∀ c ∈ l, (c.2.1.size : Int) ≤ 1048576) := hal
      have hv1 := HL2.out
      obtain ⟨av, capv, rfl, _⟩ := hv1
      clear hal
      go_wp2_with fail
      refine (doneAll_i cs l _ _ wr (HL2.out.below HB.out) (HR2.out.below HB.out) HOK.out (by omega) HALs.out).mono ?_
      rintro e w3 ⟨v3, u3, rfl, hown3, hint3, _, hb3⟩
      have HV3 : Hid (Cells w3 v3 (doneAllC cs l)) := cells_of_own hown3
      obtain ⟨a3, cap3, rfl, _⟩ := own_form hint3
      have HU3 : Hid (Cells w3 u5 (doneAllC cs l)) := HU.out.below hb3
      have HB3 : Hid (Below w2.heap.size w2 w3) := bt HB.out hb3
      clear hown3 hint3 hb3
      go_wp2_with fail
      refine (drawDone_any (HC.out.below (bt B2 HB3.out))).mono ?_
      rintro e w4 ⟨v4, cs4, ⟨kd, key, num⟩, rfl, hsm, hks, hown4, hb4⟩
      simp only at hks
      have HSM : Hid (smallL cs4 20) := hsm
      have hl20 := hsm.1
      have hb5 : Below w4.heap.size w4 (w4.alloc (.cells #[.int .i64 kd, .string key, .int .i64 num] 29)) := ba (Below.refl _ _) _
      have H45 : Hid (Cells (w4.alloc (.cells #[.int .i64 kd, .string key, .int .i64 num] 29)) v4 cs4) := (cells_of_own hown4).below hb5
      have HV5 : Hid (Cells (w4.alloc (.cells #[.int .i64 kd, .string key, .int .i64 num] 29)) v3 (doneAllC cs l)) := HV3.out.below (bt hb4 hb5)
      have HU5 : Hid (Cells (w4.alloc (.cells #[.int .i64 kd, .string key, .int .i64 num] 29)) u5 (doneAllC cs l)) := HU3.out.below (bt hb4 hb5)
      have HB5 : Hid (Below w2.heap.size w2 (w4.alloc (.cells #[.int .i64 kd, .string key, .int .i64 num] 29))) := bt HB3.out (bt hb4 hb5)
      clear hsm hown4 hb4 hb5
      unfold cmdV
      go_wp2_with fail
      refine (done_i cs4 v4 (kd, key, num) _ H45.out (smallL_ok HSM.out (by omega)) (by simp only; omega)).mono ?_
      rintro e w6 ⟨v6, rfl, hown6, hb6⟩
      have H66 : Hid (Cells w6 v6 (doneC cs4 (kd, key, num))) := cells_of_own hown6
      have k0 : w6.cell? ⟨w4.heap.size, 0, none⟩ = some (.int .i64 kd) := by rw [hb6.cell (by simp)]; simp
      have k1 : w6.cell? ⟨w4.heap.size, 1, none⟩ = some (.string key) := by rw [hb6.cell (by simp)]; simp
      have k2 : w6.cell? ⟨w4.heap.size, 2, none⟩ = some (.int .i64 num) := by rw [hb6.cell (by simp)]; simp
      have hs6 : w4.heap.size < w6.heap.size := by have := hb6.size; simp at this; omega
      have H46 : Hid (Cells w6 v4 cs4) := H45.out.below hb6
      have HV6 : Hid (Cells w6 v3 (doneAllC cs l)) := HV5.out.below hb6
      have HU6 : Hid (Cells w6 u5 (doneAllC cs l)) := HU5.out.below hb6
      have HB6 : Hid (Below w2.heap.size w2 w6) := bt HB5.out hb6
      clear hown6 hb6 H45 HV5 HU5 HB5 HV3 HU3 HB3 HU HB
      go_wp2_with fail
      refine (done_s cs4 v4 (kd, key, num) w6 H46.out (by omega) HSM.out.2 (by simp only; omega)).mono ?_
      rintro e w7 ⟨v7, rfl, hown7, hb7⟩
      have H77 : Hid (Cells w7 v7 (doneC cs4 (kd, key, num))) := cells_of_own hown7
      have H67 : Hid (Cells w7 v6 (doneC cs4 (kd, key, num))) := H66.out.below hb7
      have H47 : Hid (Cells w7 v4 cs4) := H46.out.below hb7
      have HV7 : Hid (Cells w7 v3 (doneAllC cs l)) := HV6.out.below hb7
      have HU7 : Hid (Cells w7 u5 (doneAllC cs l)) := HU6.out.below hb7
      have HL7 : Hid (Cells w7 (.slice av cs.length capv) cs) := HL2.out.below (bt HB6.out hb7)
      have B7 : Hid (Below w.heap.size w w7) := bt B2 (bt HB6.out hb7)
      have hl4 := (okL_done (c := (kd, key, num)) (smallL_ok HSM.out (by omega)) (by simp only; omega)).1
      have hne := bw_some w7
      have m0 : ∀ x : Bw w7, x.to.cell? ⟨w4.heap.size, 0, none⟩ = some (.int .i64 kd) := fun x => by rw [(bt hb7 x.below).cell (by exact hs6)]; exact k0
      have m1 : ∀ x : Bw w7, x.to.cell? ⟨w4.heap.size, 1, none⟩ = some (.string key) := fun x => by rw [(bt hb7 x.below).cell (by exact hs6)]; exact k1
      have m2 : ∀ x : Bw w7, x.to.cell? ⟨w4.heap.size, 2, none⟩ = some (.int .i64 num) := fun x => by rw [(bt hb7 x.below).cell (by exact hs6)]; exact k2
      have HQ1 : Hid (∀ x : Bw w7, Calls Try.prog 11 #[u5, v3] x.to fun e w' => e = .returned (.bool true) ∧ Below x.to.heap.size x.to w') := fun x => same_yes (doneAllC cs l) _ _ x.to (HU7.out.below x.below) (HV7.out.below x.below) hlD
      have HQ2 : Hid (∀ x : Bw w7, Calls Try.prog 11 #[v6, v7] x.to fun e w' => e = .returned (.bool true) ∧ Below x.to.heap.size x.to w') := fun x => same_yes (doneC cs4 (kd, key, num)) _ _ x.to (H67.out.below x.below) (H77.out.below x.below) hl4
      have HQ3 : Hid (∀ x : Bw w7, Calls Try.prog 15 #[v3] x.to fun e w' => e = .returned (.bool true) ∧ Below x.to.heap.size x.to w') := fun x => (by have := cellsOk_i (doneAllC cs l) v3 x.to (HV7.out.below x.below) hlD HOD.out.2; rw [doneAll_ok l HCB.out] at this; exact this)
      have HQ4 : Hid (∀ x : Bw w7, Calls Try.prog 15 #[v4] x.to fun e w' => e = .returned (.bool (cellsB cs4)) ∧ Below x.to.heap.size x.to w') := fun x => cellsOk_i cs4 v4 x.to (H47.out.below x.below) (by omega) HSM.out.2
      have HQ5 : Hid (∀ x : Bw w7, Calls Try.prog 16 #[v4] x.to fun e w' => e = .returned (.bool (cellsB cs4)) ∧ Below x.to.heap.size x.to w') := fun x => cellsOk_s cs4 v4 x.to (H47.out.below x.below) (by omega) HSM.out.2
      have HQ6 : Hid (∀ x : Bw w7, Calls Try.prog 17 #[.agg #[.int .i64 kd, .string key, .int .i64 num]] x.to fun e w' => e = .returned (.bool (cmdB (kd, key, num))) ∧ Below x.to.heap.size x.to w') := fun x => cmd_i (kd, key, num) x.to (by simp only; omega)
      have HQ7 : Hid (∀ x : Bw w7, Calls Try.prog 18 #[.agg #[.int .i64 kd, .string key, .int .i64 num]] x.to fun e w' => e = .returned (.bool (cmdB (kd, key, num))) ∧ Below x.to.heap.size x.to w') := fun x => cmd_s (kd, key, num) x.to (by simp only; omega)
      have HQ8 : Hid (∀ x : Bw w7, Calls Try.prog 19 #[.slice av cs.length capv] x.to fun e w' => e = .returned (.string (cellsText cs)) ∧ Below x.to.heap.size x.to w') := fun x => text_i cs _ x.to (HL7.out.below x.below) HOK.out.1 HOK.out.2
      clear hown7 hb7 H66 H46 HV6 HU6 HB6 k0 k1 k2
      by_cases hz : cs.length = 0
      · have z1 : ((cs.length : Int) == 0) = true := by simp [hz]
        clear hz
        go_wp2
        refine wp_region_bw (by kernel_rfl) (by kernel_rfl) ?_
        repeat (go_big_quiet_step (first | (go_at_call 11; with_reducible refine calls_bw (HQ1.out _)) | (go_at_call 11; with_reducible refine calls_bw (HQ2.out _)) | (go_at_call 15; with_reducible refine calls_bw (HQ3.out _)) | (go_at_call 15; with_reducible refine calls_bw (HQ4.out _)) | (go_at_call 16; with_reducible refine calls_bw (HQ5.out _)) | (go_at_call 17; with_reducible refine calls_bw (HQ6.out _)) | (go_at_call 18; with_reducible refine calls_bw (HQ7.out _)) | (go_at_call 19; with_reducible refine calls_bw (HQ8.out _))))
        refine wpQuiet_nil ?_
        intro _ hw'
        obtain ⟨x, rfl⟩ := hw'
        go_wp2
        go_ret
        exact ⟨rfl, bt B7.out x.below⟩
      · have z1 : ((cs.length : Int) == 0) = false := by rw [beq_eq_false_iff_ne]; omega
        have hT : (cellsText cs).size ≠ 0 := by
          unfold cellsText
          rw [HCB.out, if_pos rfl]
          exact txt_ne (fun e => hz (by rw [e]; rfl)) fun c hc => ((cellsB_iff.1 HCB.out).1 c hc).1
        have t1 : ¬ (cellsText cs).toList = [] := fun e => hT (by
          have : (cellsText cs).data.toList.length = 0 := by rw [← ByteArray.toList_eq, e]; rfl
          simpa using this)
        have t2 : (cellsText cs).toList.isEmpty = false := by cases h : (cellsText cs).toList with
          | nil => exact absurd h t1
          | cons _ _ => rfl
        clear hz hT
        go_wp2
        refine wp_region_bw (by kernel_rfl) (by kernel_rfl) ?_
        repeat (go_big_quiet_step (first | (go_at_call 11; with_reducible refine calls_bw (HQ1.out _)) | (go_at_call 11; with_reducible refine calls_bw (HQ2.out _)) | (go_at_call 15; with_reducible refine calls_bw (HQ3.out _)) | (go_at_call 15; with_reducible refine calls_bw (HQ4.out _)) | (go_at_call 16; with_reducible refine calls_bw (HQ5.out _)) | (go_at_call 17; with_reducible refine calls_bw (HQ6.out _)) | (go_at_call 18; with_reducible refine calls_bw (HQ7.out _)) | (go_at_call 19; with_reducible refine calls_bw (HQ8.out _))))
        refine wpQuiet_nil ?_
        intro _ hw'
        obtain ⟨x, rfl⟩ := hw'
        go_wp2
        go_ret
        exact ⟨rfl, bt B7.out x.below⟩

end Go.Proofs.Ytnghhfgbobpnkaa.WFnCells
