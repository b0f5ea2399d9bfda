/-
  The contract of the specification's Done.
-/
import Derived.Test.YtjdddcldbfhbiaaPutS
import Derived.Test.YtjdddcldbfhbiaaCellS2
import Derived.Test.YtjdddcldbfhbiaaCmdI
namespace Go.Proofs.Ytjdddcldbfhbiaa
open Go.RowKit Num

theorem ret_vi {v : Value} {a b : Int} (h : a = b) : Ending.returned (.tuple #[v, .int .i64 a]) = .returned (.tuple #[v, .int .i64 b]) := by rw [h]
set_option maxRecDepth 100000 in
set_option maxHeartbeats 2000000 in
theorem done_s (cs : CL) (v : Value) (c : CM) (w : World) (hv : Cells w v cs) (hl : (cs.length : Int) ≤ 1048576) (hall : ∀ c ∈ cs, (c.1.size : Int) ≤ 1048576) (hk : (c.2.1.size : Int) ≤ 1048576) :
    Calls Try.prog 14 #[v, cmdV c] w fun e w' => ∃ v', e = .returned (.tuple #[v', .int .i64 (codeC cs c)]) ∧ w'.ownsRow w.heap.size 35 2 v' (doneC cs c).length (flat (doneC cs c)) ∧ Below w.heap.size w w' := by
  obtain ⟨kd, key, num⟩ := c
  have HA : Hid (∀ c ∈ cs, (c.1.size : Int) ≤ 1048576) := hall
  have HV : Hid (Cells w v cs) := hv
  have B0 : Below w.heap.size w (w.alloc (Obj.cells #[Value.int IntKind.i64 kd, Value.string key, Value.int IntKind.i64 num] 29)) := ba (Below.refl _ _) _
  have HV0 : Hid (Cells ((w.alloc (Obj.cells #[Value.int IntKind.i64 kd, Value.string key, Value.int IntKind.i64 num] 29)).alloc (.cells #[] 35)) v cs) := hv.below (ba B0 _)
  have O0 : ((w.alloc (Obj.cells #[Value.int IntKind.i64 kd, Value.string key, Value.int IntKind.i64 num] 29)).alloc (.cells #[] 35)).ownsRow (w.heap.size + 1) 35 2 (.slice (some ⟨w.heap.size + 1, 0, none⟩) 0 0) ([] : CL).length (flat []) := by
    have := own_new (w.alloc (Obj.cells #[Value.int IntKind.i64 kd, Value.string key, Value.int IntKind.i64 num] 29)) 35 2
    rw [show (w.alloc (Obj.cells #[Value.int IntKind.i64 kd, Value.string key, Value.int IntKind.i64 num] 29)).heap.size = w.heap.size + 1 by simp] at this
    exact this
  have HO0 : Hid (((w.alloc (Obj.cells #[Value.int IntKind.i64 kd, Value.string key, Value.int IntKind.i64 num] 29)).alloc (.cells #[] 35)).ownsRow (w.heap.size + 1) 35 2 (.slice (some ⟨w.heap.size + 1, 0, none⟩) 0 0) ([] : CL).length (flat [])) := O0
  have HB0 : Hid (Below w.heap.size w (w.alloc (Obj.cells #[Value.int IntKind.i64 kd, Value.string key, Value.int IntKind.i64 num] 29))) := B0
  obtain ⟨a, cap, rfl, hr⟩ := hv
  have HR : Hid (0 < cs.length → _) := hr
  clear hall B0 O0 hr
  unfold cmdV
  go_enter Try.func14, Try.ntmps14
  go_wp2_with (at_builtin; refine wpList_append_cells _ rfl _ _ rfl (w.heap.size + 1) _ [] rfl HO0.out _ cs rfl HV0.out (by simp; omega) (by simp) ?_; intro v0 w0 hown0 hgrow0)
  have hx1 : (w.alloc (Obj.cells #[Value.int IntKind.i64 kd, Value.string key, Value.int IntKind.i64 num] 29)).heap.size = w.heap.size + 1 := by simp
  have B1 : Below (w.alloc (Obj.cells #[Value.int IntKind.i64 kd, Value.string key, Value.int IntKind.i64 num] 29)).heap.size (w.alloc (Obj.cells #[Value.int IntKind.i64 kd, Value.string key, Value.int IntKind.i64 num] 29)) w0 := (ba (Below.refl _ _) _).grown hgrow0 (by simp) fun b hb => by have := (HO0.out.lt b hb).1; rw [hx1]; exact this
  have hs0 : w.heap.size < w0.heap.size := by have := B1.size; omega
  have hcell : ∀ w', Below w0.heap.size w0 w' → w'.cell? ⟨w.heap.size, 0, none⟩ = some (.int .i64 kd) ∧ w'.cell? ⟨w.heap.size, 1, none⟩ = some (.string key) ∧ w'.cell? ⟨w.heap.size, 2, none⟩ = some (.int .i64 num) := fun w' hb => by
    have lt1 : w.heap.size < (w.alloc (Obj.cells #[Value.int IntKind.i64 kd, Value.string key, Value.int IntKind.i64 num] 29)).heap.size := by omega
    refine ⟨?_, ?_, ?_⟩ <;> rw [(bt B1 hb).cell (by exact lt1)] <;> simp
  have HC : Hid (∀ w', Below w0.heap.size w0 w' → w'.cell? ⟨w.heap.size, 0, none⟩ = some (.int .i64 kd) ∧ w'.cell? ⟨w.heap.size, 1, none⟩ = some (.string key) ∧ w'.cell? ⟨w.heap.size, 2, none⟩ = some (.int .i64 num)) := hcell
  have HB1 : Hid (Below w.heap.size w w0) := bt HB0.out B1
  have HV1 : Hid (Cells w0 (.slice a cs.length cap) cs) := HV.out.below HB1.out
  have HO1 : Hid (w0.ownsRow w.heap.size 35 2 v0 cs.length (flat cs)) := own_base (by simpa using hown0) (Nat.le_succ _)
  clear hcell B1 hown0 hgrow0 HO0 HV0 hx1
  clear HV
  refine (cellsOk_s cs _ w0 HV1.out hl HA.out).mono ?_
  rintro e w2 ⟨rfl, hb2⟩
  obtain ⟨k0, k1, k2⟩ := HC.out w2 hb2
  cases hcb : cellsB cs with
  | false =>
    have HE : Hid (codeC cs (kd, key, num) = 2) := code_bad hcb
    go_wp2
    go_ret2
    exact ⟨v0, ret_vi HE.out.symm, by rw [done_code (by rw [HE.out]; decide)]; exact own_kept HO1.out hb2, bt HB1.out hb2⟩
  | true =>
    go_wp2_with fail
    refine (cmd_s (kd, key, num) w2 hk).mono ?_
    rintro e w3 ⟨rfl, hb3⟩
    have hb23 := bt hb2 hb3
    clear k0 k1 k2
    obtain ⟨k0, k1, k2⟩ := HC.out w3 hb23
    cases hmb : cmdB (kd, key, num) with
    | false =>
      have HE : Hid (codeC cs (kd, key, num) = 2) := code_cmd hmb
      go_wp2
      go_ret2
      exact ⟨v0, ret_vi HE.out.symm, by rw [done_code (by rw [HE.out]; decide)]; exact own_kept HO1.out hb23, bt HB1.out hb23⟩
    | true =>
      go_wp2_with fail
      refine (cellAt_s cs _ key w3 (HV1.out.below hb23) hl).mono ?_
      rintro e w4 ⟨rfl, rfl⟩
      have HB23 : Hid (Below w0.heap.size w0 w4) := hb23
      obtain ⟨hkd, hkey, hnum⟩ := cmdB_bd hmb
      obtain ⟨hn0, hn1⟩ := numB_bd hnum
      obtain ⟨hall2, hA, hl12⟩ := cellsB_iff.1 hcb
      have HAS : Hid (Asc cs) := hA
      have HL2 : Hid (∀ c ∈ cs, keyB c.1 = true ∧ numB c.2 = true) := hall2
      simp only at hkd hkey hnum hn0 hn1
      have HCB : Hid (cellsB cs = true) := hcb
      have HMB : Hid (cmdB (kd, key, num) = true) := hmb
      clear hb23 hcb hmb hA hall2 hb3
      cases hh : hasK cs key with
      | false =>
        have hat : cellAt cs key = -1 := cellAt_no hh
        rw [hat]
        by_cases h1 : kd = 1
        · subst h1
          have hnb : inB num 0 1000000000 = true := hnum
          have HN : Hid (comes cs (1, key, num) = num) := comes_set rfl
          by_cases h12 : 12 ≤ (cs.length : Int)
          · have HE : Hid (codeC cs (1, key, num) = 2) := code_over HCB.out HMB.out (by simp) (Or.inr ⟨hh, by omega⟩)
            go_wp2_with fail
            refine (in_any _ _ _ _).mono ?_
            rintro e w5 ⟨rfl, rfl⟩
            rw [hnb]
            go_wp2
            go_ret2
            exact ⟨v0, ret_vi HE.out.symm, by rw [done_code (by rw [HE.out]; decide)]; exact own_kept HO1.out HB23.out, bt HB1.out HB23.out⟩
          · have HE : Hid (codeC cs (1, key, num) = 0) := code_done HCB.out HMB.out (by simp) (fun h => by
              rcases h with h | h
              · rw [HN.out, hnum] at h; cases h
              · omega)
            go_wp2_with fail
            refine (in_any _ _ _ _).mono ?_
            rintro e w5 ⟨rfl, rfl⟩
            rw [hnb]
            go_wp2_with fail
            refine (put_s cs _ (key, num) _ (HV1.out.below HB23.out) hl).mono ?_
            rintro e w6 ⟨v6, rfl, hown6, hb6⟩
            have HO6 : Hid (w6.ownsRow _ 35 2 v6 _ _) := hown6
            clear hown6
            go_wp2
            go_ret2
            exact ⟨v6, ret_vi HE.out.symm, by rw [done_zero HE.out, HN.out]; exact own_base HO6.out (bt HB1.out HB23.out).size, bt HB1.out (bt HB23.out hb6)⟩
        · have HE : Hid (codeC cs (kd, key, num) = 1) := code_none HCB.out HMB.out h1 hh
          have h1' : (kd != 1) = true := by simpa using h1
          go_wp2
          go_ret2
          exact ⟨v0, ret_vi HE.out.symm, by rw [done_code (by rw [HE.out]; decide)]; exact own_kept HO1.out HB23.out, bt HB1.out HB23.out⟩
      | true =>
        obtain ⟨j, hj, hat, hjk⟩ := cellAt_yes hh
        rw [hat]
        subst hjk
        obtain ⟨hj0, hj1⟩ := numB_bd (HL2.out cs[j] (List.getElem_mem hj)).2
        by_cases h1 : kd = 1
        · subst h1
          have hnb : inB num 0 1000000000 = true := hnum
          have HN : Hid (comes cs (1, cs[j].1, num) = num) := comes_set rfl
          have HE : Hid (codeC cs (1, cs[j].1, num) = 0) := code_done HCB.out HMB.out (by simp) (fun h => by
            rcases h with h | h
            · rw [HN.out, hnum] at h; cases h
            · rw [hh] at h; cases h.1)
          go_wp2_with fail
          refine (in_any _ _ _ _).mono ?_
          rintro e w5 ⟨rfl, rfl⟩
          rw [hnb]
          go_wp2_with fail
          refine (put_s cs _ (cs[j].1, num) _ (HV1.out.below HB23.out) hl).mono ?_
          rintro e w6 ⟨v6, rfl, hown6, hb6⟩
          have HO6 : Hid (w6.ownsRow _ 35 2 v6 _ _) := hown6
          clear hown6
          go_wp2
          go_ret2
          exact ⟨v6, ret_vi HE.out.symm, by rw [done_zero HE.out, HN.out]; exact own_base HO6.out (bt HB1.out HB23.out).size, bt HB1.out (bt HB23.out hb6)⟩
        · have h1' : (kd != 1) = true := by simpa using h1
          by_cases h3 : kd = 3
          · subst h3
            obtain ⟨g, off, rfl, hg, hc⟩ := HR.out (by omega)
            have hne := bw_some w4
            have q0 : (0 : Int) ≤ (j : Int) := by omega
            have q1 : (j : Int) < cs.length := by omega
            have c1 : ∀ x : Bw w4, x.to.cell? ⟨g, off + j * 2 + 1, none⟩ = some (.int .i64 cs[j].2) := fun x => by rw [(bt HB1.out (bt HB23.out x.below)).cell (by exact hg)]; exact (hc j hj).2
            have cc : ∀ x : Bw w4, x.to.cell? ⟨w.heap.size, 0, none⟩ = some (.int .i64 3) ∧ x.to.cell? ⟨w.heap.size, 1, none⟩ = some (.string cs[j].1) ∧ x.to.cell? ⟨w.heap.size, 2, none⟩ = some (.int .i64 num) := fun x => HC.out _ (bt HB23.out x.below)
            have cc0 : ∀ x : Bw w4, x.to.cell? ⟨w.heap.size, 0, none⟩ = some (.int .i64 3) := fun x => (cc x).1
            have cc1 : ∀ x : Bw w4, x.to.cell? ⟨w.heap.size, 1, none⟩ = some (.string cs[j].1) := fun x => (cc x).2.1
            have cc2 : ∀ x : Bw w4, x.to.cell? ⟨w.heap.size, 2, none⟩ = some (.int .i64 num) := fun x => (cc x).2.2
            have HN : Hid (comes cs (3, cs[j].1, num) = cs[j].2 - num) := comes_take HAS.out hj
            clear hc cc
            cases hnb : inB (cs[j].2 - num) 0 1000000000 with
            | false =>
              have HE : Hid (codeC cs (3, cs[j].1, num) = 2) := code_over HCB.out HMB.out (fun h => by rw [hh] at h; cases h.2) (Or.inl (by rw [HN.out]; exact hnb))
              go_wp2
              refine wp_region_bw (by kernel_rfl) (by kernel_rfl) ?_
              repeat (go_big_quiet_step (fail))
              refine wpQuiet_nil ?_
              intro _ hw'
              obtain ⟨x, rfl⟩ := hw'
              have hne2 := bw_some x.to
              have BX : Hid (Below w0.heap.size w0 x.to) := bt HB23.out x.below
              have d1 : ∀ y : Bw x.to, y.to.cell? ⟨g, off + j * 2 + 1, none⟩ = some (.int .i64 cs[j].2) := fun y => c1 ⟨y.to, bt x.below y.below⟩
              have d2 : ∀ y : Bw x.to, y.to.cell? ⟨w.heap.size, 2, none⟩ = some (.int .i64 num) := fun y => cc2 ⟨y.to, bt x.below y.below⟩
              go_wp2
              refine wp_region_bw (by kernel_rfl) (by kernel_rfl) ?_
              repeat (go_big_quiet_step (fail))
              refine wpQuiet_nil ?_
              intro _ hw'
              obtain ⟨y, rfl⟩ := hw'
              go_wp2_with fail
              refine (in_any _ _ _ _).mono ?_
              rintro e w5 ⟨rfl, rfl⟩
              rw [hnb]
              go_wp2
              go_ret2
              exact ⟨v0, ret_vi HE.out.symm, by rw [done_code (by rw [HE.out]; decide)]; exact own_kept HO1.out (bt BX.out y.below), bt HB1.out (bt BX.out y.below)⟩
            | true =>
              have HE : Hid (codeC cs (3, cs[j].1, num) = 0) := code_done HCB.out HMB.out (fun h => by rw [hh] at h; cases h.2) (fun h => by
                rcases h with h | h
                · rw [HN.out, numB, hnb] at h; cases h
                · rw [hh] at h; cases h.1)
              go_wp2
              refine wp_region_bw (by kernel_rfl) (by kernel_rfl) ?_
              repeat (go_big_quiet_step (fail))
              refine wpQuiet_nil ?_
              intro _ hw'
              obtain ⟨x, rfl⟩ := hw'
              have hne2 := bw_some x.to
              have BX : Hid (Below w0.heap.size w0 x.to) := bt HB23.out x.below
              have d1 : ∀ y : Bw x.to, y.to.cell? ⟨g, off + j * 2 + 1, none⟩ = some (.int .i64 cs[j].2) := fun y => c1 ⟨y.to, bt x.below y.below⟩
              have d2 : ∀ y : Bw x.to, y.to.cell? ⟨w.heap.size, 2, none⟩ = some (.int .i64 num) := fun y => cc2 ⟨y.to, bt x.below y.below⟩
              have d3 : ∀ y : Bw x.to, y.to.cell? ⟨w.heap.size, 1, none⟩ = some (.string cs[j].1) := fun y => cc1 ⟨y.to, bt x.below y.below⟩
              go_wp2
              refine wp_region_bw (by kernel_rfl) (by kernel_rfl) ?_
              repeat (go_big_quiet_step (fail))
              refine wpQuiet_nil ?_
              intro _ hw'
              obtain ⟨y, rfl⟩ := hw'
              go_wp2_with fail
              refine (in_any _ _ _ _).mono ?_
              rintro e w5 ⟨rfl, rfl⟩
              rw [hnb]
              go_wp2_with fail
              refine (put_s cs _ (cs[j].1, cs[j].2 - num) _ (HV1.out.below (bt BX.out y.below)) hl).mono ?_
              rintro e w6 ⟨v6, rfl, hown6, hb6⟩
              have HO6 : Hid (w6.ownsRow _ 35 2 v6 _ _) := hown6
              clear hown6
              go_wp2
              go_ret2
              exact ⟨v6, ret_vi HE.out.symm, by rw [done_zero HE.out, HN.out]; exact own_base HO6.out (bt HB1.out (bt BX.out y.below)).size, bt HB1.out (bt (bt BX.out y.below) hb6)⟩
          · obtain rfl : kd = 2 := by omega
            obtain ⟨g, off, rfl, hg, hc⟩ := HR.out (by omega)
            have hne := bw_some w4
            have q0 : (0 : Int) ≤ (j : Int) := by omega
            have q1 : (j : Int) < cs.length := by omega
            have c1 : ∀ x : Bw w4, x.to.cell? ⟨g, off + j * 2 + 1, none⟩ = some (.int .i64 cs[j].2) := fun x => by rw [(bt HB1.out (bt HB23.out x.below)).cell (by exact hg)]; exact (hc j hj).2
            have cc : ∀ x : Bw w4, x.to.cell? ⟨w.heap.size, 0, none⟩ = some (.int .i64 2) ∧ x.to.cell? ⟨w.heap.size, 1, none⟩ = some (.string cs[j].1) ∧ x.to.cell? ⟨w.heap.size, 2, none⟩ = some (.int .i64 num) := fun x => HC.out _ (bt HB23.out x.below)
            have cc0 : ∀ x : Bw w4, x.to.cell? ⟨w.heap.size, 0, none⟩ = some (.int .i64 2) := fun x => (cc x).1
            have cc1 : ∀ x : Bw w4, x.to.cell? ⟨w.heap.size, 1, none⟩ = some (.string cs[j].1) := fun x => (cc x).2.1
            have cc2 : ∀ x : Bw w4, x.to.cell? ⟨w.heap.size, 2, none⟩ = some (.int .i64 num) := fun x => (cc x).2.2
            have HN : Hid (comes cs (2, cs[j].1, num) = cs[j].2 + num) := comes_add HAS.out hj (by decide) (by decide)
            clear hc cc
            cases hnb : inB (cs[j].2 + num) 0 1000000000 with
            | false =>
              have HE : Hid (codeC cs (2, cs[j].1, num) = 2) := code_over HCB.out HMB.out (fun h => by rw [hh] at h; cases h.2) (Or.inl (by rw [HN.out]; exact hnb))
              go_wp2
              refine wp_region_bw (by kernel_rfl) (by kernel_rfl) ?_
              repeat (go_big_quiet_step (fail))
              refine wpQuiet_nil ?_
              intro _ hw'
              obtain ⟨x, rfl⟩ := hw'
              go_wp2_with fail
              refine (in_any _ _ _ _).mono ?_
              rintro e w5 ⟨rfl, rfl⟩
              rw [hnb]
              go_wp2
              go_ret2
              exact ⟨v0, ret_vi HE.out.symm, by rw [done_code (by rw [HE.out]; decide)]; exact own_kept HO1.out (bt HB23.out x.below), bt HB1.out (bt HB23.out x.below)⟩
            | true =>
              have HE : Hid (codeC cs (2, cs[j].1, num) = 0) := code_done HCB.out HMB.out (fun h => by rw [hh] at h; cases h.2) (fun h => by
                rcases h with h | h
                · rw [HN.out, numB, hnb] at h; cases h
                · rw [hh] at h; cases h.1)
              go_wp2
              refine wp_region_bw (by kernel_rfl) (by kernel_rfl) ?_
              repeat (go_big_quiet_step (fail))
              refine wpQuiet_nil ?_
              intro _ hw'
              obtain ⟨x, rfl⟩ := hw'
              go_wp2_with fail
              refine (in_any _ _ _ _).mono ?_
              rintro e w5 ⟨rfl, rfl⟩
              rw [hnb]
              go_wp2_with fail
              refine (put_s cs _ (cs[j].1, cs[j].2 + num) _ (HV1.out.below (bt HB23.out x.below)) hl).mono ?_
              rintro e w6 ⟨v6, rfl, hown6, hb6⟩
              have HO6 : Hid (w6.ownsRow _ 35 2 v6 _ _) := hown6
              clear hown6
              go_wp2
              go_ret2
              exact ⟨v6, ret_vi HE.out.symm, by rw [done_zero HE.out, HN.out]; exact own_base HO6.out (bt HB1.out (bt HB23.out x.below)).size, bt HB1.out (bt (bt HB23.out x.below) hb6)⟩

end Go.Proofs.Ytjdddcldbfhbiaa
