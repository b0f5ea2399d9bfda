/-
  The contract of the program's command on a map of accounts.
-/
import Derived.Test.YtjdddcldbfhbiaaMapI
namespace Go.Proofs.Ytjdddcldbfhbiaa
open Go.RowKit Num Go.Maps

theorem code_put {cs : CL} {c : CM} (h : cellsB cs = true) (h2 : cmdB c = true) (h3 : ¬ (c.1 ≠ 1 ∧ hasK cs c.2.1 = false)) : codeC cs c = putCode cs c.2.1 (comes cs c) := by
  unfold codeC putCode; rw [h, h2, if_neg (by decide), if_neg h3]
theorem rest_put {cs : CL} {c : CM} (h : cellsB cs = true) (h2 : cmdB c = true) (h3 : ¬ (c.1 ≠ 1 ∧ hasK cs c.2.1 = false)) : doneC cs c = putRest cs c.2.1 (comes cs c) := by
  unfold doneC putRest; rw [code_put h h2 h3]

set_option maxRecDepth 100000 in
set_option maxHeartbeats 2000000 in
theorem do_i (cs : CL) (b : Nat) (c : CM) (w : World) (hm : MapIs w b cs) (hcb : cellsB cs = true) (hk : (c.2.1.size : Int) ≤ 1048576) :
    Calls Try.prog 53 #[.map (some b), cmdV c] w fun e w' => e = .returned (.int .i64 (codeC cs c)) ∧ MapIs w' b (doneC cs c) ∧ w.grownBy w' (some b) := by
  obtain ⟨kd, key, num⟩ := c
  have HM : Hid (MapIs w b cs) := hm
  obtain ⟨hall, hA, hl12⟩ := cellsB_iff.1 hcb
  have HA : Hid (Asc cs) := hA
  have HL : Hid (∀ c ∈ cs, keyB c.1 = true ∧ numB c.2 = true) := hall
  clear hm hall hA
  unfold cmdV
  go_enter Try.func53, Try.ntmps53
  go_wp2_with fail
  refine (cmd_i (kd, key, num) _ hk).mono ?_
  rintro e w2 ⟨rfl, hb2⟩
  obtain ⟨w1, hw1⟩ : ∃ w1, w1 = w.alloc (Obj.cells #[Value.int IntKind.i64 kd, Value.string key, Value.int IntKind.i64 num] 29) := ⟨_, rfl⟩
  rw [← hw1] at hb2
  have hs1 : w1.heap.size = w.heap.size + 1 := by rw [hw1]; simp
  have B1 : Below w.heap.size w w1 := by rw [hw1]; exact ba (Below.refl _ _) _
  have B2 : Below w.heap.size w w2 := bt B1 hb2
  have k0 : w2.cell? ⟨w.heap.size, 0, none⟩ = some (.int .i64 kd) := by rw [hb2.cell (by simp [hs1]), hw1]; simp
  have k1 : w2.cell? ⟨w.heap.size, 1, none⟩ = some (.string key) := by rw [hb2.cell (by simp [hs1]), hw1]; simp
  have k2 : w2.cell? ⟨w.heap.size, 2, none⟩ = some (.int .i64 num) := by rw [hb2.cell (by simp [hs1]), hw1]; simp
  have HM2 : Hid (MapIs w2 b cs) := HM.out.below B2
  have HB2 : Hid (Below w.heap.size w w2) := B2
  clear hw1 hb2 hs1 B1 B2
  cases hmb : cmdB (kd, key, num) with
  | false =>
    have HE : Hid (codeC cs (kd, key, num) = 2) := code_cmd hmb
    go_wp2
    go_ret
    exact ⟨ret_int HE.out.symm, by rw [done_code (by rw [HE.out]; decide)]; exact HM2.out, grown_any (below_grown HB2.out)⟩
  | true =>
    obtain ⟨hkd, hkey, hnum⟩ := cmdB_bd hmb
    obtain ⟨hn0, hn1⟩ := numB_bd hnum
    simp only at hkd hkey hnum hn0 hn1
    have HMB : Hid (cmdB (kd, key, num) = true) := hmb
    have HCB : Hid (cellsB cs = true) := hcb
    clear hmb hcb
    have hm2 := HM2.out
    obtain ⟨D, hD, hrep⟩ := hm2
    have HD : Hid (w2.ownsMap Try.prog 9 (plainElem Try.prog 3) b cs.length D) := hD
    have HK : Hid (keyOf Try.prog 9 (.string key) = some (lk key)) := keyS hk
    have HREP : Hid (Rep D cs) := hrep
    have hhas : Maps.has D (lk key) = hasK cs key := hrep.2.1 key
    clear hD hrep
    by_cases h1 : kd = 1
    · subst h1
      have HN : Hid (comes cs (1, key, num) = num) := comes_set rfl
      have HE : Hid (codeC cs (1, key, num) = putCode cs key num) := by have := code_put HCB.out HMB.out (by simp); rw [HN.out] at this; exact this
      have HR : Hid (doneC cs (1, key, num) = putRest cs key num) := by have := rest_put HCB.out HMB.out (by simp); rw [HN.out] at this; exact this
      go_wp2_with (first
        | (at_lookup; refine wpList_lookup_own_ok_int _ rfl _ _ 83 rfl 9 3 .i64 keyedS mapT Try.underlying3 (zeroI _) b _ _ rfl HD.out _ _ rfl HK.out ?_; intro c hat hwc; clear hat hwc)
        | (go_at_call 93; refine (put_i cs b _ (num) _ HM2.out HA.out hl12 hk).mono ?_; rintro e w3 ⟨rfl, hm3, hg3⟩))
      go_ret
      exact ⟨ret_int HE.out.symm, by rw [HR.out]; exact hm3, grown_trans (grown_any (below_grown HB2.out)) hg3⟩
    · have h1' : (kd == 1) = false := by simpa using h1
      cases hh : hasK cs key with
      | false =>
        rw [hh] at hhas
        have HE : Hid (codeC cs (kd, key, num) = 1) := code_none HCB.out HMB.out h1 hh
        go_wp2_with (at_lookup; refine wpList_lookup_own_ok_int _ rfl _ _ 83 rfl 9 3 .i64 keyedS mapT Try.underlying3 (zeroI _) b _ _ rfl HD.out _ _ rfl HK.out ?_; intro c hat hwc; clear hat hwc)
        go_ret
        exact ⟨ret_int HE.out.symm, by rw [done_code (by rw [HE.out]; decide)]; exact HM2.out, grown_any (below_grown HB2.out)⟩
      | true =>
        rw [hh] at hhas
        obtain ⟨j, hj, _, hjk⟩ := cellAt_yes hh
        subst hjk
        have HAT : Hid (D.atKey (lk cs[j].1) (i64D 0) = i64D cs[j].2) := rep_same HREP.out hj
        obtain ⟨hj0, hj1⟩ := numB_bd (HL.out cs[j] (List.getElem_mem hj)).2
        by_cases h2 : kd = 2
        · subst h2
          have HN : Hid (comes cs (2, cs[j].1, num) = cs[j].2 + num) := comes_add HA.out hj (by decide) (by decide)
          have HE : Hid (codeC cs (2, cs[j].1, num) = putCode cs cs[j].1 (cs[j].2 + num)) := by have := code_put HCB.out HMB.out (by simp [hh]); rw [HN.out] at this; exact this
          have HR : Hid (doneC cs (2, cs[j].1, num) = putRest cs cs[j].1 (cs[j].2 + num)) := by have := rest_put HCB.out HMB.out (by simp [hh]); rw [HN.out] at this; exact this
          go_wp2_with (first
            | (at_lookup; refine wpList_lookup_own_ok_int _ rfl _ _ 83 rfl 9 3 .i64 keyedS mapT Try.underlying3 (zeroI _) b _ _ rfl HD.out _ _ rfl HK.out ?_; intro c hat hwc; have e : c = cs[j].2 := (by have := hat.symm.trans HAT.out; unfold i64D at this; injection this with t; injection t); subst e; clear hat hwc)
            | (go_at_call 93; refine (put_i cs b _ (cs[j].2 + num) _ HM2.out HA.out hl12 hk).mono ?_; rintro e w3 ⟨rfl, hm3, hg3⟩))
          go_ret
          exact ⟨ret_int HE.out.symm, by rw [HR.out]; exact hm3, grown_trans (grown_any (below_grown HB2.out)) hg3⟩
        · obtain rfl : kd = 3 := by omega
          have HN : Hid (comes cs (3, cs[j].1, num) = cs[j].2 - num) := comes_take HA.out hj
          have HE : Hid (codeC cs (3, cs[j].1, num) = putCode cs cs[j].1 (cs[j].2 - num)) := by have := code_put HCB.out HMB.out (by simp [hh]); rw [HN.out] at this; exact this
          have HR : Hid (doneC cs (3, cs[j].1, num) = putRest cs cs[j].1 (cs[j].2 - num)) := by have := rest_put HCB.out HMB.out (by simp [hh]); rw [HN.out] at this; exact this
          go_wp2_with (first
            | (at_lookup; refine wpList_lookup_own_ok_int _ rfl _ _ 83 rfl 9 3 .i64 keyedS mapT Try.underlying3 (zeroI _) b _ _ rfl HD.out _ _ rfl HK.out ?_; intro c hat hwc; have e : c = cs[j].2 := (by have := hat.symm.trans HAT.out; unfold i64D at this; injection this with t; injection t); subst e; clear hat hwc)
            | (go_at_call 93; refine (put_i cs b _ (cs[j].2 - num) _ HM2.out HA.out hl12 hk).mono ?_; rintro e w3 ⟨rfl, hm3, hg3⟩))
          go_ret
          exact ⟨ret_int HE.out.symm, by rw [HR.out]; exact hm3, grown_trans (grown_any (below_grown HB2.out)) hg3⟩

end Go.Proofs.Ytjdddcldbfhbiaa
