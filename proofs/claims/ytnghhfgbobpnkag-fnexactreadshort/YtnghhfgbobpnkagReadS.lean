/-
  The contract of spec.ReadVar: what the row of bytes says.
-/
import Derived.Test.YtnghhfgbobpnkagVarS
import Derived.Test.YtnghhfgbobpnkagRvN
import Derived.Test.YtnghhfgbobpnkagBw
import Derived.Test.YtnghhfgbobpnkagCanon
namespace Go.Proofs.Ytnghhfgbobpnkag
open Go.RowKit Num

set_option maxRecDepth 100000 in
set_option maxHeartbeats 600000 in
theorem sread_in (s : ByteArray) (a : Nat) (w : World) (hs : (s.size : Int) ≤ 1048576) (ha : (a : Int) ≤ s.size) :
    Calls Try.prog 10 #[.string s, .int .i64 a] w fun e w' => e = .returned (tri (rvAt s a 0 1 a)) ∧ Below w.heap.size w w' := by
  have hin : inB a 0 s.size = true := inB_yes ⟨by omega, ha⟩
  go_enter Try.func10, Try.ntmps10
  go_wp2_with (go_at_call 18; refine (in_any _ _ _ _).mono ?_; rintro e w' ⟨rfl, hw⟩; obtain rfl := hw.symm; clear hw)
  go_loop [7, 8, 9] (fun n sc i => ∃ (N SC : Int) (j : Nat), n = .int .i64 N ∧ sc = .int .i64 SC ∧ i = .int .i64 j ∧ a ≤ j ∧ j ≤ a + 5 ∧ j ≤ s.size ∧ 0 ≤ N ∧ N < SC ∧ scOk SC (j - a) ∧ segOk s a j N ∧ Hid (rvAt s a 0 1 a = rvAt s a N SC j)) (fun _ _ i => s.size - (intOf i).toNat)
  case atStart => exact ⟨0, 1, a, rfl, rfl, rfl, by omega, by omega, by omega, by omega, by omega, by simp [scOk], segOk_start s a, rfl⟩
  case round =>
      obtain ⟨N, SC, j, rfl, rfl, rfl, hj1, hj2, hj3, hn0, hn1, hsc, hseg, HR⟩ := hrel
      by_cases hj : (j : Int) < s.size ∧ (j : Int) < a + 5
      · obtain ⟨hj4, hj5⟩ := hj
        have hjn : j < s.size := by omega
        have hb := byte_le s[j]
        obtain ⟨hs1, hs2⟩ := sc_bd hsc (by omega)
        obtain ⟨hm1, hm2, hm3⟩ := mul_bd (b := (s[j].toNat : Int)) hs1 hs2
        by_cases h127 : 127 < (s[j].toNat : Int)
        · have HG : Hid (rvAt s a N SC j = _) := rvAt_go s a N SC j hjn (by omega) h127
          go_wp2
          go_round
          case rel => exact ⟨N + (s[j].toNat : Int) % 128 * SC, SC * 128, j + 1, rfl, rfl, by go_num, by omega, by omega, by omega, by omega, by omega, by rw [show j + 1 - a = (j - a) + 1 by omega]; exact sc_next hsc, segOk_next hseg hj1 hjn hsc h127, HR.out.trans HG.out⟩
          case measure => simp [intOf]; omega
        · by_cases hx : 1000000000 < N + (s[j].toNat : Int) % 128 * SC
          · have HG : Hid (rvAt s a N SC j = _) := rvAt_no s a N SC j hjn (by omega) (by omega) (.inl hx)
            go_wp2
            go_quiet (fail)
            go_wp2
            go_ret3
            exact ⟨ret_tri (HR.out.trans HG.out), below_drewN (Below.refl _ _) _⟩
          · have hxd : decide (1000000000 < N + (s[j].toNat : Int) % 128 * SC) = false := by simpa using hx
            go_wp2
            have hne := bw_some w
            have hk0 : (0 : Int) ≤ (a : Int) := by omega
            have hk1 : (a : Int) ≤ (j : Int) + 1 := by omega
            have hk2 : (j : Int) + 1 ≤ (s.size : Int) := by omega
            refine wp_region_bw (by kernel_rfl) (by kernel_rfl) ?_
            repeat (go_big_quiet_step (refine calls_bw (var_any _ _ (by omega) (by omega))))
            refine wpQuiet_nil ?_
            intro _ hw'
            obtain ⟨x, rfl⟩ := hw'
            go_wp2
            · go_ret3
              have ht := same_bytes s a j N SC hj1 hjn hsc hseg.1 hseg.2 (by omega)
              have hq : (!(strOfNums (vbs (N + (s[j].toNat : Int) % 128 * SC))).toList == (s.extract a (j + 1)).toList) = true := by assumption
              rw [ht] at hq
              have hq' : (s[j].toNat : Int) = 0 ∧ a < j := by simpa using hq
              exact ⟨ret_tri (HR.out.trans (rvAt_no s a N SC j hjn (by omega) (by omega) (.inr hq'))), x.below⟩
            · go_ret3
              have ht := same_bytes s a j N SC hj1 hjn hsc hseg.1 hseg.2 (by omega)
              have hq : (!(strOfNums (vbs (N + (s[j].toNat : Int) % 128 * SC))).toList == (s.extract a (j + 1)).toList) = false := by assumption
              rw [ht] at hq
              have hq' : ¬ ((s[j].toNat : Int) = 0 ∧ a < j) := by simpa using hq
              exact ⟨ret_tri (HR.out.trans (rvAt_yes s a N SC j hjn (by omega) (by omega) (by rintro (h | h); omega; exact hq' h))), x.below⟩
      · have HG : Hid (rvAt s a N SC j = _) := rvAt_stop s a N SC j (by omega)
        by_cases hjs : (j : Int) < s.size
        all_goals
          go_wp2
          go_ret3
          exact ⟨ret_tri (HR.out.trans HG.out), Below.refl _ _⟩

theorem sread_out (s : ByteArray) (a : Int) (w : World) (_hs : (s.size : Int) ≤ 1048576) (h : ¬ (0 ≤ a ∧ a ≤ s.size)) :
    Calls Try.prog 10 #[.string s, .int .i64 a] w fun e w' => e = .returned (tri (0, 0, false)) ∧ w' = w := by
  have hin : inB a 0 s.size = false := inB_no h
  clear h
  go_enter Try.func10, Try.ntmps10
  go_wp2_with (go_at_call 18; refine (in_any _ _ _ _).mono ?_; rintro e w' ⟨rfl, hw⟩; obtain rfl := hw.symm; clear hw)
  go_ret3
  exact ⟨rfl, rfl⟩

/-- ReadVar, the specification's, at every place -/
theorem sread (s : ByteArray) (a : Int) (w : World) (hs : (s.size : Int) ≤ 1048576) :
    Calls Try.prog 10 #[.string s, .int .i64 a] w fun e w' => e = .returned (tri (rvOf s a)) ∧ Below w.heap.size w w' := by
  unfold rvOf
  by_cases h : 0 ≤ a ∧ a ≤ s.size
  · rw [if_pos h]
    obtain ⟨n, rfl⟩ := Int.eq_ofNat_of_zero_le h.1
    rw [Int.toNat_natCast]
    exact sread_in s n w hs h.2
  · rw [if_neg h]
    exact (sread_out s a w hs h).mono fun e w' ⟨he, hw⟩ => ⟨he, hw ▸ Below.refl _ _⟩

end Go.Proofs.Ytnghhfgbobpnkag
