/-
  The contract of impl.ReadVar: what the row of bytes says.
-/
import Derived.Test.YtnghhfgbobpnkaaDoorOwn
import Derived.Test.YtnghhfgbobpnkaaDoorRvN
namespace Go.Proofs.YtnghhfgbobpnkaaDoor
open Go.RowKit Num

set_option maxHeartbeats 1000000 in
theorem iread_in (s : ByteArray) (a : Nat) (w : World) (hs : (s.size : Int) ≤ 1048576) (ha : (a : Int) ≤ s.size) :
    Calls Tryd.prog 8 #[.string s, .int .i64 a] w fun e w' => e = .returned (tri (rvAt s a 0 1 a)) ∧ w' = w := by
  go_enter Tryd.func8, Tryd.ntmps8
  go_wp2
  all_goals
    go_loop [7, 8, 10] (fun n sc i => ∃ (N SC : Int) (j : Nat), n = .int .i64 N ∧ sc = .int .i64 SC ∧ i = .int .i64 j ∧ a ≤ j ∧ j ≤ a + 5 ∧ j ≤ s.size ∧ 0 ≤ N ∧ N < SC ∧ scOk SC (j - a) ∧ Hid (rvAt s a 0 1 a = rvAt s a N SC j)) (fun _ _ i => s.size - (intOf i).toNat)
    case atStart => exact ⟨0, 1, a, rfl, rfl, rfl, by omega, by omega, by omega, by omega, by omega, by simp [scOk], rfl⟩
    case round =>
      obtain ⟨N, SC, j, rfl, rfl, rfl, hj1, hj2, hj3, hn0, hn1, hsc, HR⟩ := hrel
      by_cases hj : (j : Int) < s.size ∧ (j : Int) < a + 5
      · obtain ⟨hj4, hj5⟩ := hj
        have hjn : j < s.size := by omega
        have hb := byte_le s[j]
        obtain ⟨hs1, hs2⟩ := sc_bd hsc (by omega)
        obtain ⟨hm1, hm2, hm3⟩ := mul_bd (b := (s[j].toNat : Int)) hs1 hs2
        by_cases h127 : 127 < (s[j].toNat : Int)
        · have HG : Hid (rvAt s a N SC j = _) := rvAt_go s a N SC j hjn (by omega) h127
          go_wp2
          go_round
          case rel => exact ⟨N + (s[j].toNat : Int) % 128 * SC, SC * 128, j + 1, rfl, rfl, by go_num, by omega, by omega, by omega, by omega, by omega, by rw [show j + 1 - a = (j - a) + 1 by omega]; exact sc_next hsc, HR.out.trans HG.out⟩
          case measure => simp [intOf]; omega
        · by_cases hx : 1000000000 < N + (s[j].toNat : Int) % 128 * SC
          · have HG : Hid (rvAt s a N SC j = _) := rvAt_no s a N SC j hjn (by omega) (by omega) (.inl hx)
            go_wp2
            go_ret3
            exact ⟨ret_tri (HR.out.trans HG.out), rfl⟩
          · by_cases hb0 : (s[j].toNat : Int) = 0
            · have hbb : ((s[j].toNat : Int) == 0) = true := by simpa using hb0
              have HB : Hid ((s[j].toNat : Int) = 0) := hb0
              clear hb0
              by_cases haj : a < j
              · have HG : Hid (rvAt s a N SC j = _) := rvAt_no s a N SC j hjn (by omega) (by omega) (.inr ⟨HB.out, haj⟩)
                go_wp2
                go_ret3
                exact ⟨ret_tri (HR.out.trans HG.out), rfl⟩
              · have HG : Hid (rvAt s a N SC j = _) := rvAt_yes s a N SC j hjn (by omega) (by omega) (by rintro (h | h); exact hx h; exact haj h.2)
                have HN : Hid (N + (s[j].toNat : Int) % 128 * SC = N) := by rw [Hid, HB.out]; simp
                go_wp2
                go_ret3
                exact ⟨ret_tri (HR.out.trans (HG.out.trans (by first | rfl | rw [HN.out]))), rfl⟩
            · have hbb : ((s[j].toNat : Int) == 0) = false := by simpa using hb0
              have HG : Hid (rvAt s a N SC j = _) := rvAt_yes s a N SC j hjn (by omega) (by omega) (by rintro (h | h); exact hx h; exact hb0 h.1)
              clear hb0
              go_wp2
              go_ret3
              exact ⟨ret_tri (HR.out.trans HG.out), rfl⟩
      · have HG : Hid (rvAt s a N SC j = _) := rvAt_stop s a N SC j (by omega)
        go_wp2
        go_ret3
        exact ⟨ret_tri (HR.out.trans HG.out), rfl⟩

theorem iread_out (s : ByteArray) (a : Int) (w : World) (_hs : (s.size : Int) ≤ 1048576) (h : ¬ (0 ≤ a ∧ a ≤ s.size)) :
    Calls Tryd.prog 8 #[.string s, .int .i64 a] w fun e w' => e = .returned (tri (0, 0, false)) ∧ w' = w := by
  by_cases h0 : a < 0
  · clear h
    go_enter Tryd.func8, Tryd.ntmps8
    go_wp2
    go_ret3
    exact ⟨rfl, rfl⟩
  · have h1 : (s.size : Int) < a := by omega
    clear h
    go_enter Tryd.func8, Tryd.ntmps8
    go_wp2
    go_ret3
    exact ⟨rfl, rfl⟩

/-- ReadVar, the program's, at every place -/
theorem iread (s : ByteArray) (a : Int) (w : World) (hs : (s.size : Int) ≤ 1048576) :
    Calls Tryd.prog 8 #[.string s, .int .i64 a] w fun e w' => e = .returned (tri (rvOf s a)) ∧ w' = w := by
  unfold rvOf
  by_cases h : 0 ≤ a ∧ a ≤ s.size
  · rw [if_pos h]
    obtain ⟨n, rfl⟩ := Int.eq_ofNat_of_zero_le h.1
    rw [Int.toNat_natCast]
    exact iread_in s n w hs h.2
  · rw [if_neg h]
    exact iread_out s a w hs h

end Go.Proofs.YtnghhfgbobpnkaaDoor
