/-
  The contracts of the program's functions on votes that take numbers or votes: Faults, Quorum, LeaderOf, CountOf, SignersOf.
-/
import Derived.Test.YtfnneillakdopabBitN
import Derived.BigQuiet
import Derived.Test.YtfnneillakdopabBlkX
import Derived.OpenShut
namespace Go.Proofs.Ytfnneillakdopab
open Go.RowKit Num

set_option maxRecDepth 100000 in
set_option maxHeartbeats 1000000 in
theorem ones_i (x : Int) (w : World) (h0 : 0 ≤ x) (h1 : x < 128) :
    Calls Try.prog 80 #[.int .u64 x] w fun e w' => e = .returned (.int .i64 (cntTo x 7)) ∧ w' = w := by
  obtain ⟨n, rfl⟩ := Int.eq_ofNat_of_zero_le h0
  go_enter Try.func80, Try.ntmps80
  go_wp2
  go_ret
  refine ⟨ret_int ?_, rfl⟩
  have hn : n < 128 := by omega
  clear h0 h1
  revert n
  decide +kernel

theorem faults_i0 (n : Int) (w : World) (h0 : -9223372036854775808 ≤ n) (h1 : n ≤ 9223372036854775807) :
    Calls Try.prog 29 #[.int .i64 n] w fun e w' => e = .returned (.int .i64 (faultsT n)) ∧ w' = w := by
  by_cases h : n < 1
  · have HF : Hid (faultsT n = 0) := if_pos h
    go_enter Try.func29, Try.ntmps29
    go_wp2
    go_ret
    exact ⟨ret_int HF.out.symm, rfl⟩
  · have HF : Hid (faultsT n = (n - 1) / 3) := if_neg h
    go_enter Try.func29, Try.ntmps29
    go_wp2
    go_ret
    exact ⟨ret_int HF.out.symm, rfl⟩
theorem faults_i (n : Int) (hn : (Lit.int .i64 n).wf = true) (w : World) : Calls Try.prog 29 #[.int .i64 n] w fun e w' => e = .returned (.int .i64 (faultsT n)) ∧ Below w.heap.size w w' :=
  (faults_i0 n w (bounds_i64 hn).1 (bounds_i64 hn).2).mono fun _ _ h => ⟨h.1, by rw [h.2]; exact Below.refl _ _⟩

theorem quorum_i0 (n : Int) (w : World) (h0 : -9223372036854775808 ≤ n) (h1 : n ≤ 9223372036854775807) :
    Calls Try.prog 28 #[.int .i64 n] w fun e w' => e = .returned (.int .i64 (quorumT n)) ∧ w' = w := by
  obtain ⟨f, hf⟩ : ∃ f, f = faultsT n := ⟨_, rfl⟩
  have f0 : 0 ≤ f := by rw [hf]; exact (faults_le n).1
  have f1 : n - f ≤ 9223372036854775807 := by omega
  have f2 : -9223372036854775808 ≤ n - f := by
    by_cases h : n < 1
    · rw [hf, faults_low h]; omega
    · have := (faults_le n).2 (by omega); omega
  have HF : Hid (faultsT n = f) := hf.symm
  clear hf
  go_enter Try.func28, Try.ntmps28
  go_wp2_with fail
  refine (faults_i0 n w h0 h1).mono ?_
  rintro e w' ⟨rfl, hw⟩
  obtain rfl := hw.symm
  clear hw
  rw [HF.out]
  go_wp2
  go_ret
  exact ⟨ret_int (by unfold quorumT; rw [HF.out]), rfl⟩
theorem quorum_i (n : Int) (hn : (Lit.int .i64 n).wf = true) (w : World) : Calls Try.prog 28 #[.int .i64 n] w fun e w' => e = .returned (.int .i64 (quorumT n)) ∧ Below w.heap.size w w' :=
  (quorum_i0 n w (bounds_i64 hn).1 (bounds_i64 hn).2).mono fun _ _ h => ⟨h.1, by rw [h.2]; exact Below.refl _ _⟩

theorem leader_i0 (view n : Int) (w : World) (_ : -9223372036854775808 ≤ n) (h1 : n ≤ 9223372036854775807) (_ : -9223372036854775808 ≤ view) (h3 : view ≤ 9223372036854775807) :
    Calls Try.prog 30 #[.int .i64 view, .int .i64 n] w fun e w' => e = .returned (.int .i64 (leaderT view n)) ∧ w' = w := by
  by_cases h : n < 1
  · have HF : Hid (leaderT view n = 0) := if_pos (Or.inl h)
    go_enter Try.func30, Try.ntmps30
    go_wp2
    go_ret
    exact ⟨ret_int HF.out.symm, rfl⟩
  · by_cases hv : view < 0
    · have HF : Hid (leaderT view n = 0) := if_pos (Or.inr hv)
      go_enter Try.func30, Try.ntmps30
      go_wp2
      go_ret
      exact ⟨ret_int HF.out.symm, rfl⟩
    · have HF : Hid (leaderT view n = view / 4 % n) := if_neg (by omega)
      have q0 : 0 ≤ view / 4 := by omega
      go_enter Try.func30, Try.ntmps30
      go_wp2
      go_ret
      exact ⟨ret_int HF.out.symm, rfl⟩
theorem leader_i (view : Int) (hv : (Lit.int .i64 view).wf = true) (n : Int) (hn : (Lit.int .i64 n).wf = true) (w : World) : Calls Try.prog 30 #[.int .i64 view, .int .i64 n] w fun e w' => e = .returned (.int .i64 (leaderT view n)) ∧ Below w.heap.size w w' :=
  (leader_i0 view n w (bounds_i64 hn).1 (bounds_i64 hn).2 (bounds_i64 hv).1 (bounds_i64 hv).2).mono fun _ _ h => ⟨h.1, by rw [h.2]; exact Below.refl _ _⟩

theorem bcount_i (s : Int) (w : World) (h0 : 0 ≤ s) (h1 : s < 18446744073709551616) :
    Calls Try.prog 63 #[.int .u64 s] w fun e w' => e = .returned (.int .i64 (cntTo s 7)) ∧ w' = w := by
  go_enter Try.func63, Try.ntmps63
  go_wp2_with fail
  rw [mask_u64 h0 h1]
  refine (ones_i (s % 128) w (by omega) (by omega)).mono ?_
  rintro e w' ⟨rfl, hw⟩
  obtain rfl := hw.symm
  clear hw
  rw [cnt_low]
  go_wp2
  go_ret
  exact ⟨rfl, rfl⟩

theorem count_i0 (s : Int) (w : World) (_ : -9223372036854775808 ≤ s) (h1 : s ≤ 9223372036854775807) :
    Calls Try.prog 27 #[.int .i64 s] w fun e w' => e = .returned (.int .i64 (countT s)) ∧ w' = w := by
  by_cases h : s < 0
  · have HF : Hid (countT s = 0) := if_pos h
    go_enter Try.func27, Try.ntmps27
    go_wp2
    go_ret
    exact ⟨ret_int HF.out.symm, rfl⟩
  · have HF : Hid (countT s = cntTo s 7) := if_neg h
    have hm : s % 18446744073709551616 = s := by omega
    go_enter Try.func27, Try.ntmps27
    go_wp2_with fail
    refine (bcount_i s w (by omega) (by omega)).mono ?_
    rintro e w' ⟨rfl, hw⟩
    obtain rfl := hw.symm
    clear hw
    go_wp2
    go_ret
    exact ⟨ret_int HF.out.symm, rfl⟩
theorem count_i (s : Int) (hs : (Lit.int .i64 s).wf = true) (w : World) : Calls Try.prog 27 #[.int .i64 s] w fun e w' => e = .returned (.int .i64 (countT s)) ∧ Below w.heap.size w w' :=
  (count_i0 s w (bounds_i64 hs).1 (bounds_i64 hs).2).mono fun _ _ h => ⟨h.1, by rw [h.2]; exact Below.refl _ _⟩

theorem ret_u64 {x y : Int} (h : x = y) : Ending.returned (.int .u64 x) = Ending.returned (.int .u64 y) := by rw [h]
/-- one more signer, as the program tells it -/
def withT (s by' : Int) : Int := if by' < 0 ∨ 7 ≤ by' then s else ((s.toNat ||| 2 ^ by'.toNat : Nat) : Int)
theorem with_i (s by' : Int) (w : World) (h0 : 0 ≤ s) (h1 : s < 128) :
    Calls Try.prog 82 #[.int .u64 s, .int .i64 by'] w fun e w' => e = .returned (.int .u64 (withT s by')) ∧ w' = w := by
  by_cases h : by' < 0
  · have HF : Hid (withT s by' = s) := if_pos (Or.inl h)
    go_enter Try.func82, Try.ntmps82
    go_wp2
    go_ret
    exact ⟨ret_u64 HF.out.symm, rfl⟩
  · by_cases h7 : 7 ≤ by'
    · have HF : Hid (withT s by' = s) := if_pos (Or.inr h7)
      go_enter Try.func82, Try.ntmps82
      go_wp2
      go_ret
      exact ⟨ret_u64 HF.out.symm, rfl⟩
    · have HF : Hid (withT s by' = ((s.toNat ||| 2 ^ by'.toNat : Nat) : Int)) := if_neg (by omega)
      obtain ⟨k, rfl⟩ := Int.eq_ofNat_of_zero_le (Int.not_lt.1 h)
      obtain ⟨w0, w1⟩ := pow_seven (k := k) (by omega)
      have HO : Hid (bits .or .u64 s (2 ^ k) = ((s.toNat ||| 2 ^ k : Nat) : Int)) := (by rw [or_u64 h0 (by omega) (by omega) (by omega)]; congr 2 : bits .or .u64 s (2 ^ k) = ((s.toNat ||| 2 ^ k : Nat) : Int))
      go_enter Try.func82, Try.ntmps82
      go_wp2
      go_ret
      exact ⟨ret_u64 (HO.out.trans HF.out.symm), rfl⟩
theorem withT_bounds {s by' : Int} (h0 : 0 ≤ s) (h1 : s < 128) : 0 ≤ withT s by' ∧ withT s by' < 128 := by
  unfold withT
  split
  · exact ⟨h0, h1⟩
  · have hp := pow_seven (k := by'.toNat) (by omega)
    have := or_low ⟨s.toNat, by omega⟩ ⟨2 ^ by'.toNat, by have := hp.2; exact_mod_cast (show ((2 : Int) ^ by'.toNat) < 128 by omega)⟩
    simp only at this
    omega
theorem withT_step {l : List VT} {m : Nat} (h : m < l.length) {p v b : Int} (h0 : l[m].1 = p) (h1 : l[m].2.1 = v) (h2 : l[m].2.2.1 = b) : withT (sigTo (l.take m) p v b 7) l[m].2.2.2 = sigTo (l.take (m + 1)) p v b 7 := by
  unfold withT
  split
  · rename_i h3; exact (sig_out h h3).symm
  · obtain ⟨k, hk⟩ := Int.eq_ofNat_of_zero_le (show 0 ≤ l[m].2.2.2 by omega)
    rw [hk, Int.toNat_natCast]
    exact sig_or h (by omega) h0 h1 h2 hk

set_option maxRecDepth 100000 in
set_option maxHeartbeats 4000000 in
theorem signersOf_i (l : List VT) (va : Value) (p v b : Int) (w : World) (ha : RowsR w va 4 voteF l) (hl : (l.length : Int) ≤ 1048576) :
    Calls Try.prog 65 #[va, .int .i64 p, .int .i64 v, .int .i64 b] w fun e w' => e = .returned (.int .u64 (signersT l p v b)) ∧ Below w.heap.size w w' := by
  obtain ⟨a, cap, rfl, hr⟩ := ha
  have HR : Hid (0 < l.length → _) := hr
  clear hr
  go_enter Try.func65, Try.ntmps65
  go_wp2
  go_loopw [9, 14] (fun n y wr => ∃ m : Nat, m ≤ l.length ∧ n = .int .u64 (sigTo (l.take m) p v b 7) ∧ y = .int .i64 (m : Int) ∧ Below w.heap.size w wr) (fun _ y _ => l.length - (intOf y).toNat)
  case atStart => exact ⟨0, Nat.zero_le _, rfl, rfl, Below.refl _ _⟩
  case round =>
    obtain ⟨m, hm, rfl, rfl, hbm⟩ := hrel
    have HBM : Hid (Below w.heap.size w wr) := hbm
    obtain ⟨s0, s1⟩ := sigTo_bounds (l.take m) p v b 7
    obtain ⟨s, hs⟩ : ∃ s, s = sigTo (l.take m) p v b 7 := ⟨_, rfl⟩
    have HS : Hid (sigTo (l.take m) p v b 7 = s) := hs.symm
    rw [← hs] at s0 s1 ⊢
    clear hs
    by_cases hml : (m : Int) < l.length
    · have hmn : m < l.length := by omega
      obtain ⟨g, off, rfl, hg, hc⟩ := HR.out (by omega)
      have q0 : (0 : Int) ≤ (m : Int) := by omega
      obtain ⟨x, hx⟩ : ∃ x, x = l[m] := ⟨_, rfl⟩
      have HX : Hid (x = l[m]) := hx
      obtain ⟨x0, x1, x2, x3⟩ := x
      have c0 : wr.cell? ⟨g, off + m * 4, none⟩ = some (.int .i64 x0) := by rw [hbm.cell (by exact hg)]; have := hc m hmn 0 (by omega); rw [← hx] at this; exact this
      have c1 : wr.cell? ⟨g, off + m * 4 + 1, none⟩ = some (.int .i64 x1) := by rw [hbm.cell (by exact hg)]; have := hc m hmn 1 (by omega); rw [← hx] at this; exact this
      have c2 : wr.cell? ⟨g, off + m * 4 + 2, none⟩ = some (.int .i64 x2) := by rw [hbm.cell (by exact hg)]; have := hc m hmn 2 (by omega); rw [← hx] at this; exact this
      have c3 : wr.cell? ⟨g, off + m * 4 + 3, none⟩ = some (.int .i64 x3) := by rw [hbm.cell (by exact hg)]; have := hc m hmn 3 (by omega); rw [← hx] at this; exact this
      have HB2 : Hid (Below w.heap.size w (wr.alloc (.cells #[.int .i64 x0, .int .i64 x1, .int .i64 x2, .int .i64 x3] 54))) := ba hbm _
      clear hc hx hbm
      by_cases h0 : x0 = p
      · have d0 : (x0 == p) = true := by simpa using h0
        by_cases h1 : x1 = v
        · have d1 : (x1 == v) = true := by simpa using h1
          by_cases h2 : x2 = b
          · have d2 : (x2 == b) = true := by simpa using h2
            have HT : Hid (withT s x3 = sigTo (l.take (m + 1)) p v b 7) := (by have := withT_step hmn (p := p) (v := v) (b := b) (by rw [← HX.out]; exact h0) (by rw [← HX.out]; exact h1) (by rw [← HX.out]; exact h2); rw [HS.out, ← HX.out] at this; exact this : withT s x3 = sigTo (l.take (m + 1)) p v b 7)
            clear h0 h1 h2
            go_wp2_with fail
            refine (with_i s x3 _ s0 (by simpa using s1)).mono ?_
            rintro e w' ⟨rfl, hw⟩
            obtain rfl := hw.symm
            clear hw
            rw [HT.out]
            go_wp2
            go_roundw
            case rel => exact ⟨m + 1, by omega, rfl, by go_num, HB2.out⟩
            case measure => simp [intOf]; omega
          · have d2 : (x2 == b) = false := by simpa using h2
            have HT : Hid (s = sigTo (l.take (m + 1)) p v b 7) := (by have := sig_other hmn (p := p) (v := v) (b := b) (by rw [← HX.out]; exact fun h => h2 h.2.2); rw [HS.out] at this; exact this.symm : s = sigTo (l.take (m + 1)) p v b 7)
            clear h0 h1 h2
            go_wp2
            go_roundw
            case rel => exact ⟨m + 1, by omega, by rw [HT.out], by go_num, HB2.out⟩
            case measure => simp [intOf]; omega
        · have d1 : (x1 == v) = false := by simpa using h1
          have HT : Hid (s = sigTo (l.take (m + 1)) p v b 7) := (by have := sig_other hmn (p := p) (v := v) (b := b) (by rw [← HX.out]; exact fun h => h1 h.2.1); rw [HS.out] at this; exact this.symm : s = sigTo (l.take (m + 1)) p v b 7)
          clear h0 h1
          go_wp2
          go_roundw
          case rel => exact ⟨m + 1, by omega, by rw [HT.out], by go_num, HB2.out⟩
          case measure => simp [intOf]; omega
      · have d0 : (x0 == p) = false := by simpa using h0
        have HT : Hid (s = sigTo (l.take (m + 1)) p v b 7) := (by have := sig_other hmn (p := p) (v := v) (b := b) (by rw [← HX.out]; exact fun h => h0 h.1); rw [HS.out] at this; exact this.symm : s = sigTo (l.take (m + 1)) p v b 7)
        clear h0
        go_wp2
        go_roundw
        case rel => exact ⟨m + 1, by omega, by rw [HT.out], by go_num, HB2.out⟩
        case measure => simp [intOf]; omega
    · have hml2 : m = l.length := by omega
      have HT : Hid (s = signersT l p v b) := (by have := HS.out; rw [hml2, List.take_length] at this; exact this.symm : s = signersT l p v b)
      clear hml2
      go_wp2
      go_ret
      exact ⟨ret_u64 HT.out, HBM.out⟩

set_option maxRecDepth 100000 in
theorem signers_i (l : List VT) (va : Value) (p : Int) (_ : (Lit.int .i64 p).wf = true) (v : Int) (_ : (Lit.int .i64 v).wf = true) (b : Int) (_ : (Lit.int .i64 b).wf = true) (w : World) (ha : RowsR w va 4 voteF l) (_ : capOk va) (hl : (l.length : Int) ≤ 1048576) :
    Calls Try.prog 35 #[va, .int .i64 p, .int .i64 v, .int .i64 b] w fun e w' => e = .returned (.int .i64 (signersT l p v b)) ∧ Below w.heap.size w w' := by
  obtain ⟨s0, s1⟩ := signersT_bounds l p v b
  go_enter Try.func35, Try.ntmps35
  go_wp2_with fail
  refine (signersOf_i l va p v b w ha hl).mono ?_
  rintro e w1 ⟨rfl, hb⟩
  obtain ⟨s, hs⟩ : ∃ s, s = signersT l p v b := ⟨_, rfl⟩
  have HS : Hid (signersT l p v b = s) := hs.symm
  rw [← hs] at s0 s1 ⊢
  clear hs
  go_wp2
  go_ret
  exact ⟨ret_int HS.out.symm, hb⟩

end Go.Proofs.Ytfnneillakdopab
