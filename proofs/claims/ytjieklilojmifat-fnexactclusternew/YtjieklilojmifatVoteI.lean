/-
  The contracts of the program's functions on votes that take numbers or votes: Faults, Quorum, LeaderOf, CountOf, SignersOf.
-/
import Derived.Test.YtjieklilojmifatBitN
import Derived.BigQuiet
import Derived.Test.YtjieklilojmifatJ2
import Derived.OpenShut
namespace Go.Proofs.Ytjieklilojmifat
open Go.RowKit Num

set_option maxRecDepth 100000 in
set_option maxHeartbeats 1000000 in
theorem ones_i (x : Int) (w : World) (h0 : 0 ≤ x) (h1 : x < 128) :
    Calls Try.prog 90 #[.int .u64 x] w fun e w' => e = .returned (.int .i64 (cntTo x 7)) ∧ w' = w := by
  obtain ⟨n, rfl⟩ := Int.eq_ofNat_of_zero_le h0
  go_enter Try.func90, Try.ntmps90
  go_wp2
  go_ret
  refine ⟨ret_int ?_, rfl⟩
  have hn : n < 128 := by omega
  clear h0 h1
  revert n
  decide +kernel

theorem faults_i0 (n : Int) (w : World) (h0 : -9223372036854775808 ≤ n) (h1 : n ≤ 9223372036854775807) :
    Calls Try.prog 62 #[.int .i64 n] w fun e w' => e = .returned (.int .i64 (faultsT n)) ∧ w' = w := by
  by_cases h : n < 1
  · have HF : Hid (faultsT n = 0) := if_pos h
    go_enter Try.func62, Try.ntmps62
    go_wp2
    go_ret
    exact ⟨ret_int HF.out.symm, rfl⟩
  · have HF : Hid (faultsT n = (n - 1) / 3) := if_neg h
    go_enter Try.func62, Try.ntmps62
    go_wp2
    go_ret
    exact ⟨ret_int HF.out.symm, rfl⟩
theorem faults_i (n : Int) (hn : (Lit.int .i64 n).wf = true) (w : World) : Calls Try.prog 62 #[.int .i64 n] w fun e w' => e = .returned (.int .i64 (faultsT n)) ∧ Below w.heap.size w w' :=
  (faults_i0 n w (bounds_i64 hn).1 (bounds_i64 hn).2).mono fun _ _ h => ⟨h.1, by rw [h.2]; exact Below.refl _ _⟩


theorem leader_i0 (view n : Int) (w : World) (_ : -9223372036854775808 ≤ n) (h1 : n ≤ 9223372036854775807) (_ : -9223372036854775808 ≤ view) (h3 : view ≤ 9223372036854775807) :
    Calls Try.prog 38 #[.int .i64 view, .int .i64 n] w fun e w' => e = .returned (.int .i64 (leaderT view n)) ∧ w' = w := by
  by_cases h : n < 1
  · have HF : Hid (leaderT view n = 0) := if_pos (Or.inl h)
    go_enter Try.func38, Try.ntmps38
    go_wp2
    go_ret
    exact ⟨ret_int HF.out.symm, rfl⟩
  · by_cases hv : view < 0
    · have HF : Hid (leaderT view n = 0) := if_pos (Or.inr hv)
      go_enter Try.func38, Try.ntmps38
      go_wp2
      go_ret
      exact ⟨ret_int HF.out.symm, rfl⟩
    · have HF : Hid (leaderT view n = view / 4 % n) := if_neg (by omega)
      have q0 : 0 ≤ view / 4 := by omega
      go_enter Try.func38, Try.ntmps38
      go_wp2
      go_ret
      exact ⟨ret_int HF.out.symm, rfl⟩
theorem leader_i (view : Int) (hv : (Lit.int .i64 view).wf = true) (n : Int) (hn : (Lit.int .i64 n).wf = true) (w : World) : Calls Try.prog 38 #[.int .i64 view, .int .i64 n] w fun e w' => e = .returned (.int .i64 (leaderT view n)) ∧ Below w.heap.size w w' :=
  (leader_i0 view n w (bounds_i64 hn).1 (bounds_i64 hn).2 (bounds_i64 hv).1 (bounds_i64 hv).2).mono fun _ _ h => ⟨h.1, by rw [h.2]; exact Below.refl _ _⟩

theorem bcount_i (s : Int) (w : World) (h0 : 0 ≤ s) (h1 : s < 18446744073709551616) :
    Calls Try.prog 61 #[.int .u64 s] w fun e w' => e = .returned (.int .i64 (cntTo s 7)) ∧ w' = w := by
  go_enter Try.func61, Try.ntmps61
  go_wp2_with fail
  rw [mask_u64 h0 h1]
  refine (ones_i (s % 128) w (by omega) (by omega)).mono ?_
  rintro e w' ⟨rfl, hw⟩
  obtain rfl := hw.symm
  clear hw
  rw [cnt_low]
  go_wp2
  go_ret
  exact ⟨rfl, rfl⟩


theorem ret_u64 {x y : Int} (h : x = y) : Ending.returned (.int .u64 x) = Ending.returned (.int .u64 y) := by rw [h]
/-- one more signer, as the program tells it -/
def withT (s by' : Int) : Int := if by' < 0 ∨ 7 ≤ by' then s else ((s.toNat ||| 2 ^ by'.toNat : Nat) : Int)
theorem withT_bounds {s by' : Int} (h0 : 0 ≤ s) (h1 : s < 128) : 0 ≤ withT s by' ∧ withT s by' < 128 := by
  unfold withT
  split
  · exact ⟨h0, h1⟩
  · have hp := pow_seven (k := by'.toNat) (by omega)
    have := or_low ⟨s.toNat, by omega⟩ ⟨2 ^ by'.toNat, by have := hp.2; exact_mod_cast (show ((2 : Int) ^ by'.toNat) < 128 by omega)⟩
    simp only at this
    omega
theorem withT_step {l : List VT} {m : Nat} (h : m < l.length) {p v b : Int} (h0 : l[m].1 = p) (h1 : l[m].2.1 = v) (h2 : l[m].2.2.1 = b) : withT (sigTo (l.take m) p v b 7) l[m].2.2.2 = sigTo (l.take (m + 1)) p v b 7 := by
  unfold withT
  split
  · rename_i h3; exact (sig_out h h3).symm
  · obtain ⟨k, hk⟩ := Int.eq_ofNat_of_zero_le (show 0 ≤ l[m].2.2.2 by omega)
    rw [hk, Int.toNat_natCast]
    exact sig_or h (by omega) h0 h1 h2 hk



end Go.Proofs.Ytjieklilojmifat
