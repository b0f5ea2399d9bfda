/-
  The contracts of the specification's functions on accounts: keys, commands, lists, places.
-/
import Derived.Test.YtfnneillakdopabCellN
import Derived.BigQuiet
namespace Go.Proofs.Ytfnneillakdopab
open Go.RowKit Num

set_option maxHeartbeats 1000000 in
theorem key_s (k : ByteArray) (w : World) (hk : (k.size : Int) ≤ 1048576) :
    Calls Try.prog 94 #[.string k] w fun e w' => e = .returned (.bool (keyB k)) ∧ w' = w := by
  go_enter Try.func94, Try.ntmps94
  go_wp2
  go_loop [3] (fun i => ∃ j : Nat, j ≤ k.size ∧ i = .int .i64 (j : Int) ∧ Hid (keyTo k j)) (fun i => k.size - (intOf i).toNat)
  case atStart => exact ⟨0, Nat.zero_le _, rfl, fun j _ h => by omega⟩
  case round =>
    obtain ⟨j, hj, rfl, HK⟩ := hrel
    by_cases hlt : (j : Int) < k.size
    · have hjn : j < k.size := by omega
      have hb := byte_le k[j]
      have q0 : (0 : Int) ≤ (j : Int) := by omega
      by_cases h1 : (k[j].toNat : Int) < 97
      · go_wp2
        go_ret
        exact ⟨ret_bool (keyB_no hjn (by omega)).symm, rfl⟩
      · by_cases h2 : 122 < (k[j].toNat : Int)
        · go_wp2
          go_ret
          exact ⟨ret_bool (keyB_no hjn (by omega)).symm, rfl⟩
        · have HN : Hid (keyTo k (j + 1)) := fun i hi hij => by
            by_cases e : i = j
            · subst e; omega
            · exact HK.out i hi (by omega)
          go_wp2
          go_round
          case rel => exact ⟨j + 1, by omega, by go_num, HN.out⟩
          case measure => simp [intOf]; omega
    · have hjn : j = k.size := by omega
      have HJ : Hid (j = k.size) := hjn
      clear hjn
      go_wp2_with fail
      refine (in_any (k.size : Int) 1 3 w).mono ?_
      rintro e w1 ⟨rfl, rfl⟩
      go_wp2
      go_ret
      have hkt := HK.out
      rw [HJ.out] at hkt
      exact ⟨ret_bool (keyB_all hkt).symm, rfl⟩


end Go.Proofs.Ytfnneillakdopab
