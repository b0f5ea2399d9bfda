/-
  The contracts of the specification's functions on accounts: keys, commands, lists, places.
-/
import Derived.Test.YtjdddcldbfhbiaaCellN
import Derived.BigQuiet
namespace Go.Proofs.Ytjdddcldbfhbiaa
open Go.RowKit Num

set_option maxHeartbeats 1000000 in
theorem key_s (k : ByteArray) (w : World) (hk : (k.size : Int) ≤ 1048576) :
    Calls Try.prog 62 #[.string k] w fun e w' => e = .returned (.bool (keyB k)) ∧ w' = w := by
  go_enter Try.func62, Try.ntmps62
  go_wp2
  go_loop [3] (fun i => ∃ j : Nat, j ≤ k.size ∧ i = .int .i64 (j : Int) ∧ Hid (keyTo k j)) (fun i => k.size - (intOf i).toNat)
  case atStart => exact ⟨0, Nat.zero_le _, rfl, fun j _ h => by omega⟩
  case round =>
    obtain ⟨j, hj, rfl, HK⟩ := hrel
    by_cases hlt : (j : Int) < k.size
    · have hjn : j < k.size := by omega
      have hb := byte_le k[j]
      have q0 : (0 : Int) ≤ (j : Int) := by omega
      by_cases h1 : (k[j].toNat : Int) < 97
      · go_wp2
        go_ret
        exact ⟨ret_bool (keyB_no hjn (by omega)).symm, rfl⟩
      · by_cases h2 : 122 < (k[j].toNat : Int)
        · go_wp2
          go_ret
          exact ⟨ret_bool (keyB_no hjn (by omega)).symm, rfl⟩
        · have HN : Hid (keyTo k (j + 1)) := fun i hi hij => by
            by_cases e : i = j
            · subst e; omega
            · exact HK.out i hi (by omega)
          go_wp2
          go_round
          case rel => exact ⟨j + 1, by omega, by go_num, HN.out⟩
          case measure => simp [intOf]; omega
    · have hjn : j = k.size := by omega
      have HJ : Hid (j = k.size) := hjn
      clear hjn
      go_wp2_with fail
      refine (in_any (k.size : Int) 1 3 w).mono ?_
      rintro e w1 ⟨rfl, rfl⟩
      go_wp2
      go_ret
      have hkt := HK.out
      rw [HJ.out] at hkt
      exact ⟨ret_bool (keyB_all hkt).symm, rfl⟩

set_option maxHeartbeats 1000000 in
theorem cellAt_s (cs : CL) (v : Value) (key : ByteArray) (w : World) (hv : Cells w v cs) (hl : (cs.length : Int) ≤ 1048576) :
    Calls Try.prog 57 #[v, .string key] w fun e w' => e = .returned (.int .i64 (cellAt cs key)) ∧ w' = w := by
  obtain ⟨a, cap, rfl, hr⟩ := hv
  have HR : Hid (0 < cs.length → _) := hr
  clear hr
  go_enter Try.func57, Try.ntmps57
  go_wp2
  go_loop [5] (fun i => ∃ k : Nat, k ≤ cs.length ∧ i = .int .i64 (k : Int) ∧ Hid (cellAt cs key = cellAtFrom key (cs.drop k) k)) (fun i => cs.length - (intOf i).toNat)
  case atStart => exact ⟨0, Nat.zero_le _, rfl, rfl⟩
  case round =>
    obtain ⟨k, hk, rfl, HC⟩ := hrel
    by_cases hlt : (k : Int) < cs.length
    · have hkn : k < cs.length := by omega
      obtain ⟨g, off, rfl, hg, hc⟩ := HR.out (by omega)
      obtain ⟨hc0, hc1⟩ := hc k hkn
      have q0 : (0 : Int) ≤ (k : Int) := by omega
      have HS : Hid (cellAtFrom key (cs.drop k) k = _) := cellAt_drop cs key k hkn
      clear hc
      by_cases he : cs[k].1 = key
      · have heq := ba_eq he
        go_wp2
        go_ret
        exact ⟨ret_int (by rw [HC.out, HS.out, if_pos he]), rfl⟩
      · have heq := ba_ne he
        have HE : Hid (¬ cs[k].1 = key) := he
        clear he
        go_wp2
        go_round
        case rel => exact ⟨k + 1, by omega, by go_num, (show cellAt cs key = _ from by rw [HC.out, HS.out, if_neg HE.out])⟩
        case measure => simp [intOf]; omega
    · have hkl : k = cs.length := by omega
      have HK : Hid (k = cs.length) := hkl
      clear hkl
      go_wp2
      go_ret
      exact ⟨ret_int (by rw [HC.out, HK.out, List.drop_length]; rfl), rfl⟩

end Go.Proofs.Ytjdddcldbfhbiaa
