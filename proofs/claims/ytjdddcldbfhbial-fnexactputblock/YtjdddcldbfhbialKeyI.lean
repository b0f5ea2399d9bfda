/-
  The contracts of the program's functions on keys, numbers and commands.
-/
import Derived.Test.YtjdddcldbfhbialDoneN
import Derived.Laws.Cover1
import Derived.BigQuiet
namespace Go.Proofs.Ytjdddcldbfhbial
open Go.RowKit Num

theorem numOk_i (n : Int) (w : World) : Calls Try.prog 67 #[.int .i64 n] w fun e w' => e = .returned (.bool (numB n)) ∧ w' = w := by
  by_cases h1 : 0 ≤ n
  · by_cases h2 : n ≤ 1000000000
    · rw [numB, inB_yes ⟨h1, h2⟩]
      go_enter Try.func67, Try.ntmps67
      go_wp2
      go_ret
      exact ⟨rfl, rfl⟩
    · rw [numB, inB_no (by omega)]
      go_enter Try.func67, Try.ntmps67
      go_wp2
      go_ret
      exact ⟨rfl, rfl⟩
  · rw [numB, inB_no (by omega)]
    go_enter Try.func67, Try.ntmps67
    go_wp2
    go_ret
    exact ⟨rfl, rfl⟩

theorem keyB_len {k : ByteArray} (h : ¬ (1 ≤ (k.size : Int) ∧ (k.size : Int) ≤ 3)) : keyB k = false := by
  unfold keyB; rw [inB_no h, Bool.and_false]
theorem keyB_yes {k : ByteArray} (h : keyTo k k.size) (h2 : 1 ≤ (k.size : Int) ∧ (k.size : Int) ≤ 3) : keyB k = true := by
  rw [keyB_all h, inB_yes h2]

theorem ba_none {k : ByteArray} (h : k.size = 0) : k = ByteArray.empty := by
  apply ByteArray.ext
  have : k.data.size = 0 := h
  exact Array.eq_empty_of_size_eq_zero this

set_option maxHeartbeats 1000000 in
theorem key_i (k : ByteArray) (w : World) (hk : (k.size : Int) ≤ 1048576) :
    Calls Try.prog 66 #[.string k] w fun e w' => e = .returned (.bool (keyB k)) ∧ w' = w := by
  by_cases h0 : k.size = 0
  · obtain rfl := ba_none h0
    have e : keyB ByteArray.empty = false := keyB_len (by simp)
    rw [e]
    go_enter Try.func66, Try.ntmps66
    go_wp2
    go_ret
    exact ⟨rfl, rfl⟩
  · have hn1 : ¬ k.toList = [] := fun e => h0 (by
      have : k.data.toList.length = 0 := by rw [← ByteArray.toList_eq, e]; rfl
      simpa using this)
    have hn2 : k.toList.isEmpty = false := by cases h : k.toList with
      | nil => exact absurd h hn1
      | cons _ _ => rfl
    by_cases h3 : 3 < (k.size : Int)
    · rw [keyB_len (by omega)]
      go_enter Try.func66, Try.ntmps66
      go_wp2
      go_ret
      exact ⟨rfl, rfl⟩
    · go_enter Try.func66, Try.ntmps66
      go_wp2
      go_loop [13] (fun i => ∃ j : Nat, j ≤ k.size ∧ i = .int .i64 (j : Int) ∧ Hid (keyTo k j)) (fun i => k.size - (intOf i).toNat)
      case atStart => exact ⟨0, Nat.zero_le _, rfl, fun j _ h => by omega⟩
      case round =>
        obtain ⟨j, hj, rfl, HK⟩ := hrel
        by_cases hlt : (j : Int) < k.size
        · have hjn : j < k.size := by omega
          have hb := byte_le k[j]
          have q0 : (0 : Int) ≤ (j : Int) := by omega
          by_cases h1 : (k[j].toNat : Int) < 97
          · go_wp2
            go_ret
            exact ⟨ret_bool (keyB_no hjn (by omega)).symm, rfl⟩
          · by_cases h2 : 122 < (k[j].toNat : Int)
            · go_wp2
              go_ret
              exact ⟨ret_bool (keyB_no hjn (by omega)).symm, rfl⟩
            · have HN : Hid (keyTo k (j + 1)) := fun i hi hij => by
                by_cases e : i = j
                · subst e; omega
                · exact HK.out i hi (by omega)
              go_wp2
              go_round
              case rel => exact ⟨j + 1, by omega, by go_num, HN.out⟩
              case measure => simp [intOf]; omega
        · have hjn : j = k.size := by omega
          have HJ : Hid (j = k.size) := hjn
          clear hjn
          go_wp2
          go_ret
          have hkt := HK.out
          rw [HJ.out] at hkt
          exact ⟨ret_bool (keyB_yes hkt (by omega)).symm, rfl⟩

end Go.Proofs.Ytjdddcldbfhbial
