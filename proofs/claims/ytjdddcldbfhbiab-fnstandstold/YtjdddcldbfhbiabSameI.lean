/-
  The contracts of the laws' own helpers over rows of numbers: held against each other, asked for a number.
-/
import Derived.Test.YtjdddcldbfhbiabRowX
import Derived.Test.YtjdddcldbfhbiabTreeN
import Derived.BigQuiet
namespace Go.Proofs.Ytjdddcldbfhbiab
open Go.RowKit Num

set_option maxRecDepth 100000 in
set_option maxHeartbeats 1000000 in
theorem sameInts_yes (l : List Int) (a b : Value) (w : World) (ha : RowsR w a 1 intF l) (hb : RowsR w b 1 intF l) (hl : (l.length : Int) ≤ 1048576) :
    Calls Try.prog 21 #[a, b] w fun e w' => e = .returned (.bool true) ∧ Below w.heap.size w w' := by
  obtain ⟨a, ca, rfl, hra⟩ := ha
  obtain ⟨b, cb, rfl, hrb⟩ := hb
  have HA : Hid (0 < l.length → _) := hra
  have HB : Hid (0 < l.length → _) := hrb
  clear hra hrb
  go_enter Try.func21, Try.ntmps21
  go_wp2
  go_loopw [5] (fun i wr => ∃ m : Nat, m ≤ l.length ∧ i = .int .i64 m ∧ Below w.heap.size w wr) (fun i _ => l.length - (intOf i).toNat)
  case atStart => exact ⟨0, Nat.zero_le _, rfl, Below.refl _ _⟩
  case round =>
    obtain ⟨m, hm, rfl, hbel⟩ := hrel
    by_cases hlt : (m : Int) < l.length
    · have q0 : (0 : Int) ≤ (m : Int) := by omega
      have hmn : m < l.length := by omega
      obtain ⟨ga, oa, rfl, hga, hca⟩ := HA.out (by omega)
      obtain ⟨gb, ob, rfl, hgb, hcb⟩ := HB.out (by omega)
      have hne := bw_some wr
      have c0 : ∀ x : Bw wr, x.to.cell? ⟨ga, oa + m, none⟩ = some (.int .i64 l[m]) := fun x => by rw [(bt hbel x.below).cell (by exact hga)]; have := hca m hmn 0 (by omega); simpa [intF] using this
      have d0 : ∀ x : Bw wr, x.to.cell? ⟨gb, ob + m, none⟩ = some (.int .i64 l[m]) := fun x => by rw [(bt hbel x.below).cell (by exact hgb)]; have := hcb m hmn 0 (by omega); simpa [intF] using this
      clear hca hcb
      go_wp2
      refine wp_region_bw (by kernel_rfl) (by kernel_rfl) ?_
      repeat (go_big_quiet_step (fail))
      refine wpQuiet_nil ?_
      intro _ hw'
      obtain ⟨x, rfl⟩ := hw'
      go_wp2
      go_roundw
      case rel => exact ⟨m + 1, by omega, by go_num, bt hbel x.below⟩
      case measure => simp [intOf]; omega
    · go_wp2
      go_ret
      exact ⟨rfl, hbel⟩

/-- whether x is among the first k -/
def inTo (l : List Int) (x : Int) (k : Nat) : Prop := ∀ j (h : j < l.length), j < k → l[j] ≠ x
theorem inTo_no {l : List Int} {x : Int} (h : inTo l x l.length) : decide (x ∈ l) = false := by
  refine decide_eq_false fun hm => ?_
  obtain ⟨j, hj, e⟩ := List.mem_iff_getElem.1 hm
  exact h j hj hj e

set_option maxRecDepth 100000 in
set_option maxHeartbeats 1000000 in
theorem inInts_any (l : List Int) (a : Value) (x : Int) (w : World) (ha : RowsR w a 1 intF l) (hl : (l.length : Int) ≤ 1048576) :
    Calls Try.prog 16 #[a, .int .i64 x] w fun e w' => e = .returned (.bool (decide (x ∈ l))) ∧ w' = w := by
  obtain ⟨a, ca, rfl, hra⟩ := ha
  have HA : Hid (0 < l.length → _) := hra
  clear hra
  go_enter Try.func16, Try.ntmps16
  go_wp2
  go_loop [5] (fun i => ∃ m : Nat, m ≤ l.length ∧ i = .int .i64 m ∧ Hid (inTo l x m)) (fun i => l.length - (intOf i).toNat)
  case atStart => exact ⟨0, Nat.zero_le _, rfl, fun j _ h => by omega⟩
  case round =>
    obtain ⟨m, hm, rfl, HN⟩ := hrel
    by_cases hlt : (m : Int) < l.length
    · have q0 : (0 : Int) ≤ (m : Int) := by omega
      have hmn : m < l.length := by omega
      obtain ⟨ga, oa, rfl, hga, hca⟩ := HA.out (by omega)
      have c0 : w.cell? ⟨ga, oa + m, none⟩ = some (.int .i64 l[m]) := by have := hca m hmn 0 (by omega); simpa [intF] using this
      clear hca
      by_cases he : l[m] = x
      · have HT : Hid (decide (x ∈ l) = true) := (decide_eq_true (by rw [← he]; exact List.getElem_mem hmn) : decide (x ∈ l) = true)
        have d0 : (l[m] == x) = true := by simpa using he
        clear he
        go_wp2
        go_ret
        exact ⟨ret_bool HT.out.symm, rfl⟩
      · have HT : Hid (inTo l x (m + 1)) := fun j hj hjm => by
          by_cases e : j = m
          · subst e; exact he
          · exact HN.out j hj (by omega)
        have d0 : (l[m] == x) = false := by simpa using he
        clear he
        go_wp2
        go_round
        case rel => exact ⟨m + 1, by omega, by go_num, HT⟩
        case measure => simp [intOf]; omega
    · have hml : m = l.length := by omega
      have HT : Hid (decide (x ∈ l) = false) := inTo_no (by rw [← hml]; exact HN.out)
      clear hml
      go_wp2
      go_ret
      exact ⟨ret_bool HT.out.symm, rfl⟩

end Go.Proofs.Ytjdddcldbfhbiab
