/-
  The contracts of the laws' own helpers over rows of numbers: held against each other, marked, looked at again.
-/
import Derived.Test.YtjdddcldbfhbiasJ0
import Derived.BigQuiet
namespace Go.Proofs.Ytjdddcldbfhbias
open Go.RowKit Num

set_option maxRecDepth 100000 in
set_option maxHeartbeats 1000000 in
theorem eqInts_yes (l : List Int) (a b : Value) (w : World) (ha : RowsR w a 1 intF l) (hb : RowsR w b 1 intF l) (hl : (l.length : Int) ≤ 1048576) :
    Calls Try.prog 42 #[a, b] w fun e w' => e = .returned (.bool true) ∧ Below w.heap.size w w' := by
  obtain ⟨a, ca, rfl, hra⟩ := ha
  obtain ⟨b, cb, rfl, hrb⟩ := hb
  have HA : Hid (0 < l.length → _) := hra
  have HB : Hid (0 < l.length → _) := hrb
  clear hra hrb
  go_enter Try.func42, Try.ntmps42
  go_wp2
  go_loopw [5] (fun i wr => ∃ m : Nat, m ≤ l.length ∧ i = .int .i64 m ∧ Below w.heap.size w wr) (fun i _ => l.length - (intOf i).toNat)
  case atStart => exact ⟨0, Nat.zero_le _, rfl, Below.refl _ _⟩
  case round =>
    obtain ⟨m, hm, rfl, hbel⟩ := hrel
    by_cases hlt : (m : Int) < l.length
    · have q0 : (0 : Int) ≤ (m : Int) := by omega
      have hmn : m < l.length := by omega
      obtain ⟨ga, oa, rfl, hga, hca⟩ := HA.out (by omega)
      obtain ⟨gb, ob, rfl, hgb, hcb⟩ := HB.out (by omega)
      have hne := bw_some wr
      have c0 : ∀ x : Bw wr, x.to.cell? ⟨ga, oa + m, none⟩ = some (.int .i64 l[m]) := fun x => by rw [(bt hbel x.below).cell (by exact hga)]; have := hca m hmn 0 (by omega); simpa [intF] using this
      have d0 : ∀ x : Bw wr, x.to.cell? ⟨gb, ob + m, none⟩ = some (.int .i64 l[m]) := fun x => by rw [(bt hbel x.below).cell (by exact hgb)]; have := hcb m hmn 0 (by omega); simpa [intF] using this
      clear hca hcb
      go_wp2
      refine wp_region_bw (by kernel_rfl) (by kernel_rfl) ?_
      repeat (go_big_quiet_step (fail))
      refine wpQuiet_nil ?_
      intro _ hw'
      obtain ⟨x, rfl⟩ := hw'
      go_wp2
      go_roundw
      case rel => exact ⟨m + 1, by omega, by go_num, bt hbel x.below⟩
      case measure => simp [intOf]; omega
    · go_wp2
      go_ret
      exact ⟨rfl, hbel⟩

/-- the marks of n numbers, from k on -/
def imarks (k n : Nat) : List Int := (List.range n).map fun i => ((k + i : Nat) : Int)
theorem imarks_len (k n : Nat) : (imarks k n).length = n := by simp [imarks]
theorem imarks_at {k n i : Nat} (h : i < n) : (imarks k n)[i]? = some ((k : Int) + (i : Int)) := by
  unfold imarks; rw [List.getElem?_map, List.getElem?_range h]; simp
theorem upTo_imarks {k n m : Nat} {ys : List Value} (h : upToR intF 1 (imarks k n) ys m) (hm : m < n) : upToR intF 1 (imarks k n) (ys.set m (.int .i64 ((k : Int) + (m : Int)))) (m + 1) := by
  have hl := h.1
  rw [imarks_len] at hl
  refine upToR_step intF_len h (by rw [imarks_len]; exact hm) (by simp) (fun j hj => ?_) (fun j hj => ?_)
  · rw [List.getElem?_set_ne (by omega)]
  · have : j = 0 := by omega
    subst this
    have e := imarks_at (k := k) hm
    rw [List.getElem?_eq_getElem (by rw [imarks_len]; exact hm)] at e
    rw [Nat.mul_one, Nat.add_zero, List.getElem?_set_self (by omega), Option.some.inj e]; rfl


end Go.Proofs.Ytjdddcldbfhbias
