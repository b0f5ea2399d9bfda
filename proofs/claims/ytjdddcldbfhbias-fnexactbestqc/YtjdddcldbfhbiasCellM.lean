/-
  The contracts of the laws' own helpers over rows of accounts: held against each other, marked, looked at again.
-/
import Derived.Test.YtjdddcldbfhbiasCellL
namespace Go.Proofs.Ytjdddcldbfhbias
open Go.RowKit Num

theorem eqCell_yes (k : ByteArray) (n : Int) (w : World) :
    Calls Try.prog 58 #[.agg #[.string k, .int .i64 n], .agg #[.string k, .int .i64 n]] w fun e w' => e = .returned (.bool true) ∧ Below w.heap.size w w' := by
  go_enter Try.func58, Try.ntmps58
  go_wp2
  go_ret
  exact ⟨rfl, ba (ba (Below.refl _ _) _) _⟩

set_option maxRecDepth 100000 in
set_option maxHeartbeats 1000000 in
/-- two rows of the same accounts are told to be so -/
theorem eqCells_yes (cs : CL) (a b : Value) (w : World) (ha : Cells w a cs) (hb : Cells w b cs) (hl : (cs.length : Int) ≤ 1048576) :
    Calls Try.prog 43 #[a, b] w fun e w' => e = .returned (.bool true) ∧ Below w.heap.size w w' := by
  obtain ⟨a, ca, rfl, hra⟩ := ha
  obtain ⟨b, cb, rfl, hrb⟩ := hb
  have HA : Hid (0 < cs.length → _) := hra
  have HB : Hid (0 < cs.length → _) := hrb
  clear hra hrb
  go_enter Try.func43, Try.ntmps43
  go_wp2
  go_loopw [5] (fun i wr => ∃ m : Nat, m ≤ cs.length ∧ i = .int .i64 m ∧ Below w.heap.size w wr) (fun i _ => cs.length - (intOf i).toNat)
  case atStart => exact ⟨0, Nat.zero_le _, rfl, Below.refl _ _⟩
  case round =>
    obtain ⟨m, hm, rfl, hbel⟩ := hrel
    by_cases hlt : (m : Int) < cs.length
    · have q0 : (0 : Int) ≤ (m : Int) := by omega
      have hmn : m < cs.length := by omega
      obtain ⟨ga, oa, rfl, hga, hca⟩ := HA.out (by omega)
      obtain ⟨gb, ob, rfl, hgb, hcb⟩ := HB.out (by omega)
      have hne := bw_some wr
      have c0 : ∀ x : Bw wr, x.to.cell? ⟨ga, oa + m * 2, none⟩ = some (.string cs[m].1) := fun x => by rw [(bt hbel x.below).cell (by exact hga)]; exact (hca m hmn).1
      have c1 : ∀ x : Bw wr, x.to.cell? ⟨ga, oa + m * 2 + 1, none⟩ = some (.int .i64 cs[m].2) := fun x => by rw [(bt hbel x.below).cell (by exact hga)]; exact (hca m hmn).2
      have c2 : ∀ x : Bw wr, x.to.cell? ⟨gb, ob + m * 2, none⟩ = some (.string cs[m].1) := fun x => by rw [(bt hbel x.below).cell (by exact hgb)]; exact (hcb m hmn).1
      have c3 : ∀ x : Bw wr, x.to.cell? ⟨gb, ob + m * 2 + 1, none⟩ = some (.int .i64 cs[m].2) := fun x => by rw [(bt hbel x.below).cell (by exact hgb)]; exact (hcb m hmn).2
      clear hca hcb
      go_wp2
      refine wp_region_bw (by kernel_rfl) (by kernel_rfl) ?_
      repeat (go_big_quiet_step (refine calls_bw (eqCell_yes _ _ _)))
      refine wpQuiet_nil ?_
      intro _ hw'
      obtain ⟨x, rfl⟩ := hw'
      go_wp2
      go_roundw
      case rel => exact ⟨m + 1, by omega, by go_num, bt hbel x.below⟩
      case measure => simp [intOf]; omega
    · go_wp2
      go_ret
      exact ⟨rfl, hbel⟩


end Go.Proofs.Ytjdddcldbfhbias
