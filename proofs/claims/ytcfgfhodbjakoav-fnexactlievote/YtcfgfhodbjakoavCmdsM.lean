/-
  The contracts of the laws' own helpers over rows of commands and rows of numbers: held against each other, marked, looked at again.
-/
import Derived.Test.YtcfgfhodbjakoavCmdsL
import Derived.Test.YtcfgfhodbjakoavJ1
namespace Go.Proofs.Ytcfgfhodbjakoav
open Go.RowKit Num

theorem eqCmd_yes (c : CM) (w : World) :
    Calls Try.prog 40 #[cmdV c, cmdV c] w fun e w' => e = .returned (.bool true) ∧ Below w.heap.size w w' := by
  obtain ⟨kd, key, num⟩ := c
  unfold cmdV
  go_enter Try.func40, Try.ntmps40
  go_wp2
  go_ret
  exact ⟨rfl, ba (ba (Below.refl _ _) _) _⟩

set_option maxRecDepth 100000 in
set_option maxHeartbeats 1000000 in
theorem eqCmds_yes (l : List CM) (a b : Value) (w : World) (ha : RowsR w a 3 cmdF l) (hb : RowsR w b 3 cmdF l) (hl : (l.length : Int) ≤ 1048576) :
    Calls Try.prog 28 #[a, b] w fun e w' => e = .returned (.bool true) ∧ Below w.heap.size w w' := by
  obtain ⟨a, ca, rfl, hra⟩ := ha
  obtain ⟨b, cb, rfl, hrb⟩ := hb
  have HA : Hid (0 < l.length → _) := hra
  have HB : Hid (0 < l.length → _) := hrb
  clear hra hrb
  go_enter Try.func28, Try.ntmps28
  go_wp2
  go_loopw [5] (fun i wr => ∃ m : Nat, m ≤ l.length ∧ i = .int .i64 m ∧ Below w.heap.size w wr) (fun i _ => l.length - (intOf i).toNat)
  case atStart => exact ⟨0, Nat.zero_le _, rfl, Below.refl _ _⟩
  case round =>
    obtain ⟨m, hm, rfl, hbel⟩ := hrel
    by_cases hlt : (m : Int) < l.length
    · have q0 : (0 : Int) ≤ (m : Int) := by omega
      have hmn : m < l.length := by omega
      obtain ⟨ga, oa, rfl, hga, hca⟩ := HA.out (by omega)
      obtain ⟨gb, ob, rfl, hgb, hcb⟩ := HB.out (by omega)
      have hne := bw_some wr
      have c0 : ∀ x : Bw wr, x.to.cell? ⟨ga, oa + m * 3, none⟩ = some (.int .i64 l[m].1) := fun x => by rw [(bt hbel x.below).cell (by exact hga)]; exact hca m hmn 0 (by omega)
      have c1 : ∀ x : Bw wr, x.to.cell? ⟨ga, oa + m * 3 + 1, none⟩ = some (.string l[m].2.1) := fun x => by rw [(bt hbel x.below).cell (by exact hga)]; exact hca m hmn 1 (by omega)
      have c2 : ∀ x : Bw wr, x.to.cell? ⟨ga, oa + m * 3 + 2, none⟩ = some (.int .i64 l[m].2.2) := fun x => by rw [(bt hbel x.below).cell (by exact hga)]; exact hca m hmn 2 (by omega)
      have d0 : ∀ x : Bw wr, x.to.cell? ⟨gb, ob + m * 3, none⟩ = some (.int .i64 l[m].1) := fun x => by rw [(bt hbel x.below).cell (by exact hgb)]; exact hcb m hmn 0 (by omega)
      have d1 : ∀ x : Bw wr, x.to.cell? ⟨gb, ob + m * 3 + 1, none⟩ = some (.string l[m].2.1) := fun x => by rw [(bt hbel x.below).cell (by exact hgb)]; exact hcb m hmn 1 (by omega)
      have d2 : ∀ x : Bw wr, x.to.cell? ⟨gb, ob + m * 3 + 2, none⟩ = some (.int .i64 l[m].2.2) := fun x => by rw [(bt hbel x.below).cell (by exact hgb)]; exact hcb m hmn 2 (by omega)
      clear hca hcb
      go_wp2
      refine wp_region_bw (by kernel_rfl) (by kernel_rfl) ?_
      repeat (go_big_quiet_step (refine calls_bw (eqCmd_yes l[m] _)))
      refine wpQuiet_nil ?_
      intro _ hw'
      obtain ⟨x, rfl⟩ := hw'
      go_wp2
      go_roundw
      case rel => exact ⟨m + 1, by omega, by go_num, bt hbel x.below⟩
      case measure => simp [intOf]; omega
    · go_wp2
      go_ret
      exact ⟨rfl, hbel⟩


end Go.Proofs.Ytcfgfhodbjakoav
