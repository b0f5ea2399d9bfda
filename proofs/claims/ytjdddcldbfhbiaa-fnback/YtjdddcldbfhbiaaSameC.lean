/-
  The contract of the laws' sameCells, and of the draws of whole lists.
-/
import Derived.Test.YtjdddcldbfhbiaaDrawC3
import Derived.Laws.StructEq
namespace Go.Proofs.Ytjdddcldbfhbiaa
open Go.RowKit Num

theorem eqV (k : ByteArray) (n : Int) (w : World) : (Op.equalIn 10000 35 (.agg #[.string k, .int .i64 n]) (.agg #[.string k, .int .i64 n])).run Try.prog w = .ok true w := by
  have u3 := Try.underlying3
  have u9 := Try.underlying9
  have hS : Try.prog.underlying 35 = some (.struct (Try.prog.fieldsOf 35)) := by kernel_rfl
  have hp : Try.prog.stoodInHeld 35 = false := by kernel_rfl
  rw [show (10000 : Nat) = 9999 + 1 from rfl, run_equalIn_agg w 9999 35 _ _ hS hp]
  simp only [Program.fieldsOf, Try.underlying35]
  go_simp
theorem guardC : Try.prog.eqGuardType Try.prog.depth 35 = false := by kernel_rfl

set_option maxRecDepth 100000 in
set_option maxHeartbeats 1000000 in
theorem same_yes (cs : CL) (a b : Value) (w : World) (ha : Cells w a cs) (hb : Cells w b cs) (hl : (cs.length : Int) ≤ 1048576) :
    Calls Try.prog 11 #[a, b] w fun e w' => e = .returned (.bool true) ∧ Below w.heap.size w w' := by
  obtain ⟨a, ca, rfl, hra⟩ := ha
  obtain ⟨b, cb, rfl, hrb⟩ := hb
  have HA : Hid (0 < cs.length → _) := hra
  have HB : Hid (0 < cs.length → _) := hrb
  clear hra hrb
  go_enter Try.func11, Try.ntmps11
  go_wp2
  go_loopw [5] (fun i wr => ∃ m : Nat, m ≤ cs.length ∧ i = .int .i64 m ∧ Below w.heap.size w wr) (fun i _ => cs.length - (intOf i).toNat)
  case atStart => exact ⟨0, Nat.zero_le _, rfl, Below.refl _ _⟩
  case round =>
    obtain ⟨m, hm, rfl, hbel⟩ := hrel
    by_cases hlt : (m : Int) < cs.length
    · have q0 : (0 : Int) ≤ (m : Int) := by omega
      have hmn : m < cs.length := by omega
      obtain ⟨ga, oa, rfl, hga, hca⟩ := HA.out (by omega)
      obtain ⟨gb, ob, rfl, hgb, hcb⟩ := HB.out (by omega)
      have hne := bw_some wr
      have c0 : ∀ x : Bw wr, x.to.cell? ⟨ga, oa + m * 2, none⟩ = some (.string cs[m].1) := fun x => by rw [(bt hbel x.below).cell (by exact hga)]; exact (hca m hmn).1
      have c1 : ∀ x : Bw wr, x.to.cell? ⟨ga, oa + m * 2 + 1, none⟩ = some (.int .i64 cs[m].2) := fun x => by rw [(bt hbel x.below).cell (by exact hga)]; exact (hca m hmn).2
      have c2 : ∀ x : Bw wr, x.to.cell? ⟨gb, ob + m * 2, none⟩ = some (.string cs[m].1) := fun x => by rw [(bt hbel x.below).cell (by exact hgb)]; exact (hcb m hmn).1
      have c3 : ∀ x : Bw wr, x.to.cell? ⟨gb, ob + m * 2 + 1, none⟩ = some (.int .i64 cs[m].2) := fun x => by rw [(bt hbel x.below).cell (by exact hgb)]; exact (hcb m hmn).2
      have e0 := eqV cs[m].1 cs[m].2
      have e1 := guardC
      clear hca hcb
      go_wp2
      refine wp_region_bw (by kernel_rfl) (by kernel_rfl) ?_
      repeat (go_big_quiet_step (fail))
      refine wpQuiet_nil ?_
      intro _ hw'
      obtain ⟨x, rfl⟩ := hw'
      go_wp2
      go_roundw
      case rel => exact ⟨m + 1, by omega, by go_num, bt hbel x.below⟩
      case measure => simp [intOf]; omega
    · go_wp2
      go_ret
      exact ⟨rfl, hbel⟩

end Go.Proofs.Ytjdddcldbfhbiaa
