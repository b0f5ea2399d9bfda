/-
  The contracts of CmdOk, the program's and the specification's.
-/
import Derived.Test.YtfnneillakdopabKeyI
import Derived.Test.YtfnneillakdopabCellS
namespace Go.Proofs.Ytfnneillakdopab
open Go.RowKit Num

/-- a command as a value -/
def cmdV (c : CM) : Value := .agg #[.int .i64 c.1, .string c.2.1, .int .i64 c.2.2]

theorem cmdB_kind {c : CM} (h : ¬ (1 ≤ c.1 ∧ c.1 ≤ 3)) : cmdB c = false := by unfold cmdB; rw [inB_no h]; rfl
theorem cmdB_key {c : CM} (h : keyB c.2.1 = false) : cmdB c = false := by unfold cmdB; rw [h, Bool.false_and, Bool.and_false]
theorem cmdB_rest {c : CM} (h : 1 ≤ c.1 ∧ c.1 ≤ 3) (h2 : keyB c.2.1 = true) : cmdB c = numB c.2.2 := by unfold cmdB; rw [inB_yes h, h2]; rfl

set_option maxHeartbeats 1000000 in
theorem cmd_s (c : CM) (w : World) (hk : (c.2.1.size : Int) ≤ 1048576) :
    Calls Try.prog 93 #[cmdV c] w fun e w' => e = .returned (.bool (cmdB c)) ∧ Below w.heap.size w w' := by
  obtain ⟨kd, k, n⟩ := c
  simp only [cmdV] at hk ⊢
  by_cases h : 1 ≤ kd ∧ kd ≤ 3
  · have hi := inB_yes h
    cases hkb : keyB k with
    | false =>
      rw [cmdB_key hkb]
      go_enter Try.func93, Try.ntmps93
      go_wp2_with (first
        | (go_at_call 94; refine (key_s _ _ hk).mono ?_; rintro e w' ⟨rfl, rfl⟩; rw [hkb])
        | (go_at_call 61; refine (in_any _ _ _ _).mono ?_; rintro e w' ⟨rfl, rfl⟩; try rw [hi]))
      go_ret
      exact ⟨rfl, ba (Below.refl _ _) _⟩
    | true =>
      rw [cmdB_rest h hkb]
      go_enter Try.func93, Try.ntmps93
      go_wp2_with (first
        | (go_at_call 94; refine (key_s _ _ hk).mono ?_; rintro e w' ⟨rfl, rfl⟩; rw [hkb])
        | (go_at_call 61; refine (in_any _ _ _ _).mono ?_; rintro e w' ⟨rfl, rfl⟩; try rw [hi]))
      go_ret
      exact ⟨rfl, ba (Below.refl _ _) _⟩
  · have hi := inB_no h
    rw [cmdB_kind h]
    go_enter Try.func93, Try.ntmps93
    go_wp2_with (first
      | (go_at_call 94; refine (key_s _ _ hk).mono ?_; rintro e w' ⟨rfl, rfl⟩)
      | (go_at_call 61; refine (in_any _ _ _ _).mono ?_; rintro e w' ⟨rfl, rfl⟩; try rw [hi]))
    go_ret
    exact ⟨rfl, ba (Below.refl _ _) _⟩


end Go.Proofs.Ytfnneillakdopab
