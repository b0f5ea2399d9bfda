/-
  The contracts of the laws' own helpers over what an account had.
-/
import Derived.Test.YtjdddcldbfhbiasUndoF
namespace Go.Proofs.Ytjdddcldbfhbias
open Go.RowKit Num

theorem szUndo_any (u : UN) (left : Int) (w : World) (h0 : 0 ≤ left) (h1 : left ≤ 1048576) (hk : (u.1.size : Int) ≤ 9223372036854775807) :
    Calls Try.prog 54 #[undoV u, .int .i64 left] w fun e w' => e = .returned (.int .i64 (if left - u.1.size < 0 then -1 else left - u.1.size)) ∧ Below w.heap.size w w' := by
  obtain ⟨key, had, num⟩ := u
  unfold undoV
  simp only at hk ⊢
  by_cases h : left - key.size < 0
  · rw [if_pos h]
    go_enter Try.func54, Try.ntmps54
    go_wp2
    go_ret
    exact ⟨rfl, (Below.refl _ _).alloc (Nat.le_refl _) _⟩
  · rw [if_neg h]
    go_enter Try.func54, Try.ntmps54
    go_wp2
    go_ret
    exact ⟨rfl, (Below.refl _ _).alloc (Nat.le_refl _) _⟩

theorem toUndo_any (u : UN) (w : World) :
    Calls Try.prog 56 #[undoV u] w fun e w' => e = .returned (undoV u) ∧ Below w.heap.size w w' := by
  obtain ⟨key, had, num⟩ := u
  unfold undoV
  go_enter Try.func56, Try.ntmps56
  go_wp2
  refine bodyPost_ret (v := .agg #[_, _, _]) (by simp [results, Try.results56, go_sem]) rfl ⟨rfl, ?_⟩
  exact ba (ba (ba (Below.refl _ _) _) _) _

theorem eqUndo_yes (u : UN) (w : World) :
    Calls Try.prog 59 #[undoV u, undoV u] w fun e w' => e = .returned (.bool true) ∧ Below w.heap.size w w' := by
  obtain ⟨key, had, num⟩ := u
  unfold undoV
  go_enter Try.func59, Try.ntmps59
  go_wp2
  go_ret
  exact ⟨rfl, ba (ba (Below.refl _ _) _) _⟩

end Go.Proofs.Ytjdddcldbfhbias
