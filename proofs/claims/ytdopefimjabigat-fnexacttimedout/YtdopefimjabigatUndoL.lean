/-
  The contracts of the laws' own helpers over what an account had.
-/
import Derived.Test.YtdopefimjabigatUndoF
namespace Go.Proofs.Ytdopefimjabigat
open Go.RowKit Num

theorem szUndo_any (u : UN) (left : Int) (w : World) (h0 : 0 ≤ left) (h1 : left ≤ 1048576) (hk : (u.1.size : Int) ≤ 9223372036854775807) :
    Calls Try.prog 51 #[undoV u, .int .i64 left] w fun e w' => e = .returned (.int .i64 (if left - u.1.size < 0 then -1 else left - u.1.size)) ∧ Below w.heap.size w w' := by
  obtain ⟨key, had, num⟩ := u
  unfold undoV
  simp only at hk ⊢
  by_cases h : left - key.size < 0
  · rw [if_pos h]
    go_enter Try.func51, Try.ntmps51
    go_wp2
    go_ret
    exact ⟨rfl, (Below.refl _ _).alloc (Nat.le_refl _) _⟩
  · rw [if_neg h]
    go_enter Try.func51, Try.ntmps51
    go_wp2
    go_ret
    exact ⟨rfl, (Below.refl _ _).alloc (Nat.le_refl _) _⟩

theorem toUndo_any (u : UN) (w : World) :
    Calls Try.prog 53 #[undoV u] w fun e w' => e = .returned (undoV u) ∧ Below w.heap.size w w' := by
  obtain ⟨key, had, num⟩ := u
  unfold undoV
  go_enter Try.func53, Try.ntmps53
  go_wp2
  refine bodyPost_ret (v := .agg #[_, _, _]) (by simp [results, Try.results53, go_sem]) rfl ⟨rfl, ?_⟩
  exact ba (ba (ba (Below.refl _ _) _) _) _

theorem eqUndo_yes (u : UN) (w : World) :
    Calls Try.prog 61 #[undoV u, undoV u] w fun e w' => e = .returned (.bool true) ∧ Below w.heap.size w w' := by
  obtain ⟨key, had, num⟩ := u
  unfold undoV
  go_enter Try.func61, Try.ntmps61
  go_wp2
  go_ret
  exact ⟨rfl, ba (ba (Below.refl _ _) _) _⟩

end Go.Proofs.Ytdopefimjabigat
