/-
  The contracts of the laws' own helpers over a command.
-/
import Derived.Test.YtcfgfhodbjakoavCmdI
namespace Go.Proofs.Ytcfgfhodbjakoav
open Go.RowKit Num

theorem szCmd_any (c : CM) (left : Int) (w : World) (h0 : 0 ≤ left) (h1 : left ≤ 1048576) (hk : (c.2.1.size : Int) ≤ 9223372036854775807) :
    Calls Try.prog 31 #[cmdV c, .int .i64 left] w fun e w' => e = .returned (.int .i64 (if left - c.2.1.size < 0 then -1 else left - c.2.1.size)) ∧ Below w.heap.size w w' := by
  obtain ⟨kd, key, num⟩ := c
  unfold cmdV
  simp only at hk ⊢
  by_cases h : left - key.size < 0
  · rw [if_pos h]
    go_enter Try.func31, Try.ntmps31
    go_wp2
    go_ret
    exact ⟨rfl, (Below.refl _ _).alloc (Nat.le_refl _) _⟩
  · rw [if_neg h]
    go_enter Try.func31, Try.ntmps31
    go_wp2
    go_ret
    exact ⟨rfl, (Below.refl _ _).alloc (Nat.le_refl _) _⟩

theorem toCmd_any (c : CM) (w : World) :
    Calls Try.prog 36 #[cmdV c] w fun e w' => e = .returned (cmdV c) ∧ Below w.heap.size w w' := by
  obtain ⟨kd, key, num⟩ := c
  unfold cmdV
  go_enter Try.func36, Try.ntmps36
  go_wp2
  refine bodyPost_ret (v := .agg #[_, _, _]) (by simp [results, Try.results36, go_sem]) rfl ⟨rfl, ?_⟩
  exact ba (ba (ba (Below.refl _ _) _) _) _

end Go.Proofs.Ytcfgfhodbjakoav
