/-
  Plain mathematics behind the law FnCells: what a command that was done leaves at its account.
-/
import Derived.Test.YtnghhfgbobpnkaaDoneS
import Derived.Test.YtnghhfgbobpnkaaTextN
namespace Go.Proofs.Ytnghhfgbobpnkaa
open Go.RowKit Num

theorem code_cases (cs : CL) (c : CM) : codeC cs c = 0 ∨ codeC cs c = 1 ∨ codeC cs c = 2 := by
  unfold codeC
  split
  · exact Or.inr (Or.inr rfl)
  · split
    · exact Or.inr (Or.inl rfl)
    · split
      · exact Or.inr (Or.inr rfl)
      · exact Or.inl rfl
theorem code_one {cs : CL} {c : CM} (h : codeC cs c = 1) : c.1 ≠ 1 ∧ hasK cs c.2.1 = false := by
  unfold codeC at h
  split at h
  · omega
  · split at h
    · assumption
    · split at h <;> omega
theorem code_zero {cs : CL} {c : CM} (h : codeC cs c = 0) : ¬ (c.1 ≠ 1 ∧ hasK cs c.2.1 = false) := by
  unfold codeC at h
  split at h
  · omega
  · split at h
    · omega
    · assumption
/-- the account that was put in stands there, and is the only one with its key -/
theorem put_at {cs : CL} (x : ByteArray × Int) : ∃ j, ∃ hj : j < (putC cs x).length, cellAt (putC cs x) x.1 = (j : Int) ∧ (putC cs x)[j] = x := by
  have hh : hasK (putC cs x) x.1 = true := by rw [hasK_putC]; simp
  obtain ⟨j, hj, e, ek⟩ := cellAt_yes hh
  refine ⟨j, hj, e, ?_⟩
  rcases mem_putC.1 (List.getElem_mem hj) with h | ⟨_, h⟩
  · exact h
  · exact absurd ek h
theorem txt_ne {cs : CL} (h : cs ≠ []) (hk : ∀ c ∈ cs, keyB c.1 = true) : (txt cs).size ≠ 0 := by
  have hl : 0 < cs.length := List.length_pos_iff.2 h
  have e := txt_step (cs := cs) (k := cs.length - 1) (by omega)
  rw [show cs.length - 1 + 1 = cs.length by omega, List.take_length] at e
  rw [e, ByteArray.size_append, ByteArray.size_append]
  have h1 := hk cs[cs.length - 1] (List.getElem_mem _)
  have : 1 ≤ (cs[cs.length - 1].1.size : Int) := by
    unfold keyB at h1
    rw [Bool.and_eq_true] at h1
    have := h1.2
    unfold inB at this
    simp at this
    omega
  omega

end Go.Proofs.Ytnghhfgbobpnkaa
