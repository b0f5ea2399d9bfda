/-
  Plain mathematics of CellsText.
-/
import Derived.Test.YtnghhfgbobpnkaaDoneS
import Derived.Test.YtnghhfgbobpnkaaCanon
namespace Go.Proofs.Ytnghhfgbobpnkaa
open Go.RowKit Num

/-- the text of the accounts, one behind the other -/
def txt (cs : CL) : ByteArray := cs.foldl (fun s c => s ++ strOfNums (vbs c.1.size) ++ c.1 ++ strOfNums (vbs c.2)) ByteArray.empty
theorem txt_step {cs : CL} {k : Nat} (h : k < cs.length) : txt (cs.take (k + 1)) = txt (cs.take k) ++ strOfNums (vbs cs[k].1.size) ++ cs[k].1 ++ strOfNums (vbs cs[k].2) := by
  unfold txt; rw [List.take_add_one, List.getElem?_eq_getElem h, List.foldl_append]; rfl
theorem vbs_small (n : Int) (h1 : n ≤ 1000000000) : (vbs n).length ≤ 5 := by
  have step : ∀ (f : Nat) (m : Int), (vb (f + 1) m).length ≤ 1 ∨ 127 < m ∧ (vb (f + 1) m).length = (vb f (m / 128)).length + 1 := fun f m => by
    by_cases hm : 127 < m
    · right; exact ⟨hm, by rw [show vb (f + 1) m = (if 127 < m then (m % 128 + 128) :: vb f (m / 128) else [m]) from rfl, if_pos hm]; simp⟩
    · left; rw [vb_small _ _ (by omega)]; simp
  have bound : ∀ (k f : Nat) (m : Int), m ≤ 128 ^ (k + 1) - 1 → (vb f m).length ≤ k + 1 := by
    intro k
    induction k with
    | zero => intro f m hm; rw [vb_small _ _ (by simpa using (by omega : m ≤ 127))]; simp
    | succ k ih =>
      intro f m hm
      cases f with
      | zero => simp [vb]
      | succ f =>
        rcases step f m with h | ⟨hgt, h⟩
        · omega
        · rw [h]
          have : m / 128 ≤ 128 ^ (k + 1) - 1 := by
            have e : (128 : Int) ^ (k + 1 + 1) = 128 ^ (k + 1) * 128 := Int.pow_succ _ _
            rw [e] at hm
            have : m < 128 ^ (k + 1) * 128 := by omega
            have := Int.ediv_lt_of_lt_mul (by decide) this
            omega
          have := ih f _ this
          omega
  exact bound 4 _ _ (by have : (128 : Int) ^ 5 = 34359738368 := by decide
                        rw [this]; omega)
theorem txt_size {cs : CL} (hc : ∀ c ∈ cs, (c.1.size : Int) ≤ 1048576 ∧ c.2 ≤ 1000000000) : (txt cs).size ≤ cs.length * 1048586 := by
  have gen : ∀ (cs : CL) (s : ByteArray), (∀ c ∈ cs, (c.1.size : Int) ≤ 1048576 ∧ c.2 ≤ 1000000000) → (cs.foldl (fun s c => s ++ strOfNums (vbs c.1.size) ++ c.1 ++ strOfNums (vbs c.2)) s).size ≤ s.size + cs.length * 1048586 := by
    intro cs
    induction cs with
    | nil => intro s _; simp
    | cons c cs ih =>
      intro s h
      have hc := h c (by simp)
      have a1 := vbs_small c.1.size (by omega)
      have a2 := vbs_small c.2 hc.2
      have := ih (s ++ strOfNums (vbs c.1.size) ++ c.1 ++ strOfNums (vbs c.2)) fun d hd => h d (by simp [hd])
      rw [List.foldl_cons]
      refine Nat.le_trans this ?_
      rw [ByteArray.size_append, ByteArray.size_append, ByteArray.size_append, strOfNums_size, strOfNums_size, List.length_cons]
      omega
  have := gen cs ByteArray.empty hc
  unfold txt
  simpa using this
/-- what CellsText tells -/
def cellsText (cs : CL) : ByteArray := if cellsB cs = true then txt cs else ByteArray.empty

end Go.Proofs.Ytnghhfgbobpnkaa
