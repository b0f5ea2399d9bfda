/-
  Plain mathematics of the accounts: what is right, where an account stands.
-/
import Derived.Test.YtfnneillakdopabCellX
import Derived.Test.YtfnneillakdopabInS
namespace Go.Proofs.Ytfnneillakdopab
open Go.RowKit Num

/-- a right key -/
def keyB (k : ByteArray) : Bool := (bs k).all (fun x => decide (97 ≤ x) && decide (x ≤ 122)) && inB k.size 1 3
/-- a right number -/
def numB (n : Int) : Bool := inB n 0 1000000000

/-- the bytes of a key up to the place i are letters -/
def keyTo (k : ByteArray) (i : Nat) : Prop := ∀ j (h : j < k.size), j < i → 97 ≤ (k[j].toNat : Int) ∧ (k[j].toNat : Int) ≤ 122
theorem bs_at (k : ByteArray) (j : Nat) (h : j < k.size) : (bs k)[j]'(by rw [bs_len]; exact h) = (k[j].toNat : Int) := by simp [bs]; rfl
theorem keyB_all {k : ByteArray} (h : keyTo k k.size) : keyB k = inB k.size 1 3 := by
  have : (bs k).all (fun x => decide (97 ≤ x) && decide (x ≤ 122)) = true := by
    rw [List.all_eq_true]
    intro x hx
    obtain ⟨j, hj, rfl⟩ := List.mem_iff_getElem.1 hx
    rw [bs_len] at hj
    rw [bs_at k j hj]
    have := h j hj hj
    simp [this]
  unfold keyB; rw [this]; simp
theorem keyB_no {k : ByteArray} {j : Nat} (h : j < k.size) (hn : ¬ (97 ≤ (k[j].toNat : Int) ∧ (k[j].toNat : Int) ≤ 122)) : keyB k = false := by
  have : (bs k).all (fun x => decide (97 ≤ x) && decide (x ≤ 122)) = false := by
    rw [List.all_eq_false]
    refine ⟨(bs k)[j]'(by rw [bs_len]; exact h), List.getElem_mem _, ?_⟩
    rw [bs_at k j h]
    simpa using hn
  unfold keyB; rw [this]; rfl

/-- where the first account with this key stands, from the place k on -/
def cellAtFrom (key : ByteArray) : CL → Nat → Int
  | [], _ => -1
  | c :: cs, k => if c.1 = key then (k : Int) else cellAtFrom key cs (k + 1)
def cellAt (cs : CL) (key : ByteArray) : Int := cellAtFrom key cs 0
theorem cellAt_drop (cs : CL) (key : ByteArray) (k : Nat) (h : k < cs.length) : cellAtFrom key (cs.drop k) k = if cs[k].1 = key then (k : Int) else cellAtFrom key (cs.drop (k + 1)) (k + 1) := by
  rw [List.drop_eq_getElem_cons h]; rfl
theorem ba_eq {a b : ByteArray} (h : a = b) : (a.toList == b.toList) = true := by rw [h]; simp
theorem ba_ne {a b : ByteArray} (h : a ≠ b) : (a.toList == b.toList) = false := by
  rw [beq_eq_false_iff_ne]
  intro e
  apply h
  apply ByteArray.ext; apply Array.ext'
  rw [← ByteArray.toList_eq, ← ByteArray.toList_eq]; exact e

/-- the account at the place i is right, and stands behind the one ahead of it -/
def okAt (cs : CL) (i : Nat) : Bool := match cs[i]? with
  | none => true
  | some c => keyB c.1 && (numB c.2 && match i with
    | 0 => true
    | j + 1 => match cs[j]? with
      | none => true
      | some b => Op.bytesLess b.1.toList c.1.toList)
def cellsB (cs : CL) : Bool := (List.range cs.length).all (okAt cs) && decide (cs.length ≤ 12)
theorem okAt_zero {cs : CL} (h : 0 < cs.length) : okAt cs 0 = (keyB cs[0].1 && (numB cs[0].2 && true)) := by
  unfold okAt; rw [List.getElem?_eq_getElem h]
theorem okAt_succ {cs : CL} {j : Nat} (h : j + 1 < cs.length) : okAt cs (j + 1) = (keyB cs[j + 1].1 && (numB cs[j + 1].2 && Op.bytesLess cs[j].1.toList cs[j + 1].1.toList)) := by
  unfold okAt; rw [List.getElem?_eq_getElem h]; simp [List.getElem?_eq_getElem (show j < cs.length by omega)]
theorem cellsB_no {cs : CL} {i : Nat} (h : i < cs.length) (hn : okAt cs i = false) : cellsB cs = false := by
  have : (List.range cs.length).all (okAt cs) = false := List.all_eq_false.2 ⟨i, List.mem_range.2 h, by rw [hn]; simp⟩
  unfold cellsB; rw [this]; rfl
def okTo (cs : CL) (k : Nat) : Prop := ∀ i, i < k → okAt cs i = true
theorem cellsB_all {cs : CL} (h : okTo cs cs.length) : cellsB cs = decide (cs.length ≤ 12) := by
  have : (List.range cs.length).all (okAt cs) = true := List.all_eq_true.2 fun i hi => h i (List.mem_range.1 hi)
  unfold cellsB; rw [this]; simp
theorem okTo_next {cs : CL} {k : Nat} (h : okTo cs k) (hk : okAt cs k = true) : okTo cs (k + 1) := fun i hi => by
  by_cases e : i = k
  · rw [e]; exact hk
  · exact h i (by omega)

end Go.Proofs.Ytfnneillakdopab
