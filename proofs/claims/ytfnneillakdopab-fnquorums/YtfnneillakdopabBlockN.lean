/-
  Plain mathematics of blocks: what is right, where a block stands, how it is put behind the others.
-/
import Derived.Test.YtfnneillakdopabDoneN
namespace Go.Proofs.Ytfnneillakdopab
open Go.RowKit Num

/-- Phase, View, Block, Signers -/
abbrev QC := Int × Int × Int × Int
/-- Parent, View; Cmds, Just -/
abbrev BK := (Int × Int) × (List CM × QC)
def firstB : BK := ((-1, 0), ([], (0, 0, 0, 0)))
/-- the View of the block at a place -/
def viewAt (t : List BK) (k : Int) : Int := (t[k.toNat]?.getD firstB).1.2
theorem viewAt_at {t : List BK} {j : Nat} (h : j < t.length) : viewAt t (j : Int) = t[j].1.2 := by
  unfold viewAt; rw [show ((j : Int)).toNat = j by omega, List.getElem?_eq_getElem h]; rfl

/-- a right block, on a tree -/
def blockB (t : List BK) (b : BK) : Bool :=
  inB b.1.1 0 ((t.length : Int) - 1) && (decide (viewAt t b.1.1 < b.1.2) && (decide (b.1.2 ≤ 900) && (decide (b.2.1.length ≤ 4) && (b.2.1.all cmdB && (decide (b.2.2.2.2.1 = b.1.1) && decide (b.2.2.2.1 = viewAt t b.1.1))))))
theorem blockB_par {t : List BK} {b : BK} (h : inB b.1.1 0 ((t.length : Int) - 1) = false) : blockB t b = false := by unfold blockB; rw [h]; rfl
theorem blockB_low {t : List BK} {b : BK} (h : ¬ viewAt t b.1.1 < b.1.2) : blockB t b = false := by
  unfold blockB; rw [decide_eq_false h, Bool.false_and, Bool.and_false]
theorem blockB_high {t : List BK} {b : BK} (h : ¬ b.1.2 ≤ 900) : blockB t b = false := by
  unfold blockB; rw [decide_eq_false h]; simp
theorem blockB_many {t : List BK} {b : BK} (h : ¬ b.2.1.length ≤ 4) : blockB t b = false := by
  unfold blockB; rw [decide_eq_false h]; simp
theorem blockB_cmd {t : List BK} {b : BK} {j : Nat} (hj : j < b.2.1.length) (h : cmdB b.2.1[j] = false) : blockB t b = false := by
  have : b.2.1.all cmdB = false := List.all_eq_false.2 ⟨_, List.getElem_mem hj, by rw [h]; simp⟩
  unfold blockB; rw [this]; simp
/-- the first k commands are right -/
def cmdsTo (l : List CM) (k : Nat) : Prop := ∀ j (h : j < l.length), j < k → cmdB l[j] = true
theorem cmdsTo_next {l : List CM} {k : Nat} (h : cmdsTo l k) (hk : k < l.length) (hc : cmdB l[k] = true) : cmdsTo l (k + 1) := fun j hj hjk => by
  by_cases e : j = k
  · subst e; exact hc
  · exact h j hj (by omega)
theorem blockB_all {t : List BK} {b : BK} (h0 : inB b.1.1 0 ((t.length : Int) - 1) = true) (h1 : viewAt t b.1.1 < b.1.2) (h2 : b.1.2 ≤ 900) (h3 : b.2.1.length ≤ 4) (h4 : cmdsTo b.2.1 b.2.1.length) :
    blockB t b = (decide (b.2.2.2.2.1 = b.1.1) && decide (b.2.2.2.1 = viewAt t b.1.1)) := by
  have : b.2.1.all cmdB = true := List.all_eq_true.2 fun c hc => by
    obtain ⟨j, hj, rfl⟩ := List.mem_iff_getElem.1 hc
    exact h4 j hj hj
  unfold blockB; rw [h0, decide_eq_true h1, decide_eq_true h2, decide_eq_true h3, this]; rfl

/-- the place of the first block that is the same, from the place k on -/
def blockAtFrom (b : BK) : List BK → Nat → Int
  | [], _ => -1
  | x :: t, k => if x = b then (k : Int) else blockAtFrom b t (k + 1)
def blockAt (t : List BK) (b : BK) : Int := blockAtFrom b t 0
theorem blockAt_drop (t : List BK) (b : BK) (k : Nat) (h : k < t.length) : blockAtFrom b (t.drop k) k = if t[k] = b then (k : Int) else blockAtFrom b (t.drop (k + 1)) (k + 1) := by
  rw [List.drop_eq_getElem_cons h]; rfl
theorem blockAtFrom_cases (b : BK) : ∀ (t : List BK) (k : Nat), (blockAtFrom b t k = -1 ∧ b ∉ t) ∨ ∃ j, ∃ h : j < t.length, blockAtFrom b t k = ((k + j : Nat) : Int) ∧ t[j] = b ∧ ∀ i (hi : i < t.length), i < j → t[i] ≠ b
  | [], k => Or.inl ⟨rfl, by simp⟩
  | x :: t, k => by
    unfold blockAtFrom
    by_cases e : x = b
    · rw [if_pos e]; exact Or.inr ⟨0, by simp, by simp, by simpa using e, fun i _ h => by omega⟩
    · rw [if_neg e]
      rcases blockAtFrom_cases b t (k + 1) with ⟨h1, h2⟩ | ⟨j, hj, h1, h2, h3⟩
      · exact Or.inl ⟨h1, by simp only [List.mem_cons, not_or]; exact ⟨fun h => e h.symm, h2⟩⟩
      · refine Or.inr ⟨j + 1, by simp; omega, by rw [h1]; congr 1; omega, by simpa using h2, fun i hi hij => ?_⟩
        cases i with
        | zero => simpa using e
        | succ i => simpa using h3 i (by simpa using hi) (by omega)
theorem blockAt_cases (t : List BK) (b : BK) : (blockAt t b = -1 ∧ b ∉ t) ∨ ∃ j, ∃ h : j < t.length, blockAt t b = (j : Int) ∧ t[j] = b ∧ ∀ i (hi : i < t.length), i < j → t[i] ≠ b := by
  rcases blockAtFrom_cases b t 0 with h | ⟨j, hj, h1, h2, h3⟩
  · exact Or.inl h
  · exact Or.inr ⟨j, hj, by unfold blockAt; rw [h1]; simp, h2, h3⟩

/-- the block at the place i is right on those ahead of it, and stands there for the first time -/
def treeAt (t : List BK) (i : Nat) : Bool := match t[i]? with
  | none => true
  | some b => blockB (t.take i) b && decide (blockAt t b = (i : Int))
/-- the first block of a tree -/
def headB (t : List BK) : BK := t[0]?.getD ((0, 0), ([], (0, 0, 0, 0)))
theorem headB_at {t : List BK} (h : 0 < t.length) : headB t = t[0] := by unfold headB; rw [List.getElem?_eq_getElem h]; rfl
def treeB (t : List BK) : Bool := inB (t.length : Int) 1 60 && (decide (headB t = firstB) && (List.range t.length).all fun i => decide (i = 0) || treeAt t i)
theorem treeB_len {t : List BK} (h : inB (t.length : Int) 1 60 = false) : treeB t = false := by unfold treeB; rw [h]; rfl
theorem treeB_first {t : List BK} (h : ¬ headB t = firstB) : treeB t = false := by unfold treeB; rw [decide_eq_false h, Bool.false_and, Bool.and_false]
theorem treeB_no {t : List BK} {i : Nat} (h : i < t.length) (h0 : i ≠ 0) (hn : treeAt t i = false) : treeB t = false := by
  have : ((List.range t.length).all fun i => decide (i = 0) || treeAt t i) = false := List.all_eq_false.2 ⟨i, List.mem_range.2 h, by rw [hn]; simp [h0]⟩
  unfold treeB; rw [this]; simp
def treeTo (t : List BK) (k : Nat) : Prop := ∀ i, i < k → i ≠ 0 → treeAt t i = true
theorem treeTo_next {t : List BK} {k : Nat} (h : treeTo t k) (hk : k = 0 ∨ treeAt t k = true) : treeTo t (k + 1) := fun i hi h0 => by
  by_cases e : i = k
  · subst e; exact hk.resolve_left h0
  · exact h i (by omega) h0
theorem treeB_all {t : List BK} (h : inB (t.length : Int) 1 60 = true) (h1 : headB t = firstB) (h2 : treeTo t t.length) : treeB t = true := by
  have : ((List.range t.length).all fun i => decide (i = 0) || treeAt t i) = true := List.all_eq_true.2 fun i hi => by
    by_cases e : i = 0
    · simp [e]
    · rw [h2 i (List.mem_range.1 hi) e]; simp
  unfold treeB; rw [h, decide_eq_true h1, this]; rfl

/-- a block is put behind the others -/
def putAt (t : List BK) (b : BK) : Int := if 0 ≤ blockAt t b then blockAt t b else if blockB t b = false ∨ 60 ≤ t.length then -1 else (t.length : Int)
def putT (t : List BK) (b : BK) : List BK := if 0 ≤ blockAt t b then t else if blockB t b = false ∨ 60 ≤ t.length then t else t ++ [b]
theorem put_there {t : List BK} {b : BK} (h : 0 ≤ blockAt t b) : putAt t b = blockAt t b ∧ putT t b = t := ⟨if_pos h, if_pos h⟩
theorem put_not {t : List BK} {b : BK} (h : ¬ 0 ≤ blockAt t b) (h2 : blockB t b = false ∨ 60 ≤ t.length) : putAt t b = -1 ∧ putT t b = t := ⟨(if_neg h).trans (if_pos h2), (if_neg h).trans (if_pos h2)⟩
theorem put_new {t : List BK} {b : BK} (h : ¬ 0 ≤ blockAt t b) (h2 : ¬ (blockB t b = false ∨ 60 ≤ t.length)) : putAt t b = (t.length : Int) ∧ putT t b = t ++ [b] := ⟨(if_neg h).trans (if_neg h2), (if_neg h).trans (if_neg h2)⟩

end Go.Proofs.Ytfnneillakdopab
