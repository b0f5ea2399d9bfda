/-
  Plain mathematics of what goes back: what an account had, how it is taken back, and that all of it, the last one first, leaves the accounts as they were.
-/
import Derived.Test.YtdopefimjabigatJ0
namespace Go.Proofs.Ytdopefimjabigat
open Go.RowKit Num

/-- what an account had: its key, whether it was there, its number -/
abbrev UN := ByteArray × Bool × Int
def undoC (cs : CL) (key : ByteArray) : UN := match cs.find? (fun d => decide (d.1 = key)) with
  | none => (key, false, 0)
  | some d => (key, true, d.2)
def undoB (u : UN) : Bool := keyB u.1 && numB u.2.2
def backC (cs : CL) (u : UN) : CL := if u.2.1 = true then putC cs (u.1, u.2.2) else cs.filter fun c => decide (c.1 ≠ u.1)
def undoneC (cs : CL) (u : UN) : CL := if (cellsB cs && undoB u) = false then cs else backC cs u
def undosC : CL → List CM → List UN
  | _, [] => []
  | cs, c :: l => undoC cs c.2.1 :: undosC (doneC cs c) l
def undoneAllC (cs : CL) (us : List UN) : CL := us.foldr (fun u acc => undoneC acc u) cs

theorem back_true (cs : CL) (k : ByteArray) (n : Int) : backC cs (k, true, n) = putC cs (k, n) := if_pos rfl
theorem back_false (cs : CL) (k : ByteArray) (n : Int) : backC cs (k, false, n) = cs.filter fun c => decide (c.1 ≠ k) := if_neg (by simp)
theorem undo_key (cs : CL) (key : ByteArray) : (undoC cs key).1 = key := by unfold undoC; split <;> rfl
theorem undo_no {cs : CL} {key : ByteArray} (h : hasK cs key = false) : undoC cs key = (key, false, 0) := by
  unfold undoC
  rw [List.find?_eq_none.2 fun c hc => by simpa using hasK_no.1 h c hc]
theorem undo_find {cs : CL} {key : ByteArray} (h : hasK cs key = true) : ∃ d, d ∈ cs ∧ d.1 = key ∧ undoC cs key = (key, true, d.2) := by
  cases e : cs.find? (fun d => decide (d.1 = key)) with
  | none =>
    obtain ⟨c, hc, hk⟩ := hasK_iff.1 h
    have := List.find?_eq_none.1 e c hc
    simp [hk] at this
  | some d =>
    refine ⟨d, List.mem_of_find?_eq_some e, by have := List.find?_some e; simpa using this, ?_⟩
    unfold undoC; rw [e]
theorem undoAtFrom {cs : CL} {key : ByteArray} (h : hasK cs key = true) : ∀ i, ∃ j, ∃ hj : j < cs.length, cellAtFrom key cs i = ((i + j : Nat) : Int) ∧ cs.find? (fun d => decide (d.1 = key)) = some cs[j] := by
  induction cs with
  | nil => simp [hasK] at h
  | cons c cs ih =>
    intro i
    unfold cellAtFrom
    by_cases hc : c.1 = key
    · rw [if_pos hc]; exact ⟨0, by simp, by simp, by simp [hc]⟩
    · rw [if_neg hc]
      have h' : hasK cs key = true := by
        obtain ⟨d, hd, e⟩ := hasK_iff.1 h
        rcases List.mem_cons.1 hd with rfl | hd
        · exact absurd e hc
        · exact hasK_iff.2 ⟨d, hd, e⟩
      obtain ⟨j, hj, e, ek⟩ := ih h' (i + 1)
      exact ⟨j + 1, by simp; omega, by rw [e]; congr 1; omega, by rw [List.find?_cons_of_neg (by simpa using hc)]; simpa using ek⟩
theorem undo_at {cs : CL} {key : ByteArray} (h : hasK cs key = true) : ∃ j, ∃ hj : j < cs.length, cellAt cs key = (j : Int) ∧ undoC cs key = (key, true, cs[j].2) := by
  obtain ⟨j, hj, e, ek⟩ := undoAtFrom h 0
  exact ⟨j, hj, by unfold cellAt; rw [e]; simp, by unfold undoC; rw [ek]⟩

theorem undosC_len : ∀ (cs : CL) (l : List CM), (undosC cs l).length = l.length
  | _, [] => rfl
  | cs, c :: l => by simp [undosC, undosC_len]
theorem undos_snoc : ∀ (cs : CL) (l : List CM) (c : CM), undosC cs (l ++ [c]) = undosC cs l ++ [undoC (doneAllC cs l) c.2.1]
  | _, [], _ => rfl
  | cs, d :: l, c => by simp [undosC, doneAllC, undos_snoc]
theorem undos_bad {cs : CL} (h : cellsB cs = false) : ∀ l : List CM, undosC cs l = l.map fun c => undoC cs c.2.1
  | [] => rfl
  | c :: l => by
    have hc : codeC cs c = 2 := by unfold codeC; rw [h]; rfl
    have hd : doneC cs c = cs := by unfold doneC; rw [hc]; rfl
    simp [undosC, hd, undos_bad h l]
theorem undos_keys : ∀ (cs : CL) (l : List CM), (∀ c ∈ l, (c.2.1.size : Int) ≤ 1048576) → ∀ u ∈ undosC cs l, (u.1.size : Int) ≤ 1048576
  | _, [], _, u, hu => by cases hu
  | cs, c :: l, h, u, hu => by
    rcases List.mem_cons.1 hu with rfl | hu
    · rw [undo_key]; exact h c (by simp)
    · exact undos_keys _ l (fun d hd => h d (by simp [hd])) u hu

/-- accounts that are right, or one too many of them -/
def fair (cs : CL) : Prop := (∀ c ∈ cs, keyB c.1 = true ∧ numB c.2 = true) ∧ Asc cs ∧ cs.length ≤ 13
theorem fair_of {cs : CL} (h : cellsB cs = true) : fair cs := by
  obtain ⟨a, b, c⟩ := cellsB_iff.1 h
  exact ⟨a, b, by omega⟩
theorem fair_ok {cs : CL} (h : fair cs) (hl : cs.length ≤ 12) : cellsB cs = true := cellsB_iff.2 ⟨h.1, h.2.1, hl⟩
theorem fair_over {cs : CL} (hl : 12 < cs.length) : cellsB cs = false := by
  cases h : cellsB cs with
  | false => rfl
  | true => have := (cellsB_iff.1 h).2.2; omega
theorem back_fair {cs : CL} {u : UN} (h : cellsB cs = true) (hu : undoB u = true) : fair (backC cs u) := by
  obtain ⟨hk, hA, hl⟩ := cellsB_iff.1 h
  unfold undoB at hu
  rw [Bool.and_eq_true] at hu
  unfold backC
  split
  · refine ⟨fun d hd => ?_, asc_putC hA, ?_⟩
    · rcases mem_putC.1 hd with rfl | ⟨hd, _⟩
      · exact hu
      · exact hk d hd
    · have := len_putC (x := (u.1, u.2.2)) hA
      split at this <;> omega
  · refine ⟨fun d hd => hk d (List.mem_filter.1 hd).1, List.Pairwise.filter _ hA, ?_⟩
    have := List.length_filter_le (fun c : ByteArray × Int => decide (c.1 ≠ u.1)) cs
    omega
theorem undone_fair {cs : CL} {u : UN} (h : fair cs) : fair (undoneC cs u) := by
  unfold undoneC
  split
  · exact h
  · rename_i hc
    simp only [Bool.not_eq_false, Bool.and_eq_true] at hc
    exact back_fair hc.1 hc.2
theorem undoneAll_fair {cs : CL} (h : cellsB cs = true) : ∀ us : List UN, fair (undoneAllC cs us)
  | [] => fair_of h
  | _ :: us => undone_fair (undoneAll_fair h us)
theorem undone_bad {cs : CL} {u : UN} (h : cellsB cs = false) : undoneC cs u = cs := by unfold undoneC; rw [h]; rfl
theorem undone_not {cs : CL} {u : UN} (h : undoB u = false) : undoneC cs u = cs := by unfold undoneC; rw [h, Bool.and_false]; rfl
theorem undone_yes {cs : CL} {u : UN} (h : cellsB cs = true) (h2 : undoB u = true) : undoneC cs u = backC cs u := by unfold undoneC; rw [h, h2]; rfl
theorem undoneAll_bad {cs : CL} (h : cellsB cs = false) : ∀ us : List UN, undoneAllC cs us = cs
  | [] => rfl
  | u :: us => by
    show undoneC (undoneAllC cs us) u = cs
    rw [undoneAll_bad h us, undone_bad h]
theorem undoneAll_step {cs : CL} {us : List UN} {k : Nat} (h : k < us.length) : undoneAllC cs (us.drop k) = undoneC (undoneAllC cs (us.drop (k + 1))) us[k] := by
  rw [List.drop_eq_getElem_cons h]; rfl
theorem undoneAll_over {cs : CL} {us : List UN} {k : Nat} (h : cellsB (undoneAllC cs (us.drop k)) = false) : undoneAllC cs us = undoneAllC cs (us.drop k) := by
  have e : undoneAllC cs us = undoneAllC (undoneAllC cs (us.drop k)) (us.take k) := by
    unfold undoneAllC
    rw [← List.foldr_append, List.take_append_drop]
  rw [e, undoneAll_bad h]

theorem okL_undone {cs : CL} {u : UN} (h : okL cs) (hk : (u.1.size : Int) ≤ 1048576) : okL (undoneC cs u) := by
  cases hc : cellsB cs && undoB u with
  | false => unfold undoneC; rw [hc]; exact h
  | true =>
    rw [Bool.and_eq_true] at hc
    rw [undone_yes hc.1 hc.2]
    have hf := (back_fair hc.1 hc.2).2.2
    refine ⟨by omega, fun d hd => ?_⟩
    unfold backC at hd
    split at hd
    · rcases mem_putC.1 hd with rfl | ⟨hd, _⟩
      · exact hk
      · exact h.2 d hd
    · exact h.2 d (List.mem_filter.1 hd).1
theorem okL_undoneAll {cs : CL} (h : okL cs) : ∀ us : List UN, (∀ u ∈ us, (u.1.size : Int) ≤ 1048576) → okL (undoneAllC cs us)
  | [], _ => h
  | u :: us, hu => okL_undone (okL_undoneAll h us fun x hx => hu x (by simp [hx])) (hu u (by simp))

/-- two lists in the order of their keys that hold the same are the same -/
theorem asc_ext : ∀ {a b : CL}, Asc a → Asc b → (∀ c, c ∈ a ↔ c ∈ b) → a = b
  | [], b, _, _, h => by
    cases b with
    | nil => rfl
    | cons y b => exact absurd ((h y).2 (by simp)) (by simp)
  | x :: a, b, ha, hb, h => by
    cases b with
    | nil => exact absurd ((h x).1 (by simp)) (by simp)
    | cons y b =>
      have e : x = y := by
        rcases List.mem_cons.1 ((h x).1 (by simp)) with e | h1
        · exact e
        · rcases List.mem_cons.1 ((h y).2 (by simp)) with e | h2
          · exact e.symm
          · have l1 := List.rel_of_pairwise_cons hb h1
            have l2 := List.rel_of_pairwise_cons ha h2
            rw [kLt_asym l1] at l2; cases l2
      subst e
      congr 1
      refine asc_ext (List.Pairwise.of_cons ha) (List.Pairwise.of_cons hb) fun c => ⟨fun hc => ?_, fun hc => ?_⟩
      · rcases List.mem_cons.1 ((h c).1 (by simp [hc])) with e | h1
        · subst e; have := List.rel_of_pairwise_cons ha hc; rw [kLt_irr] at this; cases this
        · exact h1
      · rcases List.mem_cons.1 ((h c).2 (by simp [hc])) with e | h1
        · subst e; have := List.rel_of_pairwise_cons hb hc; rw [kLt_irr] at this; cases this
        · exact h1
theorem asc_one : ∀ {cs : CL}, Asc cs → ∀ {c d : ByteArray × Int}, c ∈ cs → d ∈ cs → c.1 = d.1 → c = d
  | [], _, _, _, hc, _, _ => by cases hc
  | x :: cs, h, c, d, hc, hd, e => by
    rcases List.mem_cons.1 hc with e1 | h1
    · rcases List.mem_cons.1 hd with e2 | h2
      · rw [e1, e2]
      · subst e1; exact absurd e (kLt_ne (List.rel_of_pairwise_cons h h2))
    · rcases List.mem_cons.1 hd with e2 | h2
      · subst e2; exact absurd e.symm (kLt_ne (List.rel_of_pairwise_cons h h1))
      · exact asc_one (List.Pairwise.of_cons h) h1 h2 e

theorem back_put {cs : CL} (hA : Asc cs) {k : ByteArray} {n m : Int} (h : (k, m) ∈ cs) : putC (putC cs (k, n)) (k, m) = cs := by
  refine asc_ext (asc_putC (asc_putC hA)) hA fun c => ?_
  rw [mem_putC, mem_putC]
  constructor
  · rintro (rfl | ⟨rfl | ⟨hc, _⟩, hn⟩)
    · exact h
    · exact absurd rfl hn
    · exact hc
  · intro hc
    by_cases e : c.1 = k
    · exact Or.inl (asc_one hA hc h e)
    · exact Or.inr ⟨Or.inr ⟨hc, e⟩, e⟩
theorem put_same {cs : CL} (hA : Asc cs) {k : ByteArray} {m : Int} (h : (k, m) ∈ cs) : putC cs (k, m) = cs := by
  refine asc_ext (asc_putC hA) hA fun c => ?_
  rw [mem_putC]
  constructor
  · rintro (rfl | ⟨hc, _⟩)
    · exact h
    · exact hc
  · intro hc
    by_cases e : c.1 = k
    · exact Or.inl (asc_one hA hc h e)
    · exact Or.inr ⟨hc, e⟩
theorem drop_put {cs : CL} (hA : Asc cs) {k : ByteArray} {n : Int} (h : hasK cs k = false) : ((putC cs (k, n)).filter fun c => decide (c.1 ≠ k)) = cs := by
  refine asc_ext (List.Pairwise.filter _ (asc_putC hA)) hA fun c => ?_
  rw [List.mem_filter, mem_putC]
  constructor
  · rintro ⟨rfl | ⟨hc, _⟩, hn⟩
    · simp at hn
    · exact hc
  · intro hc
    have e := hasK_no.1 h c hc
    exact ⟨Or.inr ⟨hc, e⟩, by simpa using e⟩
theorem drop_none {cs : CL} {k : ByteArray} (h : hasK cs k = false) : (cs.filter fun c => decide (c.1 ≠ k)) = cs :=
  List.filter_eq_self.2 fun c hc => by simpa using hasK_no.1 h c hc

/-- one command taken back -/
theorem undone_done {cs : CL} (h : cellsB cs = true) (c : CM) : undoneC (doneC cs c) (undoC cs c.2.1) = cs := by
  obtain ⟨hk, hA, hl⟩ := cellsB_iff.1 h
  by_cases h0 : codeC cs c = 0
  · have hd : doneC cs c = putC cs (c.2.1, comes cs c) := by unfold doneC; rw [if_pos h0]
    have hcb := done_ok (c := c) h
    have hmb : cmdB c = true := by
      cases e : cmdB c with
      | true => rfl
      | false => unfold codeC at h0; rw [e, Bool.and_false] at h0; simp at h0
    have hkey : keyB c.2.1 = true := by unfold cmdB at hmb; simp at hmb; exact hmb.2.1
    cases hh : hasK cs c.2.1 with
    | true =>
      obtain ⟨d, hd1, hd2, hu⟩ := undo_find hh
      have hn := (hk d hd1).2
      rw [hu, undone_yes hcb (by unfold undoB; simp only; rw [hkey, hn]; rfl), hd]
      unfold backC
      rw [if_pos rfl]
      refine back_put hA ?_
      have : d = (c.2.1, d.2) := by rw [← hd2]
      rw [← this]; exact hd1
    | false =>
      rw [undo_no hh, undone_yes hcb (by unfold undoB; simp only; rw [hkey]; rfl), hd]
      unfold backC
      rw [if_neg (by simp)]
      exact drop_put hA hh
  · have hd : doneC cs c = cs := by unfold doneC; rw [if_neg h0]
    rw [hd]
    cases hh : hasK cs c.2.1 with
    | true =>
      obtain ⟨d, hd1, hd2, hu⟩ := undo_find hh
      have hn := hk d hd1
      rw [hu, undone_yes h (by unfold undoB; simp only; rw [← hd2, hn.1, hn.2]; rfl)]
      unfold backC
      rw [if_pos rfl]
      refine put_same hA ?_
      have : d = (c.2.1, d.2) := by rw [← hd2]
      rw [← this]; exact hd1
    | false =>
      rw [undo_no hh]
      cases hb : undoB (c.2.1, false, 0) with
      | false => exact undone_not hb
      | true =>
        rw [undone_yes h hb]
        unfold backC
        rw [if_neg (by simp)]
        exact drop_none hh
/-- all of them, the last one first -/
theorem undoneAll_done : ∀ {cs : CL} (l : List CM), cellsB cs = true → undoneAllC (doneAllC cs l) (undosC cs l) = cs
  | _, [], _ => rfl
  | cs, c :: l, h => by
    show undoneC (undoneAllC (doneAllC (doneC cs c) l) (undosC (doneC cs c) l)) (undoC cs c.2.1) = cs
    rw [undoneAll_done l (done_ok h)]
    exact undone_done h c

end Go.Proofs.Ytdopefimjabigat
