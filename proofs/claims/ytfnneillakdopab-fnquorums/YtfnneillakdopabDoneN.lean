/-
  Plain mathematics of the accounts: commands, and what they do to a list of accounts.
-/
import Derived.Test.YtfnneillakdopabCellN
namespace Go.Proofs.Ytfnneillakdopab
open Go.RowKit Num

theorem less_eq : ∀ (x y : List UInt8), Op.bytesLess x y = decide (x < y)
  | [], [] => by simp [Op.bytesLess]
  | _ :: _, [] => by simp [Op.bytesLess]
  | [], _ :: _ => by simp [Op.bytesLess]
  | a :: x, b :: y => by
    rw [Op.bytesLess, less_eq x y]
    simp only [List.cons_lt_cons_iff]
    by_cases h1 : a < b <;> by_cases h2 : a = b <;> by_cases h3 : x < y <;> simp [h1, h2, h3]

/-- a key stands ahead of another one -/
def kLt (a b : ByteArray) : Bool := Op.bytesLess a.toList b.toList
theorem kLt_iff {a b : ByteArray} : kLt a b = true ↔ a.data.toList < b.data.toList := by
  unfold kLt; rw [less_eq, ByteArray.toList_eq, ByteArray.toList_eq]; simp
theorem kLt_trans {a b c : ByteArray} (h : kLt a b = true) (h2 : kLt b c = true) : kLt a c = true := kLt_iff.2 (List.lt_trans (kLt_iff.1 h) (kLt_iff.1 h2))
theorem kLt_irr (a : ByteArray) : kLt a a = false := by
  cases h : kLt a a with
  | false => rfl
  | true => exact absurd (kLt_iff.1 h) (List.lt_irrefl _)
theorem kLt_ne {a b : ByteArray} (h : kLt a b = true) : a ≠ b := fun e => by rw [e, kLt_irr] at h; cases h
theorem kLt_asym {a b : ByteArray} (h : kLt a b = true) : kLt b a = false := by
  cases h2 : kLt b a with
  | false => rfl
  | true => have := kLt_trans h h2; rw [kLt_irr] at this; cases this
theorem kLt_tri {a b : ByteArray} (h : kLt a b = false) (h2 : kLt b a = false) : a = b := by
  have e1 : ¬ a.data.toList < b.data.toList := fun h' => by rw [kLt_iff.2 h'] at h; cases h
  have e2 : ¬ b.data.toList < a.data.toList := fun h' => by rw [kLt_iff.2 h'] at h2; cases h2
  have e := List.le_antisymm (List.not_lt.1 e2) (List.not_lt.1 e1)
  apply ByteArray.ext; apply Array.ext'; exact e
theorem kLt_flip {a b : ByteArray} : (!(Op.bytesLess a.toList b.toList || a.toList == b.toList)) = kLt b a := by
  show (!(kLt a b || a.toList == b.toList)) = kLt b a
  by_cases e : a = b
  · subst e; rw [kLt_irr]; simp
  · rw [ba_ne e, Bool.or_false]
    cases h : kLt a b with
    | true => rw [kLt_asym h]; rfl
    | false =>
      cases h2 : kLt b a with
      | true => rfl
      | false => exact absurd (kLt_tri h h2) e

/-- the accounts' keys ascend -/
def Asc (cs : CL) : Prop := cs.Pairwise fun a b => kLt a.1 b.1 = true

theorem asc_of_steps (cs : CL) (h : ∀ j, (hj : j + 1 < cs.length) → kLt cs[j].1 cs[j + 1].1 = true) : Asc cs := by
  induction cs with
  | nil => exact List.Pairwise.nil
  | cons c cs ih =>
    have hA : Asc cs := ih fun j hj => by have := h (j + 1) (by simpa using hj); simpa using this
    refine List.Pairwise.cons (fun b hb => ?_) hA
    cases cs with
    | nil => cases hb
    | cons d ds =>
      have h0 := h 0 (by simp)
      simp at h0
      rcases List.mem_cons.1 hb with rfl | hb
      · exact h0
      · exact kLt_trans h0 (List.rel_of_pairwise_cons hA hb)
theorem steps_of_asc {cs : CL} (h : Asc cs) (j : Nat) (hj : j + 1 < cs.length) : kLt cs[j].1 cs[j + 1].1 = true :=
  List.pairwise_iff_getElem.1 h j (j + 1) (by omega) hj (by omega)

theorem cellsB_iff {cs : CL} : cellsB cs = true ↔ (∀ c ∈ cs, keyB c.1 = true ∧ numB c.2 = true) ∧ Asc cs ∧ cs.length ≤ 12 := by
  constructor
  · intro h
    unfold cellsB at h
    rw [Bool.and_eq_true, List.all_eq_true, decide_eq_true_eq] at h
    obtain ⟨h, hl⟩ := h
    refine ⟨fun c hc => ?_, asc_of_steps cs fun j hj => ?_, hl⟩
    · obtain ⟨i, hi, rfl⟩ := List.mem_iff_getElem.1 hc
      have := h i (List.mem_range.2 hi)
      cases i with
      | zero => rw [okAt_zero hi] at this; simp at this; exact this
      | succ j => rw [okAt_succ hi] at this; simp at this; exact ⟨this.1, this.2.1⟩
    · have := h (j + 1) (List.mem_range.2 hj)
      rw [okAt_succ hj] at this
      simp at this
      exact this.2.2
  · rintro ⟨h, hA, hl⟩
    have hk : okTo cs cs.length := fun i hi => by
      have hc := h cs[i] (List.getElem_mem hi)
      cases i with
      | zero => rw [okAt_zero hi, hc.1, hc.2]; rfl
      | succ j => rw [okAt_succ hi, hc.1, hc.2]; exact steps_of_asc hA j hi
    rw [cellsB_all hk]; simpa using hl

/-- an account with this key is there -/
def hasK (cs : CL) (k : ByteArray) : Bool := cs.any fun c => decide (c.1 = k)
theorem hasK_iff {cs : CL} {k : ByteArray} : hasK cs k = true ↔ ∃ c ∈ cs, c.1 = k := by simp [hasK]
theorem hasK_no {cs : CL} {k : ByteArray} : hasK cs k = false ↔ ∀ c ∈ cs, c.1 ≠ k := by simp [hasK]

theorem cellAtFrom_no {cs : CL} {k : ByteArray} (h : hasK cs k = false) : ∀ i, cellAtFrom k cs i = -1 := by
  induction cs with
  | nil => intro i; rfl
  | cons c cs ih =>
    intro i
    have hc := (hasK_no.1 h) c (by simp)
    unfold cellAtFrom
    rw [if_neg hc]
    exact ih (hasK_no.2 fun d hd => hasK_no.1 h d (by simp [hd])) _
theorem cellAt_no {cs : CL} {k : ByteArray} (h : hasK cs k = false) : cellAt cs k = -1 := cellAtFrom_no h 0
theorem cellAtFrom_yes {cs : CL} {k : ByteArray} (h : hasK cs k = true) : ∀ i, ∃ j, ∃ hj : j < cs.length, cellAtFrom k cs i = ((i + j : Nat) : Int) ∧ cs[j].1 = k := by
  induction cs with
  | nil => simp [hasK] at h
  | cons c cs ih =>
    intro i
    unfold cellAtFrom
    by_cases hc : c.1 = k
    · rw [if_pos hc]; exact ⟨0, by simp, by simp, by simpa using hc⟩
    · rw [if_neg hc]
      have h' : hasK cs k = true := by
        obtain ⟨d, hd, e⟩ := hasK_iff.1 h
        rcases List.mem_cons.1 hd with rfl | hd
        · exact absurd e hc
        · exact hasK_iff.2 ⟨d, hd, e⟩
      obtain ⟨j, hj, e, ek⟩ := ih h' (i + 1)
      exact ⟨j + 1, by simp; omega, by rw [e]; congr 1; omega, by simpa using ek⟩
theorem cellAt_yes {cs : CL} {k : ByteArray} (h : hasK cs k = true) : ∃ j, ∃ hj : j < cs.length, cellAt cs k = (j : Int) ∧ cs[j].1 = k := by
  obtain ⟨j, hj, e, ek⟩ := cellAtFrom_yes h 0
  exact ⟨j, hj, by unfold cellAt; rw [e]; simp, ek⟩

/-- an account put in its place -/
def putC (cs : CL) (x : ByteArray × Int) : CL := cs.filter (fun c => kLt c.1 x.1) ++ x :: cs.filter (fun c => kLt x.1 c.1)

theorem mem_putC {cs : CL} {x c : ByteArray × Int} : c ∈ putC cs x ↔ c = x ∨ (c ∈ cs ∧ c.1 ≠ x.1) := by
  unfold putC
  simp only [List.mem_append, List.mem_cons, List.mem_filter]
  constructor
  · rintro (⟨h, l⟩ | rfl | ⟨h, l⟩)
    · exact Or.inr ⟨h, kLt_ne l⟩
    · exact Or.inl rfl
    · exact Or.inr ⟨h, (kLt_ne l).symm⟩
  · rintro (rfl | ⟨h, hn⟩)
    · exact Or.inr (Or.inl rfl)
    · cases hl : kLt c.1 x.1 with
      | true => exact Or.inl ⟨h, rfl⟩
      | false =>
        refine Or.inr (Or.inr ⟨h, ?_⟩)
        cases h2 : kLt x.1 c.1 with
        | true => rfl
        | false => exact absurd (kLt_tri hl h2) hn
theorem asc_putC {cs : CL} {x : ByteArray × Int} (h : Asc cs) : Asc (putC cs x) := by
  unfold Asc putC
  rw [List.pairwise_append]
  refine ⟨List.Pairwise.filter _ h, List.Pairwise.cons (fun b hb => (List.mem_filter.1 hb).2) (List.Pairwise.filter _ h), fun a ha b hb => ?_⟩
  have h1 := (List.mem_filter.1 ha).2
  rcases List.mem_cons.1 hb with rfl | hb
  · exact h1
  · exact kLt_trans h1 (List.mem_filter.1 hb).2
theorem hasK_putC {cs : CL} {x : ByteArray × Int} {k : ByteArray} : hasK (putC cs x) k = (decide (x.1 = k) || hasK cs k) := by
  rw [Bool.eq_iff_iff, hasK_iff, Bool.or_eq_true, hasK_iff]
  constructor
  · rintro ⟨c, hc, rfl⟩
    rcases mem_putC.1 hc with rfl | ⟨hc, _⟩
    · exact Or.inl (by simp)
    · exact Or.inr ⟨c, hc, rfl⟩
  · rintro (h | ⟨c, hc, rfl⟩)
    · exact ⟨x, mem_putC.2 (Or.inl rfl), by simpa using h⟩
    · by_cases e : c.1 = x.1
      · exact ⟨x, mem_putC.2 (Or.inl rfl), e.symm⟩
      · exact ⟨c, mem_putC.2 (Or.inr ⟨hc, e⟩), rfl⟩
theorem len_putC {cs : CL} {x : ByteArray × Int} (h : Asc cs) : (putC cs x).length + (if hasK cs x.1 then 1 else 0) = cs.length + 1 := by
  induction cs with
  | nil => simp [putC, hasK]
  | cons c cs ih =>
    have hA : Asc cs := List.Pairwise.of_cons h
    have hc : ∀ d ∈ cs, kLt c.1 d.1 = true := fun d hd => List.rel_of_pairwise_cons h hd
    have ih := ih hA
    unfold putC at ih ⊢
    by_cases e : c.1 = x.1
    · have hn : hasK cs x.1 = false := hasK_no.2 fun d hd he => by have := hc d hd; rw [e, he, kLt_irr] at this; cases this
      have hy : hasK (c :: cs) x.1 = true := hasK_iff.2 ⟨c, by simp, e⟩
      rw [hn] at ih
      rw [hy]
      rw [List.filter_cons_of_neg (by rw [e, kLt_irr]; simp), List.filter_cons_of_neg (by rw [e, kLt_irr]; simp)]
      simp at ih ⊢; omega
    · have hh : hasK (c :: cs) x.1 = hasK cs x.1 := by simp [hasK, e]
      rw [hh]
      cases hl : kLt c.1 x.1 with
      | true =>
        rw [List.filter_cons_of_pos (by rw [hl]), List.filter_cons_of_neg (by rw [kLt_asym hl]; simp)]
        simp at ih ⊢; omega
      | false =>
        have hg : kLt x.1 c.1 = true := by
          cases h2 : kLt x.1 c.1 with
          | true => rfl
          | false => exact absurd (kLt_tri hl h2) e
        rw [List.filter_cons_of_neg (by rw [hl]; simp), List.filter_cons_of_pos (by rw [hg])]
        simp at ih ⊢; omega

theorem len_drop {cs : CL} {k : ByteArray} (h : Asc cs) : (cs.filter fun c => decide (c.1 ≠ k)).length + (if hasK cs k = true then 1 else 0) = cs.length := by
  induction cs with
  | nil => simp [hasK]
  | cons c cs ih =>
    have hA : Asc cs := List.Pairwise.of_cons h
    have ih := ih hA
    by_cases e : c.1 = k
    · have hn : hasK cs k = false := hasK_no.2 fun d hd he => by have := List.rel_of_pairwise_cons h hd; rw [e, he, kLt_irr] at this; cases this
      have hy : hasK (c :: cs) k = true := hasK_iff.2 ⟨c, by simp, e⟩
      rw [hn] at ih
      rw [hy, List.filter_cons_of_neg (by simp [e])]
      simp only [List.length_cons, if_true]
      simp only [Bool.false_eq_true, if_false] at ih
      omega
    · have hh : hasK (c :: cs) k = hasK cs k := by simp [hasK, e]
      rw [hh, List.filter_cons_of_pos (by simp [e]), List.length_cons, List.length_cons]
      omega

/-- a command: its kind, its key, its number -/
abbrev CM := Int × ByteArray × Int
def cmdB (c : CM) : Bool := inB c.1 1 3 && (keyB c.2.1 && numB c.2.2)
/-- the number that an account comes to -/
def comes (cs : CL) (c : CM) : Int := if c.1 = 1 then c.2.2 else match cs.find? (fun d => decide (d.1 = c.2.1)) with
  | none => c.2.2
  | some d => if c.1 = 3 then d.2 - c.2.2 else d.2 + c.2.2
/-- what a command tells -/
def codeC (cs : CL) (c : CM) : Int :=
  if (cellsB cs && cmdB c) = false then 2
  else if c.1 ≠ 1 ∧ hasK cs c.2.1 = false then 1
  else if numB (comes cs c) = false ∨ (hasK cs c.2.1 = false ∧ 12 ≤ cs.length) then 2 else 0
/-- what a command leaves -/
def doneC (cs : CL) (c : CM) : CL := if codeC cs c = 0 then putC cs (c.2.1, comes cs c) else cs

theorem done_ok {cs : CL} {c : CM} (h : cellsB cs = true) : cellsB (doneC cs c) = true := by
  unfold doneC
  by_cases h0 : codeC cs c = 0
  · rw [if_pos h0]
    obtain ⟨hk, hA, hl⟩ := cellsB_iff.1 h
    unfold codeC at h0
    split at h0
    · omega
    rename_i h1
    split at h0
    · omega
    rename_i h2
    split at h0
    · omega
    rename_i h3
    rw [h] at h1
    simp only [Bool.true_and, Bool.not_eq_false] at h1
    unfold cmdB at h1
    simp only [Bool.and_eq_true] at h1
    have h3a : numB (comes cs c) = true := by
      cases e : numB (comes cs c) with
      | true => rfl
      | false => exact absurd (Or.inl e) h3
    refine cellsB_iff.2 ⟨fun d hd => ?_, asc_putC hA, ?_⟩
    · rcases mem_putC.1 hd with rfl | ⟨hd, _⟩
      · exact ⟨h1.2.1, h3a⟩
      · exact hk d hd
    · have := len_putC (x := (c.2.1, comes cs c)) hA
      cases hh : hasK cs c.2.1 with
      | true => simp [hh] at this; omega
      | false =>
        simp [hh] at this
        have : ¬ 12 ≤ cs.length := fun h' => h3 (Or.inr ⟨hh, h'⟩)
        omega
  · rw [if_neg h0]; exact h

/-- commands one behind the other -/
def doneAllC : CL → List CM → CL
  | cs, [] => cs
  | cs, c :: l => doneAllC (doneC cs c) l
def codesC : CL → List CM → List Int
  | _, [] => []
  | cs, c :: l => codeC cs c :: codesC (doneC cs c) l
theorem codesC_len : ∀ (cs : CL) (l : List CM), (codesC cs l).length = l.length
  | _, [] => rfl
  | cs, c :: l => by simp [codesC, codesC_len]
theorem doneAll_bad {cs : CL} (h : cellsB cs = false) : ∀ l : List CM, doneAllC cs l = cs ∧ codesC cs l = List.replicate l.length 2
  | [] => ⟨rfl, rfl⟩
  | c :: l => by
    have hc : codeC cs c = 2 := by unfold codeC; rw [h]; rfl
    have hd : doneC cs c = cs := by unfold doneC; rw [hc]; rfl
    have := doneAll_bad h l
    simp [doneAllC, codesC, hd, hc, this, List.replicate_succ]
theorem doneAll_snoc : ∀ (cs : CL) (l : List CM) (c : CM), doneAllC cs (l ++ [c]) = doneC (doneAllC cs l) c
  | _, [], _ => rfl
  | cs, d :: l, c => by simp [doneAllC, doneAll_snoc]
theorem codes_snoc : ∀ (cs : CL) (l : List CM) (c : CM), codesC cs (l ++ [c]) = codesC cs l ++ [codeC (doneAllC cs l) c]
  | _, [], _ => rfl
  | cs, d :: l, c => by simp [codesC, doneAllC, codes_snoc]
theorem doneAll_ok : ∀ {cs : CL} (l : List CM), cellsB cs = true → cellsB (doneAllC cs l) = true
  | _, [], h => h
  | _, _ :: l, h => doneAll_ok l (done_ok h)

theorem code_bad {cs : CL} {c : CM} (h : cellsB cs = false) : codeC cs c = 2 := by unfold codeC; rw [h]; rfl
theorem code_cmd {cs : CL} {c : CM} (h : cmdB c = false) : codeC cs c = 2 := by unfold codeC; rw [h, Bool.and_false]; rfl
theorem done_code {cs : CL} {c : CM} (h : codeC cs c ≠ 0) : doneC cs c = cs := by unfold doneC; rw [if_neg h]
theorem done_zero {cs : CL} {c : CM} (h : codeC cs c = 0) : doneC cs c = putC cs (c.2.1, comes cs c) := by unfold doneC; rw [if_pos h]

theorem code_none {cs : CL} {c : CM} (h : cellsB cs = true) (h2 : cmdB c = true) (h3 : c.1 ≠ 1) (h4 : hasK cs c.2.1 = false) : codeC cs c = 1 := by
  unfold codeC; rw [h, h2, if_neg (by decide), if_pos ⟨h3, h4⟩]
theorem code_over {cs : CL} {c : CM} (h : cellsB cs = true) (h2 : cmdB c = true) (h3 : ¬ (c.1 ≠ 1 ∧ hasK cs c.2.1 = false)) (h4 : numB (comes cs c) = false ∨ (hasK cs c.2.1 = false ∧ 12 ≤ cs.length)) : codeC cs c = 2 := by
  unfold codeC; rw [h, h2, if_neg (by decide), if_neg h3, if_pos h4]
theorem code_done {cs : CL} {c : CM} (h : cellsB cs = true) (h2 : cmdB c = true) (h3 : ¬ (c.1 ≠ 1 ∧ hasK cs c.2.1 = false)) (h4 : ¬ (numB (comes cs c) = false ∨ (hasK cs c.2.1 = false ∧ 12 ≤ cs.length))) : codeC cs c = 0 := by
  unfold codeC; rw [h, h2, if_neg (by decide), if_neg h3, if_neg h4]
theorem comes_set {cs : CL} {c : CM} (h : c.1 = 1) : comes cs c = c.2.2 := by unfold comes; rw [if_pos h]
theorem find_at {cs : CL} (hA : Asc cs) {j : Nat} (hj : j < cs.length) : cs.find? (fun d => decide (d.1 = cs[j].1)) = some cs[j] := by
  rw [List.find?_eq_some_iff_getElem]
  refine ⟨by simp, j, hj, rfl, fun i hi => ?_⟩
  have := List.pairwise_iff_getElem.1 hA i j (by omega) hj hi
  simpa using kLt_ne this
theorem comes_add {cs : CL} {kd num : Int} (hA : Asc cs) {j : Nat} (hj : j < cs.length) (h1 : kd ≠ 1) (h3 : kd ≠ 3) : comes cs (kd, cs[j].1, num) = cs[j].2 + num := by
  unfold comes; simp only; rw [if_neg h1, find_at hA hj]; simp only; rw [if_neg h3]
theorem comes_take {cs : CL} {num : Int} (hA : Asc cs) {j : Nat} (hj : j < cs.length) : comes cs (3, cs[j].1, num) = cs[j].2 - num := by
  unfold comes; simp only; rw [if_neg (by decide), find_at hA hj]; rfl
theorem numB_bd {n : Int} (h : numB n = true) : 0 ≤ n ∧ n ≤ 1000000000 := by unfold numB inB at h; simpa using h
theorem cmdB_bd {c : CM} (h : cmdB c = true) : (1 ≤ c.1 ∧ c.1 ≤ 3) ∧ keyB c.2.1 = true ∧ numB c.2.2 = true := by
  unfold cmdB at h
  simp only [Bool.and_eq_true] at h
  refine ⟨?_, h.2.1, h.2.2⟩
  have := h.1
  unfold inB at this; simpa using this

/-- a list of accounts of a size that is met -/
def okL (cs : CL) : Prop := (cs.length : Int) ≤ 1048576 ∧ ∀ c ∈ cs, (c.1.size : Int) ≤ 1048576
theorem okL_done {cs : CL} {c : CM} (h : okL cs) (hk : (c.2.1.size : Int) ≤ 1048576) : okL (doneC cs c) := by
  by_cases h0 : codeC cs c = 0
  · have hcb : cellsB cs = true := by
      cases hc : cellsB cs with
      | true => rfl
      | false => rw [code_bad hc] at h0; omega
    have := (cellsB_iff.1 (done_ok (c := c) hcb)).2.2
    refine ⟨by omega, fun d hd => ?_⟩
    rw [done_zero h0] at hd
    rcases mem_putC.1 hd with rfl | ⟨hd, _⟩
    · exact hk
    · exact h.2 d hd
  · rw [done_code h0]; exact h
theorem okL_all {cs : CL} : ∀ (l : List CM), okL cs → (∀ c ∈ l, (c.2.1.size : Int) ≤ 1048576) → okL (doneAllC cs l) := by
  intro l
  induction l generalizing cs with
  | nil => intro h _; exact h
  | cons c l ih => intro h hl; exact ih (okL_done h (hl c (by simp))) fun d hd => hl d (by simp [hd])

theorem take_snoc {α : Type} {l : List α} {k : Nat} (h : k < l.length) : l.take (k + 1) = l.take k ++ [l[k]] := by
  rw [List.take_add_one, List.getElem?_eq_getElem h]; rfl

end Go.Proofs.Ytfnneillakdopab
