/-
  Plain mathematics of drawn trees: what is put behind a right tree leaves it right.
-/
import Derived.Test.YtfnneillakdopabBlockN
namespace Go.Proofs.Ytfnneillakdopab
open Go.RowKit Num

theorem blockAtFrom_in (x : BK) (u : List BK) : ∀ (t : List BK) (k : Nat), x ∈ t → blockAtFrom x (t ++ u) k = blockAtFrom x t k
  | [], _, h => by cases h
  | y :: t, k, h => by
    rw [List.cons_append]
    unfold blockAtFrom
    by_cases e : y = x
    · rw [if_pos e, if_pos e]
    · rw [if_neg e, if_neg e]
      exact blockAtFrom_in x u t (k + 1) ((List.mem_cons.1 h).resolve_left fun h => e h.symm)
theorem blockAtFrom_out (x : BK) (u : List BK) : ∀ (t : List BK) (k : Nat), x ∉ t → blockAtFrom x (t ++ u) k = blockAtFrom x u (k + t.length)
  | [], k, _ => by simp
  | y :: t, k, h => by
    rw [List.cons_append]
    have e : ¬ y = x := fun e => h (by rw [e]; exact List.mem_cons_self)
    conv => lhs; unfold blockAtFrom
    rw [if_neg e, blockAtFrom_out x u t (k + 1) fun h' => h (List.mem_cons_of_mem _ h'), List.length_cons]
    rw [show k + 1 + t.length = k + (t.length + 1) by omega]
theorem blockAt_in {t u : List BK} {x : BK} (h : x ∈ t) : blockAt (t ++ u) x = blockAt t x := blockAtFrom_in x u t 0 h
theorem blockAt_new {t : List BK} {x : BK} (h : x ∉ t) : blockAt (t ++ [x]) x = (t.length : Int) := by
  unfold blockAt; rw [blockAtFrom_out x _ t 0 h]; simp [blockAtFrom]
theorem blockAt_out {t : List BK} {x : BK} (h : x ∉ t) : blockAt t x = -1 := by
  rcases blockAt_cases t x with h1 | ⟨j, hj, _, h2, _⟩
  · exact h1.1
  · exact absurd (by rw [← h2]; exact List.getElem_mem hj) h
theorem treeB_inv {t : List BK} (h : treeB t = true) : inB (t.length : Int) 1 60 = true ∧ headB t = firstB ∧ treeTo t t.length := by
  unfold treeB at h
  simp only [Bool.and_eq_true, decide_eq_true_eq] at h
  refine ⟨h.1, h.2.1, fun i hi h0 => ?_⟩
  have := List.all_eq_true.1 h.2.2 i (List.mem_range.2 hi)
  simpa [h0] using this
theorem inB_iff {x lo hi : Int} : inB x lo hi = true ↔ lo ≤ x ∧ x ≤ hi := by unfold inB; simp
theorem treeB_push {t : List BK} {b : BK} (h : treeB t = true) (hb : blockB t b = true) (hn : b ∉ t) (hl : t.length < 60) : treeB (t ++ [b]) = true := by
  obtain ⟨h0, h1, h2⟩ := treeB_inv h
  have hp := inB_iff.1 h0
  refine treeB_all (inB_iff.2 ⟨by simp; omega, by simp; omega⟩) ?_ fun i hi hi0 => ?_
  · rw [← h1]; unfold headB; rw [List.getElem?_append_left (by omega)]
  · simp at hi
    by_cases e : i < t.length
    · have := h2 i e hi0
      unfold treeAt at this ⊢
      rw [List.getElem?_append_left e, List.take_append_of_le_length (by omega)]
      rw [List.getElem?_eq_getElem e] at this ⊢
      simp only at this ⊢
      rw [blockAt_in (List.getElem_mem e)]
      exact this
    · have e : i = t.length := by omega
      subst e
      unfold treeAt
      rw [List.getElem?_append_right (Nat.le_refl _)]
      simp [hb, blockAt_new hn]
theorem treeB_one : treeB [firstB] = true := by decide
theorem put_new_of {t : List BK} {b : BK} (hb : blockB t b = true) (hn : b ∉ t) (hl : t.length < 60) : putAt t b = (t.length : Int) ∧ putT t b = t ++ [b] :=
  put_new (by rw [blockAt_out hn]; decide) fun h => h.elim (fun h => by rw [hb] at h; cases h) (fun h => by omega)
theorem put_again {t : List BK} {b : BK} (hn : b ∉ t) : putAt (t ++ [b]) b = (t.length : Int) ∧ putT (t ++ [b]) b = t ++ [b] := by
  have h := blockAt_new hn
  have := put_there (t := t ++ [b]) (b := b) (by rw [h]; omega)
  rw [h] at this
  exact this

/-- a block on the one at the place k -/
def onB (t : List BK) (k : Nat) (more : Int) (l : List CM) (ph : Int) : BK := (((k : Int), viewAt t k + more), (l, (if k = 0 then 0 else ph, viewAt t k, (k : Int), if k = 0 then 0 else 7)))
/-- commands that are drawn -/
def smallC (l : List CM) : Prop := l.length ≤ 4 ∧ ∀ c ∈ l, cmdB c = true ∧ c.2.1.size ≤ 3
/-- a drawn tree -/
structure Drw (t : List BK) (n : Nat) : Prop where
  tree : treeB t = true
  len : t.length ≤ n
  views : ∀ i (h : i < t.length), 0 ≤ t[i].1.2 ∧ t[i].1.2 ≤ 2 * (i : Int)
  near : ∀ b ∈ t, b = firstB ∨ ∃ p, ∃ _ : p < t.length, b.1.1 = (p : Int) ∧ b.1.2 ≤ viewAt t p + 2
  small : ∀ b ∈ t, smallC b.2.1
theorem Drw.pos {t : List BK} {n : Nat} (h : Drw t n) : 0 < t.length := by have := inB_iff.1 (treeB_inv h.tree).1; omega
theorem Drw.le {t : List BK} {n m : Nat} (h : Drw t n) (hm : n ≤ m) : Drw t m := ⟨h.tree, by have := h.len; omega, h.views, h.near, h.small⟩
theorem drw_one : Drw [firstB] 1 := by
  refine ⟨treeB_one, by simp, fun i h => ?_, fun b hb => Or.inl (by simpa using hb), fun b hb => ?_⟩
  · have : i = 0 := by simpa using h
    subst this; exact ⟨Int.le_refl _, Int.le_refl _⟩
  · have : b = firstB := by simpa using hb
    subst this; exact ⟨Nat.zero_le _, fun c hc => by cases hc⟩
theorem viewAt_app {t u : List BK} {p : Nat} (h : p < t.length) : viewAt (t ++ u) p = viewAt t p := by
  unfold viewAt; rw [List.getElem?_append_left (by omega)]
theorem onB_ok {t : List BK} {k : Nat} {more : Int} {l : List CM} {ph : Int} (hk : k < t.length) (hm : 1 ≤ more) (hv : viewAt t k + more ≤ 900) (hl : smallC l) : blockB t (onB t k more l ph) = true := by
  rw [blockB_all (inB_iff.2 ⟨by show (0 : Int) ≤ (k : Int); omega, by show (k : Int) ≤ _; omega⟩) (by show viewAt t (k : Int) < viewAt t (k : Int) + more; omega) hv hl.1 (fun j hj _ => (hl.2 _ (List.getElem_mem hj)).1)]
  simp [onB]
theorem Drw.put {t : List BK} {n k : Nat} {more : Int} {l : List CM} {ph : Int} (h : Drw t n) (hk : k < t.length) (h1 : 1 ≤ more) (h2 : more ≤ 2) (hl : smallC l) (hn : n < 50) : Drw (putT t (onB t k more l ph)) (n + 1) := by
  have hv := h.views k hk
  have hat := viewAt_at hk
  have hlen := h.len
  have hok : blockB t (onB t k more l ph) = true := onB_ok hk h1 (by rw [hat]; omega) hl
  by_cases hin : onB t k more l ph ∈ t
  · have : putT t (onB t k more l ph) = t := by
      refine (put_there ?_).2
      rcases blockAt_cases t (onB t k more l ph) with h3 | ⟨j, _, h3, _⟩
      · exact absurd hin h3.2
      · rw [h3]; omega
    rw [this]; exact h.le (by omega)
  · rw [(put_new_of hok hin (by omega)).2]
    refine ⟨treeB_push h.tree hok hin (by omega), by simp; omega, fun i hi => ?_, fun x hx => ?_, fun x hx => ?_⟩
    · by_cases e : i < t.length
      · rw [List.getElem_append_left e]; exact h.views i e
      · have e : i = t.length := by simp at hi; omega
        subst e
        rw [List.getElem_append_right (Nat.le_refl _)]
        simp only [Nat.sub_self, List.getElem_cons_zero]
        show 0 ≤ viewAt t (k : Int) + more ∧ viewAt t (k : Int) + more ≤ _
        rw [hat]; omega
    · rcases List.mem_append.1 hx with hx | hx
      · rcases h.near x hx with e | ⟨p, hp, e1, e2⟩
        · exact Or.inl e
        · exact Or.inr ⟨p, by simp; omega, e1, by rw [viewAt_app hp]; exact e2⟩
      · simp at hx; subst hx
        refine Or.inr ⟨k, by simp; omega, rfl, ?_⟩
        rw [viewAt_app hk]
        show viewAt t (k : Int) + more ≤ _
        omega
    · rcases List.mem_append.1 hx with hx | hx
      · exact h.small x hx
      · simp at hx; subst hx; exact hl
/-- a block three Views above its parent's stands in no drawn tree -/
theorem Drw.far {t : List BK} {n : Nat} (h : Drw t n) {b : BK} {k : Nat} (hk : b.1.1 = (k : Int)) (hv : b.1.2 = viewAt t k + 3) : b ∉ t := fun hb => by
  rcases h.near b hb with e | ⟨p, _, e1, e2⟩
  · rw [e] at hk; have : (-1 : Int) = (k : Int) := hk; omega
  · have : p = k := by omega
    subst this
    omega

end Go.Proofs.Ytfnneillakdopab
