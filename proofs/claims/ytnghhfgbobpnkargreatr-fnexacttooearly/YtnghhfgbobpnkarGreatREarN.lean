/-
  What is done too early is not too long: each block of a tree comes up once.
-/
import Derived.Test.YtnghhfgbobpnkarGreatREarS
import Derived.Test.YtnghhfgbobpnkarGreatRThrN
namespace Go.Proofs.YtnghhfgbobpnkarGreatR
open Go.RowKit Num

/-- how many commands the first m blocks have -/
def smC (t : List BK) (m : Nat) : Nat := ((t.take m).map fun b => b.2.1.length).sum
theorem smC_le (t : List BK) {m n : Nat} (h : m ≤ n) : smC t m ≤ smC t n := by
  have e : t.take n = t.take m ++ (t.take n).drop m := by
    have := (List.take_append_drop m (t.take n)).symm
    rw [List.take_take, Nat.min_eq_left h] at this
    exact this
  unfold smC
  rw [e, List.map_append, List.sum_append]
  omega
theorem smC_step {t : List BK} {m : Nat} (h : m < t.length) : smC t (m + 1) = smC t m + (cmdsAt t (m : Int)).length := by
  have hc : cmdsAt t (m : Int) = t[m].2.1 := by unfold cmdsAt; rw [if_pos ⟨by omega, by omega⟩]; simp [h]
  unfold smC
  rw [List.take_add_one, List.getElem?_eq_getElem h, List.map_append, List.sum_append, hc]
  simp
theorem smC_all (t : List BK) (m : Nat) : smC t m ≤ wtC t := by
  have h1 : smC t m ≤ smC t (m + t.length) := smC_le t (by omega)
  refine Nat.le_trans h1 ?_
  unfold smC
  rw [List.take_of_length_le (by omega)]
  clear h1
  induction t with
  | nil => simp
  | cons b t ih => simp only [List.map_cons, List.sum_cons, wtC]; omega
/-- how many commands these blocks have -/
def cmN (t : List BK) : List Int → Nat
  | [] => 0
  | x :: l => (cmdsAt t x).length + cmN t l
theorem cmN_app (t : List BK) (l l' : List Int) : cmN t (l ++ l') = cmN t l + cmN t l' := by
  induction l with
  | nil => simp [cmN]
  | cons x l ih => simp only [List.cons_append, cmN, ih]; omega
theorem cmN_rev (t : List BK) (l : List Int) : cmN t l.reverse = cmN t l := by
  induction l with
  | nil => rfl
  | cons x l ih => rw [List.reverse_cons, cmN_app, ih]; simp only [cmN]; omega
theorem cmN_filter (t : List BK) (f : Int → Bool) (l : List Int) : cmN t (l.filter f) ≤ cmN t l := by
  induction l with
  | nil => exact Nat.le_refl _
  | cons x l ih =>
    rw [List.filter_cons]
    split
    · simp only [cmN]; omega
    · simp only [cmN]; omega
theorem downN_cm (t : List BK) : ∀ (n k : Nat) (l : List Nat), downN t n k = some l → cmN t (intsN l) ≤ smC t (k + 1)
  | n, 0, l, h => by cases n <;> (simp [downN] at h; subst h; simp [intsN, cmN])
  | 0, k + 1, l, h => by simp [downN] at h
  | n + 1, k + 1, l, h => by
    unfold downN at h
    split at h
    · rename_i hc
      rw [Option.map_eq_some_iff] at h
      obtain ⟨l', h1, rfl⟩ := h
      have ih := downN_cm t n _ l' h1
      have hle := smC_le t (show (parAt t (k + 1)).toNat + 1 ≤ k + 1 by omega)
      rw [intsN_cons]
      simp only [cmN]
      rw [smC_step hc.1]
      omega
    · cases h
theorem after_cm (t : List BK) (k u : Int) : cmN t (afterI t k u) ≤ wtC t := by
  unfold afterI
  split
  · refine Nat.le_trans (cmN_filter t _ _) ?_
    cases hd : down t k with
    | none => rw [rowI_none hd]; exact Nat.zero_le _
    | some l =>
      rw [rowI_some hd]
      have e : intsN l.reverse = (intsN l).reverse := by unfold intsN; rw [List.map_reverse]
      rw [e, cmN_rev]
      unfold down at hd
      split at hd
      · exact Nat.le_trans (downN_cm t _ _ l hd) (smC_all t _)
      · cases hd
  · exact Nat.zero_le _
theorem earU_cm (t : List BK) : ∀ (l : List Int) (cs : CL), (earU t cs l).length = cmN t l
  | [], _ => rfl
  | k :: l, cs => by simp only [earU, List.length_append, undosC_len, cmN, earU_cm t l]

theorem okL_keys {t : List BK} (ht : okT t) : ∀ (l : List Int) (cs : CL), okL cs → ∀ x ∈ earU t cs l, (x.1.size : Int) ≤ 1048576
  | [], _, _, x, hx => by cases hx
  | k :: l, cs, h, x, hx => by
    rcases List.mem_append.1 hx with hx | hx
    · exact undos_keys cs _ (cmdsAt_ok ht k).1 x hx
    · exact okL_keys ht l _ (okL_all _ h (cmdsAt_ok ht k).1) x hx

theorem early_len {t : List BK} {p : PE} (k : Int) : lenPe (earlyP t p k) = p.row.length + (rowC t (backP p).cells (afterI t k (lastI p.row))).length + (afterI t k (lastI p.row)).length + (earU t (backP p).cells (afterI t k (lastI p.row))).length + p.votes.length + p.news.length := rfl
theorem early_small {t : List BK} {p : PE} {k : Int} (hs : smallPe p) (hk : okT t) (hl : lenPe p + wtB t ≤ 1048576) : smallPe (earlyP t p k) := by
  have ha := after_length t k (lastI p.row)
  have hc := rowC_ok hk (afterI t k (lastI p.row)) _ (okL_back hs)
  have hm := after_cm t k (lastI p.row)
  have hu := earU_cm t (afterI t k (lastI p.row)) (backP p).cells
  have hw : wtB t = t.length + wtC t := rfl
  refine ⟨hs.row, hc.1, ?_, ?_, hs.votes, hs.news, hc.2, okL_keys hk _ _ (okL_back hs)⟩
  · show ((afterI t k (lastI p.row)).length : Int) ≤ 1048576
    omega
  · show ((earU t (backP p).cells (afterI t k (lastI p.row))).length : Int) ≤ 1048576
    omega
theorem early_sum {t : List BK} {p : PE} {k : Int} (hs : smallPe p) (hk : okT t) (hl : lenPe p + wtB t ≤ 1048576) : sumPe (earlyP t p k) := by
  refine sum_of (early_small hs hk hl) ?_
  rw [early_len]
  have ha := after_length t k (lastI p.row)
  have hc := (rowC_ok hk (afterI t k (lastI p.row)) _ (okL_back hs)).1
  have hm := after_cm t k (lastI p.row)
  have hu := earU_cm t (afterI t k (lastI p.row)) (backP p).cells
  have hw : wtB t = t.length + wtC t := rfl
  unfold lenPe at hl
  omega

end Go.Proofs.YtnghhfgbobpnkarGreatR
