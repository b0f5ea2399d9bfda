/-
  Plain mathematics: what VarText, ShortText, Hex and Decimal write is read back.
-/
import Derived.Test.YtnghhfgbobpnkaaDoorRvN
import Derived.Test.YtnghhfgbobpnkaaDoorTen
import Derived.Test.YtnghhfgbobpnkaaDoorHexN
import Derived.Test.YtnghhfgbobpnkaaDoorUnhexN
namespace Go.Proofs.YtnghhfgbobpnkaaDoor.Num

theorem bs_append (a b : ByteArray) : bs (a ++ b) = bs a ++ bs b := by simp [bs, ByteArray.data_append]

theorem vb_len_le : ∀ (k f : Nat) (n : Int), 0 ≤ n → n < 128 ^ (k + 1) → n.toNat ≤ f → (vb f n).length ≤ k + 1
  | 0, f, n, h0, h, hf => by
    rw [vb_small f n (by simp at h; omega)]; simp
  | k + 1, f, n, h0, h, hf => by
    by_cases hn : n ≤ 127
    · rw [vb_small f n hn]; simp
    · obtain ⟨g, hg, hgf⟩ := vb_big f n (by omega) hf
      rw [hg, List.length_cons]
      have := vb_len_le k g (n / 128) (by omega) (by rw [Int.pow_succ] at h; omega) hgf
      omega

theorem rv_back (a : Nat) (tail : List Int) : ∀ (f : Nat) (n N SC : Int) (F i : Nat), 0 ≤ n → n.toNat ≤ f → (vb f n).length ≤ F → N + n * SC ≤ 1000000000 → (0 < n ∨ i = a) →
    rv a F (vb f n ++ tail) N SC i = (N + n * SC, (i : Int) + (vb f n).length, true) := by
  intro f
  induction f with
  | zero =>
    intro n N SC F i h0 hf hF hb hor
    have hn : n = 0 := by omega
    subst hn
    cases F with
    | zero => simp [vb] at hF
    | succ F =>
      have ha : i = a := by rcases hor with h | h; omega; exact h
      show (if (127 : Int) < 0 then _ else _) = _
      rw [if_neg (by omega), if_neg (by simp at hb ⊢; omega)]
      simp [vb]
  | succ f ih =>
    intro n N SC F i h0 hf hF hb hor
    by_cases hn : n ≤ 127
    · rw [vb_small _ n hn] at hF ⊢
      cases F with
      | zero => simp at hF
      | succ F =>
        have e : n % 128 = n := by omega
        show (if (127 : Int) < n then _ else _) = _
        rw [if_neg (by omega), e, if_neg (by rintro (h | h); omega; omega)]
        simp
    · have e : vb (f + 1) n = (n % 128 + 128) :: vb f (n / 128) := by
        show (if 127 < n then (n % 128 + 128) :: vb f (n / 128) else [n]) = _
        rw [if_pos (by omega)]
      rw [e] at hF ⊢
      cases F with
      | zero => simp at hF
      | succ F =>
        have e2 : (n % 128 + 128) % 128 = n % 128 := by omega
        have hm : n % 128 * SC + n / 128 * (SC * 128) = n * SC := by
          have h1 : n / 128 * (SC * 128) = (128 * (n / 128)) * SC := by
            rw [Int.mul_comm SC 128, ← Int.mul_assoc, Int.mul_comm (n / 128) 128]
          rw [h1, ← Int.add_mul, Int.emod_add_mul_ediv]
        show (if (127 : Int) < n % 128 + 128 then rv a F (vb f (n / 128) ++ tail) (N + (n % 128 + 128) % 128 * SC) (SC * 128) (i + 1) else _) = _
        rw [if_pos (by omega), e2, ih (n / 128) (N + n % 128 * SC) (SC * 128) F (i + 1) (by omega) (by omega) (by simpa using hF) (by omega) (.inl (by omega))]
        simp only [List.length_cons, Prod.mk.injEq, and_true]
        constructor <;> omega

theorem read_back (P : ByteArray) (n : Int) (Q : ByteArray) (h0 : 0 ≤ n) (h1 : n ≤ 1000000000) : Go.Proofs.YtnghhfgbobpnkaaDoor.rvOf (P ++ strOfNums (vbs n) ++ Q) P.size = (n, (P.size : Int) + (vbs n).length, true) := by
  have hr := vb_range n.toNat n h0 (Nat.le_refl _)
  have hlen : (vbs n).length ≤ 5 := vb_len_le 4 n.toNat n h0 (by show n < 34359738368; omega) (Nat.le_refl _)
  have hsz : P.size ≤ (P ++ strOfNums (vbs n) ++ Q).size := by rw [ByteArray.size_append, ByteArray.size_append]; omega
  have hd : (bs (P ++ strOfNums (vbs n) ++ Q)).drop P.size = vbs n ++ bs Q := by
    rw [bs_append, bs_append, bs_str (vbs n) hr, List.append_assoc, ← bs_len P, List.drop_left]
  unfold Go.Proofs.YtnghhfgbobpnkaaDoor.rvOf
  rw [if_pos ⟨by omega, by omega⟩]
  unfold rvAt
  rw [Int.toNat_natCast, hd, show P.size + 5 - P.size = 5 by omega]
  have := rv_back P.size (bs Q) n.toNat n 0 1 5 P.size h0 (Nat.le_refl _) hlen (by omega) (.inr rfl)
  simpa [vbs] using this

theorem dd_len_le : ∀ (k f n : Nat), n < 10 ^ k → n ≤ f → (dd f n).length ≤ k
  | 0, f, n, h, _ => by
    have : n = 0 := by simp at h; exact h
    subst this; rw [dd_zero]; simp
  | k + 1, f, n, h, hf => by
    by_cases h0 : n = 0
    · subst h0; rw [dd_zero]; simp
    · obtain ⟨g, hg, hgf⟩ := dd_step f n (by omega) hf
      rw [hg, List.length_append]
      have := dd_len_le k g (n / 10) (by rw [Nat.pow_succ] at h; omega) hgf
      simp; omega
theorem dd_num : ∀ (f n : Nat), n ≤ f → num10 (dd f n) = n ∧ tens (dd f n)
  | 0, n, h => by
    have : n = 0 := by omega
    subst this; exact ⟨rfl, tens_nil⟩
  | f + 1, n, h => by
    by_cases h0 : n = 0
    · subst h0; rw [dd_zero]; exact ⟨rfl, tens_nil⟩
    · have e : dd (f + 1) n = dd f (n / 10) ++ [(48 : Int) + ((n % 10 : Nat) : Int)] := by
        show (if n = 0 then [] else dd f (n / 10) ++ [(48 : Int) + ((n % 10 : Nat) : Int)]) = _
        rw [if_neg h0]
      obtain ⟨h1, h2⟩ := dd_num f (n / 10) (by omega)
      rw [e, num10_snoc, h1]
      exact ⟨by omega, tens_snoc h2 (by omega) (by omega)⟩
theorem dec_back (n : Int) (h0 : 0 ≤ n) (h1 : n ≤ 1000000000) : rdOk (strOfNums (dec n)) ∧ num10 (bs (strOfNums (dec n))) = n ∧ (strOfNums (dec n)).size ≤ 10 := by
  have hb := bs_str (dec n) (dec_range_nonneg n h0)
  unfold rdOk
  rw [hb, strOfNums_size]
  by_cases hz : n = 0
  · subst hz
    refine ⟨⟨?_, by decide, rfl⟩, rfl, by decide⟩
    intro x hx; simp [dec] at hx; omega
  · rw [dec_pos n (by omega)]
    obtain ⟨k1, k2⟩ := dd_num n.natAbs n.natAbs (Nat.le_refl _)
    have hn : num10 (dd n.natAbs n.natAbs) = n := by rw [k1]; omega
    refine ⟨⟨k2, by rw [hn]; exact h1, by rw [hn, dec_pos n (by omega)]⟩, hn, dd_len_le 10 _ _ (by show n.natAbs < 10000000000; omega) (Nat.le_refl _)⟩

theorem short_back (t : ByteArray) (L : List Int) : (strOfNums L ++ t).extract L.length (L.length + t.size) = t := by
  apply ByteArray.ext
  rw [ByteArray.data_extract, ByteArray.data_append]
  have e1 : (strOfNums L).data.size = L.length := strOfNums_size L
  have e2 : t.data.size = t.size := rfl
  apply Array.ext'
  rw [Array.toList_extract, Array.toList_append, List.extract_eq_take_drop]
  have e3 : L.length = (strOfNums L).data.toList.length := (Array.length_toList.trans e1).symm
  rw [e3, List.drop_left, show (strOfNums L).data.toList.length + t.size - (strOfNums L).data.toList.length = t.size by omega]
  exact List.take_of_length_le (by rw [Array.length_toList]; exact Nat.le_refl _)

theorem figs_at : ∀ (l : List Int) (j : Nat), j < l.length → (figs l).getD (2 * j) 0 = fig (l.getD j 0 / 16) ∧ (figs l).getD (2 * j + 1) 0 = fig (l.getD j 0 % 16)
  | [], j, h => by simp at h
  | b :: l, 0, _ => by simp [figs]
  | b :: l, j + 1, h => by
    have := figs_at l j (by simpa using h)
    rw [show 2 * (j + 1) = 2 * j + 2 by omega, show 2 * j + 2 + 1 = 2 * j + 1 + 2 by omega]
    simpa [figs] using this
theorem fig_range (d : Int) (h0 : 0 ≤ d) (h1 : d < 16) : 0 ≤ fig d ∧ fig d ≤ 255 := by unfold fig; split <;> omega
theorem figs_range : ∀ (l : List Int), (∀ x ∈ l, 0 ≤ x ∧ x ≤ 255) → ∀ y ∈ figs l, 0 ≤ y ∧ y ≤ 255
  | [], _, y, hy => by simp [figs] at hy
  | b :: l, h, y, hy => by
    have hb := h b (by simp)
    simp only [figs, List.mem_cons] at hy
    rcases hy with rfl | rfl | hy
    · exact fig_range _ (by omega) (by omega)
    · exact fig_range _ (by omega) (by omega)
    · exact figs_range l (fun x hx => h x (by simp [hx])) y hy
theorem bs_range (t : ByteArray) : ∀ x ∈ bs t, 0 ≤ x ∧ x ≤ 255 := by
  intro x hx
  simp only [bs, List.mem_map] at hx
  obtain ⟨c, _, rfl⟩ := hx
  exact byte_le c
theorem hex_back (t : ByteArray) : (strOfNums (figs (bs t))).size = 2 * t.size ∧ okTo (strOfNums (figs (bs t))) (2 * t.size) ∧ strOfNums (pairs (strOfNums (figs (bs t))) t.size) = t := by
  have hb := bs_str (figs (bs t)) (figs_range (bs t) (bs_range t))
  have hv : ∀ j, j < t.size → vl (strOfNums (figs (bs t))) (2 * j) = (bs t).getD j 0 / 16 ∧ vl (strOfNums (figs (bs t))) (2 * j + 1) = (bs t).getD j 0 % 16 := by
    intro j hj
    have hl : j < (bs t).length := by rw [bs_len]; exact hj
    have hr := bs_range t ((bs t).getD j 0) (by
      have e : (bs t).getD j 0 = (bs t)[j] := by simp [List.getD, List.getElem?_eq_getElem hl]
      rw [e]; exact List.getElem_mem hl)
    have := figs_at (bs t) j hl
    unfold vl
    rw [hb, this.1, this.2]
    exact ⟨val_fig _ (by omega) (by omega), val_fig _ (by omega) (by omega)⟩
  refine ⟨by rw [strOfNums_size, figs_len, bs_len], ?_, ?_⟩
  · intro i hi
    have hj := hv (i / 2) (by omega)
    have hl : i / 2 < (bs t).length := by rw [bs_len]; omega
    have hr := bs_range t ((bs t).getD (i / 2) 0) (by
      have e : (bs t).getD (i / 2) 0 = (bs t)[i / 2] := by simp [List.getD, List.getElem?_eq_getElem hl]
      rw [e]; exact List.getElem_mem hl)
    rcases Nat.mod_two_eq_zero_or_one i with hm | hm
    · rw [show i = 2 * (i / 2) by omega, hj.1]; omega
    · rw [show i = 2 * (i / 2) + 1 by omega, hj.2]; omega
  · have e : pairs (strOfNums (figs (bs t))) t.size = bs t := by
      apply List.ext_getElem
      · rw [pairs_len, bs_len]
      · intro i h1 h2
        have hi : i < t.size := by rw [pairs_len] at h1; exact h1
        have := hv i hi
        simp only [pairs, List.getElem_map, List.getElem_range]
        rw [this.1, this.2]
        have e2 : (bs t).getD i 0 = (bs t)[i] := by simp [List.getD, List.getElem?_eq_getElem h2]
        rw [e2]; omega
    rw [e, str_bs]
end Go.Proofs.YtnghhfgbobpnkaaDoor.Num
