/-
  The contract of spec.PartsOf: the words of a line.
-/
import Derived.Test.YtnghhfgbobpnkahDoorMark
import Derived.Test.YtnghhfgbobpnkahDoorCanon
namespace Go.Proofs.YtnghhfgbobpnkahDoor.Num
/-- is there a blank at a place? -/
def isBlank (s : ByteArray) (i : Nat) : Bool := (bs s).getD i 0 == 32
theorem isBlank_at (s : ByteArray) (i : Nat) (h : i < s.size) : isBlank s i = ((s[i].toNat : Int) == 32) := by
  unfold isBlank
  rw [List.getD_eq_getElem?_getD, List.getElem?_eq_getElem (by rw [bs_len]; exact h)]
  simp [bs]; rfl
/-- the words that are left at the place i, the one that is being read having begun at b -/
def wd (s : ByteArray) : Nat → Nat → Nat → List ByteArray
  | 0, b, i => if b < i then [s.extract b i] else []
  | f + 1, b, i => if isBlank s i = true then (if b < i then [s.extract b i] else []) ++ wd s f (i + 1) (i + 1) else wd s f b (i + 1)
/-- the words of a line -/
def parts (s : ByteArray) : List ByteArray := wd s s.size 0 0
/-- what is left at i, and behind the end -/
def rest (s : ByteArray) (b i : Nat) : List ByteArray := if i ≤ s.size then wd s (s.size - i) b i else []
theorem rest_in (s : ByteArray) (b i : Nat) (h : i ≤ s.size) : rest s b i = wd s (s.size - i) b i := by unfold rest; rw [if_pos h]
theorem rest_out (s : ByteArray) (b : Nat) : rest s b (s.size + 1) = [] := by unfold rest; rw [if_neg (by omega)]
theorem rest_go (s : ByteArray) (b i : Nat) (h : i < s.size) (hb : isBlank s i = false) : rest s b i = rest s b (i + 1) := by
  rw [rest_in s b i (by omega), rest_in s b (i + 1) (by omega), show s.size - i = (s.size - (i + 1)) + 1 by omega, wd, if_neg (by rw [hb]; simp)]
theorem rest_cut (s : ByteArray) (b i : Nat) (h : i < s.size) (hb : isBlank s i = true) : rest s b i = (if b < i then [s.extract b i] else []) ++ rest s (i + 1) (i + 1) := by
  rw [rest_in s b i (by omega), rest_in s (i + 1) (i + 1) (by omega), show s.size - i = (s.size - (i + 1)) + 1 by omega, wd, if_pos hb]
theorem rest_end (s : ByteArray) (b : Nat) : rest s b s.size = (if b < s.size then [s.extract b s.size] else []) ++ rest s (s.size + 1) (s.size + 1) := by
  rw [rest_in s b s.size (Nat.le_refl _), rest_out, Nat.sub_self, wd, List.append_nil]
theorem parts_rest (s : ByteArray) : parts s = rest s 0 0 := by rw [rest_in s 0 0 (Nat.zero_le _)]; rfl
/-- the places below k hold what a line may hold -/
def lineTo (s : ByteArray) (k : Nat) : Prop := ∀ i, i < k → 32 ≤ (bs s).getD i 0 ∧ (bs s).getD i 0 ≤ 126
theorem lineTo_zero (s : ByteArray) : lineTo s 0 := fun i h => by omega
theorem line0 (s : ByteArray) : ∀ k, k ≤ 0 → k ≤ s.size → lineTo s k := fun k h _ i hi => by omega
theorem at_bs (s : ByteArray) (k : Nat) (h : k < s.size) : (bs s).getD k 0 = (s[k].toNat : Int) := by
  rw [List.getD_eq_getElem?_getD, List.getElem?_eq_getElem (by rw [bs_len]; exact h)]
  simp [bs]; rfl
theorem lineTo_next {s : ByteArray} {k : Nat} (h : lineTo s k) (hk : k < s.size) (h0 : 32 ≤ (s[k].toNat : Int)) (h1 : (s[k].toNat : Int) ≤ 126) : lineTo s (k + 1) := fun i hi => by
  by_cases e : i = k
  · rw [e, at_bs s k hk]; exact ⟨h0, h1⟩
  · exact h i (by omega)
theorem lineTo_not {s : ByteArray} {k : Nat} (hk : k < s.size) (hb : (s[k].toNat : Int) < 32 ∨ 126 < (s[k].toNat : Int)) : ¬ lineTo s s.size := fun h => by
  have := h k hk
  rw [at_bs s k hk] at this
  omega
/-- a line that has parts to tell -/
def lineOk (s : ByteArray) : Prop := s.size ≤ 600 ∧ lineTo s s.size ∧ (parts s).length ≤ 10
end Go.Proofs.YtnghhfgbobpnkahDoor.Num
namespace Go.Proofs.YtnghhfgbobpnkahDoor
open Go.RowKit Num

theorem info9 : (Tryd.prog.info? 9).map (fun i => (i.zero, i.size, i.bytes)) = some (some (.string ByteArray.empty), 1, 16) := by kernel_rfl
theorem ones9 (x : ByteArray) : ∀ u ∈ ([.string x] : List Value), u.oneCell' = true := by
  intro u hu; simp at hu; subst hu; rfl
theorem push9 {w wr w1 : World} {base : Nat} {v v' : Value} {xs : List ByteArray} {x : ByteArray} {o : Obj} (hbb : w.heap.size ≤ base) (hbel : Below w.heap.size w wr) (hown : Row9 wr base v xs)
    (hown' : w1.ownsRow base 9 1 v' (xs.length + 1) (xs.map Value.string ++ [.string x])) (hg : (wr.alloc o).grownBy w1 v.ownBlock) :
    Row9 w1 base v' (xs ++ [x]) ∧ Below w.heap.size w w1 := by
  refine ⟨by unfold Row9; simpa using hown', (hbel.alloc hbel.size o).grown hg (by have := hbel.size; simp; omega) fun k hk => Nat.le_trans hbb (World.ownsRow.lt hown k hk).1⟩

/-- what PartsOf comes to -/
def PartsEnd (s : ByteArray) (w : World) (e : Ending) (w' : World) : Prop :=
  ((lineOk s ∧ ∃ v, e = .returned (.tuple #[v, .bool true]) ∧ Row9 w' w.heap.size v (parts s)) ∨ (¬ lineOk s ∧ ∃ v, e = .returned (.tuple #[v, .bool false]) ∧ Row9 w' w.heap.size v [])) ∧ Below w.heap.size w w'

theorem none9 {w wr : World} (hbel : Below w.heap.size w wr) : Row9 (wr.alloc (.cells #[] 9)) w.heap.size (.slice (some ⟨wr.heap.size, 0, none⟩) 0 0) [] ∧ Below w.heap.size w (wr.alloc (.cells #[] 9)) :=
  ⟨World.ownsRow_made _ #[] 0 hbel.size (by decide) rfl, hbel.alloc hbel.size _⟩

theorem sparts_long (s : ByteArray) (w : World) (h : (600 : Int) < s.size) : Calls Tryd.prog 9 #[.string s] w (PartsEnd s w) := by
  go_enter Tryd.func9, Tryd.ntmps9
  go_wp2
  go_ret2
  exact ⟨.inr ⟨fun h' => by have := h'.1; omega, _, rfl, (none9 (Below.refl _ _)).1⟩, (none9 (Below.refl _ _)).2⟩

set_option maxRecDepth 100000 in
set_option maxHeartbeats 2000000 in
theorem sparts_in (s : ByteArray) (w : World) (hs : (s.size : Int) ≤ 600) : Calls Tryd.prog 9 #[.string s] w (PartsEnd s w) := by
  obtain ⟨i0, hi, hz0, hz1, hz2⟩ := info_parts info9
  go_enter Tryd.func9, Tryd.ntmps9
  go_wp2
  go_loopw [4, 5, 6] (fun v b i wr => ∃ (xs : List ByteArray) (B I : Nat), b = .int .i64 B ∧ i = .int .i64 I ∧ I ≤ s.size + 1 ∧ B ≤ I ∧ xs.length ≤ I ∧ Hid (parts s = xs ++ rest s B I) ∧ Hid (∀ k, k ≤ I → k ≤ s.size → lineTo s k) ∧ Row9 wr w.heap.size v xs ∧ Below w.heap.size w wr) (fun _ _ i _ => s.size + 1 - (intOf i).toNat)
  case atStart => exact ⟨[], 0, 0, rfl, rfl, Nat.zero_le _, Nat.le_refl _, Nat.zero_le _, parts_rest s, line0 s, (none9 (Below.refl _ _)).1, (none9 (Below.refl _ _)).2⟩
  case round =>
    obtain ⟨xs, B, I, rfl, rfl, hI, hBI, hxl, HP, HL, hrow, hbel⟩ := hrel
    have hbs := hbel.size
    have HR : Hid (Row9 _ w.heap.size _ xs) := hrow
    clear hrow
    by_cases hlt : (I : Int) < s.size
    · have hIn : I < s.size := by omega
      have q0 : (0 : Int) ≤ (I : Int) := by omega
      have hle : (I : Int) ≤ s.size := by omega
      have hb := byte_le s[I]
      have HB : Hid (isBlank s I = _) := isBlank_at s I hIn
      by_cases h32 : (s[I].toNat : Int) < 32
      · have HN : Hid (¬ lineTo s s.size) := lineTo_not hIn (.inl h32)
        go_wp2
        go_ret2
        exact ⟨.inr ⟨fun h' => HN.out h'.2.1, _, rfl, (none9 hbel).1⟩, (none9 hbel).2⟩
      · by_cases h126 : 126 < (s[I].toNat : Int)
        · have HN : Hid (¬ lineTo s s.size) := lineTo_not hIn (.inr h126)
          go_wp2
          go_ret2
          exact ⟨.inr ⟨fun h' => HN.out h'.2.1, _, rfl, (none9 hbel).1⟩, (none9 hbel).2⟩
        · have HL' : Hid (∀ k, k ≤ I + 1 → k ≤ s.size → lineTo s k) := fun k hk hks => by
            by_cases e : k = I + 1
            · rw [e]; exact lineTo_next (HL.out I (Nat.le_refl _) (by omega)) hIn (by omega) (by omega)
            · exact HL.out k (by omega) hks
          by_cases hbl : (s[I].toNat : Int) = 32
          · have hq : ((s[I].toNat : Int) != 32) = false := by simp [hbl]
            have HC : Hid (rest s B I = _) := rest_cut s B I hIn (by rw [HB.out]; simp [hbl])
            clear hbl
            by_cases hBlt : (B : Int) < I
            · have q1 : (0 : Int) ≤ (B : Int) := by omega
              have q2 : (B : Int) ≤ (I : Int) := by omega
              go_wp2_with (at_builtin; refine wpList_append_own _ rfl _ _ 24 rfl w.heap.size 9 i0 (.string ByteArray.empty) 1 16 Tryd.underlying24 hi hz0 hz1 hz2 rfl (by decide) _ _ _ rfl (World.ownsRow.alloc HR.out _) ⟨World.heap _ |>.size, 0, none⟩ 1 1 [.string (s.extract B I)] rfl rfl (news1 _ _ _) (ones9 _) (by unfold maxLen; omega) (by omega) (by simp; omega) ?_)
              intro v' w1 hown' hgrow _
              have R := push9 (Nat.le_refl _) hbel HR.out hown' hgrow
              clear hown' hgrow
              go_wp2
              go_roundw
              case rel => exact ⟨xs ++ [s.extract B I], I + 1, I + 1, by go_num, by go_num, by omega, Nat.le_refl _, by simp; omega, (show parts s = (xs ++ [s.extract B I]) ++ rest s (I + 1) (I + 1) from by rw [HP.out, HC.out, if_pos (by omega)]; simp), HL'.out, R.1, R.2⟩
              case measure => simp [intOf]; omega
            · go_wp2
              go_roundw
              case rel => exact ⟨xs, I + 1, I + 1, by go_num, by go_num, by omega, Nat.le_refl _, by omega, (show parts s = xs ++ rest s (I + 1) (I + 1) from by rw [HP.out, HC.out, if_neg (by omega)]; rfl), HL'.out, HR.out, hbel⟩
              case measure => simp [intOf]; omega
          · have hq : ((s[I].toNat : Int) != 32) = true := by simp [hbl]
            have HC : Hid (rest s B I = _) := rest_go s B I hIn (by rw [HB.out]; simp [hbl])
            clear hbl
            go_wp2
            go_roundw
            case rel => exact ⟨xs, B, I + 1, rfl, by go_num, by omega, by omega, by omega, HP.out.trans (by rw [HC.out]), HL'.out, HR.out, hbel⟩
            case measure => simp [intOf]; omega
    · by_cases hend : (I : Int) = s.size
      · have HE : Hid (I = s.size) := (by omega : I = s.size)
        have hle : (I : Int) ≤ s.size := by omega
        have HL' : Hid (∀ k, k ≤ I + 1 → k ≤ s.size → lineTo s k) := fun k hk hks => HL.out k (by omega) hks
        have HC : Hid (rest s B I = (if B < I then [s.extract B I] else []) ++ rest s (I + 1) (I + 1)) := by rw [Hid, HE.out]; exact rest_end s B
        clear hend
        by_cases hBlt : (B : Int) < I
        · have q1 : (0 : Int) ≤ (B : Int) := by omega
          have q2 : (B : Int) ≤ (I : Int) := by omega
          go_wp2_with (at_builtin; refine wpList_append_own _ rfl _ _ 24 rfl w.heap.size 9 i0 (.string ByteArray.empty) 1 16 Tryd.underlying24 hi hz0 hz1 hz2 rfl (by decide) _ _ _ rfl (World.ownsRow.alloc HR.out _) ⟨World.heap _ |>.size, 0, none⟩ 1 1 [.string (s.extract B I)] rfl rfl (news1 _ _ _) (ones9 _) (by unfold maxLen; omega) (by omega) (by simp; omega) ?_)
          intro v' w1 hown' hgrow _
          have R := push9 (Nat.le_refl _) hbel HR.out hown' hgrow
          clear hown' hgrow
          go_wp2
          go_roundw
          case rel => exact ⟨xs ++ [s.extract B I], I + 1, I + 1, by go_num, by go_num, by omega, Nat.le_refl _, by simp; omega, (show parts s = (xs ++ [s.extract B I]) ++ rest s (I + 1) (I + 1) from by rw [HP.out, HC.out, if_pos (by omega)]; simp), HL'.out, R.1, R.2⟩
          case measure => simp [intOf]; omega
        · go_wp2
          go_roundw
          case rel => exact ⟨xs, I + 1, I + 1, by go_num, by go_num, by omega, Nat.le_refl _, by omega, (show parts s = xs ++ rest s (I + 1) (I + 1) from by rw [HP.out, HC.out, if_neg (by omega)]; rfl), HL'.out, HR.out, hbel⟩
          case measure => simp [intOf]; omega
      · have HE : Hid (I = s.size + 1) := (by omega : I = s.size + 1)
        have hgt : ¬ (I : Int) ≤ s.size := by omega
        have HX : Hid (parts s = xs) := by rw [Hid, HP.out, HE.out, rest_out, List.append_nil]
        have HT : Hid (lineTo s s.size) := HL.out s.size (by rw [HE.out]; omega) (Nat.le_refl _)
        clear hend
        rcases Row9.form HR.out with ⟨rfl, hx0⟩ | ⟨g, cap, rfl, _, _, _⟩
        · have HZ : Hid (xs = []) := hx0
          clear hx0
          go_wp2
          go_ret2
          exact ⟨.inl ⟨⟨by omega, HT.out, by rw [HX.out, HZ.out]; simp⟩, _, rfl, by rw [HX.out]; exact HR.out⟩, hbel⟩
        · by_cases h10 : (10 : Int) < xs.length
          · go_wp2
            go_ret2
            exact ⟨.inr ⟨fun h' => by have := h'.2.2; rw [HX.out] at this; omega, _, rfl, (none9 hbel).1⟩, (none9 hbel).2⟩
          · go_wp2
            go_ret2
            exact ⟨.inl ⟨⟨by omega, HT.out, by rw [HX.out]; omega⟩, _, rfl, by rw [HX.out]; exact HR.out⟩, hbel⟩
end Go.Proofs.YtnghhfgbobpnkahDoor
