/-
  The contract of impl.PartsOf.
-/
import Derived.Test.YtnghhfgbobpnkahDoorSplit
import Derived.Test.YtnghhfgbobpnkahDoorClone
import Derived.Test.YtnghhfgbobpnkahDoorShelfSplit
namespace Go.Proofs.YtnghhfgbobpnkahDoor
open Go.RowKit Num

theorem split_any (s : ByteArray) (m : Int) (w : World) (hs : (s.size : Int) ≤ 600) (hm : w.cell? ⟨2, 0, none⟩ = some (.int .i64 m)) :
    Calls Tryd.prog 20 #[.string s, .string ⟨#[32]⟩] w fun e w' => ∃ N cap, e = .returned (.slice (some ⟨N, 0, none⟩) (pieces s).length cap) ∧ N < w'.heap.size ∧ Below w.heap.size w w' ∧
      ∀ i, i < (pieces s).length → w'.cell? ⟨N, i, none⟩ = some (.string ((pieces s).getD i ByteArray.empty)) := by
  refine (strings_Split s sp m w (by omega) hm (by rw [sp_size]; omega)).mono fun e w' ⟨he, hw⟩ => ⟨w.heap.size, Lib.countB s sp + 1, by rw [he, pieces_len], ?_, ?_, ?_⟩
  · rw [hw]; simp
  · rw [hw]; exact (Below.refl _ _).alloc (Nat.le_refl _) _
  · intro i hi
    have hi2 : i < (Lib.splitB sp 0 (Lib.countB s sp) s).length := hi
    rw [hw, cell_of_row _ w.heap.size i _ _ (0, 0) (heap_alloc_new w _)]
    simp [pieces, List.getD, List.getElem?_eq_getElem hi2]

theorem some_iff (x : ByteArray) : x.toList.isEmpty = !some9 x := by
  rw [ByteArray.toList_eq, Bool.eq_iff_iff]
  simp only [List.isEmpty_iff, some9, Bool.not_eq_true', decide_eq_false_iff_not, Decidable.not_not]
  constructor
  · intro h; show x.data.size = 0; rw [← Array.length_toList, h]; rfl
  · intro h; exact List.eq_nil_of_length_eq_zero (by rw [Array.length_toList]; exact h)
theorem take_filter (P : List ByteArray) (j : Nat) (h : j < P.length) : (P.take (j + 1)).filter some9 = (P.take j).filter some9 ++ (if some9 (P.getD j ByteArray.empty) = true then [P.getD j ByteArray.empty] else []) := by
  rw [List.take_succ_eq_append_getElem h, List.filter_append]
  have e : P.getD j ByteArray.empty = P[j] := by simp [List.getD, List.getElem?_eq_getElem h]
  rw [e]
  congr 1
  by_cases hb : some9 P[j] = true
  · rw [if_pos hb, List.filter_cons_of_pos hb]; rfl
  · rw [if_neg hb, List.filter_cons_of_neg hb]; rfl
theorem Row9.mono {w : World} {base base' : Nat} {v : Value} {L : List ByteArray} (h : Row9 w base v L) (hb : base' ≤ base) : Row9 w base' v L := by
  obtain ⟨hl, h1 | ⟨g, cap, cur, h1, h2, h3⟩⟩ := h
  · exact ⟨hl, .inl h1⟩
  · exact ⟨hl, .inr ⟨g, cap, cur, h1, Nat.le_trans hb h2, h3⟩⟩

theorem iparts_long (s : ByteArray) (w : World) (h : (600 : Int) < s.size) : Calls Tryd.prog 10 #[.string s] w (PartsEnd s w) := by
  go_enter Tryd.func10, Tryd.ntmps10
  go_wp2
  go_ret2
  exact ⟨.inr ⟨fun h' => by have := h'.1; omega, _, rfl, Row9.nil _ _⟩, Below.refl _ _⟩

set_option maxRecDepth 100000 in
set_option maxHeartbeats 2000000 in
theorem iparts_in (s : ByteArray) (m : Int) (w : World) (hs : (s.size : Int) ≤ 600) (hm : w.cell? ⟨2, 0, none⟩ = some (.int .i64 m)) : Calls Tryd.prog 10 #[.string s] w (PartsEnd s w) := by
  obtain ⟨i0, hi, hz0, hz1, hz2⟩ := info_parts info9
  have HM : Hid (w.cell? ⟨2, 0, none⟩ = some (.int .i64 m)) := hm
  clear hm
  go_enter Tryd.func10, Tryd.ntmps10
  go_wp2
  go_loop [13] (fun i => ∃ I : Nat, I ≤ s.size ∧ i = .int .i64 I ∧ lineTo s I) (fun i => s.size - (intOf i).toNat)
  case atStart => exact ⟨0, Nat.zero_le _, rfl, lineTo_zero s⟩
  case round =>
    obtain ⟨I, hI, rfl, hL⟩ := hrel
    by_cases hlt : (I : Int) < s.size
    · have hIn : I < s.size := by omega
      have hb := byte_le s[I]
      by_cases h32 : (s[I].toNat : Int) < 32
      · have HN : Hid (¬ lineTo s s.size) := lineTo_not hIn (.inl h32)
        go_wp2
        go_ret2
        exact ⟨.inr ⟨fun h' => HN.out h'.2.1, _, rfl, Row9.nil _ _⟩, Below.refl _ _⟩
      · by_cases h126 : 126 < (s[I].toNat : Int)
        · have HN : Hid (¬ lineTo s s.size) := lineTo_not hIn (.inr h126)
          go_wp2
          go_ret2
          exact ⟨.inr ⟨fun h' => HN.out h'.2.1, _, rfl, Row9.nil _ _⟩, Below.refl _ _⟩
        · have HL' : Hid (lineTo s (I + 1)) := lineTo_next hL hIn (by omega) (by omega)
          go_wp2
          go_round
          case rel => exact ⟨I + 1, by omega, by go_num, HL'.out⟩
          case measure => simp [intOf]; omega
    · have HT : Hid (lineTo s s.size) := by
        have e : I = s.size := by omega
        subst e; exact hL
      have hPl := pieces_le s
      have hP2 : (pieces s).length ≤ 601 := by omega
      clear hL hPl
      go_wp2_with (go_at_call 20; refine (split_any _ m _ hs HM.out).mono ?_; rintro e w1 ⟨N, cap, rfl, hN, hb1, hcells⟩)
      have hbs1 := hb1.size
      go_loopw [5, 30] (fun v i wr => ∃ (j : Nat) (xs : List ByteArray), j ≤ (pieces s).length ∧ i = .int .i64 j ∧ xs.length ≤ j ∧ Hid (xs = ((pieces s).take j).filter some9) ∧ Row9 wr w1.heap.size v xs ∧ Below w1.heap.size w1 wr) (fun _ i _ => (pieces s).length - (intOf i).toNat)
      case atStart => exact ⟨0, [], Nat.zero_le _, rfl, Nat.zero_le _, rfl, Row9.nil _ _, Below.refl _ _⟩
      case round =>
        obtain ⟨j, xs, hj, rfl, hxl, HX, hrow, hbel⟩ := hrel
        have hbs := hbel.size
        have HR : Hid (Row9 wr w1.heap.size _ xs) := hrow
        have HC : Hid (∀ i, i < (pieces s).length → w1.cell? ⟨N, i, none⟩ = some (.string ((pieces s).getD i ByteArray.empty))) := hcells
        clear hrow hcells
        by_cases hjl : (j : Int) < (pieces s).length
        · have q0 : (0 : Int) ≤ (j : Int) := by omega
          obtain ⟨x, hx⟩ : ∃ x, x = (pieces s).getD j ByteArray.empty := ⟨_, rfl⟩
          have hcx : wr.cell? ⟨N, j, none⟩ = some (.string x) := by rw [hbel.cell (by exact hN), hx]; exact HC.out j (by omega)
          have hlim : x.size ≤ 281474976710656 := by have := pieces_sizes s j (by omega); rw [hx]; omega
          have HT2 : Hid (((pieces s).take (j + 1)).filter some9 = xs ++ (if some9 x = true then [x] else [])) := by rw [Hid, take_filter _ j (by omega), ← HX.out, ← hx]
          have hem := some_iff x
          clear hx
          cases hsx : some9 x with
          | false =>
            rw [hsx] at hem
            have HS : Hid (some9 x = false) := hsx
            have hem' : x.toList.isEmpty = true := hem
            clear hsx hem
            go_wp2
            go_roundw
            case rel => exact ⟨j + 1, xs, by omega, by go_num, by omega, (show xs = _ from by rw [HT2.out, HS.out]; simp), HR.out, hbel⟩
            case measure => simp [intOf]; omega
          | true =>
            rw [hsx] at hem
            have HS : Hid (some9 x = true) := hsx
            have hem' : x.toList.isEmpty = false := hem
            clear hsx hem
            go_wp2_with (first | (go_at_call 21; refine (clone _ _ hlim).mono ?_; rintro e w2 ⟨rfl, hb2⟩; have hR2 : Hid (Row9 w2 w1.heap.size _ xs) := Row9.below HR.out hb2; have hbel2 := hbel.trans (hb2.mono hbs); have hbs2 := hbel2.size) | (at_builtin; refine wpList_append_own _ rfl _ _ 24 rfl w1.heap.size 9 i0 (.string ByteArray.empty) 1 16 Tryd.underlying24 hi hz0 hz1 hz2 rfl (by decide) _ _ _ rfl (World.ownsRow.alloc hR2.out _) ⟨World.heap _ |>.size, 0, none⟩ 1 1 [.string x] rfl rfl (news1 _ _ _) (ones9 _) (by unfold maxLen; omega) (by omega) (by simp; omega) ?_; intro v' w3 hown' hgrow _))
            have R := push9 (Nat.le_refl _) hbel2 hR2.out hown' hgrow
            clear hown' hgrow
            go_wp2
            go_roundw
            case rel => exact ⟨j + 1, xs ++ [x], by omega, by go_num, by simp; omega, (show xs ++ [x] = _ from by rw [HT2.out, HS.out]; simp), R.1, R.2⟩
            case measure => simp [intOf]; omega
        · have HXp : Hid (parts s = xs) := by rw [Hid, HX.out, List.take_of_length_le (by omega), pieces_parts]
          have hfin : Below w.heap.size w wr := hb1.trans (hbel.mono hbs1)
          rcases Row9.form HR.out with ⟨rfl, hx0⟩ | ⟨g, cap, rfl, _, _, _⟩
          · have HZ : Hid (xs = []) := hx0
            clear hx0
            go_wp2
            go_ret2
            exact ⟨.inl ⟨⟨by omega, HT.out, by rw [HXp.out, HZ.out]; simp⟩, _, rfl, by rw [HXp.out]; exact HR.out.mono hbs1⟩, hfin⟩
          · by_cases h10 : (10 : Int) < xs.length
            · go_wp2
              go_ret2
              exact ⟨.inr ⟨fun h' => by have := h'.2.2; rw [HXp.out] at this; omega, _, rfl, Row9.nil _ _⟩, hfin⟩
            · go_wp2
              go_ret2
              exact ⟨.inl ⟨⟨by omega, HT.out, by rw [HXp.out]; omega⟩, _, rfl, by rw [HXp.out]; exact HR.out.mono hbs1⟩, hfin⟩
end Go.Proofs.YtnghhfgbobpnkahDoor
