/-
  The contract of impl.Unhex.
-/
import Derived.Test.YtnghhfgbobpnkaaDoorOwn
import Derived.Test.YtnghhfgbobpnkaaDoorUnhexN
import Derived.BigQuiet
import Derived.WalkMore
import Derived.WalkSmall
import Derived.Laws.OwnMore
namespace Go.Proofs.YtnghhfgbobpnkaaDoor
open Go.RowKit Num

theorem iunhex_no (s : ByteArray) (w : World) (h : (40000 : Int) < s.size ∨ (s.size : Int) % 2 ≠ 0) :
    Calls Tryd.prog 15 #[.string s] w fun e w' => e = .returned (.tuple #[.string ByteArray.empty, .bool false]) ∧ w' = w := by
  by_cases h2 : (s.size : Int) % 2 = 0
  · have h1 : (40000 : Int) < s.size := by omega
    have h3 : ((s.size : Int) % 2 != 0) = false := by rw [bne_eq_false_iff_eq]; exact h2
    clear h h2
    go_enter Tryd.func15, Tryd.ntmps15
    go_wp2
    go_step3
    go_wp2
    try rw [Exit.noGoto_ret]
    go_ret2
    exact ⟨rfl, rfl⟩
  · have h3 : ((s.size : Int) % 2 != 0) = true := by rw [bne_iff_ne]; exact h2
    clear h h2
    go_enter Tryd.func15, Tryd.ntmps15
    go_wp2
    go_step3
    go_wp2
    try rw [Exit.noGoto_ret]
    go_ret2
    exact ⟨rfl, rfl⟩

set_option maxRecDepth 100000 in
set_option maxHeartbeats 2000000 in
theorem iunhex_in (s : ByteArray) (n : Nat) (w : World) (hn : s.size = 2 * n) (hn2 : n ≤ 20000) :
    Calls Tryd.prog 15 #[.string s] w fun e w' => ((okTo s (2 * n) ∧ e = .returned (.tuple #[.string (strOfNums (pairs s n)), .bool true])) ∨ (¬ okTo s (2 * n) ∧ e = .returned (.tuple #[.string ByteArray.empty, .bool false]))) ∧ Below w.heap.size w w' := by
  obtain ⟨i0, hi, hz0, hz1, hz2⟩ := info_parts info5
  have hsz : (s.size : Int) ≤ 40000 := by omega
  have hev : ((s.size : Int) % 2 != 0) = false := by rw [bne_eq_false_iff_eq]; omega
  have HN : Hid (s.size = 2 * n) := hn
  have hhalf : (s.size : Int) / 2 = (n : Int) := by omega
  clear hn
  go_enter Tryd.func15, Tryd.ntmps15
  go_wp2
  go_step3
  go_wp2_with (at_make; refine wpList_make_full _ rfl _ _ 22 rfl w.heap.size 5 i0 (.int .u8 0) 1 Tryd.underlying22 hi hz0 hz1 _ _ _ _ n rfl rfl (by omega) (by omega) (by rw [hz2]; omega) (by unfold maxLen; omega) (Nat.le_refl _) ?_; intro w0 hown0 hgrow0)
  have hb0 : Below w.heap.size w w0 := (Below.refl _ _).grown hgrow0 (Nat.le_refl _) (fun k h => by cases h)
  clear hgrow0
  go_step3
  go_wp2
  go_loopw [22] (fun i wr => ∃ k : Nat, k ≤ 2 * n ∧ i = .int .i64 k ∧ okTo s k ∧ wr.ownsRow w.heap.size 5 1 (.slice (some ⟨w.heap.size, 0, none⟩) n n) n ((hexRow s n k).map (Value.int .u8)) ∧ Below w.heap.size w wr) (fun i _ => s.size - (intOf i).toNat)
  case atStart =>
    refine ⟨0, Nat.zero_le _, rfl, okTo_zero s, ?_, hb0⟩
    rw [hexRow_zero, List.map_replicate, ← toList_madeCells_one]
    simpa [Value.cells] using hown0
  case round =>
    obtain ⟨k, hk, rfl, hok, hown, hbel⟩ := hrel
    clear hown0 hb0
    have hS := HN.out
    by_cases hlt : k < 2 * n
    · have hkn : k < s.size := by omega
      have p1 : (k : Int) < (s.size : Int) := by omega
      have p0 : (0 : Int) ≤ (k : Int) := by omega
      have hb := byte_le s[k]
      have E1 : Hid (vl s k = _) := vl_at s k hkn
      obtain ⟨x, hx⟩ : ∃ x, x = cellOf s k (k / 2) := ⟨_, rfl⟩
      have HX : Hid (x = cellOf s k (k / 2)) := hx
      have hxb := cellOf_bd s k hok
      rw [← hx] at hxb
      have hcx : wr.cell? ⟨w.heap.size, k / 2, none⟩ = some (.int .u8 x) := by
        rw [hown.cellAt (k / 2) (by omega), List.getElem?_map, hexRow_at s n k (k / 2) (by omega), hx]; rfl
      have hfz : wr.frozen? ⟨w.heap.size, k / 2, none⟩ = false := hown.frozenAt (k / 2)
      have m0 : (0 : Int) ≤ (k : Int) / 2 := by omega
      have m1 : (k : Int) / 2 < (n : Int) := by omega
      clear hS hx
      go_wp2
      go_loopw [25] (fun i wi => ∃ c : Nat, c ≤ 16 ∧ i = .int .i64 c ∧ Hid (∀ d : Nat, d < c → fig d ≠ (s[k].toNat : Int)) ∧ ∃ q, wi = wr.drewN q) (fun i _ => 16 - (intOf i).toNat)
      case atStart => exact ⟨0, Nat.zero_le _, rfl, fun d h => by omega, 0, rfl⟩
      case round =>
        obtain ⟨c, hc, rfl, HF, q, rfl⟩ := hrel
        by_cases hc16 : c < 16
        · have c1 : (c : Int) < 16 := by omega
          have c0 : (0 : Int) ≤ (c : Int) := by omega
          have hfa := fig_at c hc16 (by show c < 16; omega)
          by_cases hf : fig c = (s[k].toNat : Int)
          · have hq : ((s[k].toNat : Int) == fig c) = true := by simp [hf]
            have HQ : Hid (fig c = (s[k].toNat : Int)) := hf
            have hor := or16 x c hxb.1 hxb.2 c0 c1
            have HV : Hid (vl s k = (c : Int)) := by rw [Hid, E1.out, ← HQ.out]; exact val_fig c c0 c1
            clear hf
            go_wp2
            go_quiet (fail)
            go_wp2
            go_roundw
            case rel =>
              have hset : (hexRow s n (k + 1)).map (Value.int .u8) = ((hexRow s n k).map (Value.int .u8)).set (k / 2) (.int .u8 (x * 16 + c)) := by
                rw [hexRow_next, List.map_set, ← HX.out, HV.out]
              refine ⟨k + 1, by omega, by go_num, okTo_next hok (by rw [HV.out]; omega), ?_, ?_⟩
              · rw [hset]
                exact (World.ownsRow.stored (w := wr.drewN _) hown (k / 2) (.int .u8 (x * 16 + c))).1
              · exact (below_drewN hbel _).setCell (p := ⟨w.heap.size, k / 2, none⟩) (Nat.le_refl _) _
            case measure => simp [intOf]; omega
          · have hq : ((s[k].toNat : Int) == fig c) = false := by simp; exact fun h => hf h.symm
            have HQ : Hid (¬ fig c = (s[k].toNat : Int)) := hf
            clear hf
            go_wp2
            go_quiet (fail)
            go_wp2
            go_roundw
            case rel => exact ⟨c + 1, by omega, by go_num, fun d hd => (by
              by_cases e : d = c
              · rw [e]; exact HQ.out
              · exact HF.out d (by omega)), _, rfl⟩
            case measure => simp [intOf]; omega
        · have c1 : ¬ (c : Int) < 16 := by omega
          have HB : Hid (vl s k < 0) := by rw [Hid, E1.out]; exact val_none _ fun d hd => HF.out d (by omega)
          go_wp2
          try rw [Exit.noGoto_ret]
          go_ret2
          exact ⟨.inr ⟨fun h => by have := h k (by omega); have := HB.out; omega, rfl⟩, below_drewN hbel _⟩
    · have hmn : Hid (k = 2 * n) := (by omega : k = 2 * n)
      have p1 : ¬ (k : Int) < (s.size : Int) := by omega
      have hown' : wr.ownsRow w.heap.size 5 1 (.slice (some ⟨w.heap.size, 0, none⟩) n n) (hexRow s n k).length ((hexRow s n k).map (Value.int .u8)) := by rw [hexRow_len]; exact hown
      have hcv := strOfNums_row hown'
      clear hS
      go_wp2
      try rw [Exit.noGoto_ret]
      go_ret2
      exact ⟨.inl ⟨by rw [← hmn.out]; exact hok, ret_strb (by rw [hmn.out, hexRow_end])⟩, hbel⟩

end Go.Proofs.YtnghhfgbobpnkaaDoor
