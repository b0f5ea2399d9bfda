/-
  The contract of the program's PutBlock.
-/
import Derived.Test.YtcfgfhodbjakoavGreatDoorPutBI
import Derived.Test.YtcfgfhodbjakoavGreatDoorPutBS
namespace Go.Proofs.YtcfgfhodbjakoavGreatDoor
open Go.RowKit Num

theorem newsX (W : World) (x : Value) (t : TypeId) : ∀ j u, ([x] : List Value)[j]? = some u → (W.alloc (.cells #[x] t)).cell? ((⟨W.heap.size, 0, none⟩ : Addr).add j) = some u := news1 W x t
theorem sks_snoc (L : SL) (x : (Nat × Nat) × (BK × Value)) : sks (L ++ [x]) = sks L ++ [x.2.1] := by simp [sks]
theorem blockAt_neg {t : List BK} {b : BK} (h : ¬ 0 ≤ blockAt t b) : blockAt t b = -1 := by
  rcases blockAt_cases t b with ⟨h1, _⟩ | ⟨j, _, h1, _⟩
  · exact h1
  · rw [h1] at h; omega

set_option maxRecDepth 100000 in
set_option maxHeartbeats 4000000 in
theorem putBlock_i (ps : TL) (v : Value) (b : BK) (cb : Value) (w : World) (hT : TreeR w v ps) (hB : RowsR w cb 3 cmdF b.2.1) (hk : okT (bks ps)) (hkb : okB b) :
    Calls Tryz.prog 98 #[v, blkV b cb] w fun e w' => ∃ v' qs, e = .returned (.tuple #[v', .int .i64 (putAt (bks ps) b)]) ∧ bks qs = putT (bks ps) b ∧ OwnT w' w.heap.size v' qs ∧ Below w.heap.size w w' := by
  have hbl := bks_len ps
  have hl : (ps.length : Int) ≤ 1048576 := by have := hk.1; rw [hbl] at this; exact this
  have HK : Hid (okT (bks ps)) := hk
  have HKB : Hid (okB b) := hkb
  obtain ⟨i0, hi, hz0, hz1, hz2⟩ := info_parts infoPtr
  unfold blkV
  obtain ⟨W1, hW1⟩ : ∃ W1, W1 = w.alloc (.cells (blkA b cb) 61) := ⟨_, rfl⟩
  have HB1 : Hid (Below w.heap.size w W1) := (by rw [hW1]; exact ba (Below.refl _ _) _ : Below w.heap.size w W1)
  have HA : Hid (AtB W1 w.heap.size 0 (b, cb)) := atB_box (t := 61) (by rw [← hW1]; exact Below.refl _ _) hB
  have HT1 : Hid (TreeR W1 v ps) := hT.below HB1.out
  clear hT hB hk hkb
  go_enter Tryz.func98, Tryz.ntmps98
  go_wp2_with fail
  rw [← hW1]
  clear hW1
  refine (standing_i ps v W1 HT1.out hl).mono ?_
  rintro e w2 ⟨v2, L, rfl, hL, hown, hat, hb2⟩
  have HLL : Hid (L.length = ps.length) := sl_len hL
  have HO2 : Hid (w2.ownsRow W1.heap.size 153 1 v2 L.length (flatR ptrF L)) := hown
  have HAL : Hid (AtAll W1 L) := hat
  have HSK : Hid (sks L = bks ps) := sks_bks hL
  have HOK : Hid (∀ x ∈ L, okB x.2.1) := sl_ok hL HK.out
  have HB2 : Hid (Below W1.heap.size W1 w2) := hb2
  have hs1 := HB1.out.size
  obtain ⟨a2, c2, rfl, _⟩ := own_form hown
  clear hown hat hb2 hL
  go_wp2_with fail
  refine (place_i L _ b cb _ _ w2 ⟨rows_of_own ptrF_len HO2.out, HAL.out.below HB2.out, capOk_own HO2.out⟩ (HA.out.below HB2.out) (by rw [HLL.out]; exact hl) HOK.out HKB.out).mono ?_
  rintro e w3 ⟨rfl, hb3⟩
  rw [HSK.out]
  have HO3 : Hid (w3.ownsRow W1.heap.size 153 1 (.slice a2 L.length c2) L.length (flatR ptrF L)) := own_kept HO2.out hb3
  have HB3 : Hid (Below W1.heap.size W1 w3) := bt HB2.out hb3
  clear HO2 HB2 hb3
  have hl2 : (L.length : Int) ≤ 1048576 := by rw [HLL.out]; exact hl
  have HTold : Hid (∀ (w' : World) (v' : Value) (L' : SL), Stand w' v' L' → (L'.length : Int) ≤ 1048577 → (∀ x ∈ L', okB x.2.1) → Calls Tryz.prog 125 #[v'] w' fun e w'' => ∃ v'' qs, e = .returned v'' ∧ bks qs = sks L' ∧ OwnT w'' w'.heap.size v'' qs ∧ Below w'.heap.size w' w'') := fun w' v' L' h1 h2 h3 => told_i L' v' w' h1 h2 h3
  by_cases hat : 0 ≤ blockAt (bks ps) b
  · have HP : Hid (putAt (bks ps) b = blockAt (bks ps) b ∧ putT (bks ps) b = bks ps) := put_there hat
    have d0 : (blockAt (bks ps) b == -1) = false := by simp; omega
    have hs3 := HB3.out.size
    go_wp2_with fail
    refine (HTold.out w3 _ L ⟨rows_of_own ptrF_len HO3.out, HAL.out.below HB3.out, capOk_own HO3.out⟩ (by omega) HOK.out).mono ?_
    rintro e w4 ⟨v4, qs, rfl, hqs, hown4, hb4⟩
    have HQ : Hid (bks qs = bks ps) := hqs.trans HSK.out
    have HO4 : Hid (OwnT w4 w3.heap.size v4 qs) := hown4
    clear hqs hown4
    go_wp2
    go_ret2
    exact ⟨v4, qs, ret_vi2 HP.out.1.symm, by rw [HP.out.2]; exact HQ.out, HO4.out.base (by omega), bt HB1.out (bt HB3.out hb4)⟩
  · have hat1 : blockAt (bks ps) b = -1 := blockAt_neg hat
    have HNA : Hid (¬ 0 ≤ blockAt (bks ps) b) := hat
    rw [hat1]
    clear hat hat1
    have hs3 := HB3.out.size
    by_cases h60 : (L.length : Int) < 60
    · go_wp2_with fail
      refine (carry_i L _ b cb _ _ w3 ⟨rows_of_own ptrF_len HO3.out, HAL.out.below HB3.out, capOk_own HO3.out⟩ (HA.out.below HB3.out) (by omega) HKB.out).mono ?_
      rintro e w4 ⟨rfl, hb4⟩
      rw [HSK.out]
      have HO4 : Hid (w4.ownsRow W1.heap.size 153 1 (.slice a2 L.length c2) L.length (flatR ptrF L)) := own_kept HO3.out hb4
      have HB4 : Hid (Below W1.heap.size W1 w4) := bt HB3.out hb4
      have hs4 := HB4.out.size
      clear HO3 HB3 hb4
      cases hbk : blockB (bks ps) b with
      | false =>
        have HP : Hid (putAt (bks ps) b = -1 ∧ putT (bks ps) b = bks ps) := put_not (Int.not_le.2 HNA.out) (Or.inl hbk)
        go_wp2_with fail
        refine (HTold.out w4 _ L ⟨rows_of_own ptrF_len HO4.out, HAL.out.below HB4.out, capOk_own HO4.out⟩ (by omega) HOK.out).mono ?_
        rintro e w5 ⟨v5, qs, rfl, hqs, hown5, hb5⟩
        have HQ : Hid (bks qs = bks ps) := hqs.trans HSK.out
        have HO5 : Hid (OwnT w5 w4.heap.size v5 qs) := hown5
        clear hqs hown5
        go_wp2
        go_ret2
        exact ⟨v5, qs, ret_vi2 HP.out.1.symm, by rw [HP.out.2]; exact HQ.out, HO5.out.base (by omega), bt HB1.out (bt HB4.out hb5)⟩
      | true =>
        have HP : Hid (putAt (bks ps) b = (L.length : Int) ∧ putT (bks ps) b = bks ps ++ [b]) := (by have := put_new (Int.not_le.2 HNA.out) (fun h => h.elim (fun h => by rw [hbk] at h; cases h) (fun h => by rw [hbl, ← HLL.out] at h; omega)); rw [hbl, ← HLL.out] at this; exact this : putAt (bks ps) b = (L.length : Int) ∧ putT (bks ps) b = bks ps ++ [b])
        go_wp2_with (at_builtin; refine wpList_append_own _ rfl _ _ 150 rfl W1.heap.size 153 i0 _ 1 8 Tryz.underlying150 hi hz0 hz1 hz2 rfl (by decide) _ _ _ rfl (World.ownsRow.alloc HO4.out _) ⟨World.heap _ |>.size, 0, none⟩ 1 1 [.pointer (some ⟨w.heap.size, 0, none⟩)] rfl rfl (newsX _ _ _) (by intro u hu; simp at hu; subst hu; rfl) (by unfold maxLen; omega) (by omega) (by simp; omega) ?_; intro v5 w5 hown5 hgrow5 _)
        have HB5 : Hid (Below W1.heap.size W1 w5) := (ba HB4.out _).grown hgrow5 (by simp; omega) (fun x hx => (HO4.out.lt x hx).1)
        have h5 : w5.ownsRow W1.heap.size 153 1 v5 (L ++ [((w.heap.size, 0), (b, cb))]).length (flatR ptrF (L ++ [((w.heap.size, 0), (b, cb))])) := by rw [flatR_append, List.length_append]; exact hown5
        have HO5 : Hid (w5.ownsRow W1.heap.size 153 1 v5 (L ++ [((w.heap.size, 0), (b, cb))]).length (flatR ptrF (L ++ [((w.heap.size, 0), (b, cb))]))) := h5
        have hs5 := HB5.out.size
        have HS5 : Hid (Stand w5 v5 (L ++ [((w.heap.size, 0), (b, cb))])) := ⟨rows_of_own ptrF_len HO5.out, fun x hx => by
          rcases List.mem_append.1 hx with h | h
          · exact (HAL.out x h).below HB5.out
          · rw [List.mem_singleton] at h
            subst h
            exact HA.out.below HB5.out, capOk_own HO5.out⟩
        have HOK5 : Hid (∀ x ∈ L ++ [((w.heap.size, 0), (b, cb))], okB x.2.1) := fun x hx => by
          rcases List.mem_append.1 hx with h | h
          · exact HOK.out x h
          · rw [List.mem_singleton] at h
            subst h
            exact HKB.out
        clear hown5 hgrow5 h5
        go_wp2_with fail
        refine (HTold.out w5 _ _ HS5.out (by simp; omega) HOK5.out).mono ?_
        rintro e w6 ⟨v6, qs, rfl, hqs, hown6, hb6⟩
        have HQ : Hid (bks qs = bks ps ++ [b]) := (by rw [hqs, sks_snoc, HSK.out] : bks qs = bks ps ++ [b])
        have HO6 : Hid (OwnT w6 w5.heap.size v6 qs) := hown6
        clear hqs hown6
        go_wp2
        go_ret2
        exact ⟨v6, qs, ret_vi2 HP.out.1.symm, by rw [HP.out.2]; exact HQ.out, HO6.out.base (by omega), bt HB1.out (bt HB5.out hb6)⟩
    · have HP : Hid (putAt (bks ps) b = -1 ∧ putT (bks ps) b = bks ps) := put_not HNA.out (Or.inr (by rw [hbl, ← HLL.out]; omega))
      go_wp2_with fail
      refine (HTold.out w3 _ L ⟨rows_of_own ptrF_len HO3.out, HAL.out.below HB3.out, capOk_own HO3.out⟩ (by omega) HOK.out).mono ?_
      rintro e w4 ⟨v4, qs, rfl, hqs, hown4, hb4⟩
      have HQ : Hid (bks qs = bks ps) := hqs.trans HSK.out
      have HO4 : Hid (OwnT w4 w3.heap.size v4 qs) := hown4
      clear hqs hown4
      go_wp2
      go_ret2
      exact ⟨v4, qs, ret_vi2 HP.out.1.symm, by rw [HP.out.2]; exact HQ.out, HO4.out.base (by omega), bt HB1.out (bt HB3.out hb4)⟩

end Go.Proofs.YtcfgfhodbjakoavGreatDoor
