/-
  The contracts of the program's FirstBlock, SameBlock, BlockAt, BlockOk, TreeOk.
-/
import Derived.Test.YtcfgfhodbjakoavGreatDoorCarryI
import Derived.Test.YtcfgfhodbjakoavGreatDoorTreeS
namespace Go.Proofs.YtcfgfhodbjakoavGreatDoor
open Go.RowKit Num

theorem sks_bks {L : SL} {ps : TL} (h : L.map (fun x => x.2) = ps) : sks L = bks ps := by subst h; simp [sks, bks]
theorem sl_len {L : SL} {ps : TL} (h : L.map (fun x => x.2) = ps) : L.length = ps.length := by subst h; simp
theorem sl_at {L : SL} {ps : TL} (h : L.map (fun x => x.2) = ps) {k : Nat} (hk : k < ps.length) : (L[k]'(by rw [sl_len h]; exact hk)).2 = ps[k] := by subst h; simp
theorem sl_ok {L : SL} {ps : TL} (h : L.map (fun x => x.2) = ps) (hk : okT (bks ps)) : ∀ x ∈ L, okB x.2.1 := fun x hx => by
  subst h
  exact hk.2 _ (List.mem_map.2 ⟨x.2, List.mem_map.2 ⟨x, hx, rfl⟩, rfl⟩)




set_option maxRecDepth 100000 in
set_option maxHeartbeats 2000000 in
theorem blockAt_i (ps : TL) (v : Value) (b : BK) (cb : Value) (w : World) (hT : TreeR w v ps) (hB : RowsR w cb 3 cmdF b.2.1) (hk : okT (bks ps)) (hkb : okB b) :
    Calls Tryz.prog 61 #[v, blkV b cb] w fun e w' => e = .returned (.int .i64 (blockAt (bks ps) b)) ∧ Below w.heap.size w w' := by
  have hbl := bks_len ps
  have hl : (ps.length : Int) ≤ 1048576 := by have := hk.1; rw [hbl] at this; exact this
  have HK : Hid (okT (bks ps)) := hk
  have HKB : Hid (okB b) := hkb
  unfold blkV
  obtain ⟨W1, hW1⟩ : ∃ W1, W1 = w.alloc (.cells (blkA b cb) 61) := ⟨_, rfl⟩
  have HB1 : Hid (Below w.heap.size w W1) := (by rw [hW1]; exact ba (Below.refl _ _) _ : Below w.heap.size w W1)
  have HA : Hid (AtB W1 w.heap.size 0 (b, cb)) := atB_box (t := 61) (by rw [← hW1]; exact Below.refl _ _) hB
  have HT1 : Hid (TreeR W1 v ps) := hT.below HB1.out
  clear hT hB hk hkb
  go_enter Tryz.func61, Tryz.ntmps61
  go_wp2_with fail
  rw [← hW1]
  clear hW1
  refine (standing_i ps v W1 HT1.out hl).mono ?_
  rintro e w2 ⟨v2, L, rfl, hL, hown, hat, hb2⟩
  have hll := sl_len hL
  have HC : Hid (Calls Tryz.prog 100 #[v2, .pointer (some ⟨w.heap.size, 0, none⟩)] w2 fun e w' => e = .returned (.int .i64 (blockAt (bks ps) b)) ∧ Below w2.heap.size w2 w') := (by
    rw [← sks_bks hL]
    exact place_i L v2 b cb _ _ w2 ⟨rows_of_own ptrF_len hown, hat.below hb2, capOk_own hown⟩ (HA.out.below hb2) (by rw [hll]; exact hl) (sl_ok hL HK.out) HKB.out)
  have HB2 : Hid (Below w.heap.size w w2) := bt HB1.out hb2
  clear hown hat hb2 hL hll
  go_wp2_with fail
  refine HC.out.mono ?_
  rintro e w3 ⟨rfl, hb3⟩
  go_wp2
  go_ret
  exact ⟨rfl, bt HB2.out hb3⟩



end Go.Proofs.YtcfgfhodbjakoavGreatDoor
