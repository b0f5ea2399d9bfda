/-
  The contract of the program's list of the accounts in a map, in the order of their keys.
-/
import Derived.Test.YtjdddcldbfhbiaaMapI
import Derived.Test.YtjdddcldbfhbiaaIter
import Derived.Test.YtjdddcldbfhbiaaClone
import Derived.Test.YtjdddcldbfhbiaaAppC
import Derived.Test.YtjdddcldbfhbiaaRowX
import Derived.Test.YtjdddcldbfhbiaaCopyI
import Derived.Deep.RegionHeld3
import Derived.Deep.AppendLies
namespace Go.Proofs.Ytjdddcldbfhbiaa
open Go.RowKit Num Go.Maps

theorem keys_i (mb : Option Nat) (W : World) : Calls Try.prog 95 #[.map mb] W fun e w' => e = .returned (.func (.func 110) #[] #[.pointer (some ⟨W.heap.size, 0, none⟩)]) ∧ w' = W.alloc (.cells #[.map mb] 83) :=
  (callsIn_wide (n := 5)).1 (keys_any mb W)

theorem sorted_row {w w1 : World} {b n base : Nat} {D : DataW Unit} {cs : CL} {v : Value} (h : w.ownsMap Try.prog 9 (plainElem Try.prog 3) b n D) (hr : Rep D cs) (hA : Asc cs) {ss : List (List UInt8)} (hp : ss.Perm (strKeys D))
    (hrow : w1.ownsRow base 9 1 v ss.length ((ss.mergeSort (fun x y => decide (x ≤ y))).map encStr)) : w1.ownsRow base 9 1 v cs.length (cs.map fun c => Value.string c.1) ∧ ss.length = cs.length := by
  have e := keys_sorted h hr hA hp
  have el : ss.length = cs.length := by
    have := congrArg List.length e
    rw [List.length_mergeSort, List.length_map] at this
    exact this
  rw [e, el, List.map_map] at hrow
  refine ⟨?_, el⟩
  have : ((fun c : ByteArray × Int => c.1.data.toList) |> fun f => cs.map (encStr ∘ f)) = cs.map fun c => Value.string c.1 := by
    refine List.map_congr_left fun c _ => ?_
    simp [encStr]
  simp only at this
  rw [this] at hrow
  exact hrow

set_option maxRecDepth 100000 in
set_option maxHeartbeats 2000000 in
theorem told_i (cs : CL) (b : Nat) (w : World) (hm : MapIs w b cs) (hA : Asc cs) (hl : cs.length ≤ 13) (hall : ∀ c ∈ cs, (c.1.size : Int) ≤ 1048576) :
    Calls Try.prog 54 #[.map (some b)] w fun e w' => ∃ v, e = .returned v ∧ w'.ownsRow w.heap.size 35 2 v cs.length (flat cs) ∧ Below w.heap.size w w' := by
  have HM : Hid (MapIs w b cs) := hm
  have HA : Hid (Asc cs) := hA
  have HZ : Hid (∀ c ∈ cs, (c.1.size : Int) ≤ 1048576) := hall
  obtain ⟨D, hD, hrep⟩ := hm
  have HD : Hid (w.ownsMap Try.prog 9 (plainElem Try.prog 3) b cs.length D) := hD
  have HREP : Hid (Rep D cs) := hrep
  have hsz : Maps.size D = cs.length := hrep.1
  obtain ⟨i0, hi, hz0, hz1, hz2⟩ := info_parts infoC
  clear hD hrep hA hall
  go_enter Try.func54, Try.ntmps54
  go_wp2_with (first
    | (at_len; refine wpList_len_own _ rfl _ 83 rfl 9 3 mapT _ b _ _ rfl HD.out ?_)
    | (at_make; refine wpList_make_own _ rfl _ _ 24 rfl w.heap.size 35 i0 _ 2 Try.underlying24 hi hz0 hz1 _ _ _ cs.length rfl rfl (by rw [hsz]) (by rw [hz2]; omega) (by unfold maxLen; omega) (Nat.le_refl _) ?_; intro w0 hown0 hgrow0; have B0 : Below w.heap.size w w0 := (Below.refl _ _).grown hgrow0 (Nat.le_refl _) (fun k h => by cases h); have HD0 : Hid (w0.ownsMap Try.prog 9 (plainElem Try.prog 3) b cs.length D) := HD.out.kept hgrow0 (by simp); have HO0 : Hid (w0.ownsRow w.heap.size 35 2 (.slice (some ⟨w.heap.size, 0, none⟩) 0 cs.length) 0 []) := hown0; clear hown0 hgrow0)
    | (go_at_call 95; refine (keys_i _ _).mono ?_; rintro e w1 ⟨rfl, rfl⟩)
    | (go_at_call 94; refine ((callsIn_wide (n := 5)).1 (sorted_any b _ D _ w0 HD0.out (by rw [hsz]; unfold maxLen; omega) (by rw [hsz]; omega))).mono ?_; rintro e w1 ⟨v1, ss, rfl, hS, hrow, hnil, hb1⟩; clear hnil; obtain ⟨hrow2, hlen⟩ := sorted_row HD0.out HREP.out HA.out hS hrow; obtain ⟨a1, cap1, rfl, hg1⟩ := own_form hrow2; have HW1 : Hid (w1.ownsRow _ 9 1 (.slice a1 cs.length cap1) cs.length (cs.map fun c => Value.string c.1)) := hrow2; have HG1 : Hid (0 < cs.length → ∃ g, a1 = some ⟨g, 0, none⟩) := hg1; clear hrow hrow2 hS hg1))
  have B1 : Below w.heap.size w w1 := bt B0 (bt (ba (Below.refl _ _) _) hb1)
  have HO1 : Hid (w1.ownsRow w.heap.size 35 2 (.slice (some ⟨w.heap.size, 0, none⟩) 0 cs.length) 0 []) := own_kept HO0.out (bt (ba (Below.refl _ _) _) hb1)
  have HB1 : Hid (Below w.heap.size w w1) := B1
  have hs01 : w0.heap.size ≤ w1.heap.size := by have := hb1.size; simp at this; omega
  have HB0 : Hid (Below w.heap.size w w0) := B0
  clear hb1 B0 HD0 HO0
  go_loopw [3, 13] (fun o i wr => ∃ k : Nat, k ≤ cs.length ∧ i = .int .i64 (k : Int) ∧ wr.ownsRow w.heap.size 35 2 o k (flat (cs.take k)) ∧ Hid (∀ g, a1 = some ⟨g, 0, none⟩ → o.ownBlock ≠ some g) ∧ wr.ownsRow _ 9 1 (.slice a1 cs.length cap1) cs.length (cs.map fun c => Value.string c.1) ∧ Below w.heap.size w wr) (fun _ i _ => cs.length - (intOf i).toNat)
  case atStart => exact ⟨0, Nat.zero_le _, rfl, HO1.out, fun g hg e => (by subst hg; have h1 := (HW1.out.lt g rfl).1; have h2 : w.heap.size = g := Option.some.inj e; simp at h1; have := HB0.out.size; omega), HW1.out, HB1.out⟩
  case round =>
    obtain ⟨k, hk, rfl, hown, HNE, hkeys, hbel⟩ := hrel
    have HO : Hid (wr.ownsRow w.heap.size 35 2 u3 k (flat (cs.take k))) := hown
    have HW : Hid (wr.ownsRow _ 9 1 (.slice a1 cs.length cap1) cs.length (cs.map fun c => Value.string c.1)) := hkeys
    have HB : Hid (Below w.heap.size w wr) := hbel
    have hbs := hbel.size
    clear hown hkeys hbel
    by_cases hlt : (k : Int) < cs.length
    · have hkn : k < cs.length := by omega
      obtain ⟨g, rfl⟩ := HG1.out (by omega)
      have q0 : (0 : Int) ≤ (k : Int) := by omega
      have c0 : wr.cell? ⟨g, k, none⟩ = some (.string cs[k].1) := by rw [World.ownsRow.cellAt HW.out k (by omega), List.getElem?_map, List.getElem?_eq_getElem hkn]; rfl
      have hsz2 := HZ.out cs[k] (List.getElem_mem hkn)
      have hlim : cs[k].1.size ≤ 281474976710656 := by omega
      have HL : Hid (∀ w', Below w.heap.size w w' → (Instr.lookup 83 (.map (some b)) (.string cs[k].1) false).run Try.prog w' = .ok (.int .i64 cs[k].2) w') := fun w' hb => by
        have hm := HM.out.below hb
        obtain ⟨D', hD', hr'⟩ := hm
        obtain ⟨c, hrun, hat, _⟩ := hD'.lookup_int keyedS mapT Try.underlying3 (zeroI _) (keyS hsz2)
        have e := hat.symm.trans (rep_same hr' hkn)
        unfold i64D at e
        injection e with t; injection t with _ t
        rw [← t]; exact hrun
      go_wp2
      go_region_held3 (fun w' => (Instr.lookup 83 (.map (some b)) (.string cs[k].1) false).run Try.prog w' = .ok (.int .i64 cs[k].2) w') (first | exact HL.out _ HB.out.drew | exact HL.out _ hbc | exact HL.out _ (ba hbc _) | exact HL.out _ hb3) (first | (refine step_append_lies _ (by rfl) (.tmp 17) (.tmp 24) 24 (by rfl) w.heap.size 35 i0 _ 2 24 Try.underlying24 hi hz0 hz1 hz2 rfl (by decide) _ _ _ (by rfl) (World.ownsRow.alloc HO2.out _) ⟨World.heap _ |>.size, 0, none⟩ 1 1 [.string cs[k].1, .int .i64 cs[k].2] (by rfl) rfl (newsC _ _ _ _) (onesC _ _) (by decide) (by unfold maxLen; omega) (by omega) (by simp; omega) _ rfl ?_; intro g2 cap2 w3 hown3 hgrow3 hx1 hx2; clear hx2; have hb3 : Below w.heap.size w w3 := (ba hbc _).grown hgrow3 (by simp; omega) (fun x hx => (HO2.out.lt x hx).1)) | (go_at_call 76; refine (clone _ _ hlim).mono ?_; rintro e w2 ⟨rfl, hb2⟩; have hbr : Below wr.heap.size wr w2 := (Below.refl _ _).drew.trans hb2; have hbc : Below w.heap.size w w2 := bt HB.out hbr; have HO2 : Hid (w2.ownsRow w.heap.size 35 2 u3 k (flat (cs.take k))) := own_kept HO.out hbr; have hbs2 := hbc.size))
      all_goals
        have HO3 : Hid (w3.ownsRow w.heap.size 35 2 (.slice (some ⟨g2, 0, none⟩) (k + 1) cap2) (k + 1) (flat (cs.take k) ++ [.string cs[k].1, .int .i64 cs[k].2])) := hown3
        have HW3 : Hid (w3.ownsRow _ 9 1 (.slice (some ⟨g, 0, none⟩) cs.length cap1) cs.length (cs.map fun c => Value.string c.1)) := World.ownsRow.kept (World.ownsRow.alloc (own_kept HW.out hbr) _) hgrow3 (Or.inr (HNE.out g rfl).symm)
        have HNE3 : Hid (∀ x, some (⟨g, 0, none⟩ : Addr) = some ⟨x, 0, none⟩ → (Value.slice (some ⟨g2, 0, none⟩) (k + 1) cap2).ownBlock ≠ some x) := fun x hx e => by
          cases hx
          have e2 : g2 = g := Option.some.inj e
          rcases hx1 with h | h
          · exact HNE.out g rfl (by rw [h, e2])
          · have := (HW.out.lt g rfl).2; have := hbr.size; simp at h; omega
        clear hown3 hgrow3 hx1
        go_wp2
        go_roundw
        case rel => exact ⟨k + 1, by omega, by go_num, by rw [take_snoc' hkn, flat_append]; exact HO3.out, HNE3.out, HW3.out, hb3⟩
        case measure => simp [intOf]; omega
    · have hkl : k = cs.length := by omega
      have HK : Hid (k = cs.length) := hkl
      clear hkl
      go_wp2
      go_ret
      have := HO.out
      rw [HK.out, List.take_length] at this
      exact ⟨_, rfl, this, HB.out⟩

end Go.Proofs.Ytjdddcldbfhbiaa
