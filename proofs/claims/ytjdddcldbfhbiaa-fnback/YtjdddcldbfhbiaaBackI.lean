/-
  The contract of the program's DoneBack.
-/
import Derived.Test.YtjdddcldbfhbiaaUndoI
import Derived.Test.YtjdddcldbfhbiaaBackS
import Derived.Test.YtjdddcldbfhbiaaToldI
import Derived.Test.YtjdddcldbfhbiaaDoI
import Derived.Test.YtjdddcldbfhbiaaCopyI
namespace Go.Proofs.Ytjdddcldbfhbiaa
open Go.RowKit Num Go.Maps

set_option maxRecDepth 100000 in
set_option maxHeartbeats 4000000 in
theorem doneBack_i (cs : CL) (l : List CM) (v u : Value) (w : World) (hv : Cells w v cs) (hu : RowsR w u 3 cmdF l) (hok : okL cs) (hl : (l.length : Int) ≤ 1048576) (hall : ∀ c ∈ l, (c.2.1.size : Int) ≤ 1048576) :
    Calls Try.prog 20 #[v, u] w fun e w' => ∃ v1 v2, e = .returned (.tuple #[v1, v2]) ∧ w'.ownsRow w.heap.size 35 2 v1 (doneAllC cs l).length (flat (doneAllC cs l)) ∧ w'.ownsRow w.heap.size 48 3 v2 (undosC cs l).length (flatR undoF (undosC cs l)) ∧ (v1.ownBlock = none ∨ v1.ownBlock ≠ v2.ownBlock) ∧ Below w.heap.size w w' := by
  have HV : Hid (Cells w v cs) := hv
  have HL : Hid (okL cs) := hok
  have HA : Hid (∀ c ∈ l, (c.2.1.size : Int) ≤ 1048576) := hall
  have h1 := hok.1
  obtain ⟨a, cap, rfl, _⟩ := hv
  obtain ⟨b, bcap, rfl, hr⟩ := hu
  have HR : Hid (0 < l.length → _) := hr
  obtain ⟨i0, hi, hz0, hz1, hz2⟩ := info_parts infoUndo
  clear hall hr hok
  go_enter Try.func20, Try.ntmps20
  go_wp2_with (at_make; refine wpList_make_own _ rfl _ _ 44 rfl w.heap.size 48 i0 _ 3 Try.underlying44 hi hz0 hz1 _ _ _ l.length rfl rfl rfl (by rw [hz2]; omega) (by unfold maxLen; omega) (Nat.le_refl _) ?_; intro w0 hown0 hgrow0)
  have B0 : Below w.heap.size w w0 := (Below.refl _ _).grown hgrow0 (Nat.le_refl _) (fun k h => by cases h)
  have HO0 : Hid (w0.ownsRow w.heap.size 48 3 (.slice (some ⟨w.heap.size, 0, none⟩) 0 l.length) 0 []) := hown0
  have HB0 : Hid (Below w.heap.size w w0) := B0
  clear hown0 hgrow0 B0
  refine (cellsOk_i cs _ w0 (HV.out.below HB0.out) HL.out.1 HL.out.2).mono ?_
  rintro e w1 ⟨rfl, hb1⟩
  have HO1 : Hid (w1.ownsRow w.heap.size 48 3 (.slice (some ⟨w.heap.size, 0, none⟩) 0 l.length) 0 []) := own_kept HO0.out hb1
  have HB1 : Hid (Below w.heap.size w w1) := bt HB0.out hb1
  clear hb1 HO0 HB0
  cases hcb : cellsB cs with
  | false =>
    have HED : Hid (doneAllC cs l = cs) := (doneAll_bad hcb l).1
    have HEU : Hid (undosC cs l = l.map fun c => undoC cs c.2.1) := undos_bad hcb l
    clear hcb
    go_wp2
    go_loopw [6, 20] (fun q i wr => ∃ k : Nat, k ≤ l.length ∧ i = .int .i64 (k : Int) ∧ wr.ownsRow w.heap.size 48 3 q k (flatR undoF ((l.take k).map fun c => undoC cs c.2.1)) ∧ Below w.heap.size w wr) (fun _ i _ => l.length - (intOf i).toNat)
    case atStart => exact ⟨0, Nat.zero_le _, rfl, HO1.out, HB1.out⟩
    case round =>
      obtain ⟨k, hk, rfl, hown, hbel⟩ := hrel
      have HO : Hid (wr.ownsRow w.heap.size 48 3 u6 k (flatR undoF ((l.take k).map fun c => undoC cs c.2.1))) := hown
      have HB : Hid (Below w.heap.size w wr) := hbel
      have hbs := hbel.size
      clear hown hbel
      by_cases hlt : (k : Int) < l.length
      · have hkn : k < l.length := by omega
        have q0 : (0 : Int) ≤ (k : Int) := by omega
        obtain ⟨g, off, rfl, hg, hc⟩ := HR.out (by omega)
        have c0 : wr.cell? ⟨g, off + k * 3, none⟩ = some (.int .i64 l[k].1) := by rw [HB.out.cell (by exact hg)]; exact hc k hkn 0 (by omega)
        have c1 : wr.cell? ⟨g, off + k * 3 + 1, none⟩ = some (.string l[k].2.1) := by rw [HB.out.cell (by exact hg)]; exact hc k hkn 1 (by omega)
        have c2 : wr.cell? ⟨g, off + k * 3 + 2, none⟩ = some (.int .i64 l[k].2.2) := by rw [HB.out.cell (by exact hg)]; exact hc k hkn 2 (by omega)
        have HS : Hid (l.take (k + 1) = l.take k ++ [l[k]]) := take_snoc hkn
        clear hc
        go_wp2_with fail
        have BA : Below wr.heap.size wr (wr.alloc (Obj.cells #[Value.int IntKind.i64 l[k].1, Value.string l[k].2.1, Value.int IntKind.i64 l[k].2.2] 29)) := ba (Below.refl _ _) _
        refine (undoOf_i cs _ l[k].2.1 _ (HV.out.below (bt HB.out BA)) h1 (HA.out _ (List.getElem_mem hkn))).mono ?_
        rintro e w2 ⟨rfl, hb2⟩
        unfold undoV
        have HQ2 : Hid (w2.ownsRow w.heap.size 48 3 u6 k (flatR undoF ((l.take k).map fun c => undoC cs c.2.1))) := own_kept HO.out (bt BA hb2)
        have HB2 : Hid (Below w.heap.size w w2) := bt HB.out (bt BA hb2)
        have hbs2 := (bt BA hb2).size
        clear hb2 c0 c1 c2 BA HO
        obtain ⟨uu, huu⟩ : ∃ uu, uu = undoC cs l[k].2.1 := ⟨_, rfl⟩
        rw [← huu]
        have HUU : Hid (uu = undoC cs l[k].2.1) := huu
        clear huu
        go_wp2_with (at_builtin; refine wpList_append_own _ rfl _ _ 44 rfl w.heap.size 48 i0 _ 3 32 Try.underlying44 hi hz0 hz1 hz2 rfl (by decide) _ _ _ rfl (World.ownsRow.alloc HQ2.out _) ⟨World.heap _ |>.size, 0, none⟩ 1 1 (undoF uu) rfl rfl (newsU _ uu _) (onesU uu) (by unfold maxLen; omega) (by omega) (by simp; omega) ?_; intro v3 w3 hown3 hgrow3 _)
        have HQ3 : Hid (w3.ownsRow w.heap.size 48 3 v3 (k + 1) _) := hown3
        have HB3 : Hid (Below w.heap.size w w3) := (ba HB2.out _).grown hgrow3 (by simp; omega) (fun b hb => (HQ2.out.lt b hb).1)
        clear hown3 hgrow3
        go_roundw
        case rel => exact ⟨k + 1, by omega, by go_num, by rw [HS.out, List.map_append, flatR_append]; show w3.ownsRow _ _ _ _ _ (_ ++ flatR undoF [undoC cs l[k].2.1]); rw [flatU_one, ← HUU.out]; exact HQ3.out, HB3.out⟩
        case measure => simp [intOf]; omega
      · have hkl : k = l.length := by omega
        have HK : Hid (k = l.length) := hkl
        clear hkl
        go_wp2_with fail
        refine (copy_i cs _ wr (HV.out.below HB.out) HL.out.1 HL.out.2).mono ?_
        rintro e w3 ⟨v3, rfl, hown3, hb3⟩
        have HO3 : Hid (w3.ownsRow wr.heap.size 35 2 v3 cs.length (flat cs)) := hown3
        have HQ3 : Hid (w3.ownsRow w.heap.size 48 3 u6 k (flatR undoF ((l.take k).map fun c => undoC cs c.2.1))) := own_kept HO.out hb3
        clear hown3
        go_wp2
        go_ret2
        refine ⟨v3, _, rfl, by rw [HED.out]; exact own_base HO3.out HB.out.size, ?_, own_ne HO.out HO3.out (Nat.le_refl _), bt HB.out hb3⟩
        have := HQ3.out
        rw [HK.out, List.take_length, ← HEU.out] at this
        rw [undosC_len]
        exact this
  | true =>
    have HCB : Hid (cellsB cs = true) := hcb
    clear hcb
    go_wp2_with fail
    refine (accounts_i cs _ w1 (HV.out.below HB1.out) HCB.out HL.out.2).mono ?_
    rintro e w2 ⟨rfl, hm2, hb2⟩
    have HM2 : Hid (MapIs w2 w1.heap.size cs) := hm2
    have HO2 : Hid (w2.ownsRow w.heap.size 48 3 (.slice (some ⟨w.heap.size, 0, none⟩) 0 l.length) 0 []) := own_kept HO1.out hb2
    have HB2 : Hid (Below w.heap.size w w2) := bt HB1.out hb2
    have hs1 := HB1.out.size
    clear hm2 hb2
    go_wp2
    go_loopw [6, 39] (fun q i wr => ∃ k : Nat, k ≤ l.length ∧ i = .int .i64 (k : Int) ∧ wr.ownsRow w.heap.size 48 3 q k (flatR undoF (undosC cs (l.take k))) ∧ MapIs wr w1.heap.size (doneAllC cs (l.take k)) ∧ Below w.heap.size w wr) (fun _ i _ => l.length - (intOf i).toNat)
    case atStart => exact ⟨0, Nat.zero_le _, rfl, HO2.out, HM2.out, HB2.out⟩
    case round =>
      obtain ⟨k, hk, rfl, hown, hmap, hbel⟩ := hrel
      have HO : Hid (wr.ownsRow w.heap.size 48 3 u6 k (flatR undoF (undosC cs (l.take k)))) := hown
      have HB : Hid (Below w.heap.size w wr) := hbel
      have HM : Hid (MapIs wr w1.heap.size (doneAllC cs (l.take k))) := hmap
      have hmlt := hmap.lt
      have hbs := hbel.size
      clear hown hbel hmap
      by_cases hlt : (k : Int) < l.length
      · have hkn : k < l.length := by omega
        have q0 : (0 : Int) ≤ (k : Int) := by omega
        obtain ⟨g, off, rfl, hg, hc⟩ := HR.out (by omega)
        have c0 : wr.cell? ⟨g, off + k * 3, none⟩ = some (.int .i64 l[k].1) := by rw [HB.out.cell (by exact hg)]; exact hc k hkn 0 (by omega)
        have c1 : wr.cell? ⟨g, off + k * 3 + 1, none⟩ = some (.string l[k].2.1) := by rw [HB.out.cell (by exact hg)]; exact hc k hkn 1 (by omega)
        have c2 : wr.cell? ⟨g, off + k * 3 + 2, none⟩ = some (.int .i64 l[k].2.2) := by rw [HB.out.cell (by exact hg)]; exact hc k hkn 2 (by omega)
        have HS : Hid (l.take (k + 1) = l.take k ++ [l[k]]) := take_snoc hkn
        clear hc
        go_wp2_with fail
        have BA : Below wr.heap.size wr (wr.alloc (Obj.cells #[Value.int IntKind.i64 l[k].1, Value.string l[k].2.1, Value.int IntKind.i64 l[k].2.2] 29)) := ba (Below.refl _ _) _
        refine (mapUndo_i (doneAllC cs (l.take k)) w1.heap.size l[k].2.1 _ (HM.out.below BA) (HA.out _ (List.getElem_mem hkn))).mono ?_
        rintro e w3 ⟨rfl, hb3⟩
        unfold undoV
        have k0 : w3.cell? ⟨wr.heap.size, 0, none⟩ = some (.int .i64 l[k].1) := by rw [hb3.cell (by simp)]; simp
        have k1 : w3.cell? ⟨wr.heap.size, 1, none⟩ = some (.string l[k].2.1) := by rw [hb3.cell (by simp)]; simp
        have k2 : w3.cell? ⟨wr.heap.size, 2, none⟩ = some (.int .i64 l[k].2.2) := by rw [hb3.cell (by simp)]; simp
        have HC3 : Hid (w3.cell? ⟨wr.heap.size, 0, none⟩ = some (.int .i64 l[k].1) ∧ w3.cell? ⟨wr.heap.size, 1, none⟩ = some (.string l[k].2.1) ∧ w3.cell? ⟨wr.heap.size, 2, none⟩ = some (.int .i64 l[k].2.2)) := ⟨k0, k1, k2⟩
        have hlt3 : wr.heap.size < w3.heap.size := by have := hb3.size; simp at this; omega
        have HQ3 : Hid (w3.ownsRow w.heap.size 48 3 u6 k (flatR undoF (undosC cs (l.take k)))) := own_kept HO.out (bt BA hb3)
        have HM3 : Hid (MapIs w3 w1.heap.size (doneAllC cs (l.take k))) := HM.out.below (bt BA hb3)
        have HB3 : Hid (Below w.heap.size w w3) := bt HB.out (bt BA hb3)
        have hqlt : ∀ x, u6.ownBlock = some x → x < wr.heap.size := fun x hx => (HO.out.lt x hx).2
        have HQL : Hid (∀ x, u6.ownBlock = some x → x < wr.heap.size) := hqlt
        clear hb3 c0 c1 c2 BA HO HM k0 k1 k2 hqlt
        obtain ⟨uu, huu⟩ : ∃ uu, uu = undoC (doneAllC cs (l.take k)) l[k].2.1 := ⟨_, rfl⟩
        rw [← huu]
        have HUU : Hid (uu = undoC (doneAllC cs (l.take k)) l[k].2.1) := huu
        clear huu
        go_wp2_with (at_builtin; refine wpList_append_own _ rfl _ _ 44 rfl w.heap.size 48 i0 _ 3 32 Try.underlying44 hi hz0 hz1 hz2 rfl (by decide) _ _ _ rfl (World.ownsRow.alloc HQ3.out _) ⟨World.heap _ |>.size, 0, none⟩ 1 1 (undoF uu) rfl rfl (newsU _ uu _) (onesU uu) (by unfold maxLen; omega) (by omega) (by simp; omega) ?_; intro v4 w4 hown4 hgrow4 _; have HQ4 : Hid (w4.ownsRow w.heap.size 48 3 v4 (k + 1) _) := hown4; have HM4 : Hid (MapIs w4 w1.heap.size (doneAllC cs (l.take k))) := (HM3.out.below (ba (Below.refl _ _) _)).kept hgrow4 (row_not_map HQ3.out HM3.out); have HB4 : Hid (Below w.heap.size w w4) := (ba HB3.out _).grown hgrow4 (by simp; omega) (fun b hb => (HQ3.out.lt b hb).1); have hk4 : ∀ i, w4.cell? ⟨wr.heap.size, i, none⟩ = w3.cell? ⟨wr.heap.size, i, none⟩ := (fun i => (grown_cell (i := i) hgrow4 (by simp; omega) (fun e => Nat.lt_irrefl _ (HQL.out _ e))).trans ((ba (Below.refl _ _) _ : Below w3.heap.size w3 _).cell (by exact hlt3))); obtain ⟨k0, k1, k2⟩ := HC3.out; rw [← hk4] at k0 k1 k2; clear hown4 hgrow4 hk4)
        refine (do_i (doneAllC cs (l.take k)) w1.heap.size l[k] _ HM4.out (doneAll_ok _ HCB.out) (HA.out _ (List.getElem_mem hkn))).mono ?_
        rintro e w5 ⟨rfl, hm5, hg5⟩
        have HM5 : Hid (MapIs w5 w1.heap.size (doneC (doneAllC cs (l.take k)) l[k])) := hm5
        have HQ5 : Hid (w5.ownsRow w.heap.size 48 3 v4 (k + 1) _) := World.ownsRow.kept HQ4.out hg5 (Or.inr (row_not_map HQ4.out HM4.out).symm)
        have HB5 : Hid (Below w.heap.size w w5) := HB4.out.grown hg5 HB4.out.size fun x hx => by cases hx; omega
        clear hm5 hg5 k0 k1 k2
        go_wp2
        go_roundw
        case rel => exact ⟨k + 1, by omega, by go_num, by rw [HS.out, undos_snoc, flatR_append, flatU_one, ← HUU.out]; exact HQ5.out, by rw [HS.out, doneAll_snoc]; exact HM5.out, HB5.out⟩
        case measure => simp [intOf]; omega
      · have hkl : k = l.length := by omega
        have HK : Hid (k = l.length) := hkl
        have HM' : Hid (MapIs wr w1.heap.size (doneAllC cs l)) := (by have := HM.out; rw [hkl, List.take_length] at this; exact this : MapIs wr w1.heap.size (doneAllC cs l))
        clear hkl
        obtain ⟨_, hA3, hl3⟩ := cellsB_iff.1 (doneAll_ok l HCB.out)
        have HA3 : Hid (Asc (doneAllC cs l)) := hA3
        clear hA3
        go_wp2_with fail
        refine (told_i (doneAllC cs l) w1.heap.size wr HM'.out HA3.out (Nat.le_succ_of_le hl3) (okL_all l HL.out HA.out).2).mono ?_
        rintro e w3 ⟨v3, rfl, hown3, hb3⟩
        have HO3 : Hid (w3.ownsRow wr.heap.size 35 2 v3 _ _) := hown3
        have HQ3 : Hid (w3.ownsRow w.heap.size 48 3 u6 k (flatR undoF (undosC cs (l.take k)))) := own_kept HO.out hb3
        clear hown3
        go_wp2
        go_ret2
        refine ⟨v3, _, rfl, own_base HO3.out HB.out.size, ?_, own_ne HO.out HO3.out (Nat.le_refl _), bt HB.out hb3⟩
        have := HQ3.out
        rw [HK.out, List.take_length] at this
        rw [undosC_len]
        exact this

end Go.Proofs.Ytjdddcldbfhbiaa
