/-
  The contracts of the program's copies of blocks, of TreeNew and of PutBlock.
-/
import Derived.Test.YtcfgfhodbjakoavGreatDoorBlockI
import Derived.Test.YtcfgfhodbjakoavGreatDoorClone
import Derived.Test.YtcfgfhodbjakoavGreatDoorJ2
import Derived.Deep.RegionHeld3
import Derived.Deep.AppendLies
namespace Go.Proofs.YtcfgfhodbjakoavGreatDoor
open Go.RowKit Num

theorem takeC_snoc {α : Type} {l : List α} {k : Nat} (h : k < l.length) : l.take (k + 1) = l.take k ++ [l[k]] := by
  rw [List.take_succ_eq_append_getElem h]
theorem newsM (W : World) (c : CM) (t : TypeId) : ∀ j u, (cmdF c)[j]? = some u → (W.alloc (.cells #[.int .i64 c.1, .string c.2.1, .int .i64 c.2.2] t)).cell? ((⟨W.heap.size, 0, none⟩ : Addr).add j) = some u := by
  intro j u hj
  have hp : (⟨W.heap.size, 0, none⟩ : Addr).add j = ⟨W.heap.size, j, none⟩ := by unfold Addr.add; split <;> simp_all
  rw [hp, cell_of_row _ W.heap.size j _ _ (0, 0) (heap_alloc_new W _), ← hj]
  simp [cmdF]

/-- the seven cells of a block, as they may be read and written -/
theorem blk_free {w : World} {N : Nat} {u0 u1 u2 u3 u4 u5 u6 : Value} {t : TypeId} (h : w.heap[N]? = some (.cells #[u0, u1, u2, u3, u4, u5, u6] t (0, 0))) :
    (w.cell? ⟨N, 0, none⟩ = some u0 ∧ w.cell? ⟨N, 1, none⟩ = some u1 ∧ w.cell? ⟨N, 2, none⟩ = some u2 ∧ w.cell? ⟨N, 3, none⟩ = some u3 ∧ w.cell? ⟨N, 4, none⟩ = some u4 ∧ w.cell? ⟨N, 5, none⟩ = some u5 ∧ w.cell? ⟨N, 6, none⟩ = some u6) ∧
    (w.frozen? ⟨N, 0, none⟩ = false ∧ w.frozen? ⟨N, 1, none⟩ = false ∧ w.frozen? ⟨N, 2, none⟩ = false ∧ w.frozen? ⟨N, 3, none⟩ = false ∧ w.frozen? ⟨N, 4, none⟩ = false ∧ w.frozen? ⟨N, 5, none⟩ = false ∧ w.frozen? ⟨N, 6, none⟩ = false) := by
  refine ⟨⟨?_, ?_, ?_, ?_, ?_, ?_, ?_⟩, frozen_of_row _ N 0 _ _ h, frozen_of_row _ N 1 _ _ h, frozen_of_row _ N 2 _ _ h, frozen_of_row _ N 3 _ _ h, frozen_of_row _ N 4 _ _ h, frozen_of_row _ N 5 _ _ h, frozen_of_row _ N 6 _ _ h⟩ <;> rw [cell_of_row w N _ _ _ (0, 0) h] <;> rfl

set_option maxRecDepth 100000 in
set_option maxHeartbeats 4000000 in
theorem copyCmds_i (l : List CM) (cv : Value) (w : World) (h : RowsR w cv 3 cmdF l) (hl : (l.length : Int) ≤ 1048576) (hs : ∀ c ∈ l, (c.2.1.size : Int) ≤ 1048576) :
    Calls Tryz.prog 146 #[cv] w fun e w' => ∃ v', e = .returned v' ∧ w'.ownsRow w.heap.size 126 3 v' l.length (flatR cmdF l) ∧ Below w.heap.size w w' := by
  obtain ⟨a, cap, rfl, hr⟩ := h
  have HR : Hid (0 < l.length → _) := hr
  have HZ : Hid (∀ c ∈ l, (c.2.1.size : Int) ≤ 1048576) := hs
  obtain ⟨i0, hi, hz0, hz1, hz2⟩ := info_parts infoCm3
  clear hr hs
  go_enter Tryz.func146, Tryz.ntmps146
  go_wp2
  go_loopw [3, 8] (fun o i wr => ∃ k : Nat, k ≤ l.length ∧ i = .int .i64 (k : Int) ∧ wr.ownsRow w.heap.size 126 3 o k (flatR cmdF (l.take k)) ∧ Below w.heap.size w wr) (fun _ i _ => l.length - (intOf i).toNat)
  case atStart => exact ⟨0, Nat.zero_le _, rfl, World.ownsRow_nil _ _ _ _, Below.refl _ _⟩
  case round =>
    obtain ⟨k, hk, rfl, hown, hbel⟩ := hrel
    have HO : Hid (wr.ownsRow w.heap.size 126 3 u3 k (flatR cmdF (l.take k))) := hown
    have HB : Hid (Below w.heap.size w wr) := hbel
    have hbs := hbel.size
    clear hown hbel
    by_cases hlt : (k : Int) < l.length
    · have hkn : k < l.length := by omega
      obtain ⟨g, off, rfl, hg, hc⟩ := HR.out (by omega)
      have q0 : (0 : Int) ≤ (k : Int) := by omega
      have c0 : wr.cell? ⟨g, off + k * 3, none⟩ = some (.int .i64 l[k].1) := by rw [HB.out.cell (by exact hg)]; exact hc k hkn 0 (by omega)
      have c1 : wr.cell? ⟨g, off + k * 3 + 1, none⟩ = some (.string l[k].2.1) := by rw [HB.out.cell (by exact hg)]; exact hc k hkn 1 (by omega)
      have c2 : wr.cell? ⟨g, off + k * 3 + 2, none⟩ = some (.int .i64 l[k].2.2) := by rw [HB.out.cell (by exact hg)]; exact hc k hkn 2 (by omega)
      have hlim : l[k].2.1.size ≤ 281474976710656 := by have := HZ.out l[k] (List.getElem_mem hkn); omega
      obtain ⟨ws, hws⟩ : ∃ ws, ws = wr.alloc (Obj.cells #[Value.int IntKind.i64 l[k].1, Value.string l[k].2.1, Value.int IntKind.i64 l[k].2.2] 126) := ⟨_, rfl⟩
      have hwss : ws.heap.size = wr.heap.size + 1 := by rw [hws]; simp
      have HS : Hid (∀ w', Below ws.heap.size ws w' → w'.cell? ⟨wr.heap.size, 0, none⟩ = some (.int .i64 l[k].1) ∧ w'.cell? ⟨wr.heap.size, 1, none⟩ = some (.string l[k].2.1) ∧ w'.cell? ⟨wr.heap.size, 2, none⟩ = some (.int .i64 l[k].2.2)) := fun w' hb => by
        refine ⟨?_, ?_, ?_⟩ <;> rw [hb.cell (by simp [hwss]), hws] <;> simp
      have BS : Hid (Below wr.heap.size wr ws) := by rw [hws]; exact ba (Below.refl _ _) _
      have HOS : Hid (ws.ownsRow w.heap.size 126 3 u3 k (flatR cmdF (l.take k))) := own_kept HO.out BS.out
      clear hc
      go_wp2
      rw [← hws]
      clear hws
      go_region_held3 (fun w' => w'.cell? ⟨wr.heap.size, 0, none⟩ = some (.int .i64 l[k].1) ∧ w'.cell? ⟨wr.heap.size, 1, none⟩ = some (.string l[k].2.1) ∧ w'.cell? ⟨wr.heap.size, 2, none⟩ = some (.int .i64 l[k].2.2)) (first | exact HS.out _ (Below.refl _ _).drew | exact HS.out _ hbc | exact HS.out _ (ba hbc _) | exact hs3) (first | (refine step_append_lies _ (by rfl) (.tmp 12) (.tmp 21) 41 (by rfl) w.heap.size 126 i0 _ 3 32 Tryz.underlying41 hi hz0 hz1 hz2 rfl (by decide) _ _ _ (by rfl) (World.ownsRow.alloc HO2.out _) ⟨World.heap _ |>.size, 0, none⟩ 1 1 (cmdF l[k]) (by rfl) rfl (newsM _ l[k] _) (cmdF_one l[k]) (by decide) (by unfold maxLen; omega) (by omega) (by simp; omega) _ rfl ?_; intro g2 cap2 w3 hown3 hgrow3 hx1 hx2; clear hx1 hx2; have hb3 : Below w.heap.size w w3 := (ba (bt (bt HB.out BS.out) hbc) _).grown hgrow3 (by simp; omega) (fun x hx => (HO2.out.lt x hx).1); have hs3 : w3.cell? ⟨wr.heap.size, 0, none⟩ = some (.int .i64 l[k].1) ∧ w3.cell? ⟨wr.heap.size, 1, none⟩ = some (.string l[k].2.1) ∧ w3.cell? ⟨wr.heap.size, 2, none⟩ = some (.int .i64 l[k].2.2) := (by have h2 := HS.out _ (ba hbc (Obj.cells #[Value.int IntKind.i64 l[k].1, Value.string l[k].2.1, Value.int IntKind.i64 l[k].2.2] 126)); rw [← h2.1, ← h2.2.1, ← h2.2.2]; exact ⟨grown_cell hgrow3 (by simp; omega) (fun e => by have := (HO.out.lt _ e).2; omega), grown_cell hgrow3 (by simp; omega) (fun e => by have := (HO.out.lt _ e).2; omega), grown_cell hgrow3 (by simp; omega) (fun e => by have := (HO.out.lt _ e).2; omega)⟩)) | (go_at_call 160; refine (clone _ _ hlim).mono ?_; rintro e w2 ⟨rfl, hb2⟩; have hbc : Below ws.heap.size ws w2 := (Below.refl _ _).drew.trans hb2; have HO2 : Hid (w2.ownsRow w.heap.size 126 3 u3 k (flatR cmdF (l.take k))) := own_kept HOS.out hbc; have hbs2 := hbc.size))
      all_goals
        have HO3 : Hid (w3.ownsRow w.heap.size 126 3 (.slice (some ⟨g2, 0, none⟩) (k + 1) cap2) (k + 1) (flatR cmdF (l.take k) ++ cmdF l[k])) := hown3
        clear hown3 hgrow3 hs3
        go_wp2
        go_roundw
        case rel => exact ⟨k + 1, by omega, by go_num, by rw [takeC_snoc hkn, flatR_append, show flatR cmdF [l[k]] = cmdF l[k] by simp [flatR]]; exact HO3.out, hb3⟩
        case measure => simp [intOf]; omega
    · have hkl : k = l.length := by omega
      have HK : Hid (k = l.length) := hkl
      clear hkl
      go_wp2
      go_ret
      have := HO.out
      rw [HK.out, List.take_length] at this
      exact ⟨_, rfl, this, HB.out⟩

set_option maxRecDepth 100000 in
set_option maxHeartbeats 1000000 in
theorem copyBlock_i (b : BK) (cv : Value) (g off : Nat) (w : World) (h : AtB w g off (b, cv)) (hk : okB b) :
    Calls Tryz.prog 152 #[.pointer (some ⟨g, off, none⟩)] w fun e w' => ∃ cv', e = .returned (blkV b cv') ∧ w'.ownsRow w.heap.size 126 3 cv' b.2.1.length (flatR cmdF b.2.1) ∧ Below w.heap.size w w' := by
  obtain ⟨ac, nc, ec⟩ := rows_form h.cmds
  simp only at ec
  subst ec
  have HK : Hid (okB b) := hk
  have HR : Hid (RowsR w (.slice ac b.2.1.length nc) 3 cmdF b.2.1) := h.cmds
  obtain ⟨W, hW⟩ : ∃ W, W = w.alloc (.cells #[.int .i64 0, .int .i64 0, .slice none 0 0, .int .i64 0, .int .i64 0, .int .i64 0, .int .i64 0] 61) := ⟨_, rfl⟩
  have HW : Hid (Below w.heap.size w W.drew) := (by rw [hW]; exact (ba (Below.refl _ _) _).drew : Below w.heap.size w W.drew)
  have HWK : Hid (W.drew.heap[w.heap.size]? = some (.cells #[.int .i64 0, .int .i64 0, .slice none 0 0, .int .i64 0, .int .i64 0, .int .i64 0, .int .i64 0] 61 (0, 0))) := (by rw [hW]; exact heap_alloc_new w _ : W.drew.heap[w.heap.size]? = some (.cells #[.int .i64 0, .int .i64 0, .slice none 0 0, .int .i64 0, .int .i64 0, .int .i64 0, .int .i64 0] 61 (0, 0)))
  have HS : Hid (∀ w', Below w.heap.size w w' → w'.cell? ⟨g, off, none⟩ = some (.int .i64 b.1.1) ∧ w'.cell? ⟨g, off + 1, none⟩ = some (.int .i64 b.1.2) ∧ w'.cell? ⟨g, off + 2, none⟩ = some (.slice ac b.2.1.length nc) ∧ w'.cell? ⟨g, off + 3, none⟩ = some (.int .i64 b.2.2.1) ∧ w'.cell? ⟨g, off + 4, none⟩ = some (.int .i64 b.2.2.2.1) ∧ w'.cell? ⟨g, off + 5, none⟩ = some (.int .i64 b.2.2.2.2.1) ∧ w'.cell? ⟨g, off + 6, none⟩ = some (.int .i64 b.2.2.2.2.2)) := fun w' hb => (h.below hb).seven
  clear h hk
  go_enter Tryz.func152, Tryz.ntmps152
  go_wp2
  rw [← hW]
  clear hW
  go_region_held3 (fun w' => w'.cell? ⟨g, off, none⟩ = some (.int .i64 b.1.1) ∧ w'.cell? ⟨g, off + 1, none⟩ = some (.int .i64 b.1.2) ∧ w'.cell? ⟨g, off + 2, none⟩ = some (.slice ac b.2.1.length nc) ∧ w'.cell? ⟨g, off + 3, none⟩ = some (.int .i64 b.2.2.1) ∧ w'.cell? ⟨g, off + 4, none⟩ = some (.int .i64 b.2.2.2.1) ∧ w'.cell? ⟨g, off + 5, none⟩ = some (.int .i64 b.2.2.2.2.1) ∧ w'.cell? ⟨g, off + 6, none⟩ = some (.int .i64 b.2.2.2.2.2)) (first | (with_reducible exact HS.out _ HW.out) | (with_reducible exact HS.out _ HB2.out) | (with_reducible exact HS.out _ HB7.out)) (first | (go_at_call 146; refine (copyCmds_i b.2.1 _ _ (HR.out.below HW.out) HK.out.1 HK.out.2).mono ?_; rintro e w2 ⟨v2, rfl, hown2, hb2⟩; obtain ⟨a2, c2, rfl, _⟩ := own_form hown2; have HB2 : Hid (Below w.heap.size w w2) := bt HW.out hb2; have hlt : w.heap.size < W.drew.heap.size := (Array.getElem?_eq_some_iff.1 HWK.out).1; have k2 := (hb2.block w.heap.size hlt).trans HWK.out; obtain ⟨⟨u0, u1, u2, u3, u4, u5, u6⟩, ⟨q0, q1, q2, q3, q4, q5, q6⟩⟩ := blk_free k2; obtain ⟨-, -, -, -, -, -, -, k7, g7⟩ := blk_seven k2 (.int .i64 b.1.1) (.int .i64 b.1.2) (.slice a2 b.2.1.length c2) (.int .i64 b.2.2.1) (.int .i64 b.2.2.2.1) (.int .i64 b.2.2.2.2.1) (.int .i64 b.2.2.2.2.2); have HK7 : Hid (_ = some (Obj.cells (blkA b (.slice a2 b.2.1.length c2)) 61 (0, 0))) := k7; have HO7 : Hid (World.ownsRow _ w.heap.size 126 3 (.slice a2 b.2.1.length c2) b.2.1.length (flatR cmdF b.2.1)) := own_base (World.ownsRow.kept hown2 g7 (own_far hown2 hlt)) (by have := HW.out.size; omega); have HB7 : Hid (Below w.heap.size w _) := HB2.out.grown g7 HB2.out.size (fun k hk => by cases hk; omega); clear k2 k7 g7 hown2 hb2 hlt))
  all_goals
    obtain ⟨w7, hw7⟩ : ∃ w7, w7 = ((((((w2.setCell ⟨w.heap.size, 0, none⟩ (.int .i64 b.1.1)).setCell ⟨w.heap.size, 1, none⟩ (.int .i64 b.1.2)).setCell ⟨w.heap.size, 2, none⟩ (.slice a2 b.2.1.length c2)).setCell ⟨w.heap.size, 3, none⟩ (.int .i64 b.2.2.1)).setCell ⟨w.heap.size, 4, none⟩ (.int .i64 b.2.2.2.1)).setCell ⟨w.heap.size, 5, none⟩ (.int .i64 b.2.2.2.2.1)).setCell ⟨w.heap.size, 6, none⟩ (.int .i64 b.2.2.2.2.2) := ⟨_, rfl⟩
    rw [← hw7] at HK7 HO7 HB7 ⊢
    obtain ⟨r0, r1, r2, r3, r4, r5, r6⟩ := blk_cells (b := b) HK7.out
    clear hw7 u0 u1 u2 u3 u4 u5 u6 q0 q1 q2 q3 q4 q5 q6
    go_wp2
    refine bodyPost_ret (v := .agg #[.int .i64 b.1.1, .int .i64 b.1.2, .slice a2 b.2.1.length c2, .int .i64 b.2.2.1, .int .i64 b.2.2.2.1, .int .i64 b.2.2.2.2.1, .int .i64 b.2.2.2.2.2]) (by simp [results, Tryz.results152, go_sem, r0, r1, r2, r3, r4, r5, r6]) rfl ?_
    exact ⟨_, rfl, HO7.out, HB7.out⟩

set_option maxRecDepth 100000 in
set_option maxHeartbeats 4000000 in
theorem told_i (L : SL) (v : Value) (w : World) (hS : Stand w v L) (hl : (L.length : Int) ≤ 1048577) (hk : ∀ x ∈ L, okB x.2.1) :
    Calls Tryz.prog 125 #[v] w fun e w' => ∃ v' qs, e = .returned v' ∧ bks qs = sks L ∧ OwnT w' w.heap.size v' qs ∧ Below w.heap.size w w' := by
  obtain ⟨a, cap, rfl, _, hr⟩ := stand_cells hS
  have HR : Hid (0 < L.length → _) := hr
  have HK : Hid (∀ x ∈ L, okB x.2.1) := hk
  obtain ⟨i0, hi, hz0, hz1, hz2⟩ := info_parts infoBlk
  have hsl := sks_len L
  clear hr hS hk
  go_enter Tryz.func125, Tryz.ntmps125
  go_wp2_with (at_make; refine wpList_make_own _ rfl _ _ 37 rfl w.heap.size 61 i0 _ 7 Tryz.underlying37 hi hz0 hz1 _ _ _ L.length rfl rfl rfl (by rw [hz2]; omega) (by unfold maxLen; omega) (Nat.le_refl _) ?_; intro w0 hown0 hgrow0)
  have B0 : Below w.heap.size w w0 := (Below.refl _ _).grown hgrow0 (Nat.le_refl _) (fun k h => by cases h)
  have HO0 : Hid (OwnT w0 w.heap.size (.slice (some ⟨w.heap.size, 0, none⟩) 0 L.length) []) := ⟨hown0, fun p hp => (by cases hp), List.Pairwise.nil⟩
  have HB0 : Hid (Below w.heap.size w w0) := B0
  clear hown0 hgrow0 B0
  go_loopw [3, 11] (fun o i wr => ∃ (k : Nat) (qs : TL), k ≤ L.length ∧ i = .int .i64 (k : Int) ∧ Hid (bks qs = (sks L).take k) ∧ OwnT wr w.heap.size o qs ∧ Below w.heap.size w wr) (fun _ i _ => L.length - (intOf i).toNat)
  case atStart => exact ⟨0, [], Nat.zero_le _, rfl, rfl, HO0.out, HB0.out⟩
  case round =>
    obtain ⟨k, qs, hk, rfl, HQ, hown, hbel⟩ := hrel
    have HO : Hid (OwnT wr w.heap.size u3 qs) := hown
    have HB : Hid (Below w.heap.size w wr) := hbel
    have hbs := hbel.size
    have hql : qs.length = k := by have := congrArg List.length HQ.out; rw [bks_len, List.length_take, hsl] at this; omega
    clear hown hbel
    by_cases hlt : (k : Int) < L.length
    · have hkn : k < L.length := by omega
      obtain ⟨g, off, rfl, hg, hc⟩ := HR.out (by omega)
      have q0 : (0 : Int) ≤ (k : Int) := by omega
      have c0 : wr.cell? ⟨g, off + k, none⟩ = some (.pointer (some ⟨L[k].1.1, L[k].1.2, none⟩)) := by rw [HB.out.cell (by exact hg)]; exact (hc k hkn).1
      have HA : Hid (AtB wr L[k].1.1 L[k].1.2 L[k].2) := (hc k hkn).2.below HB.out
      have HQ2 : Hid (∀ cv, bks (qs ++ [(L[k].2.1, cv)]) = (sks L).take (k + 1)) := fun cv => by rw [bks_snoc, HQ.out, takeC_snoc (by rw [hsl]; exact hkn), sks_at hkn]
      clear hc
      go_wp2_with fail
      refine (copyBlock_i L[k].2.1 L[k].2.2 _ _ wr HA.out (HK.out _ (List.getElem_mem hkn))).mono ?_
      rintro e w5 ⟨cv5, rfl, hown5, hb5⟩
      obtain ⟨a5, p5, rfl, _⟩ := own_form hown5
      have HC5 : Hid (w5.ownsRow wr.heap.size 126 3 (.slice a5 L[k].2.1.2.1.length p5) L[k].2.1.2.1.length (flatR cmdF L[k].2.1.2.1)) := hown5
      have HR5 : Hid (w5.ownsRow w.heap.size 61 7 u3 qs.length (flatR blkF qs)) := own_kept HO.out.row hb5
      have HB5 : Hid (Below wr.heap.size wr w5) := hb5
      have hs5 := hb5.size
      unfold blkV
      clear hown5 hb5 c0
      go_wp2_with (at_builtin; refine wpList_append_own _ rfl _ _ 37 rfl w.heap.size 61 i0 _ 7 72 Tryz.underlying37 hi hz0 hz1 hz2 rfl (by decide) _ _ _ rfl (World.ownsRow.alloc HR5.out _) ⟨World.heap _ |>.size, 0, none⟩ 1 1 (blkF (L[k].2.1, .slice a5 L[k].2.1.2.1.length p5)) rfl rfl (newsB _ L[k].2.1 _ _) (onesB _ _ _ _) (by unfold maxLen; omega) (by omega) (by simp; omega) ?_; intro v6 w6 hown6 hgrow6 _)
      have HU : Hid (OwnT w6 w.heap.size v6 (qs ++ [(L[k].2.1, .slice a5 L[k].2.1.2.1.length p5)])) := HO.out.push HB5.out HC5.out hown6 hgrow6 hbs
      have HB6 : Hid (Below w.heap.size w w6) := (ba (bt HB.out HB5.out) _).grown hgrow6 (by simp; omega) (fun x hx => (HR5.out.lt x hx).1)
      clear hown6 hgrow6
      go_wp2
      go_roundw
      case rel => exact ⟨k + 1, _, by omega, by go_num, HQ2.out _, HU.out, HB6.out⟩
      case measure => simp [intOf]; omega
    · have hkl : k = L.length := by omega
      have HF : Hid (bks qs = sks L) := (by rw [HQ.out, hkl, ← hsl, List.take_length] : bks qs = sks L)
      clear hkl
      go_wp2
      go_ret
      exact ⟨_, rfl, qs, HF.out, HO.out, HB.out⟩

end Go.Proofs.YtcfgfhodbjakoavGreatDoor
