/-
  The walk of the law FnExactDone: the specification's answer and the program's are the same; the list is as it was; what is answered owns its memory.
-/
import Derived.Test.YtnghhfgbobpnkajDoneI
import Derived.Test.YtnghhfgbobpnkajCellM
import Derived.Test.YtnghhfgbobpnkajCmdL
import Derived.Deep.RegionHeld3
namespace Go.Proofs.Ytnghhfgbobpnkaj.WFnExactDone
open Go.RowKit Num

set_option maxRecDepth 100000 in
set_option maxHeartbeats 4000000 in
theorem walk (w : World) (v : Value) (cs : CL) (hC : Cells w v cs) (hl : cs.length ≤ maxLen) (hs : ∀ c ∈ cs, c.1.size ≤ maxLen) (_hw : ∀ c ∈ cs, (Lit.int .i64 c.2).wf = true)
    (c : CM) (_w0 : (Lit.int .i64 c.1).wf = true) (wk : c.2.1.size ≤ maxLen) (_w2 : (Lit.int .i64 c.2.2).wf = true) :
    Calls Try.prog 3 #[v, cmdV c] w fun e w' => e = .returned (.bool true) ∧ Below w.heap.size w w' := by
  obtain ⟨kd, key, num⟩ := c
  simp only at wk
  unfold maxLen at wk hl
  have hC0 := hC.below (ba (Below.refl _ _) (Obj.cells #[Value.int IntKind.i64 kd, Value.string key, Value.int IntKind.i64 num] 24))
  have HS : Hid (∀ c ∈ cs, c.1.size ≤ maxLen) := hs
  obtain ⟨W, hW⟩ : ∃ W, W = w.alloc (Obj.cells #[Value.int IntKind.i64 kd, Value.string key, Value.int IntKind.i64 num] 24) := ⟨_, rfl⟩
  rw [← hW] at hC0
  have HC : Hid (Cells W v cs) := hC0
  have hWs : W.heap.size = w.heap.size + 1 := by rw [hW]; simp
  have HBW : Hid (Below w.heap.size w W) := (by rw [hW]; exact ba (Below.refl _ _) _ : Below w.heap.size w W)
  have HK : Hid (∀ w', Below W.heap.size W w' → w'.cell? ⟨w.heap.size, 0, none⟩ = some (.int .i64 kd) ∧ w'.cell? ⟨w.heap.size, 1, none⟩ = some (.string key) ∧ w'.cell? ⟨w.heap.size, 2, none⟩ = some (.int .i64 num)) := fun w' hb => by
    refine ⟨?_, ?_, ?_⟩ <;> rw [hb.cell (by simp [hWs]), hW] <;> simp
  clear hC hC0 hs _hw _w0 _w2
  unfold cmdV
  go_enter Try.func3, Try.ntmps3
  go_wp2_with fail
  rw [← hW]
  refine (szCells_any cs v 1048576 W (by decide) (by decide) HC.out (by omega) (fun c hc => by have := HS.out c hc; unfold maxLen at this; omega)).mono ?_
  rintro e w1 ⟨rfl, B1⟩
  clear hW
  by_cases hneg : szCells cs 1048576 < 0
  · go_wp2
    go_ret
    exact ⟨rfl, bt HBW.out B1⟩
  · obtain ⟨hlen, hle, hall⟩ := szCells_bd (Int.le_refl _) (Int.not_lt.1 hneg)
    have HA : Hid (∀ c ∈ cs, (c.1.size : Int) ≤ 1048576) := hall
    have HN : Hid (0 ≤ szCells cs 1048576) := Int.not_lt.1 hneg
    clear hall
    obtain ⟨k0, k1, k2⟩ := HK.out w1 B1
    go_wp2_with fail
    refine (szCmd_any (kd, key, num) (szCells cs 1048576) w1 HN.out hle (by simp only; omega)).mono ?_
    rintro e w2 ⟨rfl, hb2⟩
    have B2 := bt B1 hb2
    by_cases hneg2 : szCells cs 1048576 - (key.size : Int) < 0
    · simp only [if_pos hneg2]
      go_wp2
      go_ret
      exact ⟨rfl, bt HBW.out B2⟩
    · simp only [if_neg hneg2]
      have hk : (key.size : Int) ≤ 1048576 := by omega
      have hok : okL cs := ⟨hlen, HA.out⟩
      have hok2 : okL (doneC cs (kd, key, num)) := okL_done hok hk
      have hl2 := hok2.1
      have HOK : Hid (okL cs) := hok
      clear k0 k1 k2 hok hok2 hb2
      obtain ⟨k0, k1, k2⟩ := HK.out w2 B2
      go_wp2
      go_region_held3 (fun w' => w'.cell? ⟨w.heap.size, 0, none⟩ = some (.int .i64 kd) ∧ w'.cell? ⟨w.heap.size, 1, none⟩ = some (.string key) ∧ w'.cell? ⟨w.heap.size, 2, none⟩ = some (.int .i64 num)) (first | exact HK.out _ B2.drew | exact HK.out _ B3 | exact HK.out _ B4 | exact HK.out _ B5) (first
        | (go_at_call 12; refine (toCells_any cs v _ (HC.out.below B2.drew) hlen).mono ?_; rintro e w3 ⟨v3, rfl, hown3, hb3⟩; have B3 : Below W.heap.size W w3 := bt B2.drew hb3; have HO3 : Hid (w3.ownsRow _ 71 2 v3 cs.length (flat cs)) := hown3; clear hown3 hb3)
        | (go_at_call 13; refine (toCmd_any (kd, key, num) _).mono ?_; rintro e w4 ⟨rfl, hb4⟩; have B4 : Below W.heap.size W w4 := bt B3 hb4; have HO4 : Hid (w4.ownsRow _ 71 2 v3 cs.length (flat cs)) := own_kept HO3.out hb4; clear hb4)
        | (go_at_call 11; refine (done_s cs v3 (kd, key, num) w4 (cells_of_own HO4.out) hlen HA.out hk).mono ?_; rintro e w5 ⟨v5, rfl, hown5, hb5⟩; have B5 : Below W.heap.size W w5 := bt B4 hb5; have HO5 : Hid (w5.ownsRow w4.heap.size 71 2 v5 (doneC cs (kd, key, num)).length (flat (doneC cs (kd, key, num)))) := hown5; clear hown5 hb5))
      clear k0 k1 k2
      go_wp2_with fail
      refine (toCells_any cs v w5 (HC.out.below B5) hlen).mono ?_
      rintro e w6 ⟨v6, rfl, hown6, hb6⟩
      have HO6 : Hid (w6.ownsRow w5.heap.size 71 2 v6 cs.length (flat cs)) := hown6
      have B6 := bt B5 hb6
      have HB56 : Hid (Below w5.heap.size w5 w6) := hb6
      clear hown6 hb6
      obtain ⟨k0, k1, k2⟩ := HK.out w6 B6
      go_wp2_with fail
      refine (toCmd_any (kd, key, num) w6).mono ?_
      rintro e w7 ⟨rfl, hb7⟩
      have HO7 : Hid (w7.ownsRow w5.heap.size 71 2 v6 cs.length (flat cs)) := own_kept HO6.out hb7
      have B7 := bt B6 hb7
      have HB67 : Hid (Below w6.heap.size w6 w7) := hb7
      clear k0 k1 k2 hb7
      go_wp2_with fail
      refine (done_i cs v6 (kd, key, num) w7 (cells_of_own HO7.out) HOK.out hk).mono ?_
      rintro e w8 ⟨v8, rfl, hown8, hb8⟩
      have HO8 : Hid (w8.ownsRow w7.heap.size 71 2 v8 (doneC cs (kd, key, num)).length (flat (doneC cs (kd, key, num)))) := hown8
      have HX8 : Hid (w8.ownsRow w5.heap.size 71 2 v6 cs.length (flat cs)) := own_kept HO7.out hb8
      have HW8 : Hid (w8.ownsRow w4.heap.size 71 2 v5 (doneC cs (kd, key, num)).length (flat (doneC cs (kd, key, num)))) := own_kept (own_kept (own_kept HO5.out HB56.out) HB67.out) hb8
      have B8 := bt B7 hb8
      clear hown8 hb8
      go_wp2_with fail
      refine (eqCells_yes _ v8 v5 w8 (cells_of_own HO8.out) (cells_of_own HW8.out) hl2).mono ?_
      rintro e w9 ⟨rfl, hb9⟩
      have HG9 : Hid (w9.ownsRow w7.heap.size 71 2 v8 _ (flat (doneC cs (kd, key, num)))) := own_kept HO8.out hb9
      have HX9 : Hid (w9.ownsRow w5.heap.size 71 2 v6 cs.length (flat cs)) := own_kept HX8.out hb9
      have HW9 : Hid (w9.ownsRow w4.heap.size 71 2 v5 _ (flat (doneC cs (kd, key, num)))) := own_kept HW8.out hb9
      have B9 := bt B8 hb9
      clear hb9
      go_wp2_with fail
      refine (toCells_any cs v w9 (HC.out.below B9) hlen).mono ?_
      rintro e w10 ⟨v10, rfl, hown10, hb10⟩
      have HO10 : Hid (w10.ownsRow w9.heap.size 71 2 v10 cs.length (flat cs)) := hown10
      have HG10 : Hid (w10.ownsRow w7.heap.size 71 2 v8 _ (flat (doneC cs (kd, key, num)))) := own_kept HG9.out hb10
      have HX10 : Hid (w10.ownsRow w5.heap.size 71 2 v6 cs.length (flat cs)) := own_kept HX9.out hb10
      have HW10 : Hid (w10.ownsRow w4.heap.size 71 2 v5 _ (flat (doneC cs (kd, key, num)))) := own_kept HW9.out hb10
      have B10 := bt B9 hb10
      clear hown10 hb10
      go_wp2_with fail
      refine (eqCells_yes cs v6 v10 w10 (cells_of_own HX10.out) (cells_of_own HO10.out) hlen).mono ?_
      rintro e w11 ⟨rfl, hb11⟩
      have HG11 : Hid (w11.ownsRow w7.heap.size 71 2 v8 _ (flat (doneC cs (kd, key, num)))) := own_kept HG10.out hb11
      have HX11 : Hid (w11.ownsRow w5.heap.size 71 2 v6 cs.length (flat cs)) := own_kept HX10.out hb11
      have HW11 : Hid (w11.ownsRow w4.heap.size 71 2 v5 _ (flat (doneC cs (kd, key, num)))) := own_kept HW10.out hb11
      have B11 := bt B10 hb11
      clear hb11
      have NE1 := own_ne HO6.out HO8.out HB67.out.size
      have NE2 := own_ne' HO5.out HO6.out (Nat.le_refl _)
      have NE3 := own_ne' HO5.out HO8.out (bt HB56.out HB67.out).size
      have hs5 := B5.size
      have hs7 := B7.size
      have HNE1 : Hid (v8.ownBlock = none ∨ v8.ownBlock ≠ v6.ownBlock) := NE1
      have HNE2 : Hid (v5.ownBlock = none ∨ v5.ownBlock ≠ v6.ownBlock) := NE2
      have HNE3 : Hid (v5.ownBlock = none ∨ v5.ownBlock ≠ v8.ownBlock) := NE3
      clear NE1 NE2 NE3
      go_wp2_with fail
      refine (markCells_any cs.length 1 v6 w5.heap.size _ w11 HX11.out (by decide) (by decide) (by omega)).mono ?_
      rintro e w12 ⟨rfl, _, hg12⟩
      have HG12 : Hid (w12.ownsRow w7.heap.size 71 2 v8 _ (flat (doneC cs (kd, key, num)))) := World.ownsRow.kept HG11.out hg12 HNE1.out
      have HW12 : Hid (w12.ownsRow w4.heap.size 71 2 v5 _ (flat (doneC cs (kd, key, num)))) := World.ownsRow.kept HW11.out hg12 HNE2.out
      have B12 : Below W.heap.size W w12 := B11.grown hg12 B11.size fun b hb => Nat.le_trans hs5 (HX11.out.lt b hb).1
      clear hg12
      go_wp2_with fail
      refine (eqCells_yes _ v8 v5 w12 (cells_of_own HG12.out) (cells_of_own HW12.out) hl2).mono ?_
      rintro e w13 ⟨rfl, hb13⟩
      have HG13 : Hid (w13.ownsRow w7.heap.size 71 2 v8 _ (flat (doneC cs (kd, key, num)))) := own_kept HG12.out hb13
      have HW13 : Hid (w13.ownsRow w4.heap.size 71 2 v5 _ (flat (doneC cs (kd, key, num)))) := own_kept HW12.out hb13
      have B13 := bt B12 hb13
      clear hb13
      go_wp2_with fail
      refine (markCells_any (doneC cs (kd, key, num)).length 1 v8 w7.heap.size _ w13 HG13.out (by decide) (by decide) (by omega)).mono ?_
      rintro e w14 ⟨rfl, hm14, hg14⟩
      have HM14 : Hid (w14.ownsRow w7.heap.size 71 2 v8 _ (flat (cmarks 1 (doneC cs (kd, key, num)).length))) := hm14
      have HW14 : Hid (w14.ownsRow w4.heap.size 71 2 v5 _ (flat (doneC cs (kd, key, num)))) := World.ownsRow.kept HW13.out hg14 HNE3.out
      have B14 : Below W.heap.size W w14 := B13.grown hg14 B13.size fun b hb => Nat.le_trans hs7 (HG13.out.lt b hb).1
      clear hm14 hg14
      go_wp2_with fail
      refine (heldCells_any (doneC cs (kd, key, num)).length 1 v8 w14 (cells_of_own (by rw [cmarks_len]; exact HM14.out)) (by decide) (by decide) (by omega)).mono ?_
      rintro e w15 ⟨rfl, hb15⟩
      have HM15 : Hid (w15.ownsRow w7.heap.size 71 2 v8 _ (flat (cmarks 1 (doneC cs (kd, key, num)).length))) := own_kept HM14.out hb15
      have HW15 : Hid (w15.ownsRow w4.heap.size 71 2 v5 _ (flat (doneC cs (kd, key, num)))) := own_kept HW14.out hb15
      have B15 := bt B14 hb15
      clear hb15
      obtain ⟨k0, k1, k2⟩ := HK.out w15 B15
      go_wp2
      go_region_held3 (fun w' => w'.cell? ⟨w.heap.size, 0, none⟩ = some (.int .i64 kd) ∧ w'.cell? ⟨w.heap.size, 1, none⟩ = some (.string key) ∧ w'.cell? ⟨w.heap.size, 2, none⟩ = some (.int .i64 num)) (first | exact HK.out _ B15.drew | exact HK.out _ B16 | exact HK.out _ B17 | exact HK.out _ B18) (first
        | (go_at_call 12; refine (toCells_any cs v _ (HC.out.below B15.drew) hlen).mono ?_; rintro e w16 ⟨v16, rfl, hown16, hb16⟩; have B16 : Below W.heap.size W w16 := bt B15.drew hb16; have HO16 : Hid (w16.ownsRow _ 71 2 v16 cs.length (flat cs)) := hown16; have HM16 : Hid (w16.ownsRow w7.heap.size 71 2 v8 _ (flat (cmarks 1 (doneC cs (kd, key, num)).length))) := own_kept (World.ownsRow.drew HM15.out) hb16; have HW16 : Hid (w16.ownsRow w4.heap.size 71 2 v5 _ (flat (doneC cs (kd, key, num)))) := own_kept (World.ownsRow.drew HW15.out) hb16; clear hown16 hb16)
        | (go_at_call 13; refine (toCmd_any (kd, key, num) _).mono ?_; rintro e w17 ⟨rfl, hb17⟩; have B17 : Below W.heap.size W w17 := bt B16 hb17; have HO17 : Hid (w17.ownsRow _ 71 2 v16 cs.length (flat cs)) := own_kept HO16.out hb17; have HM17 : Hid (w17.ownsRow w7.heap.size 71 2 v8 _ (flat (cmarks 1 (doneC cs (kd, key, num)).length))) := own_kept HM16.out hb17; have HW17 : Hid (w17.ownsRow w4.heap.size 71 2 v5 _ (flat (doneC cs (kd, key, num)))) := own_kept HW16.out hb17; clear hb17)
        | (go_at_call 14; refine (done_i cs v16 (kd, key, num) w17 (cells_of_own HO17.out) HOK.out hk).mono ?_; rintro e w18 ⟨v18, rfl, hown18, hb18⟩; have B18 : Below W.heap.size W w18 := bt B17 hb18; have HO18 : Hid (w18.ownsRow w17.heap.size 71 2 v18 _ (flat (doneC cs (kd, key, num)))) := hown18; have HM18 : Hid (w18.ownsRow w7.heap.size 71 2 v8 _ (flat (cmarks 1 (doneC cs (kd, key, num)).length))) := own_kept HM17.out hb18; have HW18 : Hid (w18.ownsRow w4.heap.size 71 2 v5 _ (flat (doneC cs (kd, key, num)))) := own_kept HW17.out hb18; clear hown18 hb18))
      clear k0 k1 k2
      go_wp2_with fail
      refine (eqCells_yes _ v18 v5 w18 (cells_of_own HO18.out) (cells_of_own HW18.out) hl2).mono ?_
      rintro e w19 ⟨rfl, hb19⟩
      have HM19 : Hid (w19.ownsRow w7.heap.size 71 2 v8 _ (flat (cmarks 1 (doneC cs (kd, key, num)).length))) := own_kept HM18.out hb19
      have B19 := bt B18 hb19
      clear hb19
      go_wp2_with fail
      refine (heldCells_any (doneC cs (kd, key, num)).length 1 v8 w19 (cells_of_own (by rw [cmarks_len]; exact HM19.out)) (by decide) (by decide) (by omega)).mono ?_
      rintro e w20 ⟨rfl, hb20⟩
      go_wp2
      go_ret
      exact ⟨rfl, bt HBW.out (bt B19 hb20)⟩

end Go.Proofs.Ytnghhfgbobpnkaj.WFnExactDone
