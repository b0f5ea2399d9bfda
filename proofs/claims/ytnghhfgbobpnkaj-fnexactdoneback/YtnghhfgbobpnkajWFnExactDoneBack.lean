/-
  The walk of the law FnExactDoneBack: the specification's answer and the program's are the same; the lists are as they were; what is answered owns its memory.
-/
import Derived.Test.YtnghhfgbobpnkajBackI
import Derived.Test.YtnghhfgbobpnkajCellM
import Derived.Test.YtnghhfgbobpnkajCmdsM
import Derived.Test.YtnghhfgbobpnkajCmdOpen
import Derived.Test.YtnghhfgbobpnkajUndosM
namespace Go.Proofs.Ytnghhfgbobpnkaj
open Go.RowKit Num
theorem ne_flip {a b : Value} (h : a.ownBlock = none ∨ a.ownBlock ≠ b.ownBlock) : b.ownBlock = none ∨ b.ownBlock ≠ a.ownBlock := by
  rcases h with h | h
  · cases hb : b.ownBlock with
    | none => exact Or.inl rfl
    | some g => exact Or.inr fun e => by rw [h] at e; cases e
  · exact Or.inr fun e => h e.symm
end Go.Proofs.Ytnghhfgbobpnkaj
namespace Go.Proofs.Ytnghhfgbobpnkaj.WFnExactDoneBack
open Go.RowKit Num

set_option maxRecDepth 100000 in
set_option maxHeartbeats 4000000 in
theorem walk (W : World) (v : Value) (cs : CL) (hC : Cells W v cs) (hl : cs.length ≤ maxLen) (hs : ∀ c ∈ cs, c.1.size ≤ maxLen) (_hw : ∀ c ∈ cs, (Lit.int .i64 c.2).wf = true)
    (u : Value) (l : List CM) (hU : RowsR W u 3 cmdF l) (hlL : l.length ≤ maxLen) (hsL : ∀ c ∈ l, goodCmd c) :
    Calls Try.prog 8 #[v, u] W fun e w' => e = .returned (.bool true) ∧ Below W.heap.size W w' := by
  have HC : Hid (Cells W v cs) := hC
  have HU : Hid (RowsR W u 3 cmdF l) := hU
  have HS : Hid (∀ c ∈ cs, c.1.size ≤ maxLen) := hs
  have HSL : Hid (∀ c ∈ l, goodCmd c) := hsL
  unfold maxLen at hl hlL
  clear hC hU hs _hw hsL
  go_enter Try.func8, Try.ntmps8
  go_wp2_with fail
  refine (szCells_any cs v 1048576 W (by decide) (by decide) HC.out (by omega) (fun c hc => by have := HS.out c hc; unfold maxLen at this; omega)).mono ?_
  rintro e w1 ⟨rfl, B1⟩
  by_cases hneg : szCells cs 1048576 < 0
  · go_wp2
    go_ret
    exact ⟨rfl, B1⟩
  · obtain ⟨hlen, hle, hall⟩ := szCells_bd (Int.le_refl _) (Int.not_lt.1 hneg)
    have HA : Hid (∀ c ∈ cs, (c.1.size : Int) ≤ 1048576) := hall
    have HN : Hid (0 ≤ szCells cs 1048576) := Int.not_lt.1 hneg
    clear hall
    go_wp2_with fail
    refine (szCmds_any l u (szCells cs 1048576) w1 HN.out hle (HU.out.below B1) (by omega) (fun c hc => by have := (HSL.out c hc).2.1; unfold maxLen at this; omega)).mono ?_
    rintro e w2 ⟨rfl, hb2⟩
    have B2 := bt B1 hb2
    by_cases hneg2 : szCmdsC l (szCells cs 1048576) < 0
    · go_wp2
      go_ret
      exact ⟨rfl, B2⟩
    · obtain ⟨hll, hallL⟩ := szCmds_bd hle (Int.not_lt.1 hneg2)
      have HAL : Hid (∀ c ∈ l, (c.2.1.size : Int) ≤ 1048576) := hallL
      clear hallL hb2
      have hok : okL cs := ⟨hlen, HA.out⟩
      have hok2 : okL (doneAllC cs l) := okL_all l hok HAL.out
      have hl2 := hok2.1
      have hcl := undosC_len cs l
      have hl3 : ((undosC cs l).length : Int) ≤ 1048576 := by omega
      have HOK : Hid (okL cs) := hok
      clear hok hok2
      go_wp2_with fail
      refine (toCells_any cs v w2 (HC.out.below B2) hlen).mono ?_
      rintro e w3 ⟨v3, rfl, hown3, hb3⟩
      have B3 := bt B2 hb3
      have HO3 : Hid (w3.ownsRow w2.heap.size 71 2 v3 cs.length (flat cs)) := hown3
      clear hown3 hb3
      go_wp2_with fail
      refine (toCmds_any l u w3 (HU.out.below B3) hll).mono ?_
      rintro e w4 ⟨v4, rfl, hown4, hb4⟩
      have B4 := bt B3 hb4
      have HC4 : Hid (Cells w4 v3 cs) := (cells_of_own HO3.out).below hb4
      have HR4 : Hid (RowsR w4 v4 3 cmdF l) := rows_of_own cmdF_len hown4
      clear hown4 hb4 HO3
      go_wp2_with fail
      refine (doneBack_s cs l v3 v4 w4 HC4.out HR4.out HOK.out hll HAL.out).mono ?_
      rintro e w5 ⟨v5, u5, rfl, hown5, hint5, _, hb5⟩
      have B5 := bt B4 hb5
      have HW5 : Hid (w5.ownsRow w4.heap.size 71 2 v5 (doneAllC cs l).length (flat (doneAllC cs l))) := hown5
      have HV5 : Hid (w5.ownsRow w4.heap.size 51 3 u5 (undosC cs l).length (flatR undoF (undosC cs l))) := hint5
      clear hown5 hint5 hb5 HC4 HR4
      go_wp2_with fail
      refine (toCells_any cs v w5 (HC.out.below B5) hlen).mono ?_
      rintro e w6 ⟨v6, rfl, hown6, hb6⟩
      have B6 := bt B5 hb6
      have HX6 : Hid (w6.ownsRow w5.heap.size 71 2 v6 cs.length (flat cs)) := hown6
      have HB56 : Hid (Below w5.heap.size w5 w6) := hb6
      clear hown6 hb6
      go_wp2_with fail
      refine (toCmds_any l u w6 (HU.out.below B6) hll).mono ?_
      rintro e w7 ⟨v7, rfl, hown7, hb7⟩
      have B7 := bt B6 hb7
      have HY7 : Hid (w7.ownsRow w6.heap.size 31 3 v7 l.length (flatR cmdF l)) := hown7
      have HB67 : Hid (Below w6.heap.size w6 w7) := hb7
      have HX7 : Hid (w7.ownsRow w5.heap.size 71 2 v6 cs.length (flat cs)) := own_kept HX6.out hb7
      clear hown7 hb7
      go_wp2_with fail
      refine (doneBack_i cs l v6 v7 w7 (cells_of_own HX7.out) (rows_of_own cmdF_len HY7.out) HOK.out hll HAL.out).mono ?_
      rintro e w8 ⟨v8, u8, rfl, hown8, hint8, hne8, hb8⟩
      have B8 := bt B7 hb8
      have HG8 : Hid (w8.ownsRow w7.heap.size 71 2 v8 (doneAllC cs l).length (flat (doneAllC cs l))) := hown8
      have HI8 : Hid (w8.ownsRow w7.heap.size 51 3 u8 (undosC cs l).length (flatR undoF (undosC cs l))) := hint8
      have HNE8 : Hid (v8.ownBlock = none ∨ v8.ownBlock ≠ u8.ownBlock) := hne8
      have HB58 : Hid (Below w5.heap.size w5 w8) := bt HB56.out (bt HB67.out hb8)
      have HX8 : Hid (w8.ownsRow w5.heap.size 71 2 v6 cs.length (flat cs)) := own_kept HX7.out hb8
      have HY8 : Hid (w8.ownsRow w6.heap.size 31 3 v7 l.length (flatR cmdF l)) := own_kept HY7.out hb8
      have HW8 : Hid (w8.ownsRow w4.heap.size 71 2 v5 (doneAllC cs l).length (flat (doneAllC cs l))) := own_kept HW5.out HB58.out
      have HV8 : Hid (w8.ownsRow w4.heap.size 51 3 u5 (undosC cs l).length (flatR undoF (undosC cs l))) := own_kept HV5.out HB58.out
      have s56 := HB56.out.size
      have s67 := HB67.out.size
      have s05 := B5.size
      have s06 := B6.size
      have s07 := B7.size
      have NGX : Hid (v8.ownBlock = none ∨ v8.ownBlock ≠ v6.ownBlock) := own_ne HX6.out HG8.out s67
      have NIX : Hid (u8.ownBlock = none ∨ u8.ownBlock ≠ v6.ownBlock) := own_ne HX6.out HI8.out s67
      have NGY : Hid (v8.ownBlock = none ∨ v8.ownBlock ≠ v7.ownBlock) := own_ne HY7.out HG8.out (Nat.le_refl _)
      have NIY : Hid (u8.ownBlock = none ∨ u8.ownBlock ≠ v7.ownBlock) := own_ne HY7.out HI8.out (Nat.le_refl _)
      have NYX : Hid (v7.ownBlock = none ∨ v7.ownBlock ≠ v6.ownBlock) := own_ne HX6.out HY7.out (Nat.le_refl _)
      have NWX : Hid (v5.ownBlock = none ∨ v5.ownBlock ≠ v6.ownBlock) := own_ne' HW5.out HX6.out (Nat.le_refl _)
      have NVX : Hid (u5.ownBlock = none ∨ u5.ownBlock ≠ v6.ownBlock) := own_ne' HV5.out HX6.out (Nat.le_refl _)
      have NWY : Hid (v5.ownBlock = none ∨ v5.ownBlock ≠ v7.ownBlock) := own_ne' HW5.out HY7.out s56
      have NVY : Hid (u5.ownBlock = none ∨ u5.ownBlock ≠ v7.ownBlock) := own_ne' HV5.out HY7.out s56
      have NWG : Hid (v5.ownBlock = none ∨ v5.ownBlock ≠ v8.ownBlock) := own_ne' HW5.out HG8.out (Nat.le_trans s56 s67)
      have NVG : Hid (u5.ownBlock = none ∨ u5.ownBlock ≠ v8.ownBlock) := own_ne' HV5.out HG8.out (Nat.le_trans s56 s67)
      have NWI : Hid (v5.ownBlock = none ∨ v5.ownBlock ≠ u8.ownBlock) := own_ne' HW5.out HI8.out (Nat.le_trans s56 s67)
      have NVI : Hid (u5.ownBlock = none ∨ u5.ownBlock ≠ u8.ownBlock) := own_ne' HV5.out HI8.out (Nat.le_trans s56 s67)
      have NIG : Hid (u8.ownBlock = none ∨ u8.ownBlock ≠ v8.ownBlock) := ne_flip HNE8.out
      clear hown8 hint8 hne8 hb8 HX6 HX7 HY7 HW5 HV5 HB56 HB67 HB58 s56 s67
      go_wp2_with fail
      refine (eqCells_yes _ v8 v5 w8 (cells_of_own HG8.out) (cells_of_own HW8.out) hl2).mono ?_
      rintro e w9 ⟨rfl, b9⟩
      go_wp2_with fail
      refine (eqUndos_yes (undosC cs l) u8 u5 w9 ((rows_of_own undoF_len HI8.out).below b9) ((rows_of_own undoF_len HV8.out).below b9) hl3).mono ?_
      rintro e w10 ⟨rfl, hb10⟩
      have b10 := bt b9 hb10
      have B10 := bt B8 b10
      clear hb10 b9
      go_wp2_with fail
      refine (toCells_any cs v w10 (HC.out.below B10) hlen).mono ?_
      rintro e w11 ⟨v11, rfl, hown11, hb11⟩
      have b11 := bt b10 hb11
      have HC11 : Hid (Cells w11 v11 cs) := cells_of_own hown11
      clear hown11 hb11 b10
      go_wp2_with fail
      refine (eqCells_yes cs v6 v11 w11 ((cells_of_own HX8.out).below b11) HC11.out hlen).mono ?_
      rintro e w12 ⟨rfl, hb12⟩
      have b12 := bt b11 hb12
      have B12 := bt B8 b12
      clear hb12 b11
      go_wp2_with fail
      refine (toCmds_any l u w12 (HU.out.below B12) hll).mono ?_
      rintro e w13 ⟨v13, rfl, hown13, hb13⟩
      have b13 := bt b12 hb13
      have HR13 : Hid (RowsR w13 v13 3 cmdF l) := rows_of_own cmdF_len hown13
      clear hown13 hb13 b12
      go_wp2_with fail
      refine (eqCmds_yes l v7 v13 w13 ((rows_of_own cmdF_len HY8.out).below b13) HR13.out hll).mono ?_
      rintro e w14 ⟨rfl, hb14⟩
      have b14 := bt b13 hb14
      have B14 := bt B8 b14
      clear hb14 b13 B10 B12
      go_wp2_with fail
      refine (markCells_any cs.length 1 v6 w5.heap.size _ w14 (own_kept HX8.out b14) (by decide) (by decide) (by omega)).mono ?_
      rintro e w15 ⟨rfl, _, hg15⟩
      have HW15 : Hid (w15.ownsRow w4.heap.size 71 2 v5 (doneAllC cs l).length (flat (doneAllC cs l))) := World.ownsRow.kept (own_kept HW8.out b14) hg15 NWX.out
      have HV15 : Hid (w15.ownsRow w4.heap.size 51 3 u5 (undosC cs l).length (flatR undoF (undosC cs l))) := World.ownsRow.kept (own_kept HV8.out b14) hg15 NVX.out
      have HY15 : Hid (w15.ownsRow w6.heap.size 31 3 v7 l.length (flatR cmdF l)) := World.ownsRow.kept (own_kept HY8.out b14) hg15 NYX.out
      have HG15 : Hid (w15.ownsRow w7.heap.size 71 2 v8 (doneAllC cs l).length (flat (doneAllC cs l))) := World.ownsRow.kept (own_kept HG8.out b14) hg15 NGX.out
      have HI15 : Hid (w15.ownsRow w7.heap.size 51 3 u8 (undosC cs l).length (flatR undoF (undosC cs l))) := World.ownsRow.kept (own_kept HI8.out b14) hg15 NIX.out
      have B15 : Below W.heap.size W w15 := B14.grown hg15 B14.size fun b hb => Nat.le_trans s05 ((own_kept HX8.out b14).lt b hb).1
      clear hg15 b14 HX8 HW8 HV8 HY8 HG8 HI8 B14
      go_wp2_with fail
      refine (markCmds_any l.length (1 + 2 * cs.length) v7 w6.heap.size _ w15 HY15.out (by omega) (by omega) (by omega)).mono ?_
      rintro e w16 ⟨rfl, hg16⟩
      have HW16 : Hid (w16.ownsRow w4.heap.size 71 2 v5 (doneAllC cs l).length (flat (doneAllC cs l))) := World.ownsRow.kept HW15.out hg16 NWY.out
      have HV16 : Hid (w16.ownsRow w4.heap.size 51 3 u5 (undosC cs l).length (flatR undoF (undosC cs l))) := World.ownsRow.kept HV15.out hg16 NVY.out
      have HG16 : Hid (w16.ownsRow w7.heap.size 71 2 v8 (doneAllC cs l).length (flat (doneAllC cs l))) := World.ownsRow.kept HG15.out hg16 NGY.out
      have HI16 : Hid (w16.ownsRow w7.heap.size 51 3 u8 (undosC cs l).length (flatR undoF (undosC cs l))) := World.ownsRow.kept HI15.out hg16 NIY.out
      have B16 : Below W.heap.size W w16 := B15.grown hg16 B15.size fun b hb => Nat.le_trans s06 (HY15.out.lt b hb).1
      clear hg16 HW15 HV15 HY15 HG15 HI15 B15
      go_wp2_with fail
      refine (eqCells_yes _ v8 v5 w16 (cells_of_own HG16.out) (cells_of_own HW16.out) hl2).mono ?_
      rintro e w17 ⟨rfl, b17⟩
      go_wp2_with fail
      refine (eqUndos_yes (undosC cs l) u8 u5 w17 ((rows_of_own undoF_len HI16.out).below b17) ((rows_of_own undoF_len HV16.out).below b17) hl3).mono ?_
      rintro e w18 ⟨rfl, hb18⟩
      have b18 := bt b17 hb18
      have B18 := bt B16 b18
      clear hb18 b17
      go_wp2_with fail
      refine (markCells_any (doneAllC cs l).length 1 v8 w7.heap.size _ w18 (own_kept HG16.out b18) (by decide) (by decide) (by omega)).mono ?_
      rintro e w19 ⟨rfl, hm19, hg19⟩
      have HW19 : Hid (w19.ownsRow w4.heap.size 71 2 v5 (doneAllC cs l).length (flat (doneAllC cs l))) := World.ownsRow.kept (own_kept HW16.out b18) hg19 NWG.out
      have HV19 : Hid (w19.ownsRow w4.heap.size 51 3 u5 (undosC cs l).length (flatR undoF (undosC cs l))) := World.ownsRow.kept (own_kept HV16.out b18) hg19 NVG.out
      have HI19 : Hid (w19.ownsRow w7.heap.size 51 3 u8 (undosC cs l).length (flatR undoF (undosC cs l))) := World.ownsRow.kept (own_kept HI16.out b18) hg19 NIG.out
      have HP19 : Hid (w19.ownsRow w7.heap.size 71 2 v8 (doneAllC cs l).length (flat (cmarks 1 (doneAllC cs l).length))) := hm19
      have B19 : Below W.heap.size W w19 := B18.grown hg19 B18.size fun b hb => Nat.le_trans s07 ((own_kept HG16.out b18).lt b hb).1
      clear hg19 hm19 b18 HW16 HV16 HG16 HI16 B18 B16
      go_wp2_with fail
      refine (markUndos_any (undosC cs l).length (1 + 2 * (doneAllC cs l).length) u8 w7.heap.size _ w19 HI19.out (by omega) (by omega) (by omega)).mono ?_
      rintro e w20 ⟨rfl, hm20, hg20⟩
      have HW20 : Hid (w20.ownsRow w4.heap.size 71 2 v5 (doneAllC cs l).length (flat (doneAllC cs l))) := World.ownsRow.kept HW19.out hg20 NWI.out
      have HV20 : Hid (w20.ownsRow w4.heap.size 51 3 u5 (undosC cs l).length (flatR undoF (undosC cs l))) := World.ownsRow.kept HV19.out hg20 NVI.out
      have HP20 : Hid (w20.ownsRow w7.heap.size 71 2 v8 (doneAllC cs l).length (flat (cmarks 1 (doneAllC cs l).length))) := World.ownsRow.kept HP19.out hg20 HNE8.out
      have HQ20 : Hid (w20.ownsRow w7.heap.size 51 3 u8 (undosC cs l).length (flatR undoF (umarks (1 + 2 * (doneAllC cs l).length) (undosC cs l).length))) := hm20
      have B20 : Below W.heap.size W w20 := B19.grown hg20 B19.size fun b hb => Nat.le_trans s07 (HI19.out.lt b hb).1
      clear hg20 hm20 HW19 HV19 HP19 HI19 B19
      have HPC : Hid (Cells w20 v8 (cmarks 1 (doneAllC cs l).length)) := cells_of_own (by rw [cmarks_len]; exact HP20.out)
      have HQC : Hid (RowsR w20 u8 3 undoF (umarks (1 + 2 * (doneAllC cs l).length) (undosC cs l).length)) := rows_of_own undoF_len (by rw [umarks_len]; exact HQ20.out)
      go_wp2_with fail
      refine (heldCells_any (doneAllC cs l).length 1 v8 w20 HPC.out (by decide) (by decide) (by omega)).mono ?_
      rintro e w21 ⟨rfl, b21⟩
      go_wp2_with fail
      refine (heldUndos_any (undosC cs l).length (1 + 2 * (doneAllC cs l).length) u8 w21 (HQC.out.below b21) (by omega) (by omega) (by omega)).mono ?_
      rintro e w22 ⟨rfl, hb22⟩
      have b22 := bt b21 hb22
      have B22 := bt B20 b22
      clear hb22 b21
      go_wp2_with fail
      refine (toCells_any cs v w22 (HC.out.below B22) hlen).mono ?_
      rintro e w23 ⟨v23, rfl, hown23, hb23⟩
      have b23 := bt b22 hb23
      have B23 := bt B20 b23
      have HC23 : Hid (Cells w23 v23 cs) := cells_of_own hown23
      clear hown23 hb23 b22 B22
      go_wp2_with fail
      refine (toCmds_any l u w23 (HU.out.below B23) hll).mono ?_
      rintro e w24 ⟨v24, rfl, hown24, hb24⟩
      have b24 := bt b23 hb24
      have HR24 : Hid (RowsR w24 v24 3 cmdF l) := rows_of_own cmdF_len hown24
      have HC24 : Hid (Cells w24 v23 cs) := HC23.out.below hb24
      clear hown24 hb24 b23 B23 HC23
      go_wp2_with fail
      refine (doneBack_i cs l v23 v24 w24 HC24.out HR24.out HOK.out hll HAL.out).mono ?_
      rintro e w25 ⟨v25, u25, rfl, hown25, hint25, _, hb25⟩
      have b25 := bt b24 hb25
      have HC25 : Hid (Cells w25 v25 (doneAllC cs l)) := cells_of_own hown25
      have HI25 : Hid (RowsR w25 u25 3 undoF (undosC cs l)) := rows_of_own undoF_len hint25
      clear hown25 hint25 hb25 b24
      go_wp2_with fail
      refine (eqCells_yes _ v25 v5 w25 HC25.out ((cells_of_own HW20.out).below b25) hl2).mono ?_
      rintro e w26 ⟨rfl, hb26⟩
      have b26 := bt b25 hb26
      have HI26 : Hid (RowsR w26 u25 3 undoF (undosC cs l)) := HI25.out.below hb26
      clear hb26 b25
      go_wp2_with fail
      refine (eqUndos_yes (undosC cs l) u25 u5 w26 HI26.out ((rows_of_own undoF_len HV20.out).below b26) hl3).mono ?_
      rintro e w27 ⟨rfl, hb27⟩
      have b27 := bt b26 hb27
      clear hb27 b26
      go_wp2_with fail
      refine (heldCells_any (doneAllC cs l).length 1 v8 w27 (HPC.out.below b27) (by decide) (by decide) (by omega)).mono ?_
      rintro e w28 ⟨rfl, hb28⟩
      have b28 := bt b27 hb28
      clear hb28 b27
      go_wp2_with fail
      refine (heldUndos_any (undosC cs l).length (1 + 2 * (doneAllC cs l).length) u8 w28 (HQC.out.below b28) (by omega) (by omega) (by omega)).mono ?_
      rintro e w29 ⟨rfl, hb29⟩
      go_wp2
      go_ret
      exact ⟨rfl, bt B20 (bt b28 hb29)⟩

end Go.Proofs.Ytnghhfgbobpnkaj.WFnExactDoneBack
