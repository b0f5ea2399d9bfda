/-
  The walk of the law FnExactUndoneAll: the specification's answer and the program's are the same; the lists are as they were; what is answered owns its memory.
-/
import Derived.Test.YtnghhfgbobpnkakUndoAllI
import Derived.Test.YtnghhfgbobpnkakUndoAllS
import Derived.Test.YtnghhfgbobpnkakCellM
import Derived.Test.YtnghhfgbobpnkakUndosM
import Derived.Test.YtnghhfgbobpnkakUndoOpen
namespace Go.Proofs.Ytnghhfgbobpnkak.WFnExactUndoneAll
open Go.RowKit Num

set_option maxRecDepth 100000 in
set_option maxHeartbeats 4000000 in
theorem walk (W : World) (v : Value) (cs : CL) (hC : Cells W v cs) (hl : cs.length ≤ maxLen) (hs : ∀ c ∈ cs, c.1.size ≤ maxLen) (_hw : ∀ c ∈ cs, (Lit.int .i64 c.2).wf = true)
    (u : Value) (l : List UN) (hU : RowsR W u 3 undoF l) (hlL : l.length ≤ maxLen) (hsL : ∀ c ∈ l, goodUndo c) :
    Calls Try.prog 3 #[v, u] W fun e w' => e = .returned (.bool true) ∧ Below W.heap.size W w' := by
  have HC : Hid (Cells W v cs) := hC
  have HU : Hid (RowsR W u 3 undoF l) := hU
  have HS : Hid (∀ c ∈ cs, c.1.size ≤ maxLen) := hs
  have HSL : Hid (∀ c ∈ l, goodUndo c) := hsL
  unfold maxLen at hl hlL
  clear hC hU hs _hw hsL
  go_enter Try.func3, Try.ntmps3
  go_wp2_with fail
  refine (szCells_any cs v 1048576 W (by decide) (by decide) HC.out (by omega) (fun c hc => by have := HS.out c hc; unfold maxLen at this; omega)).mono ?_
  rintro e w1 ⟨rfl, B1⟩
  by_cases hneg : szCells cs 1048576 < 0
  · go_wp2
    go_ret
    exact ⟨rfl, B1⟩
  · obtain ⟨hlen, hle, hall⟩ := szCells_bd (Int.le_refl _) (Int.not_lt.1 hneg)
    have HA : Hid (∀ c ∈ cs, (c.1.size : Int) ≤ 1048576) := hall
    have HN : Hid (0 ≤ szCells cs 1048576) := Int.not_lt.1 hneg
    clear hall
    go_wp2_with fail
    refine (szUndos_any l u (szCells cs 1048576) w1 HN.out hle (HU.out.below B1) (by omega) (fun c hc => by have := (HSL.out c hc).1; unfold maxLen at this; omega)).mono ?_
    rintro e w2 ⟨rfl, hb2⟩
    have B2 := bt B1 hb2
    by_cases hneg2 : szUndosC l (szCells cs 1048576) < 0
    · go_wp2
      go_ret
      exact ⟨rfl, B2⟩
    · obtain ⟨hll, hallL⟩ := szUndos_bd hle (Int.not_lt.1 hneg2)
      have HAL : Hid (∀ c ∈ l, (c.1.size : Int) ≤ 1048576) := hallL
      clear hallL hb2
      have hok : okL cs := ⟨hlen, HA.out⟩
      have hok2 : okL (undoneAllC cs l) := okL_undoneAll hok l HAL.out
      have hl2 := hok2.1
      have HOK : Hid (okL cs) := hok
      clear hok hok2
      go_wp2_with fail
      refine (toCells_any cs v w2 (HC.out.below B2) hlen).mono ?_
      rintro e w3 ⟨v3, rfl, hown3, hb3⟩
      have B3 := bt B2 hb3
      have HO3 : Hid (w3.ownsRow w2.heap.size 71 2 v3 cs.length (flat cs)) := hown3
      clear hown3 hb3
      go_wp2_with fail
      refine (toUndos_any l u w3 (HU.out.below B3) hll).mono ?_
      rintro e w4 ⟨v4, rfl, hown4, hb4⟩
      have B4 := bt B3 hb4
      have HC4 : Hid (Cells w4 v3 cs) := (cells_of_own HO3.out).below hb4
      have HR4 : Hid (RowsR w4 v4 3 undoF l) := rows_of_own undoF_len hown4
      clear hown4 hb4 HO3
      go_wp2_with fail
      refine (undoneAll_s cs l v3 v4 w4 HC4.out HR4.out HOK.out hll HAL.out).mono ?_
      rintro e w5 ⟨v5, rfl, hown5, hb5⟩
      have B5 := bt B4 hb5
      have HW5 : Hid (w5.ownsRow w4.heap.size 71 2 v5 (undoneAllC cs l).length (flat (undoneAllC cs l))) := hown5
      clear hown5 hb5 HC4 HR4
      go_wp2_with fail
      refine (toCells_any cs v w5 (HC.out.below B5) hlen).mono ?_
      rintro e w6 ⟨v6, rfl, hown6, hb6⟩
      have B6 := bt B5 hb6
      have HX6 : Hid (w6.ownsRow w5.heap.size 71 2 v6 cs.length (flat cs)) := hown6
      have HB56 : Hid (Below w5.heap.size w5 w6) := hb6
      clear hown6 hb6
      go_wp2_with fail
      refine (toUndos_any l u w6 (HU.out.below B6) hll).mono ?_
      rintro e w7 ⟨v7, rfl, hown7, hb7⟩
      have B7 := bt B6 hb7
      have HY7 : Hid (w7.ownsRow w6.heap.size 70 3 v7 l.length (flatR undoF l)) := hown7
      have HB67 : Hid (Below w6.heap.size w6 w7) := hb7
      have HX7 : Hid (w7.ownsRow w5.heap.size 71 2 v6 cs.length (flat cs)) := own_kept HX6.out hb7
      clear hown7 hb7
      go_wp2_with fail
      refine (undoneAll_i cs l v6 v7 w7 (cells_of_own HX7.out) (rows_of_own undoF_len HY7.out) HOK.out hll HAL.out).mono ?_
      rintro e w8 ⟨v8, rfl, hown8, hb8⟩
      have B8 := bt B7 hb8
      have HG8 : Hid (w8.ownsRow w7.heap.size 71 2 v8 (undoneAllC cs l).length (flat (undoneAllC cs l))) := hown8
      have HB58 : Hid (Below w5.heap.size w5 w8) := bt HB56.out (bt HB67.out hb8)
      have HX8 : Hid (w8.ownsRow w5.heap.size 71 2 v6 cs.length (flat cs)) := own_kept HX7.out hb8
      have HY8 : Hid (w8.ownsRow w6.heap.size 70 3 v7 l.length (flatR undoF l)) := own_kept HY7.out hb8
      have HW8 : Hid (w8.ownsRow w4.heap.size 71 2 v5 (undoneAllC cs l).length (flat (undoneAllC cs l))) := own_kept HW5.out HB58.out
      have s56 := HB56.out.size
      have s67 := HB67.out.size
      have s05 := B5.size
      have s06 := B6.size
      have s07 := B7.size
      have NGX : Hid (v8.ownBlock = none ∨ v8.ownBlock ≠ v6.ownBlock) := own_ne HX6.out HG8.out s67
      have NGY : Hid (v8.ownBlock = none ∨ v8.ownBlock ≠ v7.ownBlock) := own_ne HY7.out HG8.out (Nat.le_refl _)
      have NYX : Hid (v7.ownBlock = none ∨ v7.ownBlock ≠ v6.ownBlock) := own_ne HX6.out HY7.out (Nat.le_refl _)
      have NWX : Hid (v5.ownBlock = none ∨ v5.ownBlock ≠ v6.ownBlock) := own_ne' HW5.out HX6.out (Nat.le_refl _)
      have NWY : Hid (v5.ownBlock = none ∨ v5.ownBlock ≠ v7.ownBlock) := own_ne' HW5.out HY7.out s56
      have NWG : Hid (v5.ownBlock = none ∨ v5.ownBlock ≠ v8.ownBlock) := own_ne' HW5.out HG8.out (Nat.le_trans s56 s67)
      clear hown8 hb8 HX6 HX7 HY7 HW5 HB56 HB67 HB58 s56 s67
      go_wp2_with fail
      refine (eqCells_yes _ v8 v5 w8 (cells_of_own HG8.out) (cells_of_own HW8.out) hl2).mono ?_
      rintro e w9 ⟨rfl, b9⟩
      have b10 := b9
      have B10 := bt B8 b10
      clear b9
      go_wp2_with fail
      refine (toCells_any cs v w9 (HC.out.below B10) hlen).mono ?_
      rintro e w11 ⟨v11, rfl, hown11, hb11⟩
      have b11 := bt b10 hb11
      have HC11 : Hid (Cells w11 v11 cs) := cells_of_own hown11
      clear hown11 hb11 b10
      go_wp2_with fail
      refine (eqCells_yes cs v6 v11 w11 ((cells_of_own HX8.out).below b11) HC11.out hlen).mono ?_
      rintro e w12 ⟨rfl, hb12⟩
      have b12 := bt b11 hb12
      have B12 := bt B8 b12
      clear hb12 b11
      go_wp2_with fail
      refine (toUndos_any l u w12 (HU.out.below B12) hll).mono ?_
      rintro e w13 ⟨v13, rfl, hown13, hb13⟩
      have b13 := bt b12 hb13
      have HR13 : Hid (RowsR w13 v13 3 undoF l) := rows_of_own undoF_len hown13
      clear hown13 hb13 b12
      go_wp2_with fail
      refine (eqUndos_yes l v7 v13 w13 ((rows_of_own undoF_len HY8.out).below b13) HR13.out hll).mono ?_
      rintro e w14 ⟨rfl, hb14⟩
      have b14 := bt b13 hb14
      have B14 := bt B8 b14
      clear hb14 b13 B10 B12
      go_wp2_with fail
      refine (markCells_any cs.length 1 v6 w5.heap.size _ w14 (own_kept HX8.out b14) (by decide) (by decide) (by omega)).mono ?_
      rintro e w15 ⟨rfl, _, hg15⟩
      have HW15 : Hid (w15.ownsRow w4.heap.size 71 2 v5 (undoneAllC cs l).length (flat (undoneAllC cs l))) := World.ownsRow.kept (own_kept HW8.out b14) hg15 NWX.out
      have HY15 : Hid (w15.ownsRow w6.heap.size 70 3 v7 l.length (flatR undoF l)) := World.ownsRow.kept (own_kept HY8.out b14) hg15 NYX.out
      have HG15 : Hid (w15.ownsRow w7.heap.size 71 2 v8 (undoneAllC cs l).length (flat (undoneAllC cs l))) := World.ownsRow.kept (own_kept HG8.out b14) hg15 NGX.out
      have B15 : Below W.heap.size W w15 := B14.grown hg15 B14.size fun b hb => Nat.le_trans s05 ((own_kept HX8.out b14).lt b hb).1
      clear hg15 b14 HX8 HW8 HY8 HG8 B14
      go_wp2_with fail
      refine (markUndos_any l.length (1 + 2 * cs.length) v7 w6.heap.size _ w15 HY15.out (by omega) (by omega) (by omega)).mono ?_
      rintro e w16 ⟨rfl, _, hg16⟩
      have HW16 : Hid (w16.ownsRow w4.heap.size 71 2 v5 (undoneAllC cs l).length (flat (undoneAllC cs l))) := World.ownsRow.kept HW15.out hg16 NWY.out
      have HG16 : Hid (w16.ownsRow w7.heap.size 71 2 v8 (undoneAllC cs l).length (flat (undoneAllC cs l))) := World.ownsRow.kept HG15.out hg16 NGY.out
      have B16 : Below W.heap.size W w16 := B15.grown hg16 B15.size fun b hb => Nat.le_trans s06 (HY15.out.lt b hb).1
      clear hg16 HW15 HY15 HG15 B15
      go_wp2_with fail
      refine (eqCells_yes _ v8 v5 w16 (cells_of_own HG16.out) (cells_of_own HW16.out) hl2).mono ?_
      rintro e w17 ⟨rfl, b17⟩
      have b18 := b17
      have B18 := bt B16 b18
      clear b17
      go_wp2_with fail
      refine (markCells_any (undoneAllC cs l).length 1 v8 w7.heap.size _ w17 (own_kept HG16.out b18) (by decide) (by decide) (by omega)).mono ?_
      rintro e w19 ⟨rfl, hm19, hg19⟩
      have HW19 : Hid (w19.ownsRow w4.heap.size 71 2 v5 (undoneAllC cs l).length (flat (undoneAllC cs l))) := World.ownsRow.kept (own_kept HW16.out b18) hg19 NWG.out
      have HP19 : Hid (w19.ownsRow w7.heap.size 71 2 v8 (undoneAllC cs l).length (flat (cmarks 1 (undoneAllC cs l).length))) := hm19
      have B19 : Below W.heap.size W w19 := B18.grown hg19 B18.size fun b hb => Nat.le_trans s07 ((own_kept HG16.out b18).lt b hb).1
      clear hg19 hm19 b18 HW16 HG16 B18 B16
      have HPC : Hid (Cells w19 v8 (cmarks 1 (undoneAllC cs l).length)) := cells_of_own (by rw [cmarks_len]; exact HP19.out)
      go_wp2_with fail
      refine (heldCells_any (undoneAllC cs l).length 1 v8 w19 HPC.out (by decide) (by decide) (by omega)).mono ?_
      rintro e w21 ⟨rfl, b21⟩
      have b22 := b21
      have B22 := bt B19 b22
      clear b21
      go_wp2_with fail
      refine (toCells_any cs v w21 (HC.out.below B22) hlen).mono ?_
      rintro e w23 ⟨v23, rfl, hown23, hb23⟩
      have b23 := bt b22 hb23
      have B23 := bt B19 b23
      have HC23 : Hid (Cells w23 v23 cs) := cells_of_own hown23
      clear hown23 hb23 b22 B22
      go_wp2_with fail
      refine (toUndos_any l u w23 (HU.out.below B23) hll).mono ?_
      rintro e w24 ⟨v24, rfl, hown24, hb24⟩
      have b24 := bt b23 hb24
      have HR24 : Hid (RowsR w24 v24 3 undoF l) := rows_of_own undoF_len hown24
      have HC24 : Hid (Cells w24 v23 cs) := HC23.out.below hb24
      clear hown24 hb24 b23 B23 HC23
      go_wp2_with fail
      refine (undoneAll_i cs l v23 v24 w24 HC24.out HR24.out HOK.out hll HAL.out).mono ?_
      rintro e w25 ⟨v25, rfl, hown25, hb25⟩
      have b25 := bt b24 hb25
      have HC25 : Hid (Cells w25 v25 (undoneAllC cs l)) := cells_of_own hown25
      clear hown25 hb25 b24
      go_wp2_with fail
      refine (eqCells_yes _ v25 v5 w25 HC25.out ((cells_of_own HW19.out).below b25) hl2).mono ?_
      rintro e w26 ⟨rfl, hb26⟩
      have b26 := bt b25 hb26
      clear hb26 b25
      have b27 := b26
      clear b26
      go_wp2_with fail
      refine (heldCells_any (undoneAllC cs l).length 1 v8 w26 (HPC.out.below b27) (by decide) (by decide) (by omega)).mono ?_
      rintro e w28 ⟨rfl, hb28⟩
      have b28 := bt b27 hb28
      clear hb28 b27
      go_wp2
      go_ret
      exact ⟨rfl, bt B19 b28⟩

end Go.Proofs.Ytnghhfgbobpnkak.WFnExactUndoneAll
