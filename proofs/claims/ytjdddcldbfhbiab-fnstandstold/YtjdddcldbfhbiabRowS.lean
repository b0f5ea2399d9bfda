/-
  The contract of the specification's RowTo.
-/
import Derived.Test.YtjdddcldbfhbiabHeightS
import Derived.Test.YtjdddcldbfhbiabAppR
import Derived.Test.YtjdddcldbfhbiabOwn
namespace Go.Proofs.Ytjdddcldbfhbiab
open Go.RowKit Num

theorem intF_one (n : Int) : ∀ u ∈ intF n, u.oneCell' = true := by intro u hu; simp [intF] at hu; subst hu; rfl
theorem infoInt1 : (Try.prog.info? 3).map (fun i => (i.zero, i.size, i.bytes)) = some (some (.int .i64 0), 1, 8) := by kernel_rfl
/-- a row of one number, just made -/
theorem own_int1 (w : World) (x : Int) : (w.alloc (.cells #[.int .i64 x] 3)).ownsRow w.heap.size 3 1 (.slice (some ⟨w.heap.size, 0, none⟩) 1 1) 1 (flatR intF [x]) :=
  ⟨rfl, Or.inr ⟨w.heap.size, 1, #[.int .i64 x], rfl, Nat.le_refl _, heap_alloc_new w _, Nat.le_refl _, by unfold maxLen; omega, rfl, rfl⟩⟩

theorem rev_snoc (pre : List Nat) (j : Nat) : [(j : Int)] ++ intsN pre.reverse = intsN (pre ++ [j]).reverse := by simp [intsN]

set_option maxRecDepth 100000 in
set_option maxHeartbeats 2000000 in
theorem rowTo_s (ps : TL) (v : Value) (k : Int) (w : World) (hT : TreeQ w v ps) (hl : (ps.length : Int) ≤ 1048576) :
    Calls Try.prog 22 #[v, .int .i64 k] w fun e w' => ∃ v', e = .returned v' ∧ w'.ownsRow w.heap.size 3 1 v' (rowI (bks ps) k).length (flatR intF (rowI (bks ps) k)) ∧ Below w.heap.size w w' := by
  have HT : Hid (TreeQ w v ps) := hT
  obtain ⟨a, cap, rfl, hr⟩ := treeq_cells hT
  have HR : Hid (0 < ps.length → _) := hr
  have hbl := bks_len ps
  have HB0 : Hid (Below w.heap.size w (w.alloc (.cells #[] 3))) := ba (Below.refl _ _) _
  have HO0 : Hid ((w.alloc (.cells #[] 3)).ownsRow w.heap.size 3 1 (.slice (some ⟨w.heap.size, 0, none⟩) 0 0) 0 []) := own_new w 3 1
  obtain ⟨i0, hi, hz0, hz1, hz2⟩ := info_parts infoInt1
  clear hr hT
  cases hd : down (bks ps) k with
  | none =>
    have hh : heightT (bks ps) k < 0 := by rw [heightT_none hd]; omega
    have HF : Hid (rowI (bks ps) k = []) := rowI_none hd
    clear hd
    go_enter Try.func22, Try.ntmps22
    go_wp2_with (go_at_call 19; refine (height_s ps _ k _ (HT.out.below HB0.out) hl).mono ?_; rintro e w' ⟨rfl, rfl⟩)
    go_ret
    exact ⟨_, rfl, by rw [HF.out]; exact HO0.out, HB0.out⟩
  | some l =>
    have hh : ¬ heightT (bks ps) k < 0 := by rw [heightT_some hd]; omega
    have HE : Hid (rowI (bks ps) k = intsN l.reverse) := rowI_some hd
    have HD : Hid (down (bks ps) k = some l) := hd
    have hll : l.length ≤ ps.length := by have := down_len hd; rw [hbl] at this; exact this
    clear hd
    go_enter Try.func22, Try.ntmps22
    go_wp2_with (go_at_call 19; refine (height_s ps _ k _ (HT.out.below HB0.out) hl).mono ?_; rintro e w' ⟨rfl, rfl⟩)
    go_loopw [1, 5] (fun c o wr => ∃ (x : Int) (pre lx : List Nat), c = .int .i64 x ∧ Hid (down (bks ps) x = some lx) ∧ Hid (l = pre ++ lx) ∧ wr.ownsRow w.heap.size 3 1 o (intsN pre.reverse).length (flatR intF (intsN pre.reverse)) ∧ Below w.heap.size w wr) (fun c _ _ => (intOf c).toNat)
    case atStart => exact ⟨k, [], l, rfl, HD, rfl, HO0.out, HB0.out⟩
    case round =>
      obtain ⟨x, pre, lx, rfl, HX, HL, hown, hbel⟩ := hrel
      have HO : Hid (wr.ownsRow w.heap.size 3 1 u5 (intsN pre.reverse).length (flatR intF (intsN pre.reverse))) := hown
      have HB : Hid (Below w.heap.size w wr) := hbel
      have hbs := hbel.size
      have hpl : pre.length ≤ ps.length := by have := congrArg List.length HL.out; rw [List.length_append] at this; omega
      obtain ⟨ao, co, ho4, _⟩ := own_form hown
      subst ho4
      clear hown hbel
      obtain ⟨x0, x1⟩ := down_range HX.out
      obtain ⟨j, rfl⟩ := Int.eq_ofNat_of_zero_le x0
      have hj : j < ps.length := by rw [hbl] at x1; omega
      by_cases hz : j = 0
      · subst hz
        have HF : Hid (rowI (bks ps) k = intsN pre.reverse) := (by
          have h1 : lx = [] := by have := HX.out; rw [show ((0 : Nat) : Int) = 0 from rfl, down_zero (by rw [hbl]; omega)] at this; exact (Option.some.inj this).symm
          rw [HE.out, HL.out, h1, List.append_nil] : rowI (bks ps) k = intsN pre.reverse)
        clear x0 x1
        go_wp2
        go_ret
        exact ⟨_, rfl, by rw [HF.out]; exact HO.out, HB.out⟩
      · obtain ⟨hok, l', hl', rfl⟩ := down_some (by omega) HX.out
        have p0 : (0 : Int) < (j : Int) := by omega
        obtain ⟨g, off, rfl, hg, hc⟩ := HR.out (by omega)
        have q1 : (j : Int) < ps.length := by omega
        have HK : Hid (∀ w', Below w.heap.size w w' → w'.cell? ⟨g, off + j * 7, none⟩ = some (.int .i64 ps[j].1.1.1)) := fun w' hb => by rw [hb.cell (by exact hg)]; exact (hc j hj).1
        have HP : Hid (down (bks ps) ps[j].1.1.1 = some l') := (by rw [← bks_par hj]; exact hl' : down (bks ps) ps[j].1.1.1 = some l')
        have HM : Hid (ps[j].1.1.1 ≤ (j : Int) - 1) := (by rw [← bks_par hj]; exact hok.2.2.2 : ps[j].1.1.1 ≤ (j : Int) - 1)
        have HL2 : Hid (l = (pre ++ [j]) ++ l') := (by rw [HL.out]; simp : l = (pre ++ [j]) ++ l')
        have HR1 : Hid (RowsR (wr.alloc (.cells #[.int .i64 (j : Int)] 3)) (.slice ao (intsN pre.reverse).length co) 1 intF (intsN pre.reverse)) := (rows_of_own intF_len HO.out).below (ba (Below.refl _ _) _)
        have hin : (intsN pre.reverse).length = pre.length := by rw [intsN_len, List.length_reverse]
        have HIN : Hid ((intsN pre.reverse).length = pre.length) := hin
        clear hok hc hl' x1 hin
        go_wp2_with (at_builtin; refine wpList_append_rows _ rfl _ _ 26 rfl wr.heap.size 3 i0 _ 8 Try.underlying26 hi hz0 hz1 hz2 rfl (by decide) intF_len intF_one _ [(j : Int)] rfl (own_int1 wr (j : Int)) _ (intsN pre.reverse) rfl HR1.out (by have := HIN.out; simp; unfold maxLen; omega) (by have := HIN.out; simp; omega) (by simp) ?_; intro v5 w5 hown5 hgrow5; have HB5 : Hid (Below w.heap.size w w5) := (ba HB.out _).grown hgrow5 (by simp; omega) (fun y hy => by have := Option.some.inj (show some wr.heap.size = some y from hy); omega); have HO5 : Hid (w5.ownsRow w.heap.size 3 1 v5 (intsN (pre ++ [j]).reverse).length (flatR intF (intsN (pre ++ [j]).reverse))) := (rev_snoc pre j ▸ own_base hown5 hbs); have c0 := HK.out _ HB5.out; clear hown5 hgrow5)
        go_roundw
        case rel => exact ⟨ps[j].1.1.1, pre ++ [j], l', rfl, HP, HL2, HO5.out, HB5.out⟩
        case measure => have := HM.out; simp [intOf]; omega

/-- of the row to a block those behind under -/
def afterI (t : List BK) (k under : Int) : List Int := if extT t k under = true then (rowI t k).filter fun x => decide (under < x) else []
theorem filt_hit {l : List Int} {i : Nat} {u : Int} (h : i < l.length) (hu : u < l[i]) : (l.take (i + 1)).filter (fun x => decide (u < x)) = (l.take i).filter (fun x => decide (u < x)) ++ [l[i]] := by
  rw [List.take_succ_eq_append_getElem h, List.filter_append]; simp [hu]
theorem filt_miss {l : List Int} {i : Nat} {u : Int} (h : i < l.length) (hu : ¬ u < l[i]) : (l.take (i + 1)).filter (fun x => decide (u < x)) = (l.take i).filter (fun x => decide (u < x)) := by
  rw [List.take_succ_eq_append_getElem h, List.filter_append]; simp [hu]
theorem filt_le (l : List Int) (i : Nat) (u : Int) : ((l.take i).filter (fun x => decide (u < x))).length ≤ l.length := by
  refine Nat.le_trans (List.length_filter_le _ _) ?_
  rw [List.length_take]; omega

set_option maxRecDepth 100000 in
set_option maxHeartbeats 2000000 in
theorem rowAfter_s (ps : TL) (v : Value) (k under : Int) (w : World) (hT : TreeQ w v ps) (hl : (ps.length : Int) ≤ 1048576) :
    Calls Try.prog 24 #[v, .int .i64 k, .int .i64 under] w fun e w' => ∃ v', e = .returned v' ∧ w'.ownsRow w.heap.size 3 1 v' (afterI (bks ps) k under).length (flatR intF (afterI (bks ps) k under)) ∧ Below w.heap.size w w' := by
  have HT : Hid (TreeQ w v ps) := hT
  have hbl := bks_len ps
  obtain ⟨i0, hi, hz0, hz1, hz2⟩ := info_parts infoInt1
  clear hT
  cases he : extT (bks ps) k under with
  | false =>
    have HF : Hid (afterI (bks ps) k under = []) := (by unfold afterI; rw [he]; rfl : afterI (bks ps) k under = [])
    go_enter Try.func24, Try.ntmps24
    go_wp2_with fail
    refine (extends_s ps _ _ _ w HT.out hl).mono ?_
    rintro e w' ⟨rfl, hw⟩
    obtain rfl := hw.symm
    clear hw
    rw [he]
    clear he
    go_wp2
    go_ret
    exact ⟨_, rfl, by rw [HF.out]; exact own_new w 3 1, ba (Below.refl _ _) _⟩
  | true =>
    obtain ⟨row, hrow⟩ : ∃ row, row = rowI (bks ps) k := ⟨_, rfl⟩
    have HF : Hid (afterI (bks ps) k under = row.filter fun x => decide (under < x)) := (by unfold afterI; rw [he, hrow]; rfl : afterI (bks ps) k under = row.filter fun x => decide (under < x))
    have hrl : row.length ≤ ps.length := by
      rw [hrow]
      cases hd : down (bks ps) k with
      | none => rw [rowI_none hd]; simp
      | some l => rw [rowI_some hd, intsN_len, List.length_reverse]; have := down_len hd; rw [hbl] at this; exact this
    have HC : Hid (Calls Try.prog 22 #[v, .int .i64 k] w fun e w' => ∃ v', e = .returned v' ∧ w'.ownsRow w.heap.size 3 1 v' row.length (flatR intF row) ∧ Below w.heap.size w w') := (by rw [hrow]; exact rowTo_s ps v k w HT.out hl)
    clear hrow
    go_enter Try.func24, Try.ntmps24
    go_wp2_with fail
    refine (extends_s ps _ _ _ w HT.out hl).mono ?_
    rintro e w' ⟨rfl, hw⟩
    obtain rfl := hw.symm
    clear hw
    rw [he]
    clear he
    go_wp2_with fail
    refine HC.out.mono ?_
    rintro e w1 ⟨v1, rfl, hown1, hb1⟩
    obtain ⟨a1, c1, h4, hz⟩ := own_form hown1
    subst h4
    have HR1 : Hid (RowsR w1 (.slice a1 row.length c1) 1 intF row) := rows_of_own intF_len hown1
    have HB1 : Hid (Below w.heap.size w w1) := hb1
    have HB2 : Hid (Below w1.heap.size w1 (w1.alloc (.cells #[] 3))) := ba (Below.refl _ _) _
    have HO2 : Hid ((w1.alloc (.cells #[] 3)).ownsRow w1.heap.size 3 1 (.slice (some ⟨w1.heap.size, 0, none⟩) 0 0) 0 []) := own_new w1 3 1
    have hs1 := hb1.size
    clear hown1 hb1 hz
    go_wp2
    go_loopw [8, 9] (fun o c wr => ∃ i : Nat, i ≤ row.length ∧ c = .int .i64 (i : Int) ∧ wr.ownsRow w1.heap.size 3 1 o ((row.take i).filter fun x => decide (under < x)).length (flatR intF ((row.take i).filter fun x => decide (under < x))) ∧ Below w1.heap.size w1 wr) (fun _ c _ => row.length - (intOf c).toNat)
    case atStart => exact ⟨0, Nat.zero_le _, rfl, HO2.out, HB2.out⟩
    case round =>
      obtain ⟨i, hir, rfl, hown, hbel⟩ := hrel
      have HO : Hid (wr.ownsRow w1.heap.size 3 1 u8 ((row.take i).filter fun x => decide (under < x)).length (flatR intF ((row.take i).filter fun x => decide (under < x)))) := hown
      have HB : Hid (Below w1.heap.size w1 wr) := hbel
      have hbs := hbel.size
      have hfl := filt_le row i under
      clear hown hbel
      by_cases hlt : (i : Int) < row.length
      · have hin : i < row.length := by omega
        have q0 : (0 : Int) ≤ (i : Int) := by omega
        obtain ⟨a, c, e4, hr⟩ := HR1.out
        injection e4 with e41 e42 e43
        subst e41
        obtain ⟨g, off, rfl, hg, hc⟩ := hr (by omega)
        have c0 : wr.cell? ⟨g, off + i, none⟩ = some (.int .i64 row[i]) := by rw [HB.out.cell (by exact hg)]; have := hc i hin 0 (by omega); rw [Nat.mul_one, Nat.add_zero] at this; exact this
        clear hr hc e42 e43
        by_cases hu : under < row[i]
        · have HN : Hid (((row.take (i + 1)).filter fun x => decide (under < x)) = ((row.take i).filter fun x => decide (under < x)) ++ [row[i]]) := filt_hit hin hu
          go_wp2_with (at_builtin; refine wpList_append_own _ rfl _ _ 26 rfl w1.heap.size 3 i0 _ 1 8 Try.underlying26 hi hz0 hz1 hz2 rfl (by decide) _ _ _ rfl (World.ownsRow.alloc HO.out _) ⟨World.heap _ |>.size, 0, none⟩ 1 1 [.int .i64 row[i]] rfl rfl (news1 _ _ _) (ones1 _ _) (by unfold maxLen; omega) (by omega) (by simp; omega) ?_; intro v5 w5 hown5 hgrow5 _; have HB5 : Hid (Below w1.heap.size w1 w5) := (ba HB.out _).grown hgrow5 (by simp; omega) (fun y hy => (HO.out.lt y hy).1); have HO5 : Hid (w5.ownsRow w1.heap.size 3 1 v5 (((row.take i).filter fun x => decide (under < x)).length + 1) (flatR intF ((row.take i).filter fun x => decide (under < x)) ++ [.int .i64 row[i]])) := hown5; clear hown5 hgrow5)
          go_roundw
          case rel => exact ⟨i + 1, by omega, by go_num, by rw [HN.out, flatR_append, List.length_append]; exact HO5.out, HB5.out⟩
          case measure => simp [intOf]; omega
        · have HN : Hid (((row.take (i + 1)).filter fun x => decide (under < x)) = ((row.take i).filter fun x => decide (under < x))) := filt_miss hin hu
          go_wp2
          go_roundw
          case rel => exact ⟨i + 1, by omega, by go_num, by rw [HN.out]; exact HO.out, HB.out⟩
          case measure => simp [intOf]; omega
      · have hil : i = row.length := by omega
        have HIL : Hid (i = row.length) := hil
        clear hil
        go_wp2
        go_ret
        have ho := HO.out
        rw [HIL.out, List.take_length] at ho
        exact ⟨_, rfl, by rw [HF.out]; exact own_base ho hs1, bt HB1.out HB.out⟩

end Go.Proofs.Ytjdddcldbfhbiab
