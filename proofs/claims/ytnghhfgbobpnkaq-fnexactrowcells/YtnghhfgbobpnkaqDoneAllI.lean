/-
  The contract of the program's DoneAll.
-/
import Derived.Test.YtnghhfgbobpnkaqToldI
import Derived.Test.YtnghhfgbobpnkaqDoI
import Derived.Test.YtnghhfgbobpnkaqCellsI
import Derived.Test.YtnghhfgbobpnkaqCopyI
import Derived.Test.YtnghhfgbobpnkaqDoneAllS
namespace Go.Proofs.Ytnghhfgbobpnkaq
open Go.RowKit Num Go.Maps

theorem upToI_step {xs : List Int} {ys : List Value} {k : Nat} (h : upToR intF 1 xs ys k) (hk : k < xs.length) {x : Int} (hx : xs[k]? = some x) : upToR intF 1 xs (ys.set k (.int .i64 x)) (k + 1) := by
  have hl := h.1
  have hx' : xs[k] = x := by rw [List.getElem?_eq_getElem hk] at hx; exact Option.some.inj hx
  refine upToR_step intF_len h hk (by simp) (fun j hj => ?_) (fun j hj => ?_)
  · rw [List.getElem?_set_ne (by omega)]
  · have : j = 0 := by omega
    subst this
    rw [Nat.mul_one, Nat.add_zero, List.getElem?_set_self (by omega), hx']; rfl
theorem codes_at {cs : CL} {l : List CM} {k : Nat} (h : k < l.length) : (codesC cs l)[k]? = some (codeC (doneAllC cs (l.take k)) l[k]) := by
  induction l generalizing cs k with
  | nil => simp at h
  | cons c l ih =>
    cases k with
    | zero => rfl
    | succ k =>
      have := ih (cs := doneC cs c) (k := k) (by simpa using h)
      simpa [codesC, doneAllC] using this

set_option maxRecDepth 100000 in
set_option maxHeartbeats 4000000 in
theorem doneAll_i (cs : CL) (l : List CM) (v u : Value) (w : World) (hv : Cells w v cs) (hu : RowsR w u 3 cmdF l) (hok : okL cs) (hl : (l.length : Int) ≤ 1048576) (hall : ∀ c ∈ l, (c.2.1.size : Int) ≤ 1048576) :
    Calls Try.prog 46 #[v, u] w fun e w' => ∃ v1 v2, e = .returned (.tuple #[v1, v2]) ∧ w'.ownsRow w.heap.size 88 2 v1 (doneAllC cs l).length (flat (doneAllC cs l)) ∧ w'.ownsRow w.heap.size 3 1 v2 l.length ((codesC cs l).map (Value.int .i64)) ∧ (v1.ownBlock = none ∨ v1.ownBlock ≠ v2.ownBlock) ∧ Below w.heap.size w w' := by
  have HV : Hid (Cells w v cs) := hv
  have HL : Hid (okL cs) := hok
  have HA : Hid (∀ c ∈ l, (c.2.1.size : Int) ≤ 1048576) := hall
  have h1 := hok.1
  have hcl := codesC_len cs l
  obtain ⟨a, cap, rfl, _⟩ := hv
  obtain ⟨b, bcap, rfl, hr⟩ := hu
  have HR : Hid (0 < l.length → _) := hr
  obtain ⟨i0, hi, hz0, hz1, hz2⟩ := info_parts infoInt
  clear hall hr hok
  go_enter Try.func46, Try.ntmps46
  go_wp2_with (at_make; refine wpList_make_full _ rfl _ _ 23 rfl w.heap.size 3 i0 _ 1 Try.underlying23 hi hz0 hz1 _ _ _ _ l.length rfl rfl rfl rfl (by rw [hz2]; omega) (by unfold maxLen; omega) (Nat.le_refl _) ?_; intro w0 hown0 hgrow0)
  have B0 : Below w.heap.size w w0 := (Below.refl _ _).grown hgrow0 (Nat.le_refl _) (fun k h => by cases h)
  have HO0 : Hid (w0.ownsRow w.heap.size 3 1 (.slice (some ⟨w.heap.size, 0, none⟩) l.length l.length) l.length _) := hown0
  have HB0 : Hid (Below w.heap.size w w0) := B0
  have hlt0 : w.heap.size < w0.heap.size := (hown0.lt w.heap.size rfl).2
  clear hown0 hgrow0 B0
  refine (cellsOk_i cs _ w0 (HV.out.below HB0.out) HL.out.1 HL.out.2).mono ?_
  rintro e w1 ⟨rfl, hb1⟩
  have HO1 : Hid (w1.ownsRow w.heap.size 3 1 (.slice (some ⟨w.heap.size, 0, none⟩) l.length l.length) l.length _) := own_kept HO0.out hb1
  have HB1 : Hid (Below w.heap.size w w1) := bt HB0.out hb1
  have hlt1 : w.heap.size < w1.heap.size := Nat.lt_of_lt_of_le hlt0 hb1.size
  clear hb1 HO0 HB0 hlt0
  cases hcb : cellsB cs with
  | false =>
    obtain ⟨ed, ec⟩ := doneAll_bad hcb l
    have HED : Hid (doneAllC cs l = cs) := ed
    have HEC : Hid (codesC cs l = List.replicate l.length 2) := ec
    clear ed ec
    go_wp2
    go_loopw [19] (fun i wr => ∃ (k : Nat) (ys : List Value), k ≤ l.length ∧ i = .int .i64 (k : Int) ∧ Hid (upToR intF 1 (codesC cs l) ys k) ∧ wr.ownsRow w.heap.size 3 1 (.slice (some ⟨w.heap.size, 0, none⟩) l.length l.length) l.length ys ∧ Below w.heap.size w wr) (fun i _ => l.length - (intOf i).toNat)
    case atStart => exact ⟨0, _, Nat.zero_le _, rfl, upToR_zero (by rw [HO1.out.1, hcl]), HO1.out, HB1.out⟩
    case round =>
      obtain ⟨k, ys, hk, rfl, HY, hown, hbel⟩ := hrel
      have HO : Hid (wr.ownsRow w.heap.size 3 1 (.slice (some ⟨w.heap.size, 0, none⟩) l.length l.length) l.length ys) := hown
      have HB : Hid (Below w.heap.size w wr) := hbel
      clear hown hbel
      by_cases hlt : (k : Int) < l.length
      · have hkn : k < l.length := by omega
        have q0 : (0 : Int) ≤ (k : Int) := by omega
        have hyl := HO.out.1
        obtain ⟨x0, f0⟩ := own_cell HO.out k (by omega)
        rw [List.getElem?_eq_getElem (by omega)] at x0
        have R := HO.out.stored k (.int .i64 2)
        have HR2 : Hid ((wr.setCell ⟨w.heap.size, k, none⟩ (.int .i64 2)).ownsRow w.heap.size 3 1 (.slice (some ⟨w.heap.size, 0, none⟩) l.length l.length) l.length (ys.set k (.int .i64 2)) ∧ wr.grownBy (wr.setCell ⟨w.heap.size, k, none⟩ (.int .i64 2)) (some w.heap.size)) := R
        have HX : Hid ((codesC cs l)[k]? = some 2) := (by rw [HEC.out, List.getElem?_replicate, if_pos hkn] : (codesC cs l)[k]? = some 2)
        clear R
        go_wp2
        go_roundw
        case rel => exact ⟨k + 1, _, by omega, by go_num, upToI_step HY.out (by omega) HX.out, HR2.out.1, HB.out.grown HR2.out.2 HB.out.size fun x hx => by cases hx; exact Nat.le_refl _⟩
        case measure => simp [intOf]; omega
      · have hkl : k = l.length := by omega
        have HK : Hid (k = l.length) := hkl
        clear hkl
        go_wp2_with fail
        refine (copy_i cs _ wr (HV.out.below HB.out) HL.out.1 HL.out.2).mono ?_
        rintro e w3 ⟨v3, rfl, hown3, hb3⟩
        have HO3 : Hid (w3.ownsRow wr.heap.size 88 2 v3 cs.length (flat cs)) := hown3
        have HQ3 : Hid (w3.ownsRow w.heap.size 3 1 (.slice (some ⟨w.heap.size, 0, none⟩) l.length l.length) l.length ys) := own_kept HO.out hb3
        clear hown3
        go_wp2
        go_ret2
        refine ⟨v3, _, rfl, by rw [HED.out]; exact own_base HO3.out HB.out.size, ?_, own_ne HO.out HO3.out (Nat.le_refl _), bt HB.out hb3⟩
        have hy := HY.out
        rw [HK.out, ← hcl] at hy
        have := HQ3.out
        rw [upToR_all intF_len hy, flat_int] at this
        exact this
  | true =>
    have HCB : Hid (cellsB cs = true) := hcb
    clear hcb
    go_wp2_with fail
    refine (accounts_i cs _ w1 (HV.out.below HB1.out) HCB.out HL.out.2).mono ?_
    rintro e w2 ⟨rfl, hm2, hb2⟩
    have HM2 : Hid (MapIs w2 w1.heap.size cs) := hm2
    have HO2 : Hid (w2.ownsRow w.heap.size 3 1 (.slice (some ⟨w.heap.size, 0, none⟩) l.length l.length) l.length _) := own_kept HO1.out hb2
    have HB2 : Hid (Below w.heap.size w w2) := bt HB1.out hb2
    clear hm2 hb2
    go_wp2
    go_loopw [33] (fun i wr => ∃ (k : Nat) (ys : List Value), k ≤ l.length ∧ i = .int .i64 (k : Int) ∧ Hid (upToR intF 1 (codesC cs l) ys k) ∧ wr.ownsRow w.heap.size 3 1 (.slice (some ⟨w.heap.size, 0, none⟩) l.length l.length) l.length ys ∧ MapIs wr w1.heap.size (doneAllC cs (l.take k)) ∧ Below w.heap.size w wr) (fun i _ => l.length - (intOf i).toNat)
    case atStart => exact ⟨0, _, Nat.zero_le _, rfl, upToR_zero (by rw [HO2.out.1, hcl]), HO2.out, HM2.out, HB2.out⟩
    case round =>
      obtain ⟨k, ys, hk, rfl, HY, hown, hmap, hbel⟩ := hrel
      have HO : Hid (wr.ownsRow w.heap.size 3 1 (.slice (some ⟨w.heap.size, 0, none⟩) l.length l.length) l.length ys) := hown
      have HB : Hid (Below w.heap.size w wr) := hbel
      have HM : Hid (MapIs wr w1.heap.size (doneAllC cs (l.take k))) := hmap
      have hbs := hbel.size
      clear hown hbel hmap
      by_cases hlt : (k : Int) < l.length
      · have hkn : k < l.length := by omega
        have q0 : (0 : Int) ≤ (k : Int) := by omega
        obtain ⟨g, off, rfl, hg, hc⟩ := HR.out (by omega)
        have c0 : wr.cell? ⟨g, off + k * 3, none⟩ = some (.int .i64 l[k].1) := by rw [HB.out.cell (by exact hg)]; exact hc k hkn 0 (by omega)
        have c1 : wr.cell? ⟨g, off + k * 3 + 1, none⟩ = some (.string l[k].2.1) := by rw [HB.out.cell (by exact hg)]; exact hc k hkn 1 (by omega)
        have c2 : wr.cell? ⟨g, off + k * 3 + 2, none⟩ = some (.int .i64 l[k].2.2) := by rw [HB.out.cell (by exact hg)]; exact hc k hkn 2 (by omega)
        have HS : Hid (l.take (k + 1) = l.take k ++ [l[k]]) := take_snoc hkn
        have HX : Hid ((codesC cs l)[k]? = some (codeC (doneAllC cs (l.take k)) l[k])) := codes_at hkn
        clear hc
        go_wp2_with fail
        refine (do_i (doneAllC cs (l.take k)) w1.heap.size l[k] _ (HM.out.below (ba (Below.refl _ _) _)) (doneAll_ok _ HCB.out) (HA.out _ (List.getElem_mem hkn))).mono ?_
        rintro e w3 ⟨rfl, hm3, hg3⟩
        have HM3 : Hid (MapIs w3 w1.heap.size (doneC (doneAllC cs (l.take k)) l[k])) := hm3
        have HO3 : Hid (w3.ownsRow w.heap.size 3 1 (.slice (some ⟨w.heap.size, 0, none⟩) l.length l.length) l.length ys) := World.ownsRow.kept (World.ownsRow.alloc HO.out _) hg3 (Or.inr fun e => by have e2 : w.heap.size = w1.heap.size := Option.some.inj e; omega)
        have HB3 : Hid (Below w.heap.size w w3) := (ba HB.out _).grown hg3 (by simp; omega) fun x hx => by cases hx; omega
        clear hm3 hg3 c0 c1 c2
        have hyl := HO3.out.1
        obtain ⟨x0, f0⟩ := own_cell HO3.out k (by omega)
        rw [List.getElem?_eq_getElem (by omega)] at x0
        have R := HO3.out.stored k (.int .i64 (codeC (doneAllC cs (l.take k)) l[k]))
        have HR2 : Hid ((w3.setCell ⟨w.heap.size, k, none⟩ (.int .i64 (codeC (doneAllC cs (l.take k)) l[k]))).ownsRow w.heap.size 3 1 (.slice (some ⟨w.heap.size, 0, none⟩) l.length l.length) l.length (ys.set k (.int .i64 (codeC (doneAllC cs (l.take k)) l[k]))) ∧ w3.grownBy (w3.setCell ⟨w.heap.size, k, none⟩ (.int .i64 (codeC (doneAllC cs (l.take k)) l[k]))) (some w.heap.size)) := R
        clear R
        go_wp2
        go_roundw
        case rel => exact ⟨k + 1, _, by omega, by go_num, upToI_step HY.out (by omega) HX.out, HR2.out.1, by rw [HS.out, doneAll_snoc]; exact HM3.out.kept HR2.out.2 (fun e => by have := Option.some.inj e; omega), HB3.out.grown HR2.out.2 HB3.out.size fun x hx => by cases hx; exact Nat.le_refl _⟩
        case measure => simp [intOf]; omega
      · have hkl : k = l.length := by omega
        have HK : Hid (k = l.length) := hkl
        have HM' : Hid (MapIs wr w1.heap.size (doneAllC cs l)) := (by have := HM.out; rw [hkl, List.take_length] at this; exact this : MapIs wr w1.heap.size (doneAllC cs l))
        clear hkl
        obtain ⟨_, hA3, hl3⟩ := cellsB_iff.1 (doneAll_ok l HCB.out)
        have HA3 : Hid (Asc (doneAllC cs l)) := hA3
        clear hA3
        go_wp2_with fail
        refine (told_i (doneAllC cs l) w1.heap.size wr HM'.out HA3.out (Nat.le_succ_of_le hl3) (okL_all l HL.out HA.out).2).mono ?_
        rintro e w3 ⟨v3, rfl, hown3, hb3⟩
        have HO3 : Hid (w3.ownsRow wr.heap.size 88 2 v3 _ _) := hown3
        have HQ3 : Hid (w3.ownsRow w.heap.size 3 1 (.slice (some ⟨w.heap.size, 0, none⟩) l.length l.length) l.length ys) := own_kept HO.out hb3
        clear hown3
        go_wp2
        go_ret2
        refine ⟨v3, _, rfl, own_base HO3.out HB.out.size, ?_, own_ne HO.out HO3.out (Nat.le_refl _), bt HB.out hb3⟩
        have hy := HY.out
        rw [HK.out, ← hcl] at hy
        have := HQ3.out
        rw [upToR_all intF_len hy, flat_int] at this
        exact this

end Go.Proofs.Ytnghhfgbobpnkaq
