/-
  The contracts of the laws' own helpers over rows of accounts.
-/
import Derived.Test.YtdopefimjabigatJ0
import Derived.BigQuiet
import Derived.Laws.OwnMore
namespace Go.Proofs.Ytdopefimjabigat
open Go.RowKit Num

theorem szCell_any (k : ByteArray) (n left : Int) (w : World) (h0 : 0 ≤ left) (h1 : left ≤ 1048576) (hk : (k.size : Int) ≤ 9223372036854775807) :
    Calls Try.prog 50 #[.agg #[.string k, .int .i64 n], .int .i64 left] w fun e w' => e = .returned (.int .i64 (if left - k.size < 0 then -1 else left - k.size)) ∧ Below w.heap.size w w' := by
  by_cases h : left - k.size < 0
  · rw [if_pos h]
    go_enter Try.func50, Try.ntmps50
    go_wp2
    go_ret
    exact ⟨rfl, (Below.refl _ _).alloc (Nat.le_refl _) _⟩
  · rw [if_neg h]
    go_enter Try.func50, Try.ntmps50
    go_wp2
    go_ret
    exact ⟨rfl, (Below.refl _ _).alloc (Nat.le_refl _) _⟩

theorem szc_drop (cs : CL) (k : Nat) (h : k < cs.length) (left : Int) : szc (cs.drop k) left = if left - (cs[k].1.size : Int) < 0 then -1 else szc (cs.drop (k + 1)) (left - cs[k].1.size) := by
  rw [List.drop_eq_getElem_cons h]; rfl

set_option maxHeartbeats 1000000 in
theorem szCells_any (cs : CL) (v : Value) (left : Int) (w : World) (h0 : 0 ≤ left) (h1 : left ≤ 1048576) (hv : Cells w v cs) (hl : (cs.length : Int) ≤ 9223372036854775807) (hall : ∀ c ∈ cs, (c.1.size : Int) ≤ 9223372036854775807) :
    Calls Try.prog 13 #[v, .int .i64 left] w fun e w' => e = .returned (.int .i64 (szCells cs left)) ∧ Below w.heap.size w w' := by
  have HV : Hid (Cells w v cs) := hv
  have HA : Hid (∀ c ∈ cs, (c.1.size : Int) ≤ 9223372036854775807) := hall
  obtain ⟨a, cap, rfl, hr⟩ := hv
  clear hall
  by_cases hneg : left - cs.length < 0
  · clear hr
    have e : szCells cs left = -1 := if_pos hneg
    rw [e]
    go_enter Try.func13, Try.ntmps13
    go_wp2
    go_ret
    exact ⟨rfl, Below.refl _ _⟩
  · have HE : Hid (szCells cs left = szc cs (left - cs.length)) := if_neg hneg
    have HR : Hid (0 < cs.length → _) := hr
    clear hr
    go_enter Try.func13, Try.ntmps13
    go_wp2
    go_loopw [1, 5] (fun v i wr => ∃ (k : Nat) (l : Int), k ≤ cs.length ∧ i = .int .i64 (k : Int) ∧ v = .int .i64 l ∧ 0 ≤ l ∧ l ≤ 1048576 ∧ Hid (szCells cs left = szc (cs.drop k) l) ∧ Below w.heap.size w wr) (fun _ i _ => cs.length - (intOf i).toNat)
    case atStart => exact ⟨0, left - cs.length, Nat.zero_le _, rfl, rfl, by omega, by omega, HE.out, Below.refl _ _⟩
    case round =>
      obtain ⟨k, l, hk, rfl, rfl, hl0, hl1, HL, hbel⟩ := hrel
      by_cases hlt : (k : Int) < cs.length
      · have hkn : k < cs.length := by omega
        obtain ⟨g, off, rfl, hg, hc⟩ := HR.out (by omega)
        obtain ⟨hc0, hc1⟩ := hc k hkn
        have hd0 : wr.cell? ⟨g, off + k * 2, none⟩ = some (.string cs[k].1) := by rw [hbel.cell (by exact hg)]; exact hc0
        have hd1 : wr.cell? ⟨g, off + k * 2 + 1, none⟩ = some (.int .i64 cs[k].2) := by rw [hbel.cell (by exact hg)]; exact hc1
        have hsz := HA.out cs[k] (List.getElem_mem hkn)
        have hstep := szc_drop cs k hkn l
        have HS : Hid (szc (cs.drop k) l = _) := hstep
        have q0 : (0 : Int) ≤ (k : Int) := by omega
        clear hc hc0 hc1 hstep
        go_wp2_with fail
        refine (szCell_any cs[k].1 cs[k].2 l wr hl0 hl1 hsz).mono ?_
        rintro e w1 ⟨rfl, hb1⟩
        have B1 : Below w.heap.size w w1 := hbel.trans (hb1.mono hbel.size)
        by_cases hn : l - (cs[k].1.size : Int) < 0
        · rw [if_pos hn]
          go_wp2
          go_ret
          exact ⟨ret_int (by rw [HL.out, HS.out, if_pos hn]), B1⟩
        · rw [if_neg hn]
          have hn' : 0 ≤ l - (cs[k].1.size : Int) := by omega
          go_wp2
          go_roundw
          case rel => exact ⟨k + 1, l - (cs[k].1.size : Int), by omega, by go_num, rfl, hn', by omega, (show szCells cs left = szc (cs.drop (k + 1)) (l - (cs[k].1.size : Int)) from by rw [HL.out, HS.out, if_neg (Int.not_lt.2 hn')]), B1⟩
          case measure => simp [intOf]; omega
      · have hkl : k = cs.length := by omega
        have HK : Hid (k = cs.length) := hkl
        clear hkl
        go_wp2
        go_ret
        exact ⟨ret_int (by rw [HL.out, HK.out, List.drop_length]; rfl), hbel⟩

theorem toCell_any (k : ByteArray) (n : Int) (w : World) :
    Calls Try.prog 52 #[.agg #[.string k, .int .i64 n]] w fun e w' => e = .returned (.agg #[.string k, .int .i64 n]) ∧ Below w.heap.size w w' := by
  go_enter Try.func52, Try.ntmps52
  go_wp2
  refine bodyPost_ret (v := .agg #[_, _]) (by simp [results, Try.results52, go_sem]) rfl ⟨rfl, ?_⟩
  exact ba (ba (ba (Below.refl _ _) _) _) _

theorem infoCell : (Try.prog.info? 85).map (fun i => (i.zero, i.size, i.bytes)) = some (some (.agg #[.string ByteArray.empty, .int .i64 0]), 2, 24) := by kernel_rfl

/-- as far as place k the row xs is the accounts cs -/
def upTo (cs : CL) (xs : List Value) (k : Nat) : Prop := xs.length = cs.length * 2 ∧ ∀ j, j < k * 2 → xs[j]? = (flat cs)[j]?
theorem upTo_all {cs : CL} {xs : List Value} (h : upTo cs xs cs.length) : xs = flat cs := by
  apply List.ext_getElem?
  intro j
  by_cases hj : j < cs.length * 2
  · exact h.2 j hj
  · rw [List.getElem?_eq_none (by rw [h.1]; omega), List.getElem?_eq_none (by rw [flat_len]; omega)]
theorem upTo_step {cs : CL} {xs : List Value} {k : Nat} (h : upTo cs xs k) (hk : k < cs.length) : upTo cs ((xs.set (k * 2) (.string cs[k].1)).set (k * 2 + 1) (.int .i64 cs[k].2)) (k + 1) := by
  refine ⟨by simpa using h.1, fun j hj => ?_⟩
  have hf := flat_at cs k hk
  have hl := h.1
  by_cases h1 : j = k * 2 + 1
  · subst h1
    rw [List.getElem?_set_self (by simp; omega), hf.2]
  · rw [List.getElem?_set_ne (by omega)]
    by_cases h0 : j = k * 2
    · subst h0
      rw [List.getElem?_set_self (by omega), hf.1]
    · rw [List.getElem?_set_ne (by omega)]
      exact h.2 j (by omega)

set_option maxRecDepth 100000 in
set_option maxHeartbeats 1000000 in
theorem toCells_any (cs : CL) (v : Value) (w : World) (hv : Cells w v cs) (hl : (cs.length : Int) ≤ 1048576) :
    Calls Try.prog 25 #[v] w fun e w' => ∃ v', e = .returned v' ∧ w'.ownsRow w.heap.size 85 2 v' cs.length (flat cs) ∧ Below w.heap.size w w' := by
  obtain ⟨i0, hi, hz0, hz1, hz2⟩ := info_parts infoCell
  obtain ⟨a, cap, rfl, hr⟩ := hv
  have HR : Hid (0 < cs.length → _) := hr
  clear hr
  go_enter Try.func25, Try.ntmps25
  go_wp2_with (at_make; refine wpList_make_full _ rfl _ _ 36 rfl w.heap.size 85 i0 _ 2 Try.underlying36 hi hz0 hz1 _ _ _ _ cs.length rfl rfl (by omega) (by omega) (by rw [hz2]; omega) (by unfold maxLen; omega) (Nat.le_refl _) ?_; intro w0 hown0 hgrow0)
  have hb0 : Below w.heap.size w w0 := (Below.refl _ _).grown hgrow0 (Nat.le_refl _) (fun k h => by cases h)
  clear hgrow0
  go_loopw [4] (fun i wr => ∃ (k : Nat) (xs : List Value), k ≤ cs.length ∧ i = .int .i64 k ∧ Hid (upTo cs xs k) ∧ wr.ownsRow w.heap.size 85 2 (.slice (some ⟨w.heap.size, 0, none⟩) cs.length cs.length) cs.length xs ∧ Below w.heap.size w wr) (fun i _ => cs.length - (intOf i).toNat)
  case atStart =>
    exact ⟨0, _, Nat.zero_le _, rfl, ⟨hown0.1, fun j hj => by omega⟩, hown0, hb0⟩
  case round =>
    obtain ⟨k, xs, hk, rfl, HX, hown, hbel⟩ := hrel
    clear hown0 hb0
    by_cases hlt : (k : Int) < cs.length
    · have hkn : k < cs.length := by omega
      obtain ⟨g, off, rfl, hg, hc⟩ := HR.out (by omega)
      obtain ⟨hc0, hc1⟩ := hc k hkn
      have hd0 : wr.cell? ⟨g, off + k * 2, none⟩ = some (.string cs[k].1) := by rw [hbel.cell (by exact hg)]; exact hc0
      have hd1 : wr.cell? ⟨g, off + k * 2 + 1, none⟩ = some (.int .i64 cs[k].2) := by rw [hbel.cell (by exact hg)]; exact hc1
      have q0 : (0 : Int) ≤ (k : Int) := by omega
      have HO : Hid (wr.ownsRow w.heap.size 85 2 (.slice (some ⟨w.heap.size, 0, none⟩) cs.length cs.length) cs.length xs) := hown
      clear hc hc0 hc1 hown
      go_wp2_with fail
      refine (toCell_any cs[k].1 cs[k].2 wr).mono ?_
      rintro e w1 ⟨rfl, hb1⟩
      have hown1 : w1.ownsRow w.heap.size 85 2 (.slice (some ⟨w.heap.size, 0, none⟩) cs.length cs.length) cs.length xs := World.ownsRow.kept HO.out (below_grown hb1) (by simp [Value.ownBlock])
      obtain ⟨u0, u1, hx0, hf0, hx1, hx2, hf2⟩ := own_two hown1 k hkn
      have R := own_set_two hown1 (k * 2) (k * 2 + 1) (.string cs[k].1) (.int .i64 cs[k].2)
      have B1 := bt hbel hb1
      clear hown1 hd0 hd1
      go_wp2
      go_roundw
      case rel => exact ⟨k + 1, _, by omega, by go_num, upTo_step HX.out hkn, R.1, B1.grown R.2 B1.size (fun b hb => by cases hb; exact Nat.le_refl _)⟩
      case measure => simp [intOf]; omega
    · have hkl : k = cs.length := by omega
      have HK : Hid (k = cs.length) := hkl
      have HO : Hid (wr.ownsRow w.heap.size 85 2 (.slice (some ⟨w.heap.size, 0, none⟩) cs.length cs.length) cs.length xs) := hown
      clear hkl hown
      go_wp2
      go_ret
      have hx := HX.out
      rw [HK.out] at hx
      exact ⟨_, rfl, by have := HO.out; rw [upTo_all hx] at this; exact this, hbel⟩

end Go.Proofs.Ytdopefimjabigat
