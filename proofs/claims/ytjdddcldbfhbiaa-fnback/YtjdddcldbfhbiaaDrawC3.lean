/-
  Contracts of the specification's drawing functions of lists of accounts that may be wrong: of a size that is met.
-/
import Derived.Test.YtjdddcldbfhbiaaDrawC2
namespace Go.Proofs.Ytjdddcldbfhbiaa
open Go.RowKit Num

/-- a small list -/
def smallL (cs : CL) (n : Nat) : Prop := cs.length ≤ n ∧ ∀ c ∈ cs, (c.1.size : Int) ≤ 1048576
theorem smallL_ok {cs : CL} {n : Nat} (h : smallL cs n) (hn : n ≤ 1000) : okL cs := ⟨by have := h.1; omega, h.2⟩
theorem smallL_snoc {cs : CL} {n : Nat} (h : smallL cs n) {c : ByteArray × Int} (hc : (c.1.size : Int) ≤ 1048576) : smallL (cs ++ [c]) (n + 1) :=
  ⟨by have := h.1; simp; omega, all_snoc h.2 hc⟩

theorem one_cell_at (W : World) (c : ByteArray × Int) (t : TypeId) {n : Nat} (h : W.heap.size = n) : Cells (W.alloc (.cells #[.string c.1, .int .i64 c.2] t)) (.slice (some ⟨n, 0, none⟩) 1 1) [c] := by
  subst h; exact one_cell W c t

set_option maxRecDepth 100000 in
set_option maxHeartbeats 2000000 in
theorem bent_st {w : World} {B : Nat} {ao : Option Addr} {len cap b off : Nat} (h : St w B ao len cap b off) :
    Calls Try.prog 56 #[.pointer (Option.some ⟨B, 0, none⟩)] w fun e w' => ∃ (v : Value) (cs : CL), e = .returned v ∧ smallL cs 20 ∧ w'.ownsRow w.heap.size 35 2 v cs.length (flat cs) ∧ St w' B ao len cap b off ∧ w.grownBy w' (Option.some B) := by
  have H : Hid (St w B ao len cap b off) := h
  have hBw := h.cur.lt
  have hbd : 0 < len → b < w.heap.size := h.code.lt
  have hcv := one_str
  clear h
  go_enter Try.func56, Try.ntmps56
  go_wp2_with fail
  refine (below_st 10 (by omega) (by omega) H.out).mono ?_
  rintro e w1 ⟨x, rfl, hx0, hx1, hS1, hg1⟩
  have hs1 := hg1.size
  have hb1 : Below w1.heap.size w1 (w1.alloc (.cells #[] 35)) := (Below.refl _ _).alloc (Nat.le_refl _) _
  have HS1 : Hid (St (w1.alloc (.cells #[] 35)) B ao len cap b off) := hS1.below hb1
  have HG1 : Hid (w.grownBy (w1.alloc (.cells #[] 35)) (Option.some B)) := grown_tr hg1 (grown_none hb1)
  have HN1 : Hid ((w1.alloc (.cells #[] 35)).ownsRow w.heap.size 35 2 (.slice (some ⟨w1.heap.size, 0, none⟩) 0 0) ([] : CL).length (flat [])) := own_base (own_new w1 35 2) hs1
  clear hS1 hg1 hb1
  go_wp2_with fail
  refine (cells_st HS1.out).mono ?_
  rintro e w2 ⟨v2, cs2, rfl, hcb, hok, hown2, hS2, hg2⟩
  have hl2 : cs2.length ≤ 12 := (cellsB_iff.1 hcb).2.2
  have HK2 : Hid (okL cs2) := hok
  have HC2 : Hid (Cells w2 v2 cs2) := cells_of_own hown2
  have HS2 : Hid (St w2 B ao len cap b off) := hS2
  have HN2 : Hid (w2.ownsRow w.heap.size 35 2 (.slice (some ⟨w1.heap.size, 0, none⟩) 0 0) ([] : CL).length (flat [])) := World.ownsRow.kept HN1.out hg2 (own_far HN1.out hBw)
  have HG2 : Hid (w.grownBy w2 (Option.some B)) := grown_tr HG1.out hg2
  have hs2 := HG2.out.size
  clear hcb hok hown2 hS2 hg2 HN1 HG1
  go_wp2_with (at_builtin; refine wpList_append_cells _ rfl _ _ rfl w.heap.size _ [] rfl HN2.out _ cs2 rfl HC2.out (by simp; omega) (by omega) ?_)
  intro v3 w3 hown3 hgrow3
  have HO3 : Hid (w3.ownsRow w.heap.size 35 2 v3 cs2.length (flat cs2)) := hown3
  have HS3 : Hid (St w3 B ao len cap b off) := HS2.out.row hgrow3 (fun g hg => by have := (HN2.out.lt g hg).1; omega) (fun hl g hg => by have := (HN2.out.lt g hg).1; have := hbd hl; omega)
  have HG3 : Hid (w.grownBy w3 (Option.some B)) := grown_row HG2.out (Below.refl _ _) hgrow3 (fun g hg => (HN2.out.lt g hg).1)
  have hs3 := HG3.out.size
  clear hown3 hgrow3 HS2 HN2 HG2 HC2 HS1
  by_cases h0 : x = 0
  · have q0 : (x == 0) = true := by simp [h0]
    clear h0
    go_wp2_with (at_builtin; refine wpList_append_cells _ rfl _ _ rfl w.heap.size _ cs2 rfl (World.ownsRow.alloc HO3.out _) _ [(⟨#[97]⟩, 0)] rfl (one_cell _ (⟨#[97]⟩, 0) _) (by simp; omega) (by simp; omega) ?_; intro v4 w4 hown4 hgrow4)
    have HO4 : Hid (w4.ownsRow w.heap.size 35 2 v4 _ (flat (cs2 ++ [(⟨#[97]⟩, 0)]))) := hown4
    have HS4 : Hid (St w4 B ao len cap b off) := (HS3.out.below ((Below.refl _ _).alloc (Nat.le_refl _) _)).row hgrow4 (fun g hg => by have := (HO3.out.lt g hg).1; omega) (fun hl g hg => by have := (HO3.out.lt g hg).1; have := hbd hl; omega)
    have HG4 : Hid (w.grownBy w4 (Option.some B)) := grown_row HG3.out ((Below.refl _ _).alloc (Nat.le_refl _) _) hgrow4 (fun g hg => (HO3.out.lt g hg).1)
    clear hown4 hgrow4
    go_ret
    exact ⟨v4, _, rfl, ⟨by simp; omega, (smallL_snoc ⟨hl2, HK2.out.2⟩ (by decide)).2⟩, HO4.out, HS4.out, HG4.out⟩
  · have q0 : (x == 0) = false := by simp [h0]
    by_cases h1 : x = 1
    · have q1 : (x == 1) = true := by simp [h1]
      clear h0 h1
      go_wp2_with (at_builtin; refine wpList_append_cells _ rfl _ _ rfl w.heap.size _ cs2 rfl (World.ownsRow.alloc HO3.out _) _ [(⟨#[122, 122, 122]⟩, -1)] rfl (one_cell _ (⟨#[122, 122, 122]⟩, -1) _) (by simp; omega) (by simp; omega) ?_; intro v4 w4 hown4 hgrow4)
      have HO4 : Hid (w4.ownsRow w.heap.size 35 2 v4 _ (flat (cs2 ++ [(⟨#[122, 122, 122]⟩, -1)]))) := hown4
      have HS4 : Hid (St w4 B ao len cap b off) := (HS3.out.below ((Below.refl _ _).alloc (Nat.le_refl _) _)).row hgrow4 (fun g hg => by have := (HO3.out.lt g hg).1; omega) (fun hl g hg => by have := (HO3.out.lt g hg).1; have := hbd hl; omega)
      have HG4 : Hid (w.grownBy w4 (Option.some B)) := grown_row HG3.out ((Below.refl _ _).alloc (Nat.le_refl _) _) hgrow4 (fun g hg => (HO3.out.lt g hg).1)
      clear hown4 hgrow4
      go_ret
      exact ⟨v4, _, rfl, ⟨by simp; omega, (smallL_snoc ⟨hl2, HK2.out.2⟩ (by decide)).2⟩, HO4.out, HS4.out, HG4.out⟩
    · have q1 : (x == 1) = false := by simp [h1]
      by_cases h2 : x = 2
      · have q2 : (x == 2) = true := by simp [h2]
        clear h0 h1 h2
        have hb3 : Below w3.heap.size w3 (w3.alloc (.cells #[] 35)) := (Below.refl _ _).alloc (Nat.le_refl _) _
        have HN3 : Hid ((w3.alloc (.cells #[] 35)).ownsRow w.heap.size 35 2 (.slice (some ⟨w3.heap.size, 0, none⟩) 0 0) ([] : CL).length (flat [])) := own_base (own_new w3 35 2) hs3
        have HS3' : Hid (St (w3.alloc (.cells #[] 35)) B ao len cap b off) := HS3.out.below hb3
        have HG3' : Hid (w.grownBy (w3.alloc (.cells #[] 35)) (Option.some B)) := grown_tr HG3.out (grown_none hb3)
        clear hb3
        go_wp2
        go_loopw [4, 5] (fun o i wr => ∃ cs : CL, cs.length ≤ 13 ∧ i = .int .i64 (cs.length : Int) ∧ Hid (∀ c ∈ cs, (c.1.size : Int) ≤ 1048576) ∧ Hid (wr.ownsRow w.heap.size 35 2 o cs.length (flat cs)) ∧ Hid (St wr B ao len cap b off) ∧ Hid (w.grownBy wr (Option.some B))) (fun _ i _ => 14 - (intOf i).toNat)
        case atStart => exact ⟨[], by simp, rfl, fun c hc => (by cases hc), HN3.out, HS3'.out, HG3'.out⟩
        case round =>
          obtain ⟨cs, hl, rfl, HL, HO, HS, HG⟩ := hrel
          have hsr := HG.out.size
          go_wp2_with fail
          refine (below_st 2 (by omega) (by omega) HS.out).mono ?_
          rintro e w4 ⟨y, rfl, hy0, hy1, hS4, hg4⟩
          have HS4 : Hid (St w4 B ao len cap b off) := hS4
          have HO4 : Hid (w4.ownsRow w.heap.size 35 2 u4 cs.length (flat cs)) := World.ownsRow.kept HO.out hg4 (own_far HO.out hBw)
          have HG4 : Hid (w.grownBy w4 (Option.some B)) := grown_tr HG.out hg4
          have hs4 := HG4.out.size
          clear hS4 hg4
          by_cases hlt : (cs.length : Int) < 12 + y
          · have hadd : (⟨#[98]⟩ : ByteArray).size + (strOfNums [97 + (cs.length : Int)]).size ≤ 9223372036854775807 := by rw [strOfNums_size]; show 1 + 1 ≤ _; omega
            have hks : (((⟨#[98]⟩ : ByteArray) ++ strOfNums [97 + (cs.length : Int)]).size : Int) ≤ 1048576 := by rw [ByteArray.size_append, strOfNums_size]; show ((1 + 1 : Nat) : Int) ≤ _; omega
            go_wp2_with (at_builtin; refine wpList_append_cells _ rfl _ _ rfl w.heap.size _ cs rfl (World.ownsRow.alloc (World.ownsRow.alloc HO4.out _) _) _ [((⟨#[98]⟩ : ByteArray) ++ strOfNums [97 + (cs.length : Int)], (0 : Int))] rfl (one_cell_at _ ((⟨#[98]⟩ : ByteArray) ++ strOfNums [97 + (cs.length : Int)], (0 : Int)) _ (by simp)) (by simp; omega) (by simp; omega) ?_; intro v5 w5 hown5 hgrow5)
            have HO5 : Hid (w5.ownsRow w.heap.size 35 2 v5 _ (flat (cs ++ [((⟨#[98]⟩ : ByteArray) ++ strOfNums [97 + (cs.length : Int)], (0 : Int))]))) := hown5
            have bb : ∀ o1 o2, Below w4.heap.size w4 ((w4.alloc o1).alloc o2) := fun o1 o2 => ba (ba (Below.refl _ _) _) _
            have HS5 : Hid (St w5 B ao len cap b off) := (HS4.out.below (bb _ _)).row hgrow5 (fun g hg => by have := (HO4.out.lt g hg).1; omega) (fun hl g hg => by have := (HO4.out.lt g hg).1; have := hbd hl; omega)
            have HG5 : Hid (w.grownBy w5 (Option.some B)) := grown_row HG4.out (bb _ _) hgrow5 (fun g hg => (HO4.out.lt g hg).1)
            clear hown5 hgrow5 bb
            go_roundw
            case rel => exact ⟨cs ++ [((⟨#[98]⟩ : ByteArray) ++ strOfNums [97 + (cs.length : Int)], (0 : Int))], by simp; omega, by simp, all_snoc HL.out hks, HO5.out, HS5.out, HG5.out⟩
            case measure => simp [intOf]; omega
          · go_wp2
            go_ret
            exact ⟨u4, cs, rfl, ⟨by omega, HL.out⟩, HO4.out, HS4.out, HG4.out⟩
      · have q2 : (x == 2) = false := by simp [h2]
        clear h0 h1 h2
        go_wp2
        go_ret
        exact ⟨v3, cs2, rfl, ⟨by omega, HK2.out.2⟩, HO3.out, HS3.out, HG3.out⟩

end Go.Proofs.Ytjdddcldbfhbiaa
