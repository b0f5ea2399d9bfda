/-
  The library's slices.Reverse and slices.Equal over rows of numbers: their contracts.
-/
import Derived.Shelf.RegionOpenPlain
import Derived.WalkKit
import Derived.BigQuiet
import Derived.Test.YtnghhfgbobpnkarGreatRJ2
namespace Go.Proofs.YtnghhfgbobpnkarGreatR
open Go.RowKit Num Go.Shelf

/-- i places from both ends have been exchanged -/
def RevTo (xs ys : List Int) (i : Nat) : Prop := ys.length = xs.length ∧ ∀ p (h : p < xs.length) (h' : p < ys.length), ys[p] = if p < i ∨ xs.length ≤ p + i then xs[xs.length - 1 - p]'(by omega) else xs[p]
theorem revTo_zero (xs : List Int) : RevTo xs xs 0 := ⟨rfl, fun p h h' => by rw [if_neg (by omega)]⟩
theorem revTo_step {xs ys : List Int} {i j : Nat} (h : RevTo xs ys i) (hij : i < j) (hj : j + i + 1 = xs.length) (a b : Int) (ha : ∀ h' : i < ys.length, a = ys[i]) (hb : ∀ h' : j < ys.length, b = ys[j]) : RevTo xs ((ys.set i b).set j a) (i + 1) := by
  obtain ⟨hl, hp⟩ := h
  refine ⟨by simp [hl], fun p hp1 hp2 => ?_⟩
  have hys : p < ys.length := by omega
  rw [List.getElem_set, List.getElem_set]
  by_cases e1 : j = p
  · subst e1
    rw [if_pos rfl, if_pos (by omega), ha (by omega), hp i (by omega) (by omega), if_neg (by omega)]
    congr 1; omega
  · rw [if_neg e1]
    by_cases e2 : i = p
    · subst e2
      rw [if_pos rfl, if_pos (by omega), hb (by omega), hp j (by omega) (by omega), if_neg (by omega)]
      congr 1; omega
    · rw [if_neg e2, hp p hp1 hys]
      by_cases e3 : p < i ∨ xs.length ≤ p + i
      · rw [if_pos e3, if_pos (by omega)]
      · rw [if_neg e3, if_neg (by omega)]
theorem revTo_all {xs ys : List Int} {i : Nat} (h : RevTo xs ys i) (hi : xs.length ≤ 2 * i + 1) : ys = xs.reverse := by
  obtain ⟨hl, hp⟩ := h
  refine List.ext_getElem (by simp [hl]) fun p h1 h2 => ?_
  rw [List.getElem_reverse, hp p (by omega) h1]
  by_cases e : p < i ∨ xs.length ≤ p + i
  · rw [if_pos e]
  · rw [if_neg e]; congr 1; omega

theorem flatI_set (ys : List Int) (i : Nat) (x : Int) : flatR intF (ys.set i x) = (flatR intF ys).set i (.int .i64 x) := by rw [flat_int, flat_int, List.map_set]
theorem flatI_at {ys : List Int} {i : Nat} (h : i < ys.length) : (flatR intF ys)[i]? = some (.int .i64 ys[i]) := by rw [flat_int, List.getElem?_map, List.getElem?_eq_getElem h]; rfl

set_option maxRecDepth 100000 in
set_option maxHeartbeats 2000000 in
theorem reverse_i (xs : List Int) (v : Value) (base : Nat) (w : World) (h : w.ownsRow base 3 1 v xs.length (flatR intF xs)) (hl : (xs.length : Int) ≤ 1048576) :
    Calls Tryz.prog 93 #[v] w fun e w' => e = .returned (.tuple #[]) ∧ w'.ownsRow base 3 1 v xs.length (flatR intF xs.reverse) ∧ w.grownBy w' v.ownBlock := by
  obtain ⟨a, cap, rfl, hg⟩ := own_form h
  have HG : Hid (0 < xs.length → ∃ g, a = some ⟨g, 0, none⟩) := hg
  have HO : Hid (w.ownsRow base 3 1 (.slice a xs.length cap) xs.length (flatR intF xs)) := h
  clear hg h
  go_enter Tryz.func93, Tryz.ntmps93
  go_wp2
  go_loopw [2, 3] (fun p q wr => ∃ (i : Nat) (ys : List Int), i ≤ xs.length ∧ p = .int .i64 (i : Int) ∧ q = .int .i64 ((xs.length : Int) - 1 - (i : Int)) ∧ Hid (RevTo xs ys i) ∧ Hid (wr.ownsRow base 3 1 (.slice a xs.length cap) xs.length (flatR intF ys)) ∧ Hid (w.grownBy wr (Value.slice a xs.length cap).ownBlock)) (fun p _ _ => xs.length - (intOf p).toNat)
  case atStart => exact ⟨0, xs, Nat.zero_le _, rfl, by simp, revTo_zero xs, HO.out, ⟨rfl, rfl, rfl, Nat.le_refl _, fun _ _ _ => rfl⟩⟩
  case round =>
    obtain ⟨i, ys, hi, rfl, rfl, HR, HOW, HGR⟩ := hrel
    by_cases hlt : (i : Int) < (xs.length : Int) - 1 - (i : Int)
    · obtain ⟨j, hj⟩ : ∃ j : Nat, (xs.length : Int) - 1 - (i : Int) = (j : Int) := ⟨xs.length - 1 - i, by omega⟩
      rw [hj] at hlt ⊢
      have hyl : ys.length = xs.length := HR.out.1
      have HJ : Hid (j + i + 1 = xs.length) := (by omega : j + i + 1 = xs.length)
      obtain ⟨g, rfl⟩ := HG.out (by omega)
      have q0 : (0 : Int) ≤ (i : Int) := by omega
      have q1 : (i : Int) < xs.length := by omega
      have q2 : (0 : Int) ≤ (j : Int) := by omega
      have q3 : (j : Int) < xs.length := by omega
      have hiy : i < ys.length := by omega
      have hjy : j < ys.length := by omega
      obtain ⟨c0, f0⟩ := own_cell HOW.out i (by omega)
      obtain ⟨c1, f1⟩ := own_cell HOW.out j (by omega)
      rw [flatI_at hiy] at c0
      rw [flatI_at hjy] at c1
      have hne : i ≠ j := by omega
      clear hj hyl
      have hmx : Tryz.prog.follows .mixedOrders = true := by kernel_rfl
      go_wp2_with fail
      go_region_o
      go_wp2
      go_roundw
      case rel =>
        have s0 := HOW.out.stored i (.int .i64 ys[j])
        have s1 := s0.1.stored j (.int .i64 ys[i])
        have hj := HJ.out
        refine ⟨i + 1, (ys.set i ys[j]).set j ys[i], by omega, by go_num, ?_, revTo_step HR.out (by omega) HJ.out _ _ (fun _ => rfl) (fun _ => rfl), ?_, ?_⟩
        · congr 1; omega
        · rw [flatI_set, flatI_set]; exact s1.1
        · have g1 := grown_trans HGR.out (grown_trans s0.2 s1.2)
          exact ⟨g1.os, g1.tape, g1.output, g1.size, g1.block⟩
      case measure => simp [intOf]; omega
    · go_wp2
      go_end0
      have h1 := revTo_all HR.out (by omega)
      exact ⟨rfl, by rw [← h1]; exact HOW.out, HGR.out⟩

/-- as far as place k both are the same -/
def sameAs (l l' : List Int) (k : Nat) : Prop := ∀ j (h : j < l.length) (h' : j < l'.length), j < k → l[j] = l'[j]
theorem sameAs_all {l l' : List Int} (hl : l.length = l'.length) (h : sameAs l l' l.length) : l = l' := List.ext_getElem hl fun j h1 h2 => h j h1 h2 h1

theorem beginB_take : ∀ (l l' : List Int) (m : Nat), m = min l.length l'.length → beginB l l' = decide (l.take m = l'.take m)
  | [], l', m, h => by
    obtain rfl : m = 0 := by simpa using h
    simp [beginB]
  | x :: xs, [], m, h => by
    obtain rfl : m = 0 := by simpa using h
    simp [beginB]
  | x :: xs, y :: ys, m, h => by
    obtain ⟨k, rfl⟩ : ∃ k, m = k + 1 := ⟨m - 1, by simp at h; omega⟩
    have ih := beginB_take xs ys k (by simp at h; omega)
    unfold beginB at ih ⊢
    rw [List.zip_cons_cons, List.all_cons, ih, List.take_succ_cons, List.take_succ_cons]
    by_cases e : x = y
    · subst e; simp
    · simp [e]


end Go.Proofs.YtnghhfgbobpnkarGreatR
