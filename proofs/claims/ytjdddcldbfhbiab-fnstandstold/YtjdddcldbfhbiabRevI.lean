/-
  The library's slices.Reverse and slices.Equal over rows of numbers: their contracts.
-/
import Derived.Shelf.RegionOpenPlain
import Derived.WalkKit
import Derived.BigQuiet
import Derived.Test.YtjdddcldbfhbiabTreeN
import Derived.Test.YtjdddcldbfhbiabBlkX
namespace Go.Proofs.Ytjdddcldbfhbiab
open Go.RowKit Num Go.Shelf

/-- i places from both ends have been exchanged -/
def RevTo (xs ys : List Int) (i : Nat) : Prop := ys.length = xs.length ∧ ∀ p (h : p < xs.length) (h' : p < ys.length), ys[p] = if p < i ∨ xs.length ≤ p + i then xs[xs.length - 1 - p]'(by omega) else xs[p]
theorem revTo_zero (xs : List Int) : RevTo xs xs 0 := ⟨rfl, fun p h h' => by rw [if_neg (by omega)]⟩
theorem revTo_step {xs ys : List Int} {i j : Nat} (h : RevTo xs ys i) (hij : i < j) (hj : j + i + 1 = xs.length) (a b : Int) (ha : ∀ h' : i < ys.length, a = ys[i]) (hb : ∀ h' : j < ys.length, b = ys[j]) : RevTo xs ((ys.set i b).set j a) (i + 1) := by
  obtain ⟨hl, hp⟩ := h
  refine ⟨by simp [hl], fun p hp1 hp2 => ?_⟩
  have hys : p < ys.length := by omega
  rw [List.getElem_set, List.getElem_set]
  by_cases e1 : j = p
  · subst e1
    rw [if_pos rfl, if_pos (by omega), ha (by omega), hp i (by omega) (by omega), if_neg (by omega)]
    congr 1; omega
  · rw [if_neg e1]
    by_cases e2 : i = p
    · subst e2
      rw [if_pos rfl, if_pos (by omega), hb (by omega), hp j (by omega) (by omega), if_neg (by omega)]
      congr 1; omega
    · rw [if_neg e2, hp p hp1 hys]
      by_cases e3 : p < i ∨ xs.length ≤ p + i
      · rw [if_pos e3, if_pos (by omega)]
      · rw [if_neg e3, if_neg (by omega)]
theorem revTo_all {xs ys : List Int} {i : Nat} (h : RevTo xs ys i) (hi : xs.length ≤ 2 * i + 1) : ys = xs.reverse := by
  obtain ⟨hl, hp⟩ := h
  refine List.ext_getElem (by simp [hl]) fun p h1 h2 => ?_
  rw [List.getElem_reverse, hp p (by omega) h1]
  by_cases e : p < i ∨ xs.length ≤ p + i
  · rw [if_pos e]
  · rw [if_neg e]; congr 1; omega

theorem flatI_set (ys : List Int) (i : Nat) (x : Int) : flatR intF (ys.set i x) = (flatR intF ys).set i (.int .i64 x) := by rw [flat_int, flat_int, List.map_set]
theorem flatI_at {ys : List Int} {i : Nat} (h : i < ys.length) : (flatR intF ys)[i]? = some (.int .i64 ys[i]) := by rw [flat_int, List.getElem?_map, List.getElem?_eq_getElem h]; rfl

set_option maxRecDepth 100000 in
set_option maxHeartbeats 2000000 in
theorem reverse_i (xs : List Int) (v : Value) (base : Nat) (w : World) (h : w.ownsRow base 3 1 v xs.length (flatR intF xs)) (hl : (xs.length : Int) ≤ 1048576) :
    Calls Try.prog 58 #[v] w fun e w' => e = .returned (.tuple #[]) ∧ w'.ownsRow base 3 1 v xs.length (flatR intF xs.reverse) ∧ w.grownBy w' v.ownBlock := by
  obtain ⟨a, cap, rfl, hg⟩ := own_form h
  have HG : Hid (0 < xs.length → ∃ g, a = some ⟨g, 0, none⟩) := hg
  have HO : Hid (w.ownsRow base 3 1 (.slice a xs.length cap) xs.length (flatR intF xs)) := h
  clear hg h
  go_enter Try.func58, Try.ntmps58
  go_wp2
  go_loopw [2, 3] (fun p q wr => ∃ (i : Nat) (ys : List Int), i ≤ xs.length ∧ p = .int .i64 (i : Int) ∧ q = .int .i64 ((xs.length : Int) - 1 - (i : Int)) ∧ Hid (RevTo xs ys i) ∧ Hid (wr.ownsRow base 3 1 (.slice a xs.length cap) xs.length (flatR intF ys)) ∧ Hid (w.grownBy wr (Value.slice a xs.length cap).ownBlock)) (fun p _ _ => xs.length - (intOf p).toNat)
  case atStart => exact ⟨0, xs, Nat.zero_le _, rfl, by simp, revTo_zero xs, HO.out, ⟨rfl, rfl, rfl, Nat.le_refl _, fun _ _ _ => rfl⟩⟩
  case round =>
    obtain ⟨i, ys, hi, rfl, rfl, HR, HOW, HGR⟩ := hrel
    by_cases hlt : (i : Int) < (xs.length : Int) - 1 - (i : Int)
    · obtain ⟨j, hj⟩ : ∃ j : Nat, (xs.length : Int) - 1 - (i : Int) = (j : Int) := ⟨xs.length - 1 - i, by omega⟩
      rw [hj] at hlt ⊢
      have hyl : ys.length = xs.length := HR.out.1
      have HJ : Hid (j + i + 1 = xs.length) := (by omega : j + i + 1 = xs.length)
      obtain ⟨g, rfl⟩ := HG.out (by omega)
      have q0 : (0 : Int) ≤ (i : Int) := by omega
      have q1 : (i : Int) < xs.length := by omega
      have q2 : (0 : Int) ≤ (j : Int) := by omega
      have q3 : (j : Int) < xs.length := by omega
      have hiy : i < ys.length := by omega
      have hjy : j < ys.length := by omega
      obtain ⟨c0, f0⟩ := own_cell HOW.out i (by omega)
      obtain ⟨c1, f1⟩ := own_cell HOW.out j (by omega)
      rw [flatI_at hiy] at c0
      rw [flatI_at hjy] at c1
      have hne : i ≠ j := by omega
      clear hj hyl
      have hmx : Try.prog.follows .mixedOrders = true := by kernel_rfl
      go_wp2_with fail
      go_region_o
      go_wp2
      go_roundw
      case rel =>
        have s0 := HOW.out.stored i (.int .i64 ys[j])
        have s1 := s0.1.stored j (.int .i64 ys[i])
        have hj := HJ.out
        refine ⟨i + 1, (ys.set i ys[j]).set j ys[i], by omega, by go_num, ?_, revTo_step HR.out (by omega) HJ.out _ _ (fun _ => rfl) (fun _ => rfl), ?_, ?_⟩
        · congr 1; omega
        · rw [flatI_set, flatI_set]; exact s1.1
        · have g1 := grown_trans HGR.out (grown_trans s0.2 s1.2)
          exact ⟨g1.os, g1.tape, g1.output, g1.size, g1.block⟩
      case measure => simp [intOf]; omega
    · go_wp2
      go_end0
      have h1 := revTo_all HR.out (by omega)
      exact ⟨rfl, by rw [← h1]; exact HOW.out, HGR.out⟩

/-- as far as place k both are the same -/
def sameAs (l l' : List Int) (k : Nat) : Prop := ∀ j (h : j < l.length) (h' : j < l'.length), j < k → l[j] = l'[j]
theorem sameAs_all {l l' : List Int} (hl : l.length = l'.length) (h : sameAs l l' l.length) : l = l' := List.ext_getElem hl fun j h1 h2 => h j h1 h2 h1

theorem beginB_take : ∀ (l l' : List Int) (m : Nat), m = min l.length l'.length → beginB l l' = decide (l.take m = l'.take m)
  | [], l', m, h => by
    obtain rfl : m = 0 := by simpa using h
    simp [beginB]
  | x :: xs, [], m, h => by
    obtain rfl : m = 0 := by simpa using h
    simp [beginB]
  | x :: xs, y :: ys, m, h => by
    obtain ⟨k, rfl⟩ : ∃ k, m = k + 1 := ⟨m - 1, by simp at h; omega⟩
    have ih := beginB_take xs ys k (by simp at h; omega)
    unfold beginB at ih ⊢
    rw [List.zip_cons_cons, List.all_cons, ih, List.take_succ_cons, List.take_succ_cons]
    by_cases e : x = y
    · subst e; simp
    · simp [e]

set_option maxRecDepth 100000 in
set_option maxHeartbeats 2000000 in
theorem equalN_i (l l' : List Int) (ca cb : Value) (w : World) (ha : RowsR w ca 1 intF l) (hb : RowsR w cb 1 intF l') (hla : (l.length : Int) ≤ 1048576) (hlb : (l'.length : Int) ≤ 1048576) :
    Calls Try.prog 62 #[ca, cb] w fun e w' => e = .returned (.bool (decide (l = l'))) ∧ Below w.heap.size w w' := by
  obtain ⟨aa, na, rfl, hra⟩ := ha
  obtain ⟨ab, nb, rfl, hrb⟩ := hb
  have HA : Hid (0 < l.length → _) := hra
  have HB : Hid (0 < l'.length → _) := hrb
  clear hra hrb
  by_cases h4 : l.length = l'.length
  · have h4' : ((l.length : Int) != (l'.length : Int)) = false := by simp [h4]
    have HE : Hid (l.length = l'.length) := h4
    clear h4
    go_enter Try.func62, Try.ntmps62
    go_wp2
    clear h4'
    go_loopw [13] (fun i wr => ∃ k : Nat, k ≤ l.length ∧ i = .int .i64 (k : Int) ∧ Hid (sameAs l l' k) ∧ Below w.heap.size w wr) (fun i _ => l.length - (intOf i).toNat)
    case atStart => exact ⟨0, Nat.zero_le _, rfl, fun j _ _ h => by omega, Below.refl _ _⟩
    case round =>
      obtain ⟨k, hk, rfl, HS, hbel⟩ := hrel
      by_cases hlt : (k : Int) < l.length
      · have hkn : k < l.length := by omega
        have hkb : k < l'.length := by rw [← HE.out]; exact hkn
        have q0 : (0 : Int) ≤ (k : Int) := by omega
        have q1 : (k : Int) < l'.length := by omega
        obtain ⟨ga, oa, rfl, hga, hca⟩ := HA.out (by omega)
        obtain ⟨gb, ob, rfl, hgb, hcb⟩ := HB.out (by omega)
        have hne := bw_some wr
        have c0 : ∀ x : Bw wr, x.to.cell? ⟨ga, oa + k, none⟩ = some (.int .i64 l[k]) := fun x => by rw [(bt hbel x.below).cell (by exact hga)]; have := hca k hkn 0 (by omega); rw [Nat.mul_one, Nat.add_zero] at this; exact this
        have c1 : ∀ x : Bw wr, x.to.cell? ⟨gb, ob + k, none⟩ = some (.int .i64 l'[k]) := fun x => by rw [(bt hbel x.below).cell (by exact hgb)]; have := hcb k hkb 0 (by omega); rw [Nat.mul_one, Nat.add_zero] at this; exact this
        clear hca hcb
        by_cases he : l[k] = l'[k]
        · have HT : Hid (sameAs l l' (k + 1)) := fun j hj hj' hjk => by
            by_cases e : j = k
            · subst e; exact he
            · exact HS.out j hj hj' (by omega)
          have d0 : (l[k] != l'[k]) = false := by simp [he]
          clear he
          go_wp2
          refine wp_region_bw (by kernel_rfl) (by kernel_rfl) ?_
          repeat (go_big_quiet_step (fail))
          refine wpQuiet_nil ?_
          intro _ hw'
          obtain ⟨x, rfl⟩ := hw'
          go_wp2
          go_roundw
          case rel => exact ⟨k + 1, by omega, by go_num, HT, bt hbel x.below⟩
          case measure => simp [intOf]; omega
        · have HT : Hid (decide (l = l') = false) := (decide_eq_false fun e => he (by simp only [e]) : decide (l = l') = false)
          have d0 : (l[k] != l'[k]) = true := by simpa using he
          clear he
          go_wp2
          refine wp_region_bw (by kernel_rfl) (by kernel_rfl) ?_
          repeat (go_big_quiet_step (fail))
          refine wpQuiet_nil ?_
          intro _ hw'
          obtain ⟨x, rfl⟩ := hw'
          go_wp2
          go_ret
          exact ⟨ret_bool HT.out.symm, bt hbel x.below⟩
      · have hkl : k = l.length := by omega
        have HT : Hid (decide (l = l') = true) := (decide_eq_true (sameAs_all HE.out (by have := HS.out; rw [hkl] at this; exact this)) : decide (l = l') = true)
        clear hkl
        go_wp2
        go_ret
        exact ⟨ret_bool HT.out.symm, hbel⟩
  · have h4' : ((l.length : Int) != (l'.length : Int)) = true := by simpa using fun e : (l.length : Int) = l'.length => h4 (by omega)
    have HT : Hid (decide (l = l') = false) := (decide_eq_false fun e => h4 (by rw [e]) : decide (l = l') = false)
    clear h4
    go_enter Try.func62, Try.ntmps62
    go_wp2
    go_ret
    exact ⟨ret_bool HT.out.symm, Below.refl _ _⟩

set_option maxRecDepth 100000 in
set_option maxHeartbeats 2000000 in
theorem begin_i (l l' : List Int) (va vb : Value) (w : World) (ha : RowsR w va 1 intF l) (hb : RowsR w vb 1 intF l') (hka : capOk va) (hkb : capOk vb) (hla : (l.length : Int) ≤ 1048576) (hlb : (l'.length : Int) ≤ 1048576) :
    Calls Try.prog 25 #[va, vb] w fun e w' => e = .returned (.bool (beginB l l')) ∧ Below w.heap.size w w' := by
  obtain ⟨aa, na, rfl⟩ := rows_form ha
  obtain ⟨ab, nb, rfl⟩ := rows_form hb
  have k1 := hka _ _ _ rfl
  have k2 := hkb _ _ _ rfl
  have HA : Hid (RowsR w (.slice aa l.length na) 1 intF l) := ha
  have HB : Hid (RowsR w (.slice ab l'.length nb) 1 intF l') := hb
  clear ha hb hka hkb
  have hne := bw_some w
  by_cases h : l'.length < l.length
  · have HE : Hid (beginB l l' = decide (l.take l'.length = l')) := (by rw [beginB_take l l' l'.length (by omega), List.take_length] : beginB l l' = decide (l.take l'.length = l'))
    have q1 : (l'.length : Int) ≤ (na : Int) := by omega
    have q2 : (l'.length : Int) ≤ (nb : Int) := by omega
    have htl : (l.take l'.length).length = l'.length := by rw [List.length_take]; omega
    have HQ : Hid (∀ x : Bw w, Calls Try.prog 62 #[.slice aa l'.length na, .slice ab l'.length nb] x.to fun e w' => e = .returned (.bool (decide (l.take l'.length = l'))) ∧ Below x.to.heap.size x.to w') := fun x => equalN_i _ _ _ _ _ ((HA.out.take l'.length (by omega) na).below x.below) (HB.out.below x.below) (by rw [htl]; exact hlb) hlb
    clear htl
    go_enter Try.func25, Try.ntmps25
    go_wp2
    refine wp_region_bw (by kernel_rfl) (by kernel_rfl) ?_
    repeat (go_big_quiet_step (first | (go_at_call 62; with_reducible refine calls_bw (HQ.out _))))
    refine wpQuiet_nil ?_
    intro _ hw'
    obtain ⟨x, rfl⟩ := hw'
    go_wp2
    go_ret
    exact ⟨ret_bool HE.out.symm, x.below⟩
  · have HE : Hid (beginB l l' = decide (l = l'.take l.length)) := (by rw [beginB_take l l' l.length (by omega), List.take_length] : beginB l l' = decide (l = l'.take l.length))
    have q1 : (l.length : Int) ≤ (na : Int) := by omega
    have q2 : (l.length : Int) ≤ (nb : Int) := by omega
    have htl : (l'.take l.length).length = l.length := by rw [List.length_take]; omega
    have HQ : Hid (∀ x : Bw w, Calls Try.prog 62 #[.slice aa l.length na, .slice ab l.length nb] x.to fun e w' => e = .returned (.bool (decide (l = l'.take l.length))) ∧ Below x.to.heap.size x.to w') := fun x => equalN_i _ _ _ _ _ (HA.out.below x.below) ((HB.out.take l.length (by omega) nb).below x.below) hla (by rw [htl]; exact hla)
    clear htl
    go_enter Try.func25, Try.ntmps25
    go_wp2
    refine wp_region_bw (by kernel_rfl) (by kernel_rfl) ?_
    repeat (go_big_quiet_step (first | (go_at_call 62; with_reducible refine calls_bw (HQ.out _))))
    refine wpQuiet_nil ?_
    intro _ hw'
    obtain ⟨x, rfl⟩ := hw'
    go_wp2
    go_ret
    exact ⟨ret_bool HE.out.symm, x.below⟩

end Go.Proofs.Ytjdddcldbfhbiab
