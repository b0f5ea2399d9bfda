/-
  Votes in memory: four cells a vote; the contract of the specification's SignersOf.
-/
import Derived.Test.YtfnneillakdopabNumV
import Derived.Test.YtfnneillakdopabRowX
namespace Go.Proofs.Ytfnneillakdopab
open Go.RowKit Num

/-- a vote, four cells -/
def voteF (v : VT) : List Value := [.int .i64 v.1, .int .i64 v.2.1, .int .i64 v.2.2.1, .int .i64 v.2.2.2]
theorem voteF_len (v : VT) : (voteF v).length = 4 := rfl
/-- .. as a value -/
def voteV (v : VT) : Value := .agg #[.int .i64 v.1, .int .i64 v.2.1, .int .i64 v.2.2.1, .int .i64 v.2.2.2]
theorem voteF_one (v : VT) : ∀ u ∈ voteF v, u.oneCell' = true := by
  intro u hu; unfold voteF at hu; simp at hu; rcases hu with h | h | h | h <;> subst h <;> rfl

/-- one vote is such a one -/
def saidAt (x : VT) (p v b by' : Int) : Bool := decide (x.2.2.2 = by') && (decide (x.1 = p) && (decide (x.2.1 = v) && decide (x.2.2.1 = b)))
/-- none of the first m is such a one -/
def noneTo (l : List VT) (p v b by' : Int) (m : Nat) : Prop := ∀ j (h : j < l.length), j < m → saidAt l[j] p v b by' = false
theorem said_yes {l : List VT} {p v b by' : Int} {m : Nat} (h : m < l.length) (hs : saidAt l[m] p v b by' = true) : saidV l p v b by' = true := List.any_eq_true.2 ⟨l[m], List.getElem_mem h, hs⟩
theorem said_no {l : List VT} {p v b by' : Int} (h : noneTo l p v b by' l.length) : saidV l p v b by' = false := by
  refine List.any_eq_false.2 fun x hx => ?_
  obtain ⟨j, hj, rfl⟩ := List.mem_iff_getElem.1 hx
  have := h j hj hj
  unfold saidAt at this
  rw [this]; simp
theorem noneTo_next {l : List VT} {p v b by' : Int} {m : Nat} (h : noneTo l p v b by' m) (hm : ∀ hm : m < l.length, saidAt l[m] p v b by' = false) : noneTo l p v b by' (m + 1) := fun j hj hjm => by
  by_cases e : j = m
  · subst e; exact hm hj
  · exact h j hj (by omega)
theorem sigTo_yes {l : List VT} {p v b : Int} {k : Nat} (h : saidV l p v b (k : Int) = true) : sigTo l p v b (k + 1) = sigTo l p v b k + 2 ^ k := by show _ + (if _ then _ else _) = _; rw [if_pos h]
theorem sigTo_no {l : List VT} {p v b : Int} {k : Nat} (h : saidV l p v b (k : Int) = false) : sigTo l p v b (k + 1) = sigTo l p v b k := by show _ + (if _ then _ else _) = _; rw [if_neg (by rw [h]; decide)]; omega

theorem pow_seven {k : Nat} (h : k < 7) : (0 : Int) < 2 ^ k ∧ (2 : Int) ^ k ≤ 64 := by
  match k, h with
  | 0, _ => decide
  | 1, _ => decide
  | 2, _ => decide
  | 3, _ => decide
  | 4, _ => decide
  | 5, _ => decide
  | 6, _ => decide

set_option maxRecDepth 100000 in
set_option maxHeartbeats 4000000 in
theorem signers_s (l : List VT) (va : Value) (p v b : Int) (w : World) (ha : RowsR w va 4 voteF l) (hl : (l.length : Int) ≤ 1048576) :
    Calls Try.prog 52 #[va, .int .i64 p, .int .i64 v, .int .i64 b] w fun e w' => e = .returned (.int .i64 (signersT l p v b)) ∧ Below w.heap.size w w' := by
  obtain ⟨a, cap, rfl, hr⟩ := ha
  have HR : Hid (0 < l.length → _) := hr
  clear hr
  go_enter Try.func52, Try.ntmps52
  go_wp2
  go_loopw [9, 10] (fun n y wr => ∃ k : Nat, k ≤ 7 ∧ n = .int .i64 (sigTo l p v b k) ∧ y = .int .i64 (k : Int) ∧ Below w.heap.size w wr) (fun _ y _ => 7 - (intOf y).toNat)
  case atStart => exact ⟨0, by omega, rfl, rfl, Below.refl _ _⟩
  case round =>
    obtain ⟨k, hk, rfl, rfl, hbel⟩ := hrel
    obtain ⟨s0, s1⟩ := sigTo_bounds l p v b k
    have hpw : k < 7 → (0 : Int) < 2 ^ k ∧ (2 : Int) ^ k ≤ 64 := pow_seven
    obtain ⟨s, hs⟩ : ∃ s, s = sigTo l p v b k := ⟨_, rfl⟩
    have HS : Hid (sigTo l p v b k = s) := hs.symm
    rw [← hs] at s0 s1 ⊢
    clear hs
    by_cases hlt : (k : Int) < 7
    · obtain ⟨w0, w1⟩ := hpw (by omega)
      clear hpw
      go_wp2
      go_loopw [9, 11] (fun n i wq => ∃ m : Nat, m ≤ l.length ∧ n = .int .i64 s ∧ i = .int .i64 (m : Int) ∧ Hid (noneTo l p v b (k : Int) m) ∧ Below w.heap.size w wq) (fun _ i _ => l.length - (intOf i).toNat)
      case atStart => exact ⟨0, Nat.zero_le _, rfl, rfl, fun j _ h => by omega, hbel⟩
      case round =>
        obtain ⟨m, hm, rfl, rfl, HN, hbm⟩ := hrel
        clear hbel
        have HBM : Hid (Below w.heap.size w wr) := hbm
        by_cases hml : (m : Int) < l.length
        · have hmn : m < l.length := by omega
          obtain ⟨g, off, rfl, hg, hc⟩ := HR.out (by omega)
          have q0 : (0 : Int) ≤ (m : Int) := by omega
          obtain ⟨x, hx⟩ : ∃ x, x = l[m] := ⟨_, rfl⟩
          have HX : Hid (x = l[m]) := hx
          obtain ⟨x0, x1, x2, x3⟩ := x
          have c0 : wr.cell? ⟨g, off + m * 4, none⟩ = some (.int .i64 x0) := by rw [hbm.cell (by exact hg)]; have := hc m hmn 0 (by omega); rw [← hx] at this; exact this
          have c1 : wr.cell? ⟨g, off + m * 4 + 1, none⟩ = some (.int .i64 x1) := by rw [hbm.cell (by exact hg)]; have := hc m hmn 1 (by omega); rw [← hx] at this; exact this
          have c2 : wr.cell? ⟨g, off + m * 4 + 2, none⟩ = some (.int .i64 x2) := by rw [hbm.cell (by exact hg)]; have := hc m hmn 2 (by omega); rw [← hx] at this; exact this
          have c3 : wr.cell? ⟨g, off + m * 4 + 3, none⟩ = some (.int .i64 x3) := by rw [hbm.cell (by exact hg)]; have := hc m hmn 3 (by omega); rw [← hx] at this; exact this
          have HB2 : Hid (Below w.heap.size w (wr.alloc (.cells #[.int .i64 x0, .int .i64 x1, .int .i64 x2, .int .i64 x3] 54))) := ba hbm _
          clear hc hx hbm
          by_cases h3 : x3 = (k : Int)
          · have d3 : (x3 == (k : Int)) = true := by simpa using h3
            by_cases h0 : x0 = p
            · have d0 : (x0 == p) = true := by simpa using h0
              by_cases h1 : x1 = v
              · have d1 : (x1 == v) = true := by simpa using h1
                by_cases h2 : x2 = b
                · have d2 : (x2 == b) = true := by simpa using h2
                  have HT : Hid (sigTo l p v b (k + 1) = s + 2 ^ k) := (by rw [sigTo_yes (said_yes hmn (by rw [← HX.out]; unfold saidAt; simp [h0, h1, h2, h3])), HS.out] : sigTo l p v b (k + 1) = s + 2 ^ k)
                  clear h0 h1 h2 h3
                  go_wp2
                  go_roundw
                  case rel => exact ⟨k + 1, by omega, by rw [HT.out], by simp, HB2.out⟩
                  case measure => simp [intOf]; omega
                · have d2 : (x2 == b) = false := by simpa using h2
                  have HN2 : Hid (noneTo l p v b (k : Int) (m + 1)) := noneTo_next HN.out fun _ => by rw [← HX.out]; unfold saidAt; simp [h2]
                  clear h3 h0 h1 h2
                  go_wp2
                  go_roundw
                  case rel => exact ⟨m + 1, by omega, rfl, by go_num, HN2, HB2.out⟩
                  case measure => simp [intOf]; omega
              · have d1 : (x1 == v) = false := by simpa using h1
                have HN2 : Hid (noneTo l p v b (k : Int) (m + 1)) := noneTo_next HN.out fun _ => by rw [← HX.out]; unfold saidAt; simp [h1]
                clear h3 h0 h1
                go_wp2
                go_roundw
                case rel => exact ⟨m + 1, by omega, rfl, by go_num, HN2, HB2.out⟩
                case measure => simp [intOf]; omega
            · have d0 : (x0 == p) = false := by simpa using h0
              have HN2 : Hid (noneTo l p v b (k : Int) (m + 1)) := noneTo_next HN.out fun _ => by rw [← HX.out]; unfold saidAt; simp [h0]
              clear h3 h0
              go_wp2
              go_roundw
              case rel => exact ⟨m + 1, by omega, rfl, by go_num, HN2, HB2.out⟩
              case measure => simp [intOf]; omega
          · have d3 : (x3 == (k : Int)) = false := by simpa using h3
            have HN2 : Hid (noneTo l p v b (k : Int) (m + 1)) := noneTo_next HN.out fun _ => by rw [← HX.out]; unfold saidAt; simp [h3]
            clear h3
            go_wp2
            go_roundw
            case rel => exact ⟨m + 1, by omega, rfl, by go_num, HN2, HB2.out⟩
            case measure => simp [intOf]; omega
        · have hml2 : m = l.length := by omega
          have HT : Hid (sigTo l p v b (k + 1) = s) := (by rw [sigTo_no (said_no (by rw [← hml2]; exact HN.out)), HS.out] : sigTo l p v b (k + 1) = s)
          clear hml2
          go_wp2
          go_roundw
          case rel => exact ⟨k + 1, by omega, by rw [HT.out], by go_num, HBM.out⟩
          case measure => simp [intOf]; omega
    · have hk7 : k = 7 := by omega
      have HT : Hid (signersT l p v b = s) := (by rw [hk7] at HS; exact HS.out : signersT l p v b = s)
      clear hk7
      go_wp2
      go_ret
      exact ⟨ret_int HT.out.symm, hbel⟩

end Go.Proofs.Ytfnneillakdopab
