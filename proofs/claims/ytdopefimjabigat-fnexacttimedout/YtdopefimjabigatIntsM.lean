/-
  The contracts of the laws' own helpers over rows of numbers: held against each other, marked, looked at again.
-/
import Derived.Test.YtdopefimjabigatJ0
import Derived.BigQuiet
namespace Go.Proofs.Ytdopefimjabigat
open Go.RowKit Num

set_option maxRecDepth 100000 in
set_option maxHeartbeats 1000000 in
theorem eqInts_yes (l : List Int) (a b : Value) (w : World) (ha : RowsR w a 1 intF l) (hb : RowsR w b 1 intF l) (hl : (l.length : Int) ≤ 1048576) :
    Calls Try.prog 35 #[a, b] w fun e w' => e = .returned (.bool true) ∧ Below w.heap.size w w' := by
  obtain ⟨a, ca, rfl, hra⟩ := ha
  obtain ⟨b, cb, rfl, hrb⟩ := hb
  have HA : Hid (0 < l.length → _) := hra
  have HB : Hid (0 < l.length → _) := hrb
  clear hra hrb
  go_enter Try.func35, Try.ntmps35
  go_wp2
  go_loopw [5] (fun i wr => ∃ m : Nat, m ≤ l.length ∧ i = .int .i64 m ∧ Below w.heap.size w wr) (fun i _ => l.length - (intOf i).toNat)
  case atStart => exact ⟨0, Nat.zero_le _, rfl, Below.refl _ _⟩
  case round =>
    obtain ⟨m, hm, rfl, hbel⟩ := hrel
    by_cases hlt : (m : Int) < l.length
    · have q0 : (0 : Int) ≤ (m : Int) := by omega
      have hmn : m < l.length := by omega
      obtain ⟨ga, oa, rfl, hga, hca⟩ := HA.out (by omega)
      obtain ⟨gb, ob, rfl, hgb, hcb⟩ := HB.out (by omega)
      have hne := bw_some wr
      have c0 : ∀ x : Bw wr, x.to.cell? ⟨ga, oa + m, none⟩ = some (.int .i64 l[m]) := fun x => by rw [(bt hbel x.below).cell (by exact hga)]; have := hca m hmn 0 (by omega); simpa [intF] using this
      have d0 : ∀ x : Bw wr, x.to.cell? ⟨gb, ob + m, none⟩ = some (.int .i64 l[m]) := fun x => by rw [(bt hbel x.below).cell (by exact hgb)]; have := hcb m hmn 0 (by omega); simpa [intF] using this
      clear hca hcb
      go_wp2
      refine wp_region_bw (by kernel_rfl) (by kernel_rfl) ?_
      repeat (go_big_quiet_step (fail))
      refine wpQuiet_nil ?_
      intro _ hw'
      obtain ⟨x, rfl⟩ := hw'
      go_wp2
      go_roundw
      case rel => exact ⟨m + 1, by omega, by go_num, bt hbel x.below⟩
      case measure => simp [intOf]; omega
    · go_wp2
      go_ret
      exact ⟨rfl, hbel⟩

/-- the marks of n numbers, from k on -/
def imarks (k n : Nat) : List Int := (List.range n).map fun i => ((k + i : Nat) : Int)
theorem imarks_len (k n : Nat) : (imarks k n).length = n := by simp [imarks]
theorem imarks_at {k n i : Nat} (h : i < n) : (imarks k n)[i]? = some ((k : Int) + (i : Int)) := by
  unfold imarks; rw [List.getElem?_map, List.getElem?_range h]; simp
theorem upTo_imarks {k n m : Nat} {ys : List Value} (h : upToR intF 1 (imarks k n) ys m) (hm : m < n) : upToR intF 1 (imarks k n) (ys.set m (.int .i64 ((k : Int) + (m : Int)))) (m + 1) := by
  have hl := h.1
  rw [imarks_len] at hl
  refine upToR_step intF_len h (by rw [imarks_len]; exact hm) (by simp) (fun j hj => ?_) (fun j hj => ?_)
  · rw [List.getElem?_set_ne (by omega)]
  · have : j = 0 := by omega
    subst this
    have e := imarks_at (k := k) hm
    rw [List.getElem?_eq_getElem (by rw [imarks_len]; exact hm)] at e
    rw [Nat.mul_one, Nat.add_zero, List.getElem?_set_self (by omega), Option.some.inj e]; rfl

set_option maxRecDepth 100000 in
set_option maxHeartbeats 1000000 in
theorem markInts_any (n k : Nat) (v : Value) (base : Nat) (xs : List Value) (w : World) (h : w.ownsRow base 3 1 v n xs) (hk2 : k ≤ 20000000) (hn : n ≤ 1048576) :
    Calls Try.prog 40 #[v, .int .i64 k] w fun e w' => e = .returned (.int .i64 ((k + n : Nat) : Int)) ∧ w'.ownsRow base 3 1 v n (flatR intF (imarks k n)) ∧ w.grownBy w' v.ownBlock := by
  obtain ⟨a, cap, rfl, hg⟩ := own_form h
  have HG : Hid (0 < n → ∃ g, a = some ⟨g, 0, none⟩) := hg
  have HO : Hid (w.ownsRow base 3 1 (.slice a n cap) n xs) := h
  clear hg h
  go_enter Try.func40, Try.ntmps40
  go_wp2
  go_loopw [1, 5] (fun q i wr => ∃ (m : Nat) (ys : List Value), m ≤ n ∧ q = .int .i64 ((k + m : Nat) : Int) ∧ i = .int .i64 m ∧ Hid (upToR intF 1 (imarks k n) ys m) ∧ Hid (wr.ownsRow base 3 1 (.slice a n cap) n ys) ∧ Hid (w.grownBy wr (Value.slice a n cap).ownBlock)) (fun _ i _ => n - (intOf i).toNat)
  case atStart => exact ⟨0, xs, Nat.zero_le _, by simp, rfl, upToR_zero (by rw [imarks_len]; exact HO.out.1), HO.out, ⟨rfl, rfl, rfl, Nat.le_refl _, fun _ _ _ => rfl⟩⟩
  case round =>
    obtain ⟨m, ys, hm, rfl, rfl, HU, HOW, HGR⟩ := hrel
    by_cases hlt : (m : Int) < n
    · have q0 : (0 : Int) ≤ (m : Int) := by omega
      obtain ⟨g, rfl⟩ := HG.out (by omega)
      obtain ⟨x0, f0⟩ := own_cell HOW.out m (by omega)
      have hyl := HOW.out.1
      rw [List.getElem?_eq_getElem (by omega)] at x0
      have S0 := HOW.out.stored m (.int .i64 ((k : Int) + (m : Int)))
      have HS0 : Hid ((wr.setCell ⟨g, m, none⟩ (.int .i64 ((k : Int) + (m : Int)))).ownsRow base 3 1 (.slice (some ⟨g, 0, none⟩) n cap) n _ ∧ wr.grownBy (wr.setCell ⟨g, m, none⟩ (.int .i64 ((k : Int) + (m : Int)))) (some g)) := S0
      clear S0
      go_wp2
      go_roundw
      case rel => exact ⟨m + 1, _, by omega, by go_num, by go_num, upTo_imarks HU.out (by omega), HS0.out.1, grown_trans HGR.out HS0.out.2⟩
      case measure => simp [intOf]; omega
    · have hmn : m = n := by omega
      have HM : Hid (m = n) := hmn
      clear hmn
      go_wp2
      go_ret
      have hu := HU.out
      rw [HM.out] at hu
      have hx := upToR_all intF_len (by rw [imarks_len]; exact hu)
      refine ⟨ret_int (by rw [HM.out]), ?_, HGR.out⟩
      have := HOW.out
      rw [hx] at this
      exact this
set_option maxRecDepth 100000 in
set_option maxHeartbeats 1000000 in
theorem heldInts_any (n k : Nat) (v : Value) (w : World) (h : RowsR w v 1 intF (imarks k n)) (hk2 : k ≤ 20000000) (hn : n ≤ 1048576) :
    Calls Try.prog 45 #[v, .int .i64 k] w fun e w' => e = .returned (.int .i64 ((k + n : Nat) : Int)) ∧ Below w.heap.size w w' := by
  obtain ⟨a, cap, rfl, hr⟩ := h
  have hlen := imarks_len k n
  have hcell : 0 < n → ∃ g off, a = some ⟨g, off, none⟩ ∧ g < w.heap.size ∧ ∀ i, i < n → w.cell? ⟨g, off + i, none⟩ = some (.int .i64 ((k : Int) + (i : Int))) := fun h0 => by
    obtain ⟨g, off, he, hg, hc⟩ := hr (by rw [hlen]; exact h0)
    refine ⟨g, off, he, hg, fun i hi => ?_⟩
    have := hc i (by rw [hlen]; exact hi) 0 (by omega)
    have e := imarks_at (k := k) hi
    rw [List.getElem?_eq_getElem (by rw [imarks_len]; exact hi)] at e
    rw [Option.some.inj e] at this
    simpa [intF] using this
  have HR : Hid (0 < n → ∃ g off, a = some ⟨g, off, none⟩ ∧ g < w.heap.size ∧ ∀ i, i < n → w.cell? ⟨g, off + i, none⟩ = some (.int .i64 ((k : Int) + (i : Int)))) := hcell
  clear hcell hr
  rw [hlen]
  clear hlen
  go_enter Try.func45, Try.ntmps45
  go_wp2
  go_loopw [1, 5] (fun q i wr => ∃ m : Nat, m ≤ n ∧ q = .int .i64 ((k + m : Nat) : Int) ∧ i = .int .i64 m ∧ Below w.heap.size w wr) (fun _ i _ => n - (intOf i).toNat)
  case atStart => exact ⟨0, Nat.zero_le _, by simp, rfl, Below.refl _ _⟩
  case round =>
    obtain ⟨m, hm, rfl, rfl, hbel⟩ := hrel
    by_cases hlt : (m : Int) < n
    · have q0 : (0 : Int) ≤ (m : Int) := by omega
      obtain ⟨g, off, rfl, hg, hc⟩ := HR.out (by omega)
      have c0 : wr.cell? ⟨g, off + m, none⟩ = some (.int .i64 ((k : Int) + (m : Int))) := by rw [hbel.cell (by exact hg)]; exact hc m (by omega)
      clear hc
      go_wp2
      go_roundw
      case rel => exact ⟨m + 1, by omega, by go_num, by go_num, hbel⟩
      case measure => simp [intOf]; omega
    · have hmn : m = n := by omega
      have HM : Hid (m = n) := hmn
      clear hmn
      go_wp2
      go_ret
      exact ⟨ret_int (by rw [HM.out]), hbel⟩

end Go.Proofs.Ytdopefimjabigat
