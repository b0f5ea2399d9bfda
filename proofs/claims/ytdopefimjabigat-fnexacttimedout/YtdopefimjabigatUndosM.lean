/-
  The contracts of the laws' own helpers over rows of what accounts had: held against each other, marked, looked at again.
-/
import Derived.Test.YtdopefimjabigatUndosL
namespace Go.Proofs.Ytdopefimjabigat
open Go.RowKit Num

set_option maxRecDepth 100000 in
set_option maxHeartbeats 1000000 in
theorem eqUndos_yes (l : List UN) (a b : Value) (w : World) (ha : RowsR w a 3 undoF l) (hb : RowsR w b 3 undoF l) (hl : (l.length : Int) ≤ 1048576) :
    Calls Try.prog 37 #[a, b] w fun e w' => e = .returned (.bool true) ∧ Below w.heap.size w w' := by
  obtain ⟨a, ca, rfl, hra⟩ := ha
  obtain ⟨b, cb, rfl, hrb⟩ := hb
  have HA : Hid (0 < l.length → _) := hra
  have HB : Hid (0 < l.length → _) := hrb
  clear hra hrb
  go_enter Try.func37, Try.ntmps37
  go_wp2
  go_loopw [5] (fun i wr => ∃ m : Nat, m ≤ l.length ∧ i = .int .i64 m ∧ Below w.heap.size w wr) (fun i _ => l.length - (intOf i).toNat)
  case atStart => exact ⟨0, Nat.zero_le _, rfl, Below.refl _ _⟩
  case round =>
    obtain ⟨m, hm, rfl, hbel⟩ := hrel
    by_cases hlt : (m : Int) < l.length
    · have q0 : (0 : Int) ≤ (m : Int) := by omega
      have hmn : m < l.length := by omega
      obtain ⟨ga, oa, rfl, hga, hca⟩ := HA.out (by omega)
      obtain ⟨gb, ob, rfl, hgb, hcb⟩ := HB.out (by omega)
      have hne := bw_some wr
      have c0 : ∀ x : Bw wr, x.to.cell? ⟨ga, oa + m * 3, none⟩ = some (.string l[m].1) := fun x => by rw [(bt hbel x.below).cell (by exact hga)]; exact hca m hmn 0 (by omega)
      have c1 : ∀ x : Bw wr, x.to.cell? ⟨ga, oa + m * 3 + 1, none⟩ = some (.bool l[m].2.1) := fun x => by rw [(bt hbel x.below).cell (by exact hga)]; exact hca m hmn 1 (by omega)
      have c2 : ∀ x : Bw wr, x.to.cell? ⟨ga, oa + m * 3 + 2, none⟩ = some (.int .i64 l[m].2.2) := fun x => by rw [(bt hbel x.below).cell (by exact hga)]; exact hca m hmn 2 (by omega)
      have d0 : ∀ x : Bw wr, x.to.cell? ⟨gb, ob + m * 3, none⟩ = some (.string l[m].1) := fun x => by rw [(bt hbel x.below).cell (by exact hgb)]; exact hcb m hmn 0 (by omega)
      have d1 : ∀ x : Bw wr, x.to.cell? ⟨gb, ob + m * 3 + 1, none⟩ = some (.bool l[m].2.1) := fun x => by rw [(bt hbel x.below).cell (by exact hgb)]; exact hcb m hmn 1 (by omega)
      have d2 : ∀ x : Bw wr, x.to.cell? ⟨gb, ob + m * 3 + 2, none⟩ = some (.int .i64 l[m].2.2) := fun x => by rw [(bt hbel x.below).cell (by exact hgb)]; exact hcb m hmn 2 (by omega)
      clear hca hcb
      go_wp2
      refine wp_region_bw (by kernel_rfl) (by kernel_rfl) ?_
      repeat (go_big_quiet_step (refine calls_bw (eqUndo_yes l[m] _)))
      refine wpQuiet_nil ?_
      intro _ hw'
      obtain ⟨x, rfl⟩ := hw'
      go_wp2
      go_roundw
      case rel => exact ⟨m + 1, by omega, by go_num, bt hbel x.below⟩
      case measure => simp [intOf]; omega
    · go_wp2
      go_ret
      exact ⟨rfl, hbel⟩

/-- the marks of n of them, from the number k on -/
def umarks (k n : Nat) : List UN := (List.range n).map fun i => (mk (k + 3 * i), (((k : Int) + 3 * (i : Int) + 1) % 3 == 0), ((k + 3 * i + 2 : Nat) : Int))
theorem umarks_len (k n : Nat) : (umarks k n).length = n := by simp [umarks]
theorem umarks_at (k n i : Nat) (h : i < (umarks k n).length) : (umarks k n)[i] = (mk (k + 3 * i), (((k : Int) + 3 * (i : Int) + 1) % 3 == 0), ((k + 3 * i + 2 : Nat) : Int)) := by simp [umarks]
theorem umarks_step {k n m : Nat} {ys : List Value} (h : upToR undoF 3 (umarks k n) ys m) (hm : m < n) : upToR undoF 3 (umarks k n) (((ys.set (m * 3) (.string (mk (k + 3 * m)))).set (m * 3 + 1) (.bool (((k : Int) + 3 * (m : Int) + 1) % 3 == 0))).set (m * 3 + 2) (.int .i64 ((k : Int) + 3 * (m : Int) + 1 + 1))) (m + 1) := by
  have h1 := upTo_threeU h (by rw [umarks_len]; exact hm)
  rw [umarks_at] at h1
  have e : ((k + 3 * m + 2 : Nat) : Int) = (k : Int) + 3 * (m : Int) + 1 + 1 := by omega
  rw [← e]
  exact h1

set_option maxRecDepth 100000 in
set_option maxHeartbeats 1000000 in
theorem markUndos_any (n k : Nat) (v : Value) (base : Nat) (xs : List Value) (w : World) (h : w.ownsRow base 87 3 v n xs) (hk : 0 < k) (hk2 : k ≤ 20000000) (hn : n ≤ 1048576) :
    Calls Try.prog 42 #[v, .int .i64 k] w fun e w' => e = .returned (.int .i64 ((k + 3 * n : Nat) : Int)) ∧ w'.ownsRow base 87 3 v n (flatR undoF (umarks k n)) ∧ w.grownBy w' v.ownBlock := by
  obtain ⟨a, cap, rfl, hg⟩ := own_form h
  have HG : Hid (0 < n → ∃ g, a = some ⟨g, 0, none⟩) := hg
  have HO : Hid (w.ownsRow base 87 3 (.slice a n cap) n xs) := h
  clear hg h
  go_enter Try.func42, Try.ntmps42
  go_wp2
  go_loopw [1, 5] (fun q i wr => ∃ (m : Nat) (ys : List Value), m ≤ n ∧ q = .int .i64 ((k + 3 * m : Nat) : Int) ∧ i = .int .i64 m ∧ Hid (upToR undoF 3 (umarks k n) ys m) ∧ Hid (wr.ownsRow base 87 3 (.slice a n cap) n ys) ∧ Hid (w.grownBy wr (Value.slice a n cap).ownBlock)) (fun _ i _ => n - (intOf i).toNat)
  case atStart => exact ⟨0, xs, Nat.zero_le _, by simp, rfl, upToR_zero (by rw [umarks_len]; exact HO.out.1), HO.out, ⟨rfl, rfl, rfl, Nat.le_refl _, fun _ _ _ => rfl⟩⟩
  case round =>
    obtain ⟨m, ys, hm, rfl, rfl, HU, HOW, HGR⟩ := hrel
    by_cases hlt : (m : Int) < n
    · have q0 : (0 : Int) ≤ (m : Int) := by omega
      obtain ⟨g, rfl⟩ := HG.out (by omega)
      go_wp2_with fail
      refine (markText_any (k + 3 * m) wr (by omega) (by omega)).mono ?_
      rintro e w1 ⟨rfl, hb1⟩
      have HO1 : Hid (w1.ownsRow base 87 3 (.slice (some ⟨g, 0, none⟩) n cap) n ys) := own_kept HOW.out hb1
      have HG1 : Hid (w.grownBy w1 (some g)) := grown_trans HGR.out (grown_any (below_grown hb1))
      clear hb1
      obtain ⟨u0, u1, u2, ⟨x0, f0⟩, ⟨x1, x1', f1⟩, ⟨x2, x2', f2⟩, R, G⟩ := own_three HO1.out m (by omega) (.string (mk (k + 3 * m))) (.bool ((((k : Int) + 3 * (m : Int) + 1) % 3 == 0))) (.int .i64 ((k : Int) + 3 * (m : Int) + 1 + 1))
      have HR : Hid (World.ownsRow _ base 87 3 (.slice (some ⟨g, 0, none⟩) n cap) n _) := R
      have HG2 : Hid (w1.grownBy _ (some g)) := G
      clear R G
      go_wp2
      go_roundw
      case rel => exact ⟨m + 1, _, by omega, by go_num, by go_num, umarks_step HU.out (by omega), HR.out, grown_trans HG1.out HG2.out⟩
      case measure => simp [intOf]; omega
    · have hmn : m = n := by omega
      have HM : Hid (m = n) := hmn
      clear hmn
      go_wp2
      go_ret
      have hu := HU.out
      rw [HM.out] at hu
      have hx := upToR_all undoF_len (by rw [umarks_len]; exact hu)
      refine ⟨ret_int (by rw [HM.out]), ?_, HGR.out⟩
      have := HOW.out
      rw [hx] at this
      exact this

set_option maxRecDepth 100000 in
set_option maxHeartbeats 1000000 in
theorem heldUndos_any (n k : Nat) (v : Value) (w : World) (h : RowsR w v 3 undoF (umarks k n)) (hk : 0 < k) (hk2 : k ≤ 20000000) (hn : n ≤ 1048576) :
    Calls Try.prog 47 #[v, .int .i64 k] w fun e w' => e = .returned (.int .i64 ((k + 3 * n : Nat) : Int)) ∧ Below w.heap.size w w' := by
  obtain ⟨a, cap, rfl, hr⟩ := h
  have hlen := umarks_len k n
  have hcell : 0 < n → ∃ g off, a = some ⟨g, off, none⟩ ∧ g < w.heap.size ∧ ∀ i, i < n → w.cell? ⟨g, off + i * 3, none⟩ = some (.string (mk (k + 3 * i))) ∧ w.cell? ⟨g, off + i * 3 + 1, none⟩ = some (.bool ((((k : Int) + 3 * (i : Int) + 1) % 3 == 0))) ∧ w.cell? ⟨g, off + i * 3 + 2, none⟩ = some (.int .i64 ((k : Int) + 3 * (i : Int) + 2)) := fun h0 => by
    obtain ⟨g, off, he, hg, hc⟩ := hr (by rw [hlen]; exact h0)
    refine ⟨g, off, he, hg, fun i hi => ?_⟩
    have h0 := hc i (by rw [hlen]; exact hi) 0 (by omega)
    have h1 := hc i (by rw [hlen]; exact hi) 1 (by omega)
    have h2 := hc i (by rw [hlen]; exact hi) 2 (by omega)
    rw [umarks_at] at h0 h1 h2
    exact ⟨h0, h1, by simpa [undoF] using h2⟩
  have HR : Hid (0 < n → ∃ g off, a = some ⟨g, off, none⟩ ∧ g < w.heap.size ∧ ∀ i, i < n → w.cell? ⟨g, off + i * 3, none⟩ = some (.string (mk (k + 3 * i))) ∧ w.cell? ⟨g, off + i * 3 + 1, none⟩ = some (.bool ((((k : Int) + 3 * (i : Int) + 1) % 3 == 0))) ∧ w.cell? ⟨g, off + i * 3 + 2, none⟩ = some (.int .i64 ((k : Int) + 3 * (i : Int) + 2))) := hcell
  clear hcell hr
  rw [hlen]
  clear hlen
  go_enter Try.func47, Try.ntmps47
  go_wp2
  go_loopw [1, 5] (fun q i wr => ∃ m : Nat, m ≤ n ∧ q = .int .i64 ((k + 3 * m : Nat) : Int) ∧ i = .int .i64 m ∧ Below w.heap.size w wr) (fun _ i _ => n - (intOf i).toNat)
  case atStart => exact ⟨0, Nat.zero_le _, by simp, rfl, Below.refl _ _⟩
  case round =>
    obtain ⟨m, hm, rfl, rfl, hbel⟩ := hrel
    by_cases hlt : (m : Int) < n
    · have q0 : (0 : Int) ≤ (m : Int) := by omega
      obtain ⟨g, off, rfl, hg, hc⟩ := HR.out (by omega)
      obtain ⟨hc0, hc1, hc2⟩ := hc m (by omega)
      have hne := bw_some wr
      have c0 : ∀ x : Bw wr, x.to.cell? ⟨g, off + m * 3, none⟩ = some (.string (mk (k + 3 * m))) := fun x => by rw [(bt hbel x.below).cell (by exact hg)]; exact hc0
      have hmk : ∀ x : Bw wr, Calls Try.prog 62 #[.int .i64 ((k : Int) + 3 * (m : Int))] x.to fun e w' => e = .returned (.string (mk (k + 3 * m))) ∧ Below x.to.heap.size x.to w' := fun x => by
        have := markText_any (k + 3 * m) x.to (by omega) (by omega)
        simpa using this
      have HK : Hid (∀ x : Bw wr, Calls Try.prog 62 #[.int .i64 ((k : Int) + 3 * (m : Int))] x.to fun e w' => e = .returned (.string (mk (k + 3 * m))) ∧ Below x.to.heap.size x.to w') := hmk
      have HC1 : Hid (∀ x : Bw wr, x.to.cell? ⟨g, off + m * 3 + 1, none⟩ = some (.bool ((((k : Int) + 3 * (m : Int) + 1) % 3 == 0)))) := fun x => by rw [(bt hbel x.below).cell (by exact hg)]; exact hc1
      have HC2 : Hid (∀ x : Bw wr, x.to.cell? ⟨g, off + m * 3 + 2, none⟩ = some (.int .i64 ((k : Int) + 3 * (m : Int) + 2))) := fun x => by rw [(bt hbel x.below).cell (by exact hg)]; exact hc2
      clear hmk hc hc0 hc1 hc2
      go_wp2
      refine wp_region_bw (by kernel_rfl) (by kernel_rfl) ?_
      repeat (go_big_quiet_step (refine calls_bw (HK.out _)))
      refine wpQuiet_nil ?_
      intro _ hw'
      obtain ⟨x, rfl⟩ := hw'
      have e1 : x.to.cell? ⟨g, off + m * 3 + 1, none⟩ = some (.bool ((((k : Int) + 3 * (m : Int) + 1) % 3 == 0))) := HC1.out x
      have e2 : x.to.cell? ⟨g, off + m * 3 + 2, none⟩ = some (.int .i64 ((k : Int) + 3 * (m : Int) + 2)) := HC2.out x
      go_wp2
      go_roundw
      case rel => exact ⟨m + 1, by omega, by go_num, by go_num, bt hbel x.below⟩
      case measure => simp [intOf]; omega
    · have hmn : m = n := by omega
      have HM : Hid (m = n) := hmn
      clear hmn
      go_wp2
      go_ret
      exact ⟨ret_int (by rw [HM.out]), hbel⟩


end Go.Proofs.Ytdopefimjabigat
