/-
  The contracts of the laws' own helpers over rows of accounts: held against each other, marked, looked at again.
-/
import Derived.Test.YtdopefimjabigatCellL
import Derived.Test.YtdopefimjabigatMark
namespace Go.Proofs.Ytdopefimjabigat
open Go.RowKit Num

theorem eqCell_yes (k : ByteArray) (n : Int) (w : World) :
    Calls Try.prog 60 #[.agg #[.string k, .int .i64 n], .agg #[.string k, .int .i64 n]] w fun e w' => e = .returned (.bool true) ∧ Below w.heap.size w w' := by
  go_enter Try.func60, Try.ntmps60
  go_wp2
  go_ret
  exact ⟨rfl, ba (ba (Below.refl _ _) _) _⟩

set_option maxRecDepth 100000 in
set_option maxHeartbeats 1000000 in
/-- two rows of the same accounts are told to be so -/
theorem eqCells_yes (cs : CL) (a b : Value) (w : World) (ha : Cells w a cs) (hb : Cells w b cs) (hl : (cs.length : Int) ≤ 1048576) :
    Calls Try.prog 36 #[a, b] w fun e w' => e = .returned (.bool true) ∧ Below w.heap.size w w' := by
  obtain ⟨a, ca, rfl, hra⟩ := ha
  obtain ⟨b, cb, rfl, hrb⟩ := hb
  have HA : Hid (0 < cs.length → _) := hra
  have HB : Hid (0 < cs.length → _) := hrb
  clear hra hrb
  go_enter Try.func36, Try.ntmps36
  go_wp2
  go_loopw [5] (fun i wr => ∃ m : Nat, m ≤ cs.length ∧ i = .int .i64 m ∧ Below w.heap.size w wr) (fun i _ => cs.length - (intOf i).toNat)
  case atStart => exact ⟨0, Nat.zero_le _, rfl, Below.refl _ _⟩
  case round =>
    obtain ⟨m, hm, rfl, hbel⟩ := hrel
    by_cases hlt : (m : Int) < cs.length
    · have q0 : (0 : Int) ≤ (m : Int) := by omega
      have hmn : m < cs.length := by omega
      obtain ⟨ga, oa, rfl, hga, hca⟩ := HA.out (by omega)
      obtain ⟨gb, ob, rfl, hgb, hcb⟩ := HB.out (by omega)
      have hne := bw_some wr
      have c0 : ∀ x : Bw wr, x.to.cell? ⟨ga, oa + m * 2, none⟩ = some (.string cs[m].1) := fun x => by rw [(bt hbel x.below).cell (by exact hga)]; exact (hca m hmn).1
      have c1 : ∀ x : Bw wr, x.to.cell? ⟨ga, oa + m * 2 + 1, none⟩ = some (.int .i64 cs[m].2) := fun x => by rw [(bt hbel x.below).cell (by exact hga)]; exact (hca m hmn).2
      have c2 : ∀ x : Bw wr, x.to.cell? ⟨gb, ob + m * 2, none⟩ = some (.string cs[m].1) := fun x => by rw [(bt hbel x.below).cell (by exact hgb)]; exact (hcb m hmn).1
      have c3 : ∀ x : Bw wr, x.to.cell? ⟨gb, ob + m * 2 + 1, none⟩ = some (.int .i64 cs[m].2) := fun x => by rw [(bt hbel x.below).cell (by exact hgb)]; exact (hcb m hmn).2
      clear hca hcb
      go_wp2
      refine wp_region_bw (by kernel_rfl) (by kernel_rfl) ?_
      repeat (go_big_quiet_step (refine calls_bw (eqCell_yes _ _ _)))
      refine wpQuiet_nil ?_
      intro _ hw'
      obtain ⟨x, rfl⟩ := hw'
      go_wp2
      go_roundw
      case rel => exact ⟨m + 1, by omega, by go_num, bt hbel x.below⟩
      case measure => simp [intOf]; omega
    · go_wp2
      go_ret
      exact ⟨rfl, hbel⟩

/-- the marks of n accounts, from the number k on -/
def cmarks (k n : Nat) : CL := (List.range n).map fun i => (mk (k + 2 * i), ((k + 2 * i + 1 : Nat) : Int))
theorem cmarks_len (k n : Nat) : (cmarks k n).length = n := by simp [cmarks]
theorem cmarks_at (k n i : Nat) (h : i < (cmarks k n).length) : (cmarks k n)[i] = (mk (k + 2 * i), ((k + 2 * i + 1 : Nat) : Int)) := by simp [cmarks]

theorem cmarks_step {k n m : Nat} {ys : List Value} (h : upTo (cmarks k n) ys m) (hm : m < n) : upTo (cmarks k n) ((ys.set (m * 2) (.string (mk (k + 2 * m)))).set (m * 2 + 1) (.int .i64 ((k : Int) + 2 * (m : Int) + 1))) (m + 1) := by
  have h1 := upTo_step h (by rw [cmarks_len]; exact hm)
  rw [cmarks_at] at h1
  simpa using h1

set_option maxRecDepth 100000 in
set_option maxHeartbeats 1000000 in
theorem markCells_any (n k : Nat) (v : Value) (base : Nat) (xs : List Value) (w : World) (h : w.ownsRow base 85 2 v n xs) (hk : 0 < k) (hk2 : k ≤ 20000000) (hn : n ≤ 1048576) :
    Calls Try.prog 41 #[v, .int .i64 k] w fun e w' => e = .returned (.int .i64 ((k + 2 * n : Nat) : Int)) ∧ w'.ownsRow base 85 2 v n (flat (cmarks k n)) ∧ w.grownBy w' v.ownBlock := by
  have hv : ∃ a cap, v = .slice a n cap ∧ (0 < n → ∃ g, a = some ⟨g, 0, none⟩) := by
    obtain ⟨hl, ⟨rfl, h0⟩ | ⟨g, cap, cur, rfl, _⟩⟩ := h
    · exact ⟨none, 0, by rw [h0], fun hp => by omega⟩
    · exact ⟨_, cap, rfl, fun _ => ⟨g, rfl⟩⟩
  obtain ⟨a, cap, rfl, hg⟩ := hv
  have HG : Hid (0 < n → ∃ g, a = some ⟨g, 0, none⟩) := hg
  have HO : Hid (w.ownsRow base 85 2 (.slice a n cap) n xs) := h
  clear hg h
  go_enter Try.func41, Try.ntmps41
  go_wp2
  go_loopw [1, 5] (fun q i wr => ∃ (m : Nat) (ys : List Value), m ≤ n ∧ q = .int .i64 ((k + 2 * m : Nat) : Int) ∧ i = .int .i64 m ∧ Hid (upTo (cmarks k n) ys m) ∧ wr.ownsRow base 85 2 (.slice a n cap) n ys ∧ w.grownBy wr (Value.slice a n cap).ownBlock) (fun _ i _ => n - (intOf i).toNat)
  case atStart => exact ⟨0, xs, Nat.zero_le _, by simp, rfl, ⟨by rw [cmarks_len]; exact HO.out.1, fun j hj => by omega⟩, HO.out, ⟨rfl, rfl, rfl, Nat.le_refl _, fun _ _ _ => rfl⟩⟩
  case round =>
    obtain ⟨m, ys, hm, rfl, rfl, HU, hown, hgr⟩ := hrel
    have HGR : Hid (w.grownBy wr (Value.slice a n cap).ownBlock) := hgr
    have HOW : Hid (wr.ownsRow base 85 2 (.slice a n cap) n ys) := hown
    clear hgr hown
    by_cases hlt : (m : Int) < n
    · have q0 : (0 : Int) ≤ (m : Int) := by omega
      obtain ⟨g, rfl⟩ := HG.out (by omega)
      go_wp2_with fail
      refine (markText_any (k + 2 * m) wr (by omega) (by omega)).mono ?_
      rintro e w1 ⟨rfl, hb1⟩
      have hown1 : w1.ownsRow base 85 2 (.slice (some ⟨g, 0, none⟩) n cap) n ys := World.ownsRow.kept HOW.out (below_grown hb1) (by simp [Value.ownBlock])
      obtain ⟨u0, u1, hx0, hf0, hx1, hx2, hf2⟩ := own_two hown1 m (by omega)
      have R := own_set_two hown1 (m * 2) (m * 2 + 1) (.string (mk (k + 2 * m))) (.int .i64 ((k : Int) + 2 * (m : Int) + 1))
      have G1 : w.grownBy w1 (some g) := grown_trans HGR.out (grown_any (below_grown hb1))
      have HR : Hid (((w1.setCell ⟨g, m * 2, none⟩ (.string (mk (k + 2 * m)))).setCell ⟨g, m * 2 + 1, none⟩ (.int .i64 ((k : Int) + 2 * (m : Int) + 1))).ownsRow base 85 2 (.slice (some ⟨g, 0, none⟩) n cap) n _ ∧ _) := R
      clear hown1 R hb1
      go_wp2
      go_roundw
      case rel => exact ⟨m + 1, _, by omega, by go_num, by go_num, cmarks_step HU.out (by omega), HR.out.1, grown_trans G1 HR.out.2⟩
      case measure => simp [intOf]; omega
    · have hmn : m = n := by omega
      have HM : Hid (m = n) := hmn
      clear hmn
      go_wp2
      go_ret
      have hu := HU.out
      rw [HM.out] at hu
      have hx := upTo_all (by rw [cmarks_len]; exact hu)
      refine ⟨ret_int (by rw [HM.out]), ?_, HGR.out⟩
      have := HOW.out
      rw [hx] at this
      exact this

set_option maxRecDepth 100000 in
set_option maxHeartbeats 1000000 in
theorem heldCells_any (n k : Nat) (v : Value) (w : World) (h : Cells w v (cmarks k n)) (hk : 0 < k) (hk2 : k ≤ 20000000) (hn : n ≤ 1048576) :
    Calls Try.prog 46 #[v, .int .i64 k] w fun e w' => e = .returned (.int .i64 ((k + 2 * n : Nat) : Int)) ∧ Below w.heap.size w w' := by
  obtain ⟨a, cap, rfl, hr⟩ := h
  have hlen := cmarks_len k n
  have hcell : 0 < n → ∃ g off, a = some ⟨g, off, none⟩ ∧ g < w.heap.size ∧ ∀ i, i < n → w.cell? ⟨g, off + i * 2, none⟩ = some (.string (mk (k + 2 * i))) ∧ w.cell? ⟨g, off + i * 2 + 1, none⟩ = some (.int .i64 ((k : Int) + 2 * (i : Int) + 1)) := fun h0 => by
    obtain ⟨g, off, he, hg, hc⟩ := hr (by rw [hlen]; exact h0)
    refine ⟨g, off, he, hg, fun i hi => ?_⟩
    have := hc i (by rw [hlen]; exact hi)
    rw [cmarks_at] at this
    simpa using this
  have HR : Hid (0 < n → ∃ g off, a = some ⟨g, off, none⟩ ∧ g < w.heap.size ∧ ∀ i, i < n → w.cell? ⟨g, off + i * 2, none⟩ = some (.string (mk (k + 2 * i))) ∧ w.cell? ⟨g, off + i * 2 + 1, none⟩ = some (.int .i64 ((k : Int) + 2 * (i : Int) + 1))) := hcell
  clear hcell hr
  rw [hlen]
  clear hlen
  go_enter Try.func46, Try.ntmps46
  go_wp2
  go_loopw [1, 5] (fun q i wr => ∃ m : Nat, m ≤ n ∧ q = .int .i64 ((k + 2 * m : Nat) : Int) ∧ i = .int .i64 m ∧ Below w.heap.size w wr) (fun _ i _ => n - (intOf i).toNat)
  case atStart => exact ⟨0, Nat.zero_le _, by simp, rfl, Below.refl _ _⟩
  case round =>
    obtain ⟨m, hm, rfl, rfl, hbel⟩ := hrel
    by_cases hlt : (m : Int) < n
    · have q0 : (0 : Int) ≤ (m : Int) := by omega
      obtain ⟨g, off, rfl, hg, hc⟩ := HR.out (by omega)
      obtain ⟨hc0, hc1⟩ := hc m (by omega)
      have hne := bw_some wr
      have c0 : ∀ x : Bw wr, x.to.cell? ⟨g, off + m * 2, none⟩ = some (.string (mk (k + 2 * m))) := fun x => by rw [(bt hbel x.below).cell (by exact hg)]; exact hc0
      have c1 : ∀ x : Bw wr, x.to.cell? ⟨g, off + m * 2 + 1, none⟩ = some (.int .i64 ((k : Int) + 2 * (m : Int) + 1)) := fun x => by rw [(bt hbel x.below).cell (by exact hg)]; exact hc1
      have hmk : ∀ x : Bw wr, Calls Try.prog 62 #[.int .i64 ((k : Int) + 2 * (m : Int))] x.to fun e w' => e = .returned (.string (mk (k + 2 * m))) ∧ Below x.to.heap.size x.to w' := fun x => by
        have := markText_any (k + 2 * m) x.to (by omega) (by omega)
        simpa using this
      have HK : Hid (∀ x : Bw wr, Calls Try.prog 62 #[.int .i64 ((k : Int) + 2 * (m : Int))] x.to fun e w' => e = .returned (.string (mk (k + 2 * m))) ∧ Below x.to.heap.size x.to w') := hmk
      clear hmk hc hc0 hc1
      go_wp2
      refine wp_region_bw (by kernel_rfl) (by kernel_rfl) ?_
      repeat (go_big_quiet_step (refine calls_bw (HK.out _)))
      refine wpQuiet_nil ?_
      intro _ hw'
      obtain ⟨x, rfl⟩ := hw'
      go_wp2
      go_roundw
      case rel => exact ⟨m + 1, by omega, by go_num, by go_num, bt hbel x.below⟩
      case measure => simp [intOf]; omega
    · have hmn : m = n := by omega
      have HM : Hid (m = n) := hmn
      clear hmn
      go_wp2
      go_ret
      exact ⟨ret_int (by rw [HM.out]), hbel⟩

end Go.Proofs.Ytdopefimjabigat
