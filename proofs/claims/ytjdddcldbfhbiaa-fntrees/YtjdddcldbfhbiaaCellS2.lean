/-
  The contract of the specification's CellsOk.
-/
import Derived.Test.YtjdddcldbfhbiaaCellS
import Derived.Laws.Cover1
namespace Go.Proofs.Ytjdddcldbfhbiaa
open Go.RowKit Num

set_option maxRecDepth 100000 in
set_option maxHeartbeats 2000000 in
theorem cellsOk_s (cs : CL) (v : Value) (w : World) (hv : Cells w v cs) (hl : (cs.length : Int) ≤ 1048576) (hall : ∀ c ∈ cs, (c.1.size : Int) ≤ 1048576) :
    Calls Try.prog 16 #[v] w fun e w' => e = .returned (.bool (cellsB cs)) ∧ Below w.heap.size w w' := by
  obtain ⟨a, cap, rfl, hr⟩ := hv
  have HR : Hid (0 < cs.length → _) := hr
  have HA : Hid (∀ c ∈ cs, (c.1.size : Int) ≤ 1048576) := hall
  clear hr hall
  go_enter Try.func16, Try.ntmps16
  go_wp2
  go_loopw [3] (fun i wr => ∃ k : Nat, k ≤ cs.length ∧ i = .int .i64 (k : Int) ∧ Hid (okTo cs k) ∧ Below w.heap.size w wr) (fun i _ => cs.length - (intOf i).toNat)
  case atStart => exact ⟨0, Nat.zero_le _, rfl, fun i hi => by omega, Below.refl _ _⟩
  case round =>
    obtain ⟨k, hk, rfl, HO, hbel⟩ := hrel
    by_cases hlt : (k : Int) < cs.length
    · have hkn : k < cs.length := by omega
      obtain ⟨g, off, rfl, hg, hc⟩ := HR.out (by omega)
      have hne := bw_some wr
      have hsz := HA.out cs[k] (List.getElem_mem hkn)
      have c0 : ∀ x : Bw wr, x.to.cell? ⟨g, off + k * 2, none⟩ = some (.string cs[k].1) := fun x => by rw [(bt hbel x.below).cell (by exact hg)]; exact (hc k hkn).1
      have c1 : ∀ x : Bw wr, x.to.cell? ⟨g, off + k * 2 + 1, none⟩ = some (.int .i64 cs[k].2) := fun x => by rw [(bt hbel x.below).cell (by exact hg)]; exact (hc k hkn).2
      have q0 : (0 : Int) ≤ (k : Int) := by omega
      cases hkb : keyB cs[k].1 with
      | false =>
        have HN : Hid (okAt cs k = false) := by
          cases k with
          | zero => rw [okAt_zero hkn, hkb]; rfl
          | succ j => rw [okAt_succ hkn, hkb]; rfl
        clear hc
        go_wp2
        refine wp_region_bw (by kernel_rfl) (by kernel_rfl) ?_
        repeat (go_big_quiet_step (first | refine calls_bw_same (key_s _ _ hsz) | refine calls_bw_same (in_any _ _ _ _)))
        refine wpQuiet_nil ?_
        intro _ hw'
        obtain ⟨x, rfl⟩ := hw'
        go_wp2
        go_ret
        exact ⟨ret_bool (cellsB_no hkn HN.out).symm, bt hbel x.below⟩
      | true =>
        cases hnb : inB cs[k].2 0 1000000000 with
        | false =>
          have HN : Hid (okAt cs k = false) := by
            cases k with
            | zero => rw [okAt_zero hkn, hkb, numB, hnb]; rfl
            | succ j => rw [okAt_succ hkn, hkb, numB, hnb]; rfl
          clear hc
          go_wp2
          refine wp_region_bw (by kernel_rfl) (by kernel_rfl) ?_
          repeat (go_big_quiet_step (first | refine calls_bw_same (key_s _ _ hsz) | refine calls_bw_same (in_any _ _ _ _)))
          refine wpQuiet_nil ?_
          intro _ hw'
          obtain ⟨x, rfl⟩ := hw'
          go_wp2
          go_ret
          exact ⟨ret_bool (cellsB_no hkn HN.out).symm, bt hbel x.below⟩
        | true =>
          cases k with
          | zero =>
            have HN : Hid (okAt cs 0 = true) := by rw [okAt_zero hkn, hkb, numB, hnb]; rfl
            have c0' : ∀ x : Bw wr, x.to.cell? ⟨g, off, none⟩ = some (.string cs[0].1) := fun x => by simpa using c0 x
            have c1' : ∀ x : Bw wr, x.to.cell? ⟨g, off + 1, none⟩ = some (.int .i64 cs[0].2) := fun x => by simpa using c1 x
            have q1 : (0 : Int) < (cs.length : Int) := by omega
            clear hc
            go_wp2
            refine wp_region_bw (by kernel_rfl) (by kernel_rfl) ?_
            repeat (go_big_quiet_step (first | refine calls_bw_same (key_s _ _ hsz) | refine calls_bw_same (in_any _ _ _ _)))
            refine wpQuiet_nil ?_
            intro _ hw'
            obtain ⟨x, rfl⟩ := hw'
            go_wp2
            go_roundw
            case rel => exact ⟨1, by omega, by go_num, okTo_next HO.out HN.out, bt hbel x.below⟩
            case measure => simp [intOf]; omega
          | succ j =>
            have c2 : ∀ x : Bw wr, x.to.cell? ⟨g, off + j * 2, none⟩ = some (.string cs[j].1) := fun x => by rw [(bt hbel x.below).cell (by exact hg)]; exact (hc j (by omega)).1
            have q1 : ((j : Int) + 1) < (cs.length : Int) := by omega
            have q2 : (0 : Int) ≤ (j : Int) := by omega
            cases hlb : Op.bytesLess cs[j].1.toList cs[j + 1].1.toList with
            | false =>
              have HN : Hid (okAt cs (j + 1) = false) := by rw [okAt_succ hkn, hkb, numB, hnb, hlb]; rfl
              clear hc
              go_wp2
              refine wp_region_bw (by kernel_rfl) (by kernel_rfl) ?_
              repeat (go_big_quiet_step (first | refine calls_bw_same (key_s _ _ hsz) | refine calls_bw_same (in_any _ _ _ _)))
              refine wpQuiet_nil ?_
              intro _ hw'
              obtain ⟨x, rfl⟩ := hw'
              go_wp2
              go_ret
              exact ⟨ret_bool (cellsB_no hkn HN.out).symm, bt hbel x.below⟩
            | true =>
              have HN : Hid (okAt cs (j + 1) = true) := by rw [okAt_succ hkn, hkb, numB, hnb, hlb]; rfl
              clear hc
              go_wp2
              refine wp_region_bw (by kernel_rfl) (by kernel_rfl) ?_
              repeat (go_big_quiet_step (first | refine calls_bw_same (key_s _ _ hsz) | refine calls_bw_same (in_any _ _ _ _)))
              refine wpQuiet_nil ?_
              intro _ hw'
              obtain ⟨x, rfl⟩ := hw'
              go_wp2
              go_roundw
              case rel => exact ⟨j + 1 + 1, by omega, by go_num, okTo_next HO.out HN.out, bt hbel x.below⟩
              case measure => simp [intOf]; omega
    · have hkl : k = cs.length := by omega
      have HK : Hid (k = cs.length) := hkl
      clear hkl
      go_wp2
      go_ret
      have hot := HO.out
      rw [HK.out] at hot
      exact ⟨ret_bool (by rw [cellsB_all hot]; simp; omega), hbel⟩

end Go.Proofs.Ytjdddcldbfhbiaa
