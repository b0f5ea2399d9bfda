/-
  The contracts of the program's CellsOk and CellAt.
-/
import Derived.Test.YtjdddcldbfhbiaaCmdI
import Derived.Test.YtjdddcldbfhbiaaCellS2
namespace Go.Proofs.Ytjdddcldbfhbiaa
open Go.RowKit Num

theorem cellsB_long {cs : CL} (h : 12 < cs.length) : cellsB cs = false := by
  unfold cellsB; rw [show decide (cs.length ≤ 12) = false by simp; omega, Bool.and_false]

set_option maxRecDepth 100000 in
set_option maxHeartbeats 2000000 in
theorem cellsOk_i (cs : CL) (v : Value) (w : World) (hv : Cells w v cs) (hl : (cs.length : Int) ≤ 1048576) (hall : ∀ c ∈ cs, (c.1.size : Int) ≤ 1048576) :
    Calls Try.prog 15 #[v] w fun e w' => e = .returned (.bool (cellsB cs)) ∧ Below w.heap.size w w' := by
  obtain ⟨a, cap, rfl, hr⟩ := hv
  have HR : Hid (0 < cs.length → _) := hr
  have HA : Hid (∀ c ∈ cs, (c.1.size : Int) ≤ 1048576) := hall
  clear hr hall
  by_cases h12 : 12 < (cs.length : Int)
  · rw [cellsB_long (by omega)]
    go_enter Try.func15, Try.ntmps15
    go_wp2
    go_ret
    exact ⟨rfl, Below.refl _ _⟩
  · go_enter Try.func15, Try.ntmps15
    go_wp2
    go_loopw [10] (fun i wr => ∃ k : Nat, k ≤ cs.length ∧ i = .int .i64 (k : Int) ∧ Hid (okTo cs k) ∧ Below w.heap.size w wr) (fun i _ => cs.length - (intOf i).toNat)
    case atStart => exact ⟨0, Nat.zero_le _, rfl, fun i hi => by omega, Below.refl _ _⟩
    case round =>
      obtain ⟨k, hk, rfl, HO, hbel⟩ := hrel
      by_cases hlt : (k : Int) < cs.length
      · have hkn : k < cs.length := by omega
        obtain ⟨g, off, rfl, hg, hc⟩ := HR.out (by omega)
        have hsz := HA.out cs[k] (List.getElem_mem hkn)
        have c0 : wr.cell? ⟨g, off + k * 2, none⟩ = some (.string cs[k].1) := by rw [hbel.cell (by exact hg)]; exact (hc k hkn).1
        have c1 : wr.cell? ⟨g, off + k * 2 + 1, none⟩ = some (.int .i64 cs[k].2) := by rw [hbel.cell (by exact hg)]; exact (hc k hkn).2
        have q0 : (0 : Int) ≤ (k : Int) := by omega
        cases hkb : keyB cs[k].1 with
        | false =>
          have HN : Hid (okAt cs k = false) := by
            cases k with
            | zero => rw [okAt_zero hkn, hkb]; rfl
            | succ j => rw [okAt_succ hkn, hkb]; rfl
          clear hc
          go_wp2_with (go_at_call 60; refine (key_i _ _ hsz).mono ?_; rintro e w' ⟨rfl, rfl⟩; rw [hkb])
          go_ret
          exact ⟨ret_bool (cellsB_no hkn HN.out).symm, ba hbel _⟩
        | true =>
          cases hnb : numB cs[k].2 with
          | false =>
            have HN : Hid (okAt cs k = false) := by
              cases k with
              | zero => rw [okAt_zero hkn, hkb, hnb]; rfl
              | succ j => rw [okAt_succ hkn, hkb, hnb]; rfl
            clear hc
            go_wp2_with (first
              | (go_at_call 60; refine (key_i _ _ hsz).mono ?_; rintro e w' ⟨rfl, rfl⟩; rw [hkb])
              | (go_at_call 61; refine (numOk_i _ _).mono ?_; rintro e w' ⟨rfl, rfl⟩; rw [hnb]))
            go_ret
            exact ⟨ret_bool (cellsB_no hkn HN.out).symm, ba hbel _⟩
          | true =>
            have hne := bw_some (wr.alloc (Obj.cells #[Value.string cs[k].1, Value.int IntKind.i64 cs[k].2] 35))
            have d0 : ∀ x : Bw (wr.alloc (Obj.cells #[Value.string cs[k].1, Value.int IntKind.i64 cs[k].2] 35)), x.to.cell? ⟨wr.heap.size, 0, none⟩ = some (.string cs[k].1) := fun x => by rw [x.below.cell (by simp)]; simp
            cases k with
            | zero =>
              have HN : Hid (okAt cs 0 = true) := by rw [okAt_zero hkn, hkb, hnb]; rfl
              have c0' : wr.cell? ⟨g, off, none⟩ = some (.string cs[0].1) := by simpa using c0
              have c1' : wr.cell? ⟨g, off + 1, none⟩ = some (.int .i64 cs[0].2) := by simpa using c1
              have q1 : (0 : Int) < (cs.length : Int) := by omega
              clear hc
              go_wp2_with (first
                | (go_at_call 60; refine (key_i _ _ hsz).mono ?_; rintro e w' ⟨rfl, rfl⟩; rw [hkb])
                | (go_at_call 61; refine (numOk_i _ _).mono ?_; rintro e w' ⟨rfl, rfl⟩; rw [hnb]))
              refine wp_region_bw (by kernel_rfl) (by kernel_rfl) ?_
              repeat (go_big_quiet_step (fail))
              refine wpQuiet_nil ?_
              intro _ hw'
              obtain ⟨x, rfl⟩ := hw'
              go_wp2
              go_roundw
              case rel => exact ⟨1, by omega, by go_num, okTo_next HO.out HN.out, bt (ba hbel _) x.below⟩
              case measure => simp [intOf]; omega
            | succ j =>
              have q1 : ((j : Int) + 1) < (cs.length : Int) := by omega
              have q2 : (0 : Int) ≤ (j : Int) := by omega
              have d1 : ∀ x : Bw (wr.alloc (Obj.cells #[Value.string cs[j + 1].1, Value.int IntKind.i64 cs[j + 1].2] 35)), x.to.cell? ⟨g, off + j * 2, none⟩ = some (.string cs[j].1) := fun x => by rw [(bt (ba hbel _) x.below).cell (by exact hg)]; exact (hc j (by omega)).1
              cases hlb : Op.bytesLess cs[j].1.toList cs[j + 1].1.toList with
              | true =>
                have HN : Hid (okAt cs (j + 1) = true) := by rw [okAt_succ hkn, hkb, hnb, hlb]; rfl
                have l1 : Op.bytesLess cs[j + 1].1.toList cs[j].1.toList = false := kLt_asym hlb
                have l2 : (cs[j + 1].1.toList == cs[j].1.toList) = false := ba_ne (kLt_ne hlb).symm
                clear hc hlb
                go_wp2_with (first
                  | (go_at_call 60; refine (key_i _ _ hsz).mono ?_; rintro e w' ⟨rfl, rfl⟩; rw [hkb])
                  | (go_at_call 61; refine (numOk_i _ _).mono ?_; rintro e w' ⟨rfl, rfl⟩; rw [hnb]))
                refine wp_region_bw (by kernel_rfl) (by kernel_rfl) ?_
                repeat (go_big_quiet_step (fail))
                refine wpQuiet_nil ?_
                intro _ hw'
                obtain ⟨x, rfl⟩ := hw'
                go_wp2
                go_roundw
                case rel => exact ⟨j + 1 + 1, by omega, by go_num, okTo_next HO.out HN.out, bt (ba hbel _) x.below⟩
                case measure => simp [intOf]; omega
              | false =>
                have HN : Hid (okAt cs (j + 1) = false) := by rw [okAt_succ hkn, hkb, hnb, hlb]; rfl
                cases l1 : Op.bytesLess cs[j + 1].1.toList cs[j].1.toList with
                | true =>
                  clear hc hlb
                  go_wp2_with (first
                    | (go_at_call 60; refine (key_i _ _ hsz).mono ?_; rintro e w' ⟨rfl, rfl⟩; rw [hkb])
                    | (go_at_call 61; refine (numOk_i _ _).mono ?_; rintro e w' ⟨rfl, rfl⟩; rw [hnb]))
                  refine wp_region_bw (by kernel_rfl) (by kernel_rfl) ?_
                  repeat (go_big_quiet_step (fail))
                  refine wpQuiet_nil ?_
                  intro _ hw'
                  obtain ⟨x, rfl⟩ := hw'
                  go_wp2
                  go_ret
                  exact ⟨ret_bool (cellsB_no hkn HN.out).symm, bt (ba hbel _) x.below⟩
                | false =>
                  have l2 : (cs[j + 1].1.toList == cs[j].1.toList) = true := ba_eq (kLt_tri l1 hlb)
                  clear hc hlb
                  go_wp2_with (first
                    | (go_at_call 60; refine (key_i _ _ hsz).mono ?_; rintro e w' ⟨rfl, rfl⟩; rw [hkb])
                    | (go_at_call 61; refine (numOk_i _ _).mono ?_; rintro e w' ⟨rfl, rfl⟩; rw [hnb]))
                  refine wp_region_bw (by kernel_rfl) (by kernel_rfl) ?_
                  repeat (go_big_quiet_step (fail))
                  refine wpQuiet_nil ?_
                  intro _ hw'
                  obtain ⟨x, rfl⟩ := hw'
                  go_wp2
                  go_ret
                  exact ⟨ret_bool (cellsB_no hkn HN.out).symm, bt (ba hbel _) x.below⟩
      · have hkl : k = cs.length := by omega
        have HK : Hid (k = cs.length) := hkl
        clear hkl
        go_wp2
        go_ret
        have hot := HO.out
        rw [HK.out] at hot
        exact ⟨ret_bool (by rw [cellsB_all hot]; simp; omega), hbel⟩

set_option maxHeartbeats 1000000 in
theorem cellAt_i (cs : CL) (v : Value) (key : ByteArray) (w : World) (hv : Cells w v cs) (hl : (cs.length : Int) ≤ 1048576) :
    Calls Try.prog 10 #[v, .string key] w fun e w' => e = .returned (.int .i64 (cellAt cs key)) ∧ Below w.heap.size w w' := by
  obtain ⟨a, cap, rfl, hr⟩ := hv
  have HR : Hid (0 < cs.length → _) := hr
  clear hr
  go_enter Try.func10, Try.ntmps10
  go_wp2
  go_loopw [9] (fun i wr => ∃ k : Nat, k ≤ cs.length ∧ i = .int .i64 (k : Int) ∧ Hid (cellAt cs key = cellAtFrom key (cs.drop k) k) ∧ Below w.heap.size w wr) (fun i _ => cs.length - (intOf i).toNat)
  case atStart => exact ⟨0, Nat.zero_le _, rfl, rfl, Below.refl _ _⟩
  case round =>
    obtain ⟨k, hk, rfl, HC, hbel⟩ := hrel
    by_cases hlt : (k : Int) < cs.length
    · have hkn : k < cs.length := by omega
      obtain ⟨g, off, rfl, hg, hc⟩ := HR.out (by omega)
      have c0 : wr.cell? ⟨g, off + k * 2, none⟩ = some (.string cs[k].1) := by rw [hbel.cell (by exact hg)]; exact (hc k hkn).1
      have c1 : wr.cell? ⟨g, off + k * 2 + 1, none⟩ = some (.int .i64 cs[k].2) := by rw [hbel.cell (by exact hg)]; exact (hc k hkn).2
      have q0 : (0 : Int) ≤ (k : Int) := by omega
      have HS : Hid (cellAtFrom key (cs.drop k) k = _) := cellAt_drop cs key k hkn
      clear hc
      by_cases he : cs[k].1 = key
      · have heq := ba_eq he
        go_wp2
        go_ret
        exact ⟨ret_int (by rw [HC.out, HS.out, if_pos he]), ba hbel _⟩
      · have heq := ba_ne he
        have HE : Hid (¬ cs[k].1 = key) := he
        clear he
        go_wp2
        go_roundw
        case rel => exact ⟨k + 1, by omega, by go_num, (show cellAt cs key = _ from by rw [HC.out, HS.out, if_neg HE.out]), ba hbel _⟩
        case measure => simp [intOf]; omega
    · have hkl : k = cs.length := by omega
      have HK : Hid (k = cs.length) := hkl
      clear hkl
      go_wp2
      go_ret
      exact ⟨ret_int (by rw [HC.out, HK.out, List.drop_length]; rfl), hbel⟩

end Go.Proofs.Ytjdddcldbfhbiaa
