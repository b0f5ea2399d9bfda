/-
  The contracts of the specification's UndoOf and Undone.
-/
import Derived.Test.YtjdddcldbfhbiaaUndoF
import Derived.Test.YtjdddcldbfhbiaaPutS
import Derived.Test.YtjdddcldbfhbiaaCellS2
namespace Go.Proofs.Ytjdddcldbfhbiaa
open Go.RowKit Num

theorem undo_block {w w' : World} {t : TypeId} {u0 u1 u2 : Value} (h : Below (w.alloc (.cells #[u0, u1, u2] t)).heap.size (w.alloc (.cells #[u0, u1, u2] t)) w') : w'.heap[w.heap.size]? = some (.cells #[u0, u1, u2] t (0, 0)) :=
  (h.block w.heap.size (by simp)).trans (heap_alloc_new w _)

set_option maxRecDepth 100000 in
set_option maxHeartbeats 1000000 in
theorem undoOf_s (cs : CL) (v : Value) (key : ByteArray) (w : World) (hv : Cells w v cs) (hl : (cs.length : Int) ≤ 1048576) :
    Calls Try.prog 29 #[v, .string key] w fun e w' => e = .returned (undoV (undoC cs key)) ∧ Below w.heap.size w w' := by
  have HV : Hid (Cells w v cs) := hv
  obtain ⟨a, cap, rfl, hr⟩ := hv
  have HR : Hid (0 < cs.length → _) := hr
  clear hr
  go_enter Try.func29, Try.ntmps29
  go_wp2_with fail
  have B1 : Below w.heap.size w (w.alloc (.cells #[.string ByteArray.empty, .bool false, .int .i64 0] 48)) := ba (Below.refl _ _) _
  have HK : Hid ((w.alloc (.cells #[.string ByteArray.empty, .bool false, .int .i64 0] 48)).heap[w.heap.size]? = some (.cells #[.string ByteArray.empty, .bool false, .int .i64 0] 48 (0, 0))) := heap_alloc_new w _
  refine (cellAt_s cs _ key _ (HV.out.below B1) hl).mono ?_
  rintro e w2 ⟨rfl, rfl⟩
  have HB1 : Hid (Below w.heap.size w (w.alloc (.cells #[.string ByteArray.empty, .bool false, .int .i64 0] 48))) := B1
  clear B1
  cases hh : hasK cs key with
  | false =>
    have hca : cellAt cs key = -1 := cellAt_no hh
    have HE : Hid (undoC cs key = (key, false, 0)) := undo_no hh
    rw [hca]
    go_wp2
    refine bodyPost_ret (v := .agg #[.string key, .bool false, .int .i64 0]) (by simp [results, Try.results29, go_sem]) rfl ?_
    refine ⟨?_, ?_⟩
    · rw [HE.out]; rfl
    · exact ba (Below.refl _ _) _
  | true =>
    obtain ⟨j, hj, hca, hu⟩ := undo_at hh
    have HE : Hid (undoC cs key = (key, true, cs[j].2)) := hu
    rw [hca]
    clear hu hca
    obtain ⟨g, off, rfl, hg, hc⟩ := HR.out (by omega)
    have q0 : (0 : Int) ≤ (j : Int) := by omega
    have q1 : (j : Int) < cs.length := by omega
    have c1 : (w.alloc (.cells #[.string ByteArray.empty, .bool false, .int .i64 0] 48)).cell? ⟨g, off + j * 2 + 1, none⟩ = some (.int .i64 cs[j].2) := by rw [HB1.out.cell (by exact hg)]; exact (hc j hj).2
    clear hc
    go_wp2
    refine bodyPost_ret (v := .agg #[.string key, .bool true, .int .i64 cs[j].2]) (by simp [results, Try.results29, go_sem]) rfl ?_
    refine ⟨?_, ?_⟩
    · rw [HE.out]; rfl
    · exact ba (Below.refl _ _) _

set_option maxRecDepth 100000 in
set_option maxHeartbeats 2000000 in
theorem undone_s (cs : CL) (v : Value) (u : UN) (w : World) (hv : Cells w v cs) (hok : okL cs) (hk : (u.1.size : Int) ≤ 1048576) :
    Calls Try.prog 27 #[v, undoV u] w fun e w' => ∃ v', e = .returned v' ∧ w'.ownsRow w.heap.size 35 2 v' (undoneC cs u).length (flat (undoneC cs u)) ∧ Below w.heap.size w w' := by
  obtain ⟨key, had, num⟩ := u
  have hl := hok.1
  have HL : Hid (okL cs) := hok
  have HV : Hid (Cells w v cs) := hv
  obtain ⟨a, cap, rfl, hr⟩ := hv
  have HR : Hid (0 < cs.length → _) := hr
  clear hr hok
  simp only at hk
  unfold undoV
  go_enter Try.func27, Try.ntmps27
  go_wp2_with fail
  have B1 : Below w.heap.size w (w.alloc (Obj.cells #[Value.string key, Value.bool had, Value.int IntKind.i64 num] 48)) := ba (Below.refl _ _) _
  refine (cellsOk_s cs _ _ (HV.out.below B1) hl HL.out.2).mono ?_
  rintro e w2 ⟨rfl, hb2⟩
  have HB2 : Hid (Below w.heap.size w w2) := bt B1 hb2
  have k0 : w2.cell? ⟨w.heap.size, 0, none⟩ = some (.string key) := by rw [hb2.cell (by simp)]; simp
  have k1 : w2.cell? ⟨w.heap.size, 1, none⟩ = some (.bool had) := by rw [hb2.cell (by simp)]; simp
  have k2 : w2.cell? ⟨w.heap.size, 2, none⟩ = some (.int .i64 num) := by rw [hb2.cell (by simp)]; simp
  have hlt2 : w.heap.size < w2.heap.size := by have := hb2.size; simp at this; omega
  clear B1 hb2
  cases hcb : cellsB cs with
  | false =>
    have HE : Hid (undoneC cs (key, had, num) = cs) := undone_bad hcb
    have HV4 : Hid (Cells (w2.alloc (.cells #[] 35)) (.slice a cs.length cap) cs) := (HV.out.below HB2.out).below (ba (Below.refl _ _) _)
    have HO4 : Hid ((w2.alloc (.cells #[] 35)).ownsRow w2.heap.size 35 2 (.slice (some ⟨w2.heap.size, 0, none⟩) 0 0) ([] : CL).length (flat [])) := own_new w2 35 2
    go_wp2_with (at_builtin; refine wpList_append_cells _ rfl _ _ rfl w2.heap.size _ [] rfl HO4.out _ cs rfl HV4.out (by simp; omega) (by simp) ?_; intro v5 w5 hown5 hgrow5)
    have B5 : Below w2.heap.size w2 w5 := (ba (Below.refl _ _) _).grown hgrow5 (by simp) fun b hb => (HO4.out.lt b hb).1
    have HO5 : Hid (w5.ownsRow w2.heap.size 35 2 v5 cs.length (flat cs)) := (by simpa using hown5 : w5.ownsRow w2.heap.size 35 2 v5 cs.length (flat cs))
    clear hown5 hgrow5
    try go_wp2
    go_ret
    exact ⟨v5, rfl, by rw [HE.out]; exact own_base HO5.out HB2.out.size, bt HB2.out B5⟩
  | true =>
    have HCB : Hid (cellsB cs = true) := hcb
    clear hcb
    go_wp2_with fail
    refine (key_s key _ hk).mono ?_
    rintro e w2 ⟨rfl, rfl⟩
    cases hkb : keyB key with
    | false =>
      have HE : Hid (undoneC cs (key, had, num) = cs) := undone_not (by unfold undoB; simp only; rw [hkb]; rfl)
      have HV4 : Hid (Cells (w2.alloc (.cells #[] 35)) (.slice a cs.length cap) cs) := (HV.out.below HB2.out).below (ba (Below.refl _ _) _)
      have HO4 : Hid ((w2.alloc (.cells #[] 35)).ownsRow w2.heap.size 35 2 (.slice (some ⟨w2.heap.size, 0, none⟩) 0 0) ([] : CL).length (flat [])) := own_new w2 35 2
      go_wp2_with (at_builtin; refine wpList_append_cells _ rfl _ _ rfl w2.heap.size _ [] rfl HO4.out _ cs rfl HV4.out (by simp; omega) (by simp) ?_; intro v5 w5 hown5 hgrow5)
      have B5 : Below w2.heap.size w2 w5 := (ba (Below.refl _ _) _).grown hgrow5 (by simp) fun b hb => (HO4.out.lt b hb).1
      have HO5 : Hid (w5.ownsRow w2.heap.size 35 2 v5 cs.length (flat cs)) := (by simpa using hown5 : w5.ownsRow w2.heap.size 35 2 v5 cs.length (flat cs))
      clear hown5 hgrow5
      try go_wp2
      go_ret
      exact ⟨v5, rfl, by rw [HE.out]; exact own_base HO5.out HB2.out.size, bt HB2.out B5⟩
    | true =>
      go_wp2_with fail
      refine (in_any num 0 1000000000 _).mono ?_
      rintro e w2 ⟨rfl, rfl⟩
      cases hnb : inB num 0 1000000000 with
      | false =>
        have HE : Hid (undoneC cs (key, had, num) = cs) := undone_not (by unfold undoB numB; simp only; rw [hkb, hnb]; rfl)
        have HV4 : Hid (Cells (w2.alloc (.cells #[] 35)) (.slice a cs.length cap) cs) := (HV.out.below HB2.out).below (ba (Below.refl _ _) _)
        have HO4 : Hid ((w2.alloc (.cells #[] 35)).ownsRow w2.heap.size 35 2 (.slice (some ⟨w2.heap.size, 0, none⟩) 0 0) ([] : CL).length (flat [])) := own_new w2 35 2
        go_wp2_with (at_builtin; refine wpList_append_cells _ rfl _ _ rfl w2.heap.size _ [] rfl HO4.out _ cs rfl HV4.out (by simp; omega) (by simp) ?_; intro v5 w5 hown5 hgrow5)
        have B5 : Below w2.heap.size w2 w5 := (ba (Below.refl _ _) _).grown hgrow5 (by simp) fun b hb => (HO4.out.lt b hb).1
        have HO5 : Hid (w5.ownsRow w2.heap.size 35 2 v5 cs.length (flat cs)) := (by simpa using hown5 : w5.ownsRow w2.heap.size 35 2 v5 cs.length (flat cs))
        clear hown5 hgrow5
        try go_wp2
        go_ret
        exact ⟨v5, rfl, by rw [HE.out]; exact own_base HO5.out HB2.out.size, bt HB2.out B5⟩
      | true =>
        have HE : Hid (undoneC cs (key, had, num) = backC cs (key, had, num)) := undone_yes HCB.out (by unfold undoB numB; simp only; rw [hkb, hnb]; rfl)
        clear hkb hnb
        cases had with
        | true =>
          have HP : Hid (backC cs (key, true, num) = putC cs (key, num)) := back_true cs key num
          go_wp2_with fail
          refine (put_s cs _ (key, num) _ (HV.out.below HB2.out) hl).mono ?_
          rintro e w6 ⟨v6, rfl, hown6, hb6⟩
          have HO6 : Hid (w6.ownsRow _ 35 2 v6 _ _) := hown6
          clear hown6
          go_wp2
          go_ret
          exact ⟨v6, rfl, by rw [HE.out, HP.out]; exact own_base HO6.out HB2.out.size, bt HB2.out hb6⟩
        | false =>
          have HP : Hid (backC cs (key, false, num) = cs.filter fun c => decide (c.1 ≠ key)) := back_false cs key num
          have HC : Hid (∀ w', Below w2.heap.size w2 w' → w'.cell? ⟨w.heap.size, 0, none⟩ = some (.string key)) := fun w' hb => by rw [hb.cell (by exact hlt2)]; exact k0
          go_wp2
          clear k0 k2
          go_loopw [5, 6] (fun o i wr => ∃ k : Nat, k ≤ cs.length ∧ i = .int .i64 (k : Int) ∧ wr.ownsRow w2.heap.size 35 2 o ((cs.take k).filter fun c => decide (c.1 ≠ key)).length (flat ((cs.take k).filter fun c => decide (c.1 ≠ key))) ∧ Below w2.heap.size w2 wr) (fun _ i _ => cs.length - (intOf i).toNat)
          case atStart => exact ⟨0, Nat.zero_le _, rfl, own_new w2 35 2, ba (Below.refl _ _) _⟩
          case round =>
            obtain ⟨k, hkk, rfl, hown, hbel⟩ := hrel
            have HO : Hid (wr.ownsRow w2.heap.size 35 2 u5 ((cs.take k).filter fun c => decide (c.1 ≠ key)).length (flat ((cs.take k).filter fun c => decide (c.1 ≠ key)))) := hown
            have hfl := take_len (p := fun c => decide (c.1 ≠ key)) hkk
            clear hown
            by_cases hlt : (k : Int) < cs.length
            · have hkn : k < cs.length := by omega
              obtain ⟨g, off, rfl, hg, hc⟩ := HR.out (by omega)
              have q0 : (0 : Int) ≤ (k : Int) := by omega
              have hne := bw_some wr
              have c0 : ∀ x : Bw wr, x.to.cell? ⟨g, off + k * 2, none⟩ = some (.string cs[k].1) := fun x => by rw [(bt HB2.out (bt hbel x.below)).cell (by exact hg)]; exact (hc k hkn).1
              have c1 : ∀ x : Bw wr, x.to.cell? ⟨g, off + k * 2 + 1, none⟩ = some (.int .i64 cs[k].2) := fun x => by rw [(bt HB2.out (bt hbel x.below)).cell (by exact hg)]; exact (hc k hkn).2
              have c2 : ∀ x : Bw wr, x.to.cell? ⟨w.heap.size, 0, none⟩ = some (.string key) := fun x => HC.out _ (bt hbel x.below)
              clear hc
              by_cases hlb : cs[k].1 = key
              · have heq := ba_eq hlb
                have HT : Hid (((cs.take (k + 1)).filter fun c => decide (c.1 ≠ key)) = _) := take_no (p := fun c => decide (c.1 ≠ key)) hkn (by simp [hlb])
                clear hlb
                go_wp2
                refine wp_region_bw (by kernel_rfl) (by kernel_rfl) ?_
                repeat (go_big_quiet_step (fail))
                refine wpQuiet_nil ?_
                intro _ hw'
                obtain ⟨x, rfl⟩ := hw'
                go_wp2
                go_roundw
                case rel => exact ⟨k + 1, by omega, by go_num, by rw [HT.out]; exact own_kept HO.out x.below, bt hbel x.below⟩
                case measure => simp [intOf]; omega
              · have heq := ba_ne hlb
                have HT : Hid (((cs.take (k + 1)).filter fun c => decide (c.1 ≠ key)) = _) := take_yes (p := fun c => decide (c.1 ≠ key)) hkn (by simp [hlb])
                clear hlb
                go_wp2
                refine wp_region_bw (by kernel_rfl) (by kernel_rfl) ?_
                repeat (go_big_quiet_step (fail))
                refine wpQuiet_nil ?_
                intro _ hw'
                obtain ⟨x, rfl⟩ := hw'
                have hxs := (bt hbel x.below).size
                have HO1 : Hid (x.to.ownsRow w2.heap.size 35 2 _ ((cs.take k).filter fun c => decide (c.1 ≠ key)).length (flat ((cs.take k).filter fun c => decide (c.1 ≠ key)))) := own_kept HO.out x.below
                go_wp2_with (at_builtin; refine wpList_append_cells _ rfl _ _ rfl w2.heap.size _ ((cs.take k).filter fun c => decide (c.1 ≠ key)) rfl (World.ownsRow.alloc HO1.out _) _ [cs[k]] rfl (one_cell _ cs[k] _) (by simp only [List.length_singleton]; omega) (by simp; omega) ?_; intro v' w3 hown' hgrow)
                go_roundw
                case rel => exact ⟨k + 1, by omega, by go_num, by rw [HT.out]; exact hown', (ba (bt hbel x.below) _).grown hgrow (by simp; omega) fun b hb => (HO1.out.lt b hb).1⟩
                case measure => simp [intOf]; omega
            · have hkl : k = cs.length := by omega
              have HO1 : Hid (wr.ownsRow w2.heap.size 35 2 u5 (cs.filter fun c => decide (c.1 ≠ key)).length (flat (cs.filter fun c => decide (c.1 ≠ key)))) := by have := HO.out; rw [hkl, List.take_length] at this; exact this
              clear hkl HO hfl
              go_wp2
              go_ret
              exact ⟨_, rfl, by rw [HE.out, HP.out]; exact own_base HO1.out HB2.out.size, bt HB2.out hbel⟩

end Go.Proofs.Ytjdddcldbfhbiaa
