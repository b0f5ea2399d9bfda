/-
  The contract of the specification's l03Put.
-/
import Derived.Test.YtjdddcldbfhbiaaAppC
import Derived.Test.YtjdddcldbfhbiaaDoneN
import Derived.Laws.Cover1
import Derived.BigQuiet
namespace Go.Proofs.Ytjdddcldbfhbiaa
open Go.RowKit Num

theorem take_yes {cs : CL} {p : ByteArray × Int → Bool} {k : Nat} (h : k < cs.length) (hp : p cs[k] = true) : (cs.take (k + 1)).filter p = (cs.take k).filter p ++ [cs[k]] := by
  rw [List.take_add_one, List.getElem?_eq_getElem h, List.filter_append]; simp [hp]
theorem take_no {cs : CL} {p : ByteArray × Int → Bool} {k : Nat} (h : k < cs.length) (hp : p cs[k] = false) : (cs.take (k + 1)).filter p = (cs.take k).filter p := by
  rw [List.take_add_one, List.getElem?_eq_getElem h, List.filter_append]; simp [hp]
theorem take_len {cs : CL} {p : ByteArray × Int → Bool} {k : Nat} (h : k ≤ cs.length) : ((cs.take k).filter p).length ≤ k := by
  have := List.length_filter_le p (cs.take k)
  rw [List.length_take] at this; omega
set_option maxRecDepth 100000 in
set_option maxHeartbeats 2000000 in
theorem put_s (cs : CL) (v : Value) (x : ByteArray × Int) (w : World) (hv : Cells w v cs) (hl : (cs.length : Int) ≤ 1048576) :
    Calls Try.prog 59 #[v, cellV x] w fun e w' => ∃ v', e = .returned v' ∧ w'.ownsRow w.heap.size 35 2 v' (putC cs x).length (flat (putC cs x)) ∧ Below w.heap.size w w' := by
  obtain ⟨key, num⟩ := x
  have hbw : Below w.heap.size w (w.alloc (Obj.cells #[Value.string key, Value.int IntKind.i64 num] 35)) := ba (Below.refl _ _) _
  obtain ⟨a, cap, rfl, hr⟩ := hv
  have HR : Hid (0 < cs.length → _) := hr
  have HB : Hid (Below w.heap.size w (w.alloc (Obj.cells #[Value.string key, Value.int IntKind.i64 num] 35))) := hbw
  clear hr hbw
  unfold cellV
  go_enter Try.func59, Try.ntmps59
  go_wp2
  obtain ⟨w1, hw1⟩ : ∃ w1, w1 = w.alloc (Obj.cells #[Value.string key, Value.int IntKind.i64 num] 35) := ⟨_, rfl⟩
  have hw1s : w1.heap.size = w.heap.size + 1 := by rw [hw1]; simp
  have HW : Hid (w1 = w.alloc (Obj.cells #[Value.string key, Value.int IntKind.i64 num] 35)) := hw1
  rw [← hw1]
  clear hw1
  go_loopw [5, 6] (fun o i wr => ∃ k : Nat, k ≤ cs.length ∧ i = .int .i64 (k : Int) ∧ wr.ownsRow w1.heap.size 35 2 o ((cs.take k).filter fun c => kLt c.1 key).length (flat ((cs.take k).filter fun c => kLt c.1 key)) ∧ Below w1.heap.size w1 wr) (fun _ i _ => cs.length - (intOf i).toNat)
  case atStart =>
    refine ⟨0, Nat.zero_le _, rfl, ?_, ba (Below.refl _ _) _⟩
    have := own_new w1 35 2
    rw [hw1s] at this ⊢
    exact this
  case round =>
    obtain ⟨k, hk, rfl, hown, hbel⟩ := hrel
    have HO : Hid (wr.ownsRow w1.heap.size 35 2 _ ((cs.take k).filter fun c => kLt c.1 key).length (flat ((cs.take k).filter fun c => kLt c.1 key))) := hown
    have hfl := take_len (p := fun c => kLt c.1 key) hk
    clear hown
    by_cases hlt : (k : Int) < cs.length
    · have hkn : k < cs.length := by omega
      obtain ⟨g, off, rfl, hg, hc⟩ := HR.out (by omega)
      have q0 : (0 : Int) ≤ (k : Int) := by omega
      have hne := bw_some wr
      have B1 : Below w.heap.size w w1 := by rw [HW.out]; exact HB.out
      have hx0 : w1.cell? ⟨w.heap.size, 0, none⟩ = some (.string key) := by rw [HW.out]; simp
      have c0 : ∀ x : Bw wr, x.to.cell? ⟨g, off + k * 2, none⟩ = some (.string cs[k].1) := fun x => by rw [(bt B1 (bt hbel x.below)).cell (by exact hg)]; exact (hc k hkn).1
      have c1 : ∀ x : Bw wr, x.to.cell? ⟨g, off + k * 2 + 1, none⟩ = some (.int .i64 cs[k].2) := fun x => by rw [(bt B1 (bt hbel x.below)).cell (by exact hg)]; exact (hc k hkn).2
      have c2 : ∀ x : Bw wr, x.to.cell? ⟨w.heap.size, 0, none⟩ = some (.string key) := fun x => by rw [(bt hbel x.below).cell (by simp [hw1s])]; exact hx0
      clear hc hx0 B1
      cases hlb : Op.bytesLess cs[k].1.toList key.toList with
      | false =>
        have HT : Hid (((cs.take (k + 1)).filter fun c => kLt c.1 key) = _) := take_no hkn hlb
        go_wp2
        refine wp_region_bw (by kernel_rfl) (by kernel_rfl) ?_
        repeat (go_big_quiet_step (fail))
        refine wpQuiet_nil ?_
        intro _ hw'
        obtain ⟨x, rfl⟩ := hw'
        go_wp2
        go_roundw
        case rel => exact ⟨k + 1, by omega, by go_num, by rw [HT.out]; exact own_kept HO.out x.below, bt hbel x.below⟩
        case measure => simp [intOf]; omega
      | true =>
        have HT : Hid (((cs.take (k + 1)).filter fun c => kLt c.1 key) = _) := take_yes hkn hlb
        go_wp2
        refine wp_region_bw (by kernel_rfl) (by kernel_rfl) ?_
        repeat (go_big_quiet_step (fail))
        refine wpQuiet_nil ?_
        intro _ hw'
        obtain ⟨x, rfl⟩ := hw'
        have hxs := (bt hbel x.below).size
        have HO1 : Hid (x.to.ownsRow w1.heap.size 35 2 _ ((cs.take k).filter fun c => kLt c.1 key).length (flat ((cs.take k).filter fun c => kLt c.1 key))) := own_kept HO.out x.below
        go_wp2_with (at_builtin; refine wpList_append_cells _ rfl _ _ rfl w1.heap.size _ ((cs.take k).filter fun c => kLt c.1 key) rfl (World.ownsRow.alloc HO1.out _) _ [cs[k]] rfl (one_cell _ cs[k] _) (by simp; omega) (by simp; omega) ?_; intro v' w3 hown' hgrow)
        go_roundw
        case rel => exact ⟨k + 1, by omega, by go_num, by rw [HT.out]; exact hown', (ba (bt hbel x.below) _).grown hgrow (by simp; omega) fun b hb => (HO1.out.lt b hb).1⟩
        case measure => simp [intOf]; omega
    · have hkl : k = cs.length := by omega
      have HO1 : Hid (wr.ownsRow w1.heap.size 35 2 u5 (cs.filter fun c => kLt c.1 key).length (flat (cs.filter fun c => kLt c.1 key))) := by have := HO.out; rw [hkl, List.take_length] at this; exact this
      have hbs := hbel.size
      have hfl2 : (cs.filter fun c => kLt c.1 key).length ≤ cs.length := List.length_filter_le _ _
      have B1 : Below w.heap.size w w1 := by rw [HW.out]; exact HB.out
      have hx0 : wr.cell? ⟨w.heap.size, 0, none⟩ = some (.string key) := by rw [hbel.cell (by simp [hw1s]), HW.out]; simp
      have hx1 : wr.cell? ⟨w.heap.size, 1, none⟩ = some (.int .i64 num) := by rw [hbel.cell (by simp [hw1s]), HW.out]; simp
      clear hkl HO hfl
      go_wp2_with (at_builtin; refine wpList_append_cells _ rfl _ _ rfl w1.heap.size _ (cs.filter fun c => kLt c.1 key) rfl (World.ownsRow.alloc HO1.out _) _ [(key, num)] rfl (one_cell _ (key, num) _) (by simp; omega) (by simp; omega) ?_; intro v' w3 hown' hgrow)
      have B3 : Below w1.heap.size w1 w3 := (ba hbel _).grown hgrow (by simp; omega) fun b hb => (HO1.out.lt b hb).1
      have HO3 : Hid (w3.ownsRow w1.heap.size 35 2 v' _ _) := hown'
      clear hown' hgrow hx0 hx1 B1 HO1 hbel hbs
      go_loopw [5, 7] (fun o i wr => ∃ k : Nat, k ≤ cs.length ∧ i = .int .i64 (k : Int) ∧ wr.ownsRow w1.heap.size 35 2 o ((cs.filter fun c => kLt c.1 key) ++ (key, num) :: (cs.take k).filter fun c => kLt key c.1).length (flat ((cs.filter fun c => kLt c.1 key) ++ (key, num) :: (cs.take k).filter fun c => kLt key c.1)) ∧ Below w1.heap.size w1 wr) (fun _ i _ => cs.length - (intOf i).toNat)
      case atStart => exact ⟨0, Nat.zero_le _, rfl, HO3.out, B3⟩
      case round =>
        obtain ⟨k, hk, rfl, hown, hbel⟩ := hrel
        have HO : Hid (wr.ownsRow w1.heap.size 35 2 u5 ((cs.filter fun c => kLt c.1 key) ++ (key, num) :: (cs.take k).filter fun c => kLt key c.1).length (flat ((cs.filter fun c => kLt c.1 key) ++ (key, num) :: (cs.take k).filter fun c => kLt key c.1))) := hown
        have hfl := take_len (p := fun c => kLt key c.1) hk
        clear hown
        by_cases hlt : (k : Int) < cs.length
        · have hkn : k < cs.length := by omega
          obtain ⟨g, off, rfl, hg, hc⟩ := HR.out (by omega)
          have q0 : (0 : Int) ≤ (k : Int) := by omega
          have hne := bw_some wr
          have B1 : Below w.heap.size w w1 := by rw [HW.out]; exact HB.out
          have hx0 : w1.cell? ⟨w.heap.size, 0, none⟩ = some (.string key) := by rw [HW.out]; simp
          have c0 : ∀ x : Bw wr, x.to.cell? ⟨g, off + k * 2, none⟩ = some (.string cs[k].1) := fun x => by rw [(bt B1 (bt hbel x.below)).cell (by exact hg)]; exact (hc k hkn).1
          have c1 : ∀ x : Bw wr, x.to.cell? ⟨g, off + k * 2 + 1, none⟩ = some (.int .i64 cs[k].2) := fun x => by rw [(bt B1 (bt hbel x.below)).cell (by exact hg)]; exact (hc k hkn).2
          have c2 : ∀ x : Bw wr, x.to.cell? ⟨w.heap.size, 0, none⟩ = some (.string key) := fun x => by rw [(bt hbel x.below).cell (by simp [hw1s])]; exact hx0
          clear hc hx0 B1
          cases hgb : kLt key cs[k].1 with
          | false =>
            cases hlb : Op.bytesLess cs[k].1.toList key.toList with
            | true =>
              have HT : Hid (((cs.take (k + 1)).filter fun c => kLt key c.1) = _) := take_no hkn hgb
              go_wp2
              refine wp_region_bw (by kernel_rfl) (by kernel_rfl) ?_
              repeat (go_big_quiet_step (fail))
              refine wpQuiet_nil ?_
              intro _ hw'
              obtain ⟨x, rfl⟩ := hw'
              go_wp2
              go_roundw
              case rel => exact ⟨k + 1, by omega, by go_num, by rw [HT.out]; exact own_kept HO.out x.below, bt hbel x.below⟩
              case measure => simp [intOf]; omega
            | false =>
              have heq : (cs[k].1.toList == key.toList) = true := ba_eq (kLt_tri hlb hgb)
              have HT : Hid (((cs.take (k + 1)).filter fun c => kLt key c.1) = _) := take_no hkn hgb
              go_wp2
              refine wp_region_bw (by kernel_rfl) (by kernel_rfl) ?_
              repeat (go_big_quiet_step (fail))
              refine wpQuiet_nil ?_
              intro _ hw'
              obtain ⟨x, rfl⟩ := hw'
              go_wp2
              go_roundw
              case rel => exact ⟨k + 1, by omega, by go_num, by rw [HT.out]; exact own_kept HO.out x.below, bt hbel x.below⟩
              case measure => simp [intOf]; omega
          | true =>
            have HT : Hid (((cs.take (k + 1)).filter fun c => kLt key c.1) = _) := take_yes hkn hgb
            have hlb : Op.bytesLess cs[k].1.toList key.toList = false := kLt_asym hgb
            have heq : (cs[k].1.toList == key.toList) = false := ba_ne (kLt_ne hgb).symm
            go_wp2
            refine wp_region_bw (by kernel_rfl) (by kernel_rfl) ?_
            repeat (go_big_quiet_step (fail))
            refine wpQuiet_nil ?_
            intro _ hw'
            obtain ⟨x, rfl⟩ := hw'
            have hxs := (bt hbel x.below).size
            have HO1 : Hid (x.to.ownsRow w1.heap.size 35 2 u5 ((cs.filter fun c => kLt c.1 key) ++ (key, num) :: (cs.take k).filter fun c => kLt key c.1).length (flat ((cs.filter fun c => kLt c.1 key) ++ (key, num) :: (cs.take k).filter fun c => kLt key c.1))) := own_kept HO.out x.below
            have hfl3 : ((cs.filter fun c => kLt c.1 key) ++ (key, num) :: (cs.take k).filter fun c => kLt key c.1).length ≤ 2097153 := by simp; omega
            go_wp2_with (at_builtin; refine wpList_append_cells _ rfl _ _ rfl w1.heap.size _ ((cs.filter fun c => kLt c.1 key) ++ (key, num) :: (cs.take k).filter fun c => kLt key c.1) rfl (World.ownsRow.alloc HO1.out _) _ [cs[k]] rfl (one_cell _ cs[k] _) (by simp only [List.length_singleton]; omega) (by simp; omega) ?_; intro v' w3 hown' hgrow)
            go_roundw
            case rel => exact ⟨k + 1, by omega, by go_num, by rw [HT.out]; simpa using hown', (ba (bt hbel x.below) _).grown hgrow (by simp; omega) fun b hb => (HO1.out.lt b hb).1⟩
            case measure => simp [intOf]; omega
        · have hkl : k = cs.length := by omega
          have HK : Hid (k = cs.length) := hkl
          have B1 : Below w.heap.size w w1 := by rw [HW.out]; exact HB.out
          clear hkl
          go_wp2
          go_ret
          refine ⟨_, rfl, own_base (base := w1.heap.size) ?_ (by omega), bt B1 hbel⟩
          have := HO.out
          rw [HK.out, List.take_length] at this
          exact this

end Go.Proofs.Ytjdddcldbfhbiaa
