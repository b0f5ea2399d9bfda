/-
  The contract of the specification's HeightOf.
-/
import Derived.Test.YtjdddcldbfhbiabTreeN
import Derived.Test.YtjdddcldbfhbiabBlockS2
namespace Go.Proofs.Ytjdddcldbfhbiab
open Go.RowKit Num

theorem bks_par {ps : TL} {j : Nat} (h : j < ps.length) : parAt (bks ps) j = ps[j].1.1.1 := by rw [parAt_at (by rw [bks_len]; exact h), bks_at h]

theorem zero_beq (u : Int) : ((0 : Int) == u) = decide (u = 0) := by
  by_cases h : u = 0
  · subst h; rfl
  · have h2 : ¬ (0 : Int) = u := fun e => h e.symm
    simp [h, h2]
theorem zero_dec (u : Int) : decide ((0 : Int) = u) = decide (u = 0) := by
  by_cases h : u = 0
  · subst h; rfl
  · have h2 : ¬ (0 : Int) = u := fun e => h e.symm
    simp [h, h2]

set_option maxRecDepth 100000 in
set_option maxHeartbeats 2000000 in
theorem height_s (ps : TL) (v : Value) (k : Int) (w : World) (hT : TreeQ w v ps) (hl : (ps.length : Int) ≤ 1048576) :
    Calls Try.prog 19 #[v, .int .i64 k] w fun e w' => e = .returned (.int .i64 (heightT (bks ps) k)) ∧ w' = w := by
  obtain ⟨a, cap, rfl, hr⟩ := treeq_cells hT
  have HR : Hid (0 < ps.length → _) := hr
  have hbl := bks_len ps
  clear hr hT
  go_enter Try.func19, Try.ntmps19
  go_wp2
  go_loop [1, 5] (fun c n => ∃ (x : Int) (m : Nat), c = .int .i64 x ∧ n = .int .i64 (m : Int) ∧ (m = 0 ∨ (0 ≤ x ∧ (m : Int) + x ≤ (ps.length : Int))) ∧ Hid (heightT (bks ps) k = heightN (bks ps) x m)) (fun c _ => (intOf c).toNat)
  case atStart => exact ⟨k, 0, rfl, rfl, Or.inl rfl, heightT_N _ _⟩
  case round =>
    obtain ⟨x, m, rfl, rfl, hm, HH⟩ := hrel
    have HM : Hid (m = 0 ∨ (0 ≤ x ∧ (m : Int) + x ≤ (ps.length : Int))) := hm
    by_cases hx : x = 0
    · subst hx
      clear hm
      by_cases h0 : ps.length = 0
      · have HF : Hid (heightT (bks ps) k = -1) := HH.out.trans (heightN_none (by rw [hbl]; exact h0))
        have d0 : ((ps.length : Int) == 0) = true := by simp [h0]
        clear h0
        go_wp2
        go_ret
        exact ⟨ret_int HF.out.symm, rfl⟩
      · have HF : Hid (heightT (bks ps) k = (m : Int)) := HH.out.trans (heightN_zero (by rw [hbl]; omega))
        have d0 : ((ps.length : Int) == 0) = false := by simp [h0]
        clear h0
        go_wp2
        go_ret
        exact ⟨ret_int HF.out.symm, rfl⟩
    · have d1 : (x != 0) = true := by simpa using hx
      cases hi : inB x 0 ((ps.length : Int) - 1) with
      | false =>
        have hn := inB_not hi
        have HF : Hid (heightT (bks ps) k = -1) := HH.out.trans (heightN_out (by rw [hbl]; omega))
        clear hm hn hx
        go_wp2_with (go_at_call 61; refine (in_any _ _ _ _).mono ?_; rintro e w' ⟨rfl, rfl⟩; try rw [hi])
        go_ret
        exact ⟨ret_int HF.out.symm, rfl⟩
      | true =>
        obtain ⟨p0, p1⟩ := inB_eq hi
        obtain ⟨j, rfl⟩ := Int.eq_ofNat_of_zero_le p0
        have hj : j < ps.length := by omega
        have q1 : (j : Int) < ps.length := by omega
        obtain ⟨g, off, rfl, hg, hc⟩ := HR.out (by omega)
        have c0 := (hc j hj).1
        have hmb : (m : Int) ≤ 1048576 := by rcases hm with h | h <;> omega
        clear hc
        cases hp : inB ps[j].1.1.1 0 ((j : Int) - 1) with
        | false =>
          have hn := inB_not hp
          have HF : Hid (heightT (bks ps) k = -1) := HH.out.trans (heightN_bad (by omega) (fun h => hn (by have h2 := h.2.2; rw [bks_par hj] at h2; exact h2)))
          clear hm hn hx
          go_wp2_with (go_at_call 61; refine (in_any _ _ _ _).mono ?_; rintro e w' ⟨rfl, rfl⟩; first | rw [hi] | rw [hp])
          go_ret
          exact ⟨ret_int HF.out.symm, rfl⟩
        | true =>
          obtain ⟨r0, r1⟩ := inB_eq hp
          have HF : Hid (heightT (bks ps) k = heightN (bks ps) ps[j].1.1.1 (m + 1)) := (by
            rw [HH.out, heightN_step ⟨by omega, by rw [hbl]; exact hj, by rw [bks_par hj]; exact r0, by rw [bks_par hj]; exact r1⟩, bks_par hj] : heightT (bks ps) k = heightN (bks ps) ps[j].1.1.1 (m + 1))
          clear hm hx
          go_wp2_with (go_at_call 61; refine (in_any _ _ _ _).mono ?_; rintro e w' ⟨rfl, rfl⟩; first | rw [hi] | rw [hp])
          go_round
          case rel => exact ⟨ps[j].1.1.1, m + 1, rfl, by go_num, Or.inr ⟨r0, by have := HM.out; omega⟩, HF⟩
          case measure => simp [intOf]; omega

set_option maxRecDepth 100000 in
set_option maxHeartbeats 2000000 in
theorem extends_s (ps : TL) (v : Value) (k under : Int) (w : World) (hT : TreeQ w v ps) (hl : (ps.length : Int) ≤ 1048576) :
    Calls Try.prog 20 #[v, .int .i64 k, .int .i64 under] w fun e w' => e = .returned (.bool (extT (bks ps) k under)) ∧ w' = w := by
  have HT : Hid (TreeQ w v ps) := hT
  obtain ⟨a, cap, rfl, hr⟩ := treeq_cells hT
  have HR : Hid (0 < ps.length → _) := hr
  have hbl := bks_len ps
  clear hr hT
  cases hd : down (bks ps) k with
  | none =>
    have hh : heightT (bks ps) k < 0 := by rw [heightT_none hd]; omega
    have HF : Hid (extT (bks ps) k under = false) := extT_none hd
    clear hd
    go_enter Try.func20, Try.ntmps20
    go_wp2_with (go_at_call 19; refine (height_s ps _ k w HT.out hl).mono ?_; rintro e w' ⟨rfl, rfl⟩)
    go_ret
    exact ⟨ret_bool HF.out.symm, rfl⟩
  | some l =>
    have hh : ¬ heightT (bks ps) k < 0 := by rw [heightT_some hd]; omega
    have HE : Hid (extT (bks ps) k under = extL l under) := extT_some hd
    have HD : Hid (down (bks ps) k = some l) := hd
    clear hd
    go_enter Try.func20, Try.ntmps20
    go_wp2_with (go_at_call 19; refine (height_s ps _ k w HT.out hl).mono ?_; rintro e w' ⟨rfl, rfl⟩)
    go_loop [1] (fun c => ∃ (x : Int) (lx : List Nat), c = .int .i64 x ∧ Hid (down (bks ps) x = some lx) ∧ Hid (extT (bks ps) k under = extL lx under)) (fun c => (intOf c).toNat)
    case atStart => exact ⟨k, l, rfl, HD, HE⟩
    case round =>
      obtain ⟨x, lx, rfl, HX, HL⟩ := hrel
      obtain ⟨x0, x1⟩ := down_range HX.out
      obtain ⟨j, rfl⟩ := Int.eq_ofNat_of_zero_le x0
      have hj : j < ps.length := by rw [hbl] at x1; omega
      by_cases hz : j = 0
      · subst hz
        have HF : Hid (extT (bks ps) k under = decide (under = 0)) := (by
          have h1 : lx = [] := by have := HX.out; rw [show ((0 : Nat) : Int) = 0 from rfl, down_zero (by rw [hbl]; omega)] at this; exact (Option.some.inj this).symm
          rw [HL.out, h1, extL_nil] : extT (bks ps) k under = decide (under = 0))
        clear x0 x1
        go_wp2
        go_ret
        exact ⟨ret_bool (by rw [HF.out]; first | exact zero_beq _ | exact zero_dec _), rfl⟩
      · obtain ⟨hok, l', hl', rfl⟩ := down_some (by omega) HX.out
        have p0 : (0 : Int) < (j : Int) := by omega
        by_cases hu : (j : Int) = under
        · have HF : Hid (extT (bks ps) k under = true) := HL.out.trans (extL_hit hu)
          have d0 : ((j : Int) != under) = false := by simp [hu]
          have d1 : ((j : Int) == under) = true := by simp [hu]
          clear hu hok
          go_wp2
          go_ret
          exact ⟨ret_bool HF.out.symm, rfl⟩
        · have HF : Hid (extT (bks ps) k under = extL l' under) := HL.out.trans (extL_miss hu)
          have d0 : ((j : Int) != under) = true := by simpa using hu
          obtain ⟨g, off, rfl, hg, hc⟩ := HR.out (by omega)
          have c0 := (hc j hj).1
          have q1 : (j : Int) < ps.length := by omega
          have HP : Hid (down (bks ps) ps[j].1.1.1 = some l') := (by rw [← bks_par hj]; exact hl' : down (bks ps) ps[j].1.1.1 = some l')
          have HM : Hid (ps[j].1.1.1 ≤ (j : Int) - 1) := (by rw [← bks_par hj]; exact hok.2.2.2 : ps[j].1.1.1 ≤ (j : Int) - 1)
          clear hu hok hc hl' x1
          go_wp2
          go_round
          case rel => exact ⟨ps[j].1.1.1, l', rfl, HP, HF⟩
          case measure => have := HM.out; simp [intOf]; omega

set_option maxRecDepth 100000 in
set_option maxHeartbeats 2000000 in
theorem clash_s (ps : TL) (v : Value) (x y : Int) (w : World) (hT : TreeQ w v ps) (hl : (ps.length : Int) ≤ 1048576) :
    Calls Try.prog 23 #[v, .int .i64 x, .int .i64 y] w fun e w' => e = .returned (.bool (clashT (bks ps) x y)) ∧ w' = w := by
  have HT : Hid (TreeQ w v ps) := hT
  clear hT
  cases hx : down (bks ps) x with
  | none =>
    have hh : ¬ 0 ≤ heightT (bks ps) x := by rw [heightT_none hx]; omega
    have HF : Hid (clashT (bks ps) x y = false) := (by unfold clashT; rw [hx]; rfl : clashT (bks ps) x y = false)
    clear hx
    go_enter Try.func23, Try.ntmps23
    go_wp2_with (go_at_call 19; refine (height_s ps _ _ _ HT.out hl).mono ?_; rintro e w' ⟨rfl, rfl⟩)
    go_ret
    exact ⟨ret_bool HF.out.symm, rfl⟩
  | some l =>
    have hh : 0 ≤ heightT (bks ps) x := by rw [heightT_some hx]; omega
    cases hy : down (bks ps) y with
    | none =>
      have hh2 : ¬ 0 ≤ heightT (bks ps) y := by rw [heightT_none hy]; omega
      have HF : Hid (clashT (bks ps) x y = false) := (by unfold clashT; rw [hx, hy]; rfl : clashT (bks ps) x y = false)
      clear hx hy
      go_enter Try.func23, Try.ntmps23
      go_wp2_with (go_at_call 19; refine (height_s ps _ _ _ HT.out hl).mono ?_; rintro e w' ⟨rfl, rfl⟩)
      go_ret
      exact ⟨ret_bool HF.out.symm, rfl⟩
    | some l2 =>
      have hh2 : 0 ≤ heightT (bks ps) y := by rw [heightT_some hy]; omega
      have HC : Hid (clashT (bks ps) x y = (!extT (bks ps) x y && !extT (bks ps) y x)) := (by unfold clashT; rw [hx, hy]; rfl : clashT (bks ps) x y = (!extT (bks ps) x y && !extT (bks ps) y x))
      clear hx hy
      cases he : extT (bks ps) x y with
      | true =>
        have HF : Hid (clashT (bks ps) x y = false) := (by rw [HC.out, he]; rfl : clashT (bks ps) x y = false)
        go_enter Try.func23, Try.ntmps23
        go_wp2_with (first
          | (go_at_call 19; refine (height_s ps _ _ _ HT.out hl).mono ?_; rintro e w' ⟨rfl, rfl⟩)
          | (go_at_call 20; refine (extends_s ps _ _ _ _ HT.out hl).mono ?_; rintro e w' ⟨rfl, rfl⟩; rw [he]))
        go_ret
        exact ⟨ret_bool HF.out.symm, rfl⟩
      | false =>
        have HF : Hid (clashT (bks ps) x y = !extT (bks ps) y x) := (by rw [HC.out, he]; rfl : clashT (bks ps) x y = !extT (bks ps) y x)
        go_enter Try.func23, Try.ntmps23
        go_wp2_with (first
          | (go_at_call 19; refine (height_s ps _ _ _ HT.out hl).mono ?_; rintro e w' ⟨rfl, rfl⟩)
          | (go_at_call 20; refine (extends_s ps _ _ _ _ HT.out hl).mono ?_; rintro e w' ⟨rfl, rfl⟩; try rw [he]))
        go_ret
        exact ⟨ret_bool HF.out.symm, rfl⟩

end Go.Proofs.Ytjdddcldbfhbiab
