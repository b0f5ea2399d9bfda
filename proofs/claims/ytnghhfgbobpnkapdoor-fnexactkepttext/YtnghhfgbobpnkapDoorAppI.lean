/-
  The contracts of the program's rows of bytes that grow by numbers: appendVar, appendNumbers, appendVote, appendQc.
-/
import Derived.Test.YtnghhfgbobpnkapDoorJ0
namespace Go.Proofs.YtnghhfgbobpnkapDoor
open Go.RowKit Num

/-- what is kept while a row of bytes grows that lies from base on: all below it, and every block that is none of bytes -/
structure Kp5 (base : Nat) (w w' : World) : Prop where
  below : Below base w w'
  other : ∀ (g : Nat) (cur : Array Value) (t : TypeId) (fz : Nat × Nat), w.heap[g]? = some (Obj.cells cur t fz) → t ≠ 5 → w'.heap[g]? = some (Obj.cells cur t fz)
theorem Kp5.refl (base : Nat) (w : World) : Kp5 base w w := ⟨Below.refl _ _, fun _ _ _ _ h _ => h⟩
theorem Kp5.trans {base : Nat} {a b c : World} (h : Kp5 base a b) (k : Kp5 base b c) : Kp5 base a c := ⟨h.below.trans k.below, fun g cur t fz e ht => k.other g cur t fz (h.other g cur t fz e ht) ht⟩
theorem Kp5.of_below {base : Nat} {a b : World} (h : Below a.heap.size a b) (hb : base ≤ a.heap.size) : Kp5 base a b :=
  ⟨h.mono hb, fun g _ _ _ e _ => (h.block g (Array.getElem?_eq_some_iff.1 e).1).trans e⟩
theorem Kp5.alloc {base : Nat} {a w : World} (h : Kp5 base a w) (hb : base ≤ w.heap.size) (o : Obj) : Kp5 base a (w.alloc o) := h.trans (Kp5.of_below ((Below.refl _ _).alloc (Nat.le_refl _) _) hb)
theorem Kp5.grown {base n : Nat} {a w w' : World} {v : Value} {xs : List Value} (h : Kp5 base a w) (hg : w.grownBy w' v.ownBlock) (hown : w.ownsRow base 5 1 v n xs) (hb : base ≤ w.heap.size) : Kp5 base a w' := by
  refine h.trans ⟨(Below.refl _ _).grown hg hb fun k hk => (hown.lt k hk).1, fun g cur t fz e ht => ?_⟩
  refine (hg.block g (Array.getElem?_eq_some_iff.1 e).1 fun hr => ?_).trans e
  obtain ⟨_, ⟨rfl, _⟩ | ⟨g', cap, cur', rfl, _, hh, _⟩⟩ := hown
  · cases hr
  · obtain rfl : g = g' := Option.some.inj hr
    rw [hh] at e
    injection e with e
    injection e with _ e2
    exact ht e2.symm

theorem push_any {base : Nat} {w wr w1 : World} {v v' : Value} {xs : List Int} {x : Int} {o : Obj} (hk : Kp5 base w wr) (hb : base ≤ wr.heap.size) (hown : wr.ownsRow base 5 1 v xs.length (xs.map (Value.int .u8)))
    (hown' : w1.ownsRow base 5 1 v' (xs.length + 1) (xs.map (Value.int .u8) ++ [.int .u8 x])) (hg : (wr.alloc o).grownBy w1 v.ownBlock) :
    w1.ownsRow base 5 1 v' (xs ++ [x]).length ((xs ++ [x]).map (Value.int .u8)) ∧ Kp5 base w w1 ∧ base ≤ w1.heap.size := by
  refine ⟨by simpa using hown', (hk.alloc hb o).grown hg (hown.alloc _) (by simp; omega), ?_⟩
  have := hg.size
  simp at this
  omega

/-- what is told of a row of bytes that has grown -/
def AppP (base : Nat) (xs : List Int) (w : World) (v' : Value) (w' : World) : Prop := w'.ownsRow base 5 1 v' xs.length (xs.map (Value.int .u8)) ∧ Kp5 base w w'

theorem vbs_ten' (n : Int) (h : n ≤ 18446744073709551615) : (vbs n).length ≤ 10 :=
  vb_bound 9 _ _ (by rw [show (128 : Int) ^ (9 + 1) = 1180591620717411303424 from rfl]; omega)

set_option maxRecDepth 100000 in
set_option maxHeartbeats 1000000 in
theorem appendVar_i (base : Nat) (ys : List Int) (v0 : Value) (n : Int) (w : World) (h0 : 0 ≤ n) (h1 : n ≤ 18446744073709551615) (hl : ys.length ≤ 1000000000) (hb : base ≤ w.heap.size) (hown0 : w.ownsRow base 5 1 v0 ys.length (ys.map (Value.int .u8))) :
    Calls Tryd.prog 79 #[v0, .int .u64 n] w fun e w' => ∃ v', e = .returned v' ∧ AppP base (ys ++ vbs n) w v' w' := by
  obtain ⟨i0, hi, hz0, hz1, hz2⟩ := info_parts info5
  have HT : Hid ((vbs n).length ≤ 10) := vbs_ten' n h1
  go_enter Tryd.func79, Tryd.ntmps79
  go_wp2
  go_loopw [0, 1] (fun v a wr => ∃ (m : Int) (xs : List Int) (f : Nat), a = .int .u64 m ∧ (0 ≤ m ∧ m ≤ 18446744073709551615) ∧ m.toNat ≤ f ∧ Hid (ys ++ vbs n = xs ++ vb f m) ∧ wr.ownsRow base 5 1 v xs.length (xs.map (Value.int .u8)) ∧ Kp5 base w wr ∧ base ≤ wr.heap.size)
    (fun _ a _ => (intOf a).toNat)
  case atStart => exact ⟨n, ys, n.toNat, rfl, ⟨h0, h1⟩, Nat.le_refl _, rfl, hown0, Kp5.refl _ _, hb⟩
  case round =>
    obtain ⟨m, xs, f, rfl, ⟨hm0, hm1⟩, hf, HV, hown, hkp, hbr⟩ := hrel
    have hlen : xs.length ≤ 1000000010 := by have h2 := congrArg List.length HV.out; rw [List.length_append, List.length_append] at h2; have := HT.out; omega
    by_cases hm : 127 < m
    · obtain ⟨g, hg1, hg2⟩ := vb_big f m hm hf
      have HG : Hid (vb f m = (m % 128 + 128) :: vb g (m / 128)) := hg1
      clear hg1
      go_wp2_with (at_builtin; refine wpList_append_own _ rfl _ _ 84 rfl base 5 i0 (.int .u8 0) 1 1 Tryd.underlying84 hi hz0 hz1 hz2 rfl (by decide) _ _ _ rfl (hown.alloc _) ⟨wr.heap.size, 0, none⟩ 1 1 [.int .u8 (m % 128 + 128)] rfl rfl (news1 _ _ _) (ones1 _ _) (by unfold maxLen; omega) (by omega) (by simp; omega) ?_)
      intro v' w1 hown' hgrow _
      have R := push_any hkp hbr hown hown' hgrow
      clear hown' hgrow hown hkp
      go_wp2
      go_roundw
      case rel => exact ⟨m / 128, xs ++ [m % 128 + 128], g, rfl, ⟨by omega, by omega⟩, hg2, (show ys ++ vbs n = (xs ++ [m % 128 + 128]) ++ vb g (m / 128) from by have e := HV.out; rw [HG.out] at e; simpa using e), R.1, R.2.1, R.2.2⟩
      case measure => simp [intOf]; omega
    · have HG : Hid (vb f m = [m]) := vb_small f m (by omega)
      go_wp2_with (at_builtin; refine wpList_append_own _ rfl _ _ 84 rfl base 5 i0 (.int .u8 0) 1 1 Tryd.underlying84 hi hz0 hz1 hz2 rfl (by decide) _ _ _ rfl (hown.alloc _) ⟨wr.heap.size, 0, none⟩ 1 1 [.int .u8 (m)] rfl rfl (news1 _ _ _) (ones1 _ _) (by unfold maxLen; omega) (by omega) (by simp; omega) ?_)
      intro v' w1 hown' hgrow _
      have R := push_any hkp hbr hown hown' hgrow
      have HE : Hid (ys ++ vbs n = xs ++ [m]) := (by have e := HV.out; rw [HG.out] at e; exact e : ys ++ vbs n = xs ++ [m])
      clear hown' hgrow hown hkp HV HG
      go_wp2
      go_ret
      exact ⟨_, rfl, by rw [HE.out]; exact ⟨R.1, R.2.1⟩⟩

/-- the bytes of several numbers, one behind the other -/
def numsL (ns : List Int) : List Int := ns.flatMap fun n => vbs (lowI n)
theorem numsL_take {ns : List Int} {k : Nat} (h : k < ns.length) : numsL (ns.take (k + 1)) = numsL (ns.take k) ++ vbs (lowI ns[k]) := by
  unfold numsL; rw [List.take_add_one, List.getElem?_eq_getElem h, List.flatMap_append]; simp
theorem numsL_len {ns : List Int} (h : ∀ n ∈ ns, n ≤ 9223372036854775807) : (numsL ns).length ≤ 10 * ns.length := by
  induction ns with
  | nil => simp [numsL]
  | cons n ns ih =>
    have e : numsL (n :: ns) = vbs (lowI n) ++ numsL ns := rfl
    have := ih fun m hm => h m (List.mem_cons_of_mem _ hm)
    have := vbs_ten (lowI n) (lowI_bounds (h n (List.mem_cons_self ..))).2
    rw [e, List.length_append, List.length_cons]; omega
theorem nums_cell {w : World} {g k : Nat} {ns : List Int} {t : TypeId} {fz : Nat × Nat} (h : w.heap[g]? = some (.cells (ns.map (Value.int .i64)).toArray t fz)) (hk : k < ns.length) : w.cell? ⟨g, k, none⟩ = some (.int .i64 ns[k]) := by
  rw [cell_of_row _ g _ _ _ _ h]; simp [hk]

set_option maxRecDepth 100000 in
set_option maxHeartbeats 1000000 in
theorem appendNumbers_i (base : Nat) (ys : List Int) (v0 : Value) (ns : List Int) (g cap : Nat) (t : TypeId) (w : World) (hns : ∀ n ∈ ns, n ≤ 9223372036854775807) (hl : ys.length + 10 * ns.length ≤ 1000000000) (hb : base ≤ w.heap.size) (hown0 : w.ownsRow base 5 1 v0 ys.length (ys.map (Value.int .u8)))
    (hg : w.heap[g]? = some (.cells (ns.map (Value.int .i64)).toArray t (0, 0))) (ht : t ≠ 5) :
    Calls Tryd.prog 45 #[v0, .slice (some ⟨g, 0, none⟩) ns.length cap] w fun e w' => ∃ v', e = .returned v' ∧ AppP base (ys ++ numsL ns) w v' w' := by
  have HG : Hid (w.heap[g]? = some (.cells (ns.map (Value.int .i64)).toArray t (0, 0)) ∧ t ≠ 5 ∧ ∀ n ∈ ns, n ≤ 9223372036854775807) := ⟨hg, ht, hns⟩
  clear hg ht hns
  go_enter Tryd.func45, Tryd.ntmps45
  go_wp2
  go_loopw [0, 9] (fun v i wr => ∃ k : Nat, k ≤ ns.length ∧ i = .int .i64 (k : Int) ∧ wr.ownsRow base 5 1 v (ys ++ numsL (ns.take k)).length ((ys ++ numsL (ns.take k)).map (Value.int .u8)) ∧ Kp5 base w wr) (fun _ i _ => ns.length - (intOf i).toNat)
  case atStart => exact ⟨0, Nat.zero_le _, rfl, by simpa [numsL] using hown0, Kp5.refl _ _⟩
  case round =>
    obtain ⟨k, hk, rfl, hown, hkp⟩ := hrel
    have HO : Hid (wr.ownsRow base 5 1 u0 (ys ++ numsL (ns.take k)).length ((ys ++ numsL (ns.take k)).map (Value.int .u8)) ∧ Kp5 base w wr) := ⟨hown, hkp⟩
    have hbr : base ≤ wr.heap.size := Nat.le_trans hb hkp.below.size
    clear hown hkp
    by_cases hlt : (k : Int) < ns.length
    · have hkn : k < ns.length := by omega
      have hlen : (ys ++ numsL (ns.take k)).length ≤ 1000000000 := by
        have := numsL_len (ns := ns.take k) fun n hn => HG.out.2.2 n (List.mem_of_mem_take hn)
        rw [List.length_take] at this; rw [List.length_append]; omega
      have c0 : wr.cell? ⟨g, k, none⟩ = some (.int .i64 ns[k]) := nums_cell (HO.out.2.other _ _ _ _ HG.out.1 HG.out.2.1) hkn
      have q0 : (0 : Int) ≤ (k : Int) := by omega
      obtain ⟨x, hx⟩ : ∃ x, x = ns[k] := ⟨_, rfl⟩
      have hx1 : x ≤ 9223372036854775807 := by rw [hx]; exact HG.out.2.2 _ (List.getElem_mem hkn)
      have HS : Hid (numsL (ns.take (k + 1)) = numsL (ns.take k) ++ vbs (lowI x)) := (by rw [numsL_take hkn, hx] : numsL (ns.take (k + 1)) = _)
      rw [← hx] at c0
      clear hx
      by_cases hneg : x < 0
      · have HE : Hid (lowI x = 0) := (by unfold lowI; rw [if_pos hneg] : lowI x = 0)
        go_wp2_with fail
        refine (appendVar_i base (ys ++ numsL (ns.take k)) u0 0 wr (by omega) (by omega) hlen hbr HO.out.1).mono ?_
        rintro e w1 ⟨v1, rfl, ho1, hk1⟩
        have HO1 : Hid (w1.ownsRow base 5 1 v1 (ys ++ numsL (ns.take (k + 1))).length ((ys ++ numsL (ns.take (k + 1))).map (Value.int .u8)) ∧ Kp5 base w w1) := (by rw [HS.out, HE.out, ← List.append_assoc]; exact ⟨ho1, HO.out.2.trans hk1⟩ : _ ∧ _)
        clear ho1 hk1 hlen hbr c0
        go_wp2
        go_roundw
        case rel => exact ⟨k + 1, by omega, by go_num, HO1.out.1, HO1.out.2⟩
        case measure => simp [intOf]; omega
      · have HE : Hid (lowI x = x) := (by unfold lowI; rw [if_neg hneg] : lowI x = x)
        go_wp2_with fail
        refine (appendVar_i base (ys ++ numsL (ns.take k)) u0 x wr (by omega) (by omega) hlen hbr HO.out.1).mono ?_
        rintro e w1 ⟨v1, rfl, ho1, hk1⟩
        have HO1 : Hid (w1.ownsRow base 5 1 v1 (ys ++ numsL (ns.take (k + 1))).length ((ys ++ numsL (ns.take (k + 1))).map (Value.int .u8)) ∧ Kp5 base w w1) := (by rw [HS.out, HE.out, ← List.append_assoc]; exact ⟨ho1, HO.out.2.trans hk1⟩ : _ ∧ _)
        clear ho1 hk1 hlen hbr c0
        go_wp2
        go_roundw
        case rel => exact ⟨k + 1, by omega, by go_num, HO1.out.1, HO1.out.2⟩
        case measure => simp [intOf]; omega
    · have hkl : k = ns.length := by omega
      subst hkl
      rw [List.take_length] at HO
      go_wp2
      go_ret
      exact ⟨_, rfl, HO.out⟩

set_option maxRecDepth 100000 in
set_option maxHeartbeats 1000000 in
theorem appendVote_i (base : Nat) (ys : List Int) (v0 : Value) (a b c d : Int) (w : World) (h0 : a ≤ 9223372036854775807) (h1 : b ≤ 9223372036854775807) (h2 : c ≤ 9223372036854775807) (h3 : d ≤ 9223372036854775807) (hl : ys.length ≤ 1000000) (hb : base ≤ w.heap.size) (hown0 : w.ownsRow base 5 1 v0 ys.length (ys.map (Value.int .u8))) :
    Calls Tryd.prog 47 #[v0, .agg #[.int .i64 a, .int .i64 b, .int .i64 c, .int .i64 d]] w fun e w' => ∃ v', e = .returned v' ∧ AppP base (ys ++ numsL [a, b, c, d]) w v' w' := by
  have HO : Hid (w.ownsRow base 5 1 v0 ys.length (ys.map (Value.int .u8))) := hown0
  clear hown0
  go_enter Tryd.func47, Tryd.ntmps47
  go_wp2_with fail
  refine (appendNumbers_i base ys v0 [a, b, c, d] _ 4 3 _ (by intro n hn; simp at hn; omega) (by simp; omega) (by simp; omega) ((HO.out.alloc _).alloc _) ?_ (by decide)).mono ?_
  · have := heap_alloc_new (w.alloc (.cells #[.int .i64 a, .int .i64 b, .int .i64 c, .int .i64 d] 25)) (.cells #[.int .i64 a, .int .i64 b, .int .i64 c, .int .i64 d] 3)
    simpa using this
  rintro e w1 ⟨v1, rfl, h1⟩
  have HR : Hid (AppP base (ys ++ numsL [a, b, c, d]) w v1 w1) := ⟨h1.1, (((Kp5.refl base w).alloc hb _).alloc (by simp; omega) _).trans h1.2⟩
  clear h1
  go_wp2
  go_ret
  exact ⟨_, rfl, HR.out⟩

set_option maxRecDepth 100000 in
set_option maxHeartbeats 1000000 in
theorem appendQc_i (base : Nat) (ys : List Int) (v0 : Value) (a b c d : Int) (w : World) (h0 : a ≤ 9223372036854775807) (h1 : b ≤ 9223372036854775807) (h2 : c ≤ 9223372036854775807) (h3 : d ≤ 9223372036854775807) (hl : ys.length ≤ 1000000) (hb : base ≤ w.heap.size) (hown0 : w.ownsRow base 5 1 v0 ys.length (ys.map (Value.int .u8))) :
    Calls Tryd.prog 46 #[v0, .agg #[.int .i64 a, .int .i64 b, .int .i64 c, .int .i64 d]] w fun e w' => ∃ v', e = .returned v' ∧ AppP base (ys ++ numsL [a, b, c, d]) w v' w' := by
  have HO : Hid (w.ownsRow base 5 1 v0 ys.length (ys.map (Value.int .u8))) := hown0
  clear hown0
  go_enter Tryd.func46, Tryd.ntmps46
  go_wp2_with fail
  refine (appendNumbers_i base ys v0 [a, b, c, d] _ 4 3 _ (by intro n hn; simp at hn; omega) (by simp; omega) (by simp; omega) ((HO.out.alloc _).alloc _) ?_ (by decide)).mono ?_
  · have := heap_alloc_new (w.alloc (.cells #[.int .i64 a, .int .i64 b, .int .i64 c, .int .i64 d] 23)) (.cells #[.int .i64 a, .int .i64 b, .int .i64 c, .int .i64 d] 3)
    simpa using this
  rintro e w1 ⟨v1, rfl, h1⟩
  have HR : Hid (AppP base (ys ++ numsL [a, b, c, d]) w v1 w1) := ⟨h1.1, (((Kp5.refl base w).alloc hb _).alloc (by simp; omega) _).trans h1.2⟩
  clear h1
  go_wp2
  go_ret
  exact ⟨_, rfl, HR.out⟩

end Go.Proofs.YtnghhfgbobpnkapDoor
