/-
  The walk of the law FnExactHigherQc: the specification's answer and the program's are the same.
-/
import Derived.Test.YtnghhfgbobpnkanQcI
import Derived.Test.YtnghhfgbobpnkanFloatX
import Derived.Test.YtnghhfgbobpnkanBlkE
import Derived.Test.YtnghhfgbobpnkanBlkT
import Derived.Deep.CutRange
namespace Go.Proofs.Ytnghhfgbobpnkan.WFnExactHigherQc
open Go.RowKit Num

theorem up_below {W : World} : Up (Below W.heap.size W) := fun _ _ h hb => bt h hb

set_option maxRecDepth 100000 in
set_option maxHeartbeats 4000000 in
theorem walk (w : World) (p : QC) (_ : wfQ p) (q : QC) (_ : wfQ q) :
    Calls Try.prog 7 #[qcVal p, qcVal q] w fun e w' => e = .returned (.bool true) ∧ Below w.heap.size w w' := by
  obtain ⟨r, hr⟩ : ∃ r, r = higherT p q := ⟨_, rfl⟩
  obtain ⟨p0, p1, p2, p3⟩ := p
  obtain ⟨q0, q1, q2, q3⟩ := q
  obtain ⟨r0, r1, r2, r3⟩ := r
  have HSp : Hid (∀ x, Calls Try.prog 24 #[.agg #[.int .i64 p0, .int .i64 p1, .int .i64 p2, .int .i64 p3], .agg #[.int .i64 q0, .int .i64 q1, .int .i64 q2, .int .i64 q3]] x fun e w' => e = .returned (.agg #[.int .i64 r0, .int .i64 r1, .int .i64 r2, .int .i64 r3]) ∧ Below x.heap.size x w') := fun x => by have := higher_s (p0, p1, p2, p3) (q0, q1, q2, q3) x; rw [← hr] at this; exact this
  have HIp : Hid (∀ x, Calls Try.prog 25 #[.agg #[.int .i64 p0, .int .i64 p1, .int .i64 p2, .int .i64 p3], .agg #[.int .i64 q0, .int .i64 q1, .int .i64 q2, .int .i64 q3]] x fun e w' => e = .returned (.agg #[.int .i64 r0, .int .i64 r1, .int .i64 r2, .int .i64 r3]) ∧ Below x.heap.size x w') := fun x => by have := higher_i (p0, p1, p2, p3) (q0, q1, q2, q3) x; rw [← hr] at this; exact this
  have HCp : Hid (∀ x, Calls Try.prog 18 #[.agg #[.int .i64 p0, .int .i64 p1, .int .i64 p2, .int .i64 p3]] x fun e w' => e = .returned (.agg #[.int .i64 p0, .int .i64 p1, .int .i64 p2, .int .i64 p3]) ∧ Below x.heap.size x w') := fun x => toQc_any (p0, p1, p2, p3) x
  have HCq : Hid (∀ x, Calls Try.prog 18 #[.agg #[.int .i64 q0, .int .i64 q1, .int .i64 q2, .int .i64 q3]] x fun e w' => e = .returned (.agg #[.int .i64 q0, .int .i64 q1, .int .i64 q2, .int .i64 q3]) ∧ Below x.heap.size x w') := fun x => toQc_any (q0, q1, q2, q3) x
  clear hr
  unfold qcVal
  simp only
  obtain ⟨W, hW⟩ : ∃ W, W = (w.alloc (.cells #[.int .i64 p0, .int .i64 p1, .int .i64 p2, .int .i64 p3] 33)).alloc (.cells #[.int .i64 q0, .int .i64 q1, .int .i64 q2, .int .i64 q3] 33) := ⟨_, rfl⟩
  have HBW : Hid (Below w.heap.size w W) := (by rw [hW]; exact ba (ba (Below.refl _ _) _) _ : Below w.heap.size w W)
  have HP : Hid (W.heap[w.heap.size]? = some (.cells #[.int .i64 p0, .int .i64 p1, .int .i64 p2, .int .i64 p3] 33 (0, 0))) := (by rw [hW]; exact (((Below.refl _ _).alloc (Nat.le_refl _) _).block _ (by simp)).trans (heap_alloc_new w _) : W.heap[w.heap.size]? = _)
  have HQ : Hid (W.heap[w.heap.size + 1]? = some (.cells #[.int .i64 q0, .int .i64 q1, .int .i64 q2, .int .i64 q3] 33 (0, 0))) := (by rw [hW]; have := heap_alloc_new (w.alloc (.cells #[.int .i64 p0, .int .i64 p1, .int .i64 p2, .int .i64 p3] 33)) (.cells #[.int .i64 q0, .int .i64 q1, .int .i64 q2, .int .i64 q3] 33); simpa using this : W.heap[w.heap.size + 1]? = _)
  have lp : w.heap.size < W.heap.size := (Array.getElem?_eq_some_iff.1 HP.out).1
  have lq : w.heap.size + 1 < W.heap.size := (Array.getElem?_eq_some_iff.1 HQ.out).1
  go_enter Try.func7, Try.ntmps7
  go_wp2
  rw [← hW]
  clear hW
  refine wp_region_H (Below W.heap.size W) (by kernel_rfl) ?_
  show wpAnyH Try.prog _ _ _ _ (6 + 1) (Array.replicate 7 false) _ _
  refine fl_in (i := 5) (d := some 5) (obj := .cells #[.int .i64 0, .int .i64 0, .int .i64 0, .int .i64 0] 38 (0, 0)) (base := W.heap.size) (T := Below W.heap.size W) (f := 6) ?_ (Below.refl _ _).drew
  refine fl_take (j := 0) (e' := some 7) (v := .agg #[.int .i64 p0, .int .i64 p1, .int .i64 p2, .int .i64 p3]) rfl rfl rfl rfl (by kernel_rfl) (by kernel_rfl) (by kernel_rfl) (by kernel_rfl) (by kernel_rfl) (by decide) (by kernel_rfl) (fun _ _ _ h => h) (fun _ h => h) (Or.inl ⟨by rfl, ?_⟩) ?_
  · intro x hx
    obtain ⟨c0, c1, c2, c3⟩ := vote_cells ((hx.block _ lp).trans HP.out)
    go_simp
    try with_reducible rfl
  simp only [Act.put, List.setIfInBounds_toArray, List.set_cons_zero, List.set_cons_succ]
  refine fl_take (j := 2) (e' := some 9) (v := .agg #[.int .i64 q0, .int .i64 q1, .int .i64 q2, .int .i64 q3]) rfl rfl rfl rfl (by kernel_rfl) (by kernel_rfl) (by kernel_rfl) (by kernel_rfl) (by kernel_rfl) (by decide) (by kernel_rfl) (fun _ _ _ h => h) (fun _ h => h) (Or.inl ⟨by rfl, ?_⟩) ?_
  · intro x hx
    obtain ⟨c0, c1, c2, c3⟩ := vote_cells ((hx.block _ lq).trans HQ.out)
    go_simp
    try with_reducible rfl
  simp only [Act.put, List.setIfInBounds_toArray, List.set_cons_zero, List.set_cons_succ]
  refine fl_call_v (c := 1) (e' := some 8) (fn := 18) (args := #[.agg #[.int .i64 p0, .int .i64 p1, .int .i64 p2, .int .i64 p3]]) rfl rfl ⟨rfl, fun ρ x => ?_⟩ (fun _ h => h.size) up_below (fun _ h => h) rfl rfl (by kernel_rfl) (Or.inl (by kernel_rfl)) (by kernel_rfl) (by decide) (by kernel_rfl) (by rfl) (fun x => ?_) (fun x _ => HCp.out x) ?_
  · unfold flP
    go_simp
    try with_reducible rfl
  · go_simp
    try with_reducible rfl
  simp only [Act.put, List.setIfInBounds_toArray, List.set_cons_zero, List.set_cons_succ]
  refine fl_call_v (c := 3) (e' := some 10) (fn := 18) (args := #[.agg #[.int .i64 q0, .int .i64 q1, .int .i64 q2, .int .i64 q3]]) rfl rfl ⟨rfl, fun ρ x => ?_⟩ (fun _ h => h.size) up_below (fun _ h => h) rfl rfl (by kernel_rfl) (Or.inl (by kernel_rfl)) (by kernel_rfl) (by decide) (by kernel_rfl) (by rfl) (fun x => ?_) (fun x _ => HCq.out x) ?_
  · unfold flP
    go_simp
    try with_reducible rfl
  · go_simp
    try with_reducible rfl
  simp only [Act.put, List.setIfInBounds_toArray, List.set_cons_zero, List.set_cons_succ]
  refine fl_call_v (c := 4) (e' := some 11) (fn := 24) (args := #[.agg #[.int .i64 p0, .int .i64 p1, .int .i64 p2, .int .i64 p3], .agg #[.int .i64 q0, .int .i64 q1, .int .i64 q2, .int .i64 q3]]) rfl rfl ⟨rfl, fun ρ x => ?_⟩ (fun _ h => h.size) up_below (fun _ h => h) rfl rfl (by kernel_rfl) (Or.inl (by kernel_rfl)) (by kernel_rfl) (by decide) (by kernel_rfl) (by rfl) (fun x => ?_) (fun x _ => HSp.out x) ?_
  · unfold flP
    go_simp
    try with_reducible rfl
  · go_simp
    try with_reducible rfl
  simp only [Act.put, List.setIfInBounds_toArray, List.set_cons_zero, List.set_cons_succ]
  refine fl_end (s := 6) (cells := #[.int .i64 r0, .int .i64 r1, .int .i64 r2, .int .i64 r3]) (f := 0) rfl rfl ⟨rfl, fun ρ x => ?_⟩ (fun _ h => h.size) up_below (fun _ h => h) rfl rfl rfl rfl (by kernel_rfl) (by kernel_rfl) (by kernel_rfl) (fun N => rfl) (fun N => rfl) rfl (by kernel_rfl) rfl (by simp [Value.oneCell']) ?_
  · unfold flP
    go_simp
    try with_reducible rfl
  intro N x x1 hT hN hg hk hlt
  have HB1 : Hid (Below W.heap.size W x1) := hT.grown hg hT.size (fun y hy => by cases hy; exact hN)
  have HK1 : Hid (x1.heap[N]? = some (.cells #[.int .i64 r0, .int .i64 r1, .int .i64 r2, .int .i64 r3] 38 (0, 0))) := hk
  clear hT hg hk
  refine ⟨HB1.out, ?_⟩
  simp only [Act.put, List.setIfInBounds_toArray, List.set_cons_zero, List.set_cons_succ]
  unfold flP
  have hlp := Nat.lt_of_lt_of_le lp HB1.out.size
  have hlq := Nat.lt_of_lt_of_le lq HB1.out.size
  go_wp2
  refine wp_region_H (Below x1.heap.size x1) (by kernel_rfl) ?_
  show wpAnyH Try.prog _ _ _ _ (6 + 1) (Array.replicate 7 false) _ _
  refine fl_in (i := 5) (d := some 6) (obj := .cells #[.int .i64 0, .int .i64 0, .int .i64 0, .int .i64 0] 38 (0, 0)) (base := x1.heap.size) (T := Below x1.heap.size x1) (f := 6) ?_ (Below.refl _ _).drew
  refine fl_take (j := 0) (e' := some 12) (v := .agg #[.int .i64 p0, .int .i64 p1, .int .i64 p2, .int .i64 p3]) rfl rfl rfl rfl (by kernel_rfl) (by kernel_rfl) (by kernel_rfl) (by kernel_rfl) (by kernel_rfl) (by decide) (by kernel_rfl) (fun _ _ _ h => h) (fun _ h => h) (Or.inl ⟨by rfl, ?_⟩) ?_
  · intro x hx
    obtain ⟨c0, c1, c2, c3⟩ := vote_cells ((hx.block _ hlp).trans ((HB1.out.block _ lp).trans HP.out))
    go_simp
    try with_reducible rfl
  simp only [Act.put, List.setIfInBounds_toArray, List.set_cons_zero, List.set_cons_succ]
  refine fl_take (j := 2) (e' := some 14) (v := .agg #[.int .i64 q0, .int .i64 q1, .int .i64 q2, .int .i64 q3]) rfl rfl rfl rfl (by kernel_rfl) (by kernel_rfl) (by kernel_rfl) (by kernel_rfl) (by kernel_rfl) (by decide) (by kernel_rfl) (fun _ _ _ h => h) (fun _ h => h) (Or.inl ⟨by rfl, ?_⟩) ?_
  · intro x hx
    obtain ⟨c0, c1, c2, c3⟩ := vote_cells ((hx.block _ hlq).trans ((HB1.out.block _ lq).trans HQ.out))
    go_simp
    try with_reducible rfl
  simp only [Act.put, List.setIfInBounds_toArray, List.set_cons_zero, List.set_cons_succ]
  refine fl_call_v (c := 1) (e' := some 13) (fn := 18) (args := #[.agg #[.int .i64 p0, .int .i64 p1, .int .i64 p2, .int .i64 p3]]) rfl rfl ⟨rfl, fun ρ x => ?_⟩ (fun _ h => h.size) up_below (fun _ h => h) rfl rfl (by kernel_rfl) (Or.inl (by kernel_rfl)) (by kernel_rfl) (by decide) (by kernel_rfl) (by rfl) (fun x => ?_) (fun x _ => HCp.out x) ?_
  · unfold flP
    go_simp
    try with_reducible rfl
  · go_simp
    try with_reducible rfl
  simp only [Act.put, List.setIfInBounds_toArray, List.set_cons_zero, List.set_cons_succ]
  refine fl_call_v (c := 3) (e' := some 15) (fn := 18) (args := #[.agg #[.int .i64 q0, .int .i64 q1, .int .i64 q2, .int .i64 q3]]) rfl rfl ⟨rfl, fun ρ x => ?_⟩ (fun _ h => h.size) up_below (fun _ h => h) rfl rfl (by kernel_rfl) (Or.inl (by kernel_rfl)) (by kernel_rfl) (by decide) (by kernel_rfl) (by rfl) (fun x => ?_) (fun x _ => HCq.out x) ?_
  · unfold flP
    go_simp
    try with_reducible rfl
  · go_simp
    try with_reducible rfl
  simp only [Act.put, List.setIfInBounds_toArray, List.set_cons_zero, List.set_cons_succ]
  refine fl_call_v (c := 4) (e' := some 16) (fn := 25) (args := #[.agg #[.int .i64 p0, .int .i64 p1, .int .i64 p2, .int .i64 p3], .agg #[.int .i64 q0, .int .i64 q1, .int .i64 q2, .int .i64 q3]]) rfl rfl ⟨rfl, fun ρ x => ?_⟩ (fun _ h => h.size) up_below (fun _ h => h) rfl rfl (by kernel_rfl) (Or.inl (by kernel_rfl)) (by kernel_rfl) (by decide) (by kernel_rfl) (by rfl) (fun x => ?_) (fun x _ => HIp.out x) ?_
  · unfold flP
    go_simp
    try with_reducible rfl
  · go_simp
    try with_reducible rfl
  simp only [Act.put, List.setIfInBounds_toArray, List.set_cons_zero, List.set_cons_succ]
  refine fl_end (s := 6) (cells := #[.int .i64 r0, .int .i64 r1, .int .i64 r2, .int .i64 r3]) (f := 0) rfl rfl ⟨rfl, fun ρ x => ?_⟩ (fun _ h => h.size) up_below (fun _ h => h) rfl rfl rfl rfl (by kernel_rfl) (by kernel_rfl) (by kernel_rfl) (fun N => rfl) (fun N => rfl) rfl (by kernel_rfl) rfl (by simp [Value.oneCell']) ?_
  · unfold flP
    go_simp
    try with_reducible rfl
  intro M y x2 hT hM hg hk hlt2
  have HB2 : Hid (Below x1.heap.size x1 x2) := hT.grown hg hT.size (fun y hy => by cases hy; exact hM)
  have HK2 : Hid (x2.heap[M]? = some (.cells #[.int .i64 r0, .int .i64 r1, .int .i64 r2, .int .i64 r3] 38 (0, 0))) := hk
  clear hT hg hk
  refine ⟨HB2.out, ?_⟩
  simp only [Act.put, List.setIfInBounds_toArray, List.set_cons_zero, List.set_cons_succ]
  unfold flP
  obtain ⟨c0, c1, c2, c3⟩ := vote_cells HK2.out
  obtain ⟨e0, e1, e2, e3⟩ := vote_cells ((HB2.out.block N hlt).trans HK1.out)
  go_wp2_with fail
  clear c0 c1 c2 c3 e0 e1 e2 e3
  refine (eqQc_yes (r0, r1, r2, r3) x2).mono ?_
  rintro e x3 ⟨rfl, hb3⟩
  go_wp2
  go_ret
  exact ⟨rfl, bt HBW.out (bt (bt HB1.out HB2.out) hb3)⟩

end Go.Proofs.Ytnghhfgbobpnkan.WFnExactHigherQc
