/-
  The contracts of the program's HeightOf, Extends, Clash.
-/
import Derived.RangeFuncFrom
import Derived.RangeFuncBox
import Derived.Test.YtnghhfgbobpnkarGreatRWayI
namespace Go.Proofs.YtnghhfgbobpnkarGreatR
open Go.RowKit Num Go.Shelf

attribute [local go_sem] Oper.semAt_some

/-- four boxes laid one behind the other -/
theorem four_box (w : World) (t0 t1 t2 t3 : TypeId) (v0 v1 v2 v3 : Value) (W : World) (hW : W = (((w.alloc (.cells #[v0] t0)).alloc (.cells #[v1] t1)).alloc (.cells #[v2] t2)).alloc (.cells #[v3] t3)) :
    (Boxed W w.heap.size t0 v0 ∧ Boxed W (w.heap.size + 1) t1 v1 ∧ Boxed W (w.heap.size + 1 + 1) t2 v2 ∧ Boxed W (w.heap.size + 1 + 1 + 1) t3 v3) ∧ W.heap.size = w.heap.size + 4 ∧ Below w.heap.size w W := by
  have b1 := Boxed.new (w.alloc (.cells #[v0] t0)) t1 v1
  have b2 := Boxed.new ((w.alloc (.cells #[v0] t0)).alloc (.cells #[v1] t1)) t2 v2
  have b3 := Boxed.new (((w.alloc (.cells #[v0] t0)).alloc (.cells #[v1] t1)).alloc (.cells #[v2] t2)) t3 v3
  simp only [World.size_alloc] at b1 b2 b3
  subst hW
  exact ⟨⟨(((Boxed.new w t0 v0).alloc _).alloc _).alloc _, (b1.alloc _).alloc _, b2.alloc _, b3⟩, by simp, ba (ba (ba (ba (Below.refl _ _) _) _) _) _⟩
/-- .. five -/
theorem five_box (w : World) (t0 t1 t2 t3 t4 : TypeId) (v0 v1 v2 v3 v4 : Value) (W : World) (hW : W = ((((w.alloc (.cells #[v0] t0)).alloc (.cells #[v1] t1)).alloc (.cells #[v2] t2)).alloc (.cells #[v3] t3)).alloc (.cells #[v4] t4)) :
    (Boxed W w.heap.size t0 v0 ∧ Boxed W (w.heap.size + 1) t1 v1 ∧ Boxed W (w.heap.size + 1 + 1) t2 v2 ∧ Boxed W (w.heap.size + 1 + 1 + 1) t3 v3 ∧ Boxed W (w.heap.size + 1 + 1 + 1 + 1) t4 v4) ∧ W.heap.size = w.heap.size + 5 ∧ Below w.heap.size w W := by
  obtain ⟨⟨b0, b1, b2, b3⟩, hs, hb⟩ := four_box w t0 t1 t2 t3 v0 v1 v2 v3 _ rfl
  have b4 := Boxed.new ((((w.alloc (.cells #[v0] t0)).alloc (.cells #[v1] t1)).alloc (.cells #[v2] t2)).alloc (.cells #[v3] t3)) t4 v4
  rw [hs] at b4
  subst hW
  exact ⟨⟨b0.alloc _, b1.alloc _, b2.alloc _, b3.alloc _, b4⟩, by rw [World.size_alloc, hs], ba hb _⟩
theorem kpW_set (n₀ Bs B : Nat) (W : World) (v : Value) (hB : n₀ ≤ B) (hne : Bs < W.heap.size) (hn : Bs ≠ B) : KpW n₀ Bs W (W.setCell ⟨B, 0, none⟩ v) :=
  ⟨(Below.refl n₀ W).setCell (p := ⟨B, 0, none⟩) hB _, (grownBy_setCell' W B v).block Bs hne (fun e => hn (by cases e; rfl))⟩

def metB (under : Int) (pre : List Int) : Bool := pre.any fun x => decide (x = under)
theorem metB_hit {under : Int} {pre : List Int} (h : metB under pre = true) (x : Int) : metB under (pre ++ [x]) = true := by unfold metB at h ⊢; rw [List.any_append, h]; rfl
theorem metB_at (under : Int) (pre : List Int) : metB under (pre ++ [under]) = true := by unfold metB; simp
theorem metB_miss {under x : Int} {pre : List Int} (h : metB under pre = false) (hx : x ≠ under) : metB under (pre ++ [x]) = false := by unfold metB at h ⊢; rw [List.any_append, h]; simpa using hx

set_option maxRecDepth 100000 in
set_option maxHeartbeats 2000000 in
theorem extends_i (ps : TL) (v : Value) (k under : Int) (w : World) (hT : TreeQ w v ps) (hl : (ps.length : Int) ≤ 1048576) :
    Calls Tryz.prog 46 #[v, .int .i64 k, .int .i64 under] w fun e w' => e = .returned (.bool (extT (bks ps) k under)) ∧ Below w.heap.size w w' := by
  obtain ⟨a, cap, rfl, hr⟩ := treeq_cells hT
  have HR : Hid (0 < ps.length → ∃ g off, a = some ⟨g, off, none⟩ ∧ g < w.heap.size ∧ ∀ j (_ : j < ps.length), w.cell? ⟨g, off + j * 7, none⟩ = some (.int .i64 ps[j].1.1.1)) := fun h => by
    obtain ⟨g, off, e, hg, hc⟩ := hr h
    exact ⟨g, off, e, hg, fun j hj => (hc j hj).1⟩
  clear hr hT
  refine (callsIn_wide (n := 9)).1 ?_
  refine callsIn_of_wp_marks Tryz.func46 rfl trivial ?_ rfl
  simp only [Tryz.ntmps46, List.size_toArray, List.length_cons, List.length_nil, Nat.reduceAdd, Nat.reduceSub, Array.replicate_succ, Array.replicate_zero, List.push_toArray, List.append_toArray, List.nil_append, List.cons_append]
  gi_wp2_with (refine ⟨trivial, ?_⟩; gi_at_call 86; refine (way_in Fence.wide _ trivial rfl _ _ _ _ _).mono ?_; rintro e w3 ⟨rfl, rfl⟩)
  obtain ⟨W0, hW0⟩ : ∃ W0, W0 = (((((w.alloc (Obj.cells #[Value.int IntKind.i64 under] 3)).alloc (Obj.cells #[Value.bool false] 4)).alloc (Obj.cells #[Value.bool false] 4)).alloc (Obj.cells #[Value.slice a (List.length ps) cap] 45)).alloc (Obj.cells #[Value.int IntKind.i64 k] 3)) := ⟨_, rfl⟩
  obtain ⟨⟨bU, bR, bM, bT, bK⟩, hs0, hB0⟩ := five_box w _ _ _ _ _ _ _ _ _ _ W0 hW0
  rw [← hW0]
  clear hW0
  refine wpIn_rangeFunc_ownF rfl (by omega) (gf := 127) (lb := #[.pointer (some ⟨w.heap.size + 1 + 1 + 1, 0, none⟩), .pointer (some ⟨w.heap.size + 1 + 1 + 1 + 1, 0, none⟩)]) rfl trivial (enters_of Tryz.func127 (by kernel_rfl) rfl)
    (way_stops Fence.wide 8 trivial rfl (by omega) (w.heap.size + 1 + 1 + 1) (w.heap.size + 1 + 1 + 1 + 1) w.heap.size cap a ps k hl W0 bT.lt bK.lt (by omega) bT.cell bK.cell (fun h => by
      obtain ⟨g, off, e, hg, hc⟩ := HR.out h
      exact ⟨g, off, e, hg, fun j hj => (hB0.cell (by exact hg)).trans (hc j hj)⟩)) kpW_t (kpW_b (by omega) bT.lt) (Below.refl _ _) (fun _ => rfl)
    (fun pre W => ((((Boxed W (w.heap.size + 1) 4 (.bool false) ∧ Boxed W (w.heap.size + 1 + 1) 4 (.bool (metB under pre))) ∧ Boxed W w.heap.size 3 (.int .i64 under)) ∧ Boxed W (w.heap.size + 1 + 1 + 1) 45 (.slice a ps.length cap)) ∧ (∀ y ∈ pre, y ≠ -1)) ∧ Below w.heap.size w W)
    (fun c pre W => (Boxed W (w.heap.size + 1) 4 (.bool false) ∧ (c = .ret ∧ (-1 : Int) ∈ pre)) ∧ Below w.heap.size w W)
    (OwnFrom.and (OwnFrom.and (OwnFrom.and (OwnFrom.and (OwnFrom.and (Own.from (boxed_own _ _ _) _) (Own.from (boxed_own (w.heap.size + 1 + 1) 4 (fun pre : List Int => .bool (metB under pre))) _)) (Own.from (boxed_own _ _ _) _)) (Own.from (boxed_own _ _ _) _)) (ownFrom_pure _ _)) (ownFrom_below (Nat.le_refl _) (by omega)))
    (fun c => OwnFrom.and (OwnFrom.and (Own.from (boxed_own _ _ _) _) (ownFrom_pure _ _)) (ownFrom_below (Nat.le_refl _) (by omega)))
    ⟨⟨⟨⟨⟨bR, bM⟩, bU⟩, bT⟩, by simp⟩, hB0⟩
    (fun x => { tmps := #[Value.slice a (List.length ps) cap, Value.int IntKind.i64 k, Value.int IntKind.i64 under, undef, undef, Value.pointer (some ⟨w.heap.size, 0, none⟩), Value.pointer (some ⟨w.heap.size + 1, 0, none⟩), Value.pointer (some ⟨w.heap.size + 1 + 1, 0, none⟩), .int .i64 x, Value.slice a (List.length ps) cap, Value.int IntKind.i64 k, .func (.func 127) #[] #[.pointer (some ⟨w.heap.size + 1 + 1 + 1, 0, none⟩), .pointer (some ⟨w.heap.size + 1 + 1 + 1 + 1, 0, none⟩)], .int .i64 x, undef, undef, undef, undef, undef, undef, undef, undef, undef], defers := [] })
    ?assign ?body ?done ?stop
  case assign =>
    intro l x W K hK
    unfold encW
    gi_wp2
    exact hK
  case body =>
    rintro l pre x W ⟨⟨⟨⟨⟨cR, cM⟩, cU⟩, cT⟩, hp⟩, hB⟩ hlt
    have x1 := cR.cell
    have x2 := cR.frozen
    have x3 := cM.cell
    have x4 := cM.frozen
    have x5 := cU.cell
    by_cases hx : x = -1
    · subst hx
      gi_wp2
      exact ⟨KeepsOthers.setCell _ _ _, ⟨cR.set _, rfl, by simp⟩, hB.setCell (p := ⟨w.heap.size + 1, 0, none⟩) (by simp) _⟩
    · have d0 : (x == -1) = false := by simpa using hx
      have hp2 : ∀ y ∈ pre ++ [x], y ≠ -1 := fun y hy => (List.mem_append.1 hy).elim (hp y) (fun e => by simp at e; subst e; exact hx)
      have HP2 : Hid (∀ y ∈ pre ++ [x], y ≠ -1) := hp2
      clear hp hp2 hx
      cases hm : metB under pre with
      | true =>
        have HM : Hid (metB under (pre ++ [x]) = true) := metB_hit hm x
        rw [hm] at x3
        clear hm
        gi_wp2
        exact ⟨KeepsOthers.setCell _ _ _, kpW_set _ _ (w.heap.size + 1 + 1) _ _ (by omega) cT.lt (by omega), ⟨⟨⟨⟨cR.other (by omega) _, by rw [HM.out]; exact cM.set _⟩, cU.other (by omega) _⟩, cT.other (by omega) _⟩, HP2.out⟩, hB.setCell (p := ⟨w.heap.size + 1 + 1, 0, none⟩) (by simp; omega) _⟩
      | false =>
        rw [hm] at x3
        by_cases hu : x = under
        · subst hu
          have HM : Hid (metB x (pre ++ [x]) = true) := metB_at x pre
          have d1 : (x == x) = true := by simp
          clear hm
          gi_wp2
          exact ⟨KeepsOthers.setCell _ _ _, kpW_set _ _ (w.heap.size + 1 + 1) _ _ (by omega) cT.lt (by omega), ⟨⟨⟨⟨cR.other (by omega) _, by rw [HM.out]; exact cM.set _⟩, cU.other (by omega) _⟩, cT.other (by omega) _⟩, HP2.out⟩, hB.setCell (p := ⟨w.heap.size + 1 + 1, 0, none⟩) (by simp; omega) _⟩
        · have HM : Hid (metB under (pre ++ [x]) = false) := metB_miss hm hu
          have d1 : (x == under) = false := by simpa using hu
          clear hm hu
          gi_wp2
          exact ⟨KeepsOthers.setCell _ _ _, kpW_set _ _ (w.heap.size + 1 + 1) _ _ (by omega) cT.lt (by omega), ⟨⟨⟨⟨cR.other (by omega) _, by rw [HM.out]; exact cM.set _⟩, cU.other (by omega) _⟩, cT.other (by omega) _⟩, HP2.out⟩, hB.setCell (p := ⟨w.heap.size + 1 + 1, 0, none⟩) (by simp; omega) _⟩
  case done =>
    rintro D ys W hD rfl ⟨⟨⟨⟨⟨cR, cM⟩, cU⟩, cT⟩, hp⟩, hB⟩ hK
    obtain ⟨lx, hlx⟩ := way_all hp
    have HE : Hid (extT (bks ps) k under = metB under (way (bks ps) k)) := (by rw [extT_some hlx, way_some hlx, extL_way]; rfl : extT (bks ps) k under = metB under (way (bks ps) k))
    have x1 := cR.cell
    have x2 := cR.frozen
    have x3 := cM.cell
    gi_wp2
    have hK' := (KeepsOthers.setCell W ⟨w.heap.size + 1, 0, none⟩ (.bool (metB under (way (bks ps) k)))).same D _ hK rfl
    refine ⟨by simp, .inl ⟨_, _, rfl, run_takeDeferred hK', ?_⟩⟩
    have hc5 := cell_kept (cR.set (.bool (metB under (way (bks ps) k)))).cell (grownBy_putObj' _ D (.deferred none)) (fun r e => by cases e; exact ⟨_, hK', rfl⟩)
    refine ⟨.bool (metB under (way (bks ps) k)), ?_, by rw [HE.out], (hB.setCell (p := ⟨w.heap.size + 1, 0, none⟩) (by simp) _).trans (belowK_b (w := w) (Nat.le_refl _) _ D _ _ (by omega) hK' rfl rfl)⟩
    simp [results, Tryz.results46, go_sem, hc5]
  case stop =>
    rintro D c pre W hD hpre ⟨⟨cR, rfl, hm⟩, hB⟩ hK
    have HE : Hid (extT (bks ps) k under = false) := extT_none (way_bad hpre hm)
    gi_wp2
    refine ⟨by simp, .inl ⟨_, _, rfl, run_takeDeferred hK, ?_⟩⟩
    have hc5 := cell_kept cR.cell (grownBy_putObj' _ D (.deferred none)) (fun r e => by cases e; exact ⟨_, hK, rfl⟩)
    refine ⟨.bool false, ?_, by rw [HE.out], hB.trans (belowK_b (w := w) (Nat.le_refl _) W D _ _ (by omega) hK rfl rfl)⟩
    simp [results, Tryz.results46, go_sem, hc5]


end Go.Proofs.YtnghhfgbobpnkarGreatR
