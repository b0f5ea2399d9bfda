/-
  The contracts of the program's HeightOf, Extends, Clash.
-/
import Derived.RangeFuncFrom
import Derived.RangeFuncBox
import Derived.Test.YtjdddcldbfhbiabWayI
namespace Go.Proofs.Ytjdddcldbfhbiab
open Go.RowKit Num Go.Shelf

attribute [local go_sem] Oper.semAt_some

/-- four boxes laid one behind the other -/
theorem four_box (w : World) (t0 t1 t2 t3 : TypeId) (v0 v1 v2 v3 : Value) (W : World) (hW : W = (((w.alloc (.cells #[v0] t0)).alloc (.cells #[v1] t1)).alloc (.cells #[v2] t2)).alloc (.cells #[v3] t3)) :
    (Boxed W w.heap.size t0 v0 ∧ Boxed W (w.heap.size + 1) t1 v1 ∧ Boxed W (w.heap.size + 1 + 1) t2 v2 ∧ Boxed W (w.heap.size + 1 + 1 + 1) t3 v3) ∧ W.heap.size = w.heap.size + 4 ∧ Below w.heap.size w W := by
  have b1 := Boxed.new (w.alloc (.cells #[v0] t0)) t1 v1
  have b2 := Boxed.new ((w.alloc (.cells #[v0] t0)).alloc (.cells #[v1] t1)) t2 v2
  have b3 := Boxed.new (((w.alloc (.cells #[v0] t0)).alloc (.cells #[v1] t1)).alloc (.cells #[v2] t2)) t3 v3
  simp only [World.size_alloc] at b1 b2 b3
  subst hW
  exact ⟨⟨(((Boxed.new w t0 v0).alloc _).alloc _).alloc _, (b1.alloc _).alloc _, b2.alloc _, b3⟩, by simp, ba (ba (ba (ba (Below.refl _ _) _) _) _) _⟩
/-- .. five -/
theorem five_box (w : World) (t0 t1 t2 t3 t4 : TypeId) (v0 v1 v2 v3 v4 : Value) (W : World) (hW : W = ((((w.alloc (.cells #[v0] t0)).alloc (.cells #[v1] t1)).alloc (.cells #[v2] t2)).alloc (.cells #[v3] t3)).alloc (.cells #[v4] t4)) :
    (Boxed W w.heap.size t0 v0 ∧ Boxed W (w.heap.size + 1) t1 v1 ∧ Boxed W (w.heap.size + 1 + 1) t2 v2 ∧ Boxed W (w.heap.size + 1 + 1 + 1) t3 v3 ∧ Boxed W (w.heap.size + 1 + 1 + 1 + 1) t4 v4) ∧ W.heap.size = w.heap.size + 5 ∧ Below w.heap.size w W := by
  obtain ⟨⟨b0, b1, b2, b3⟩, hs, hb⟩ := four_box w t0 t1 t2 t3 v0 v1 v2 v3 _ rfl
  have b4 := Boxed.new ((((w.alloc (.cells #[v0] t0)).alloc (.cells #[v1] t1)).alloc (.cells #[v2] t2)).alloc (.cells #[v3] t3)) t4 v4
  rw [hs] at b4
  subst hW
  exact ⟨⟨b0.alloc _, b1.alloc _, b2.alloc _, b3.alloc _, b4⟩, by rw [World.size_alloc, hs], ba hb _⟩
theorem kpW_set (n₀ Bs B : Nat) (W : World) (v : Value) (hB : n₀ ≤ B) (hne : Bs < W.heap.size) (hn : Bs ≠ B) : KpW n₀ Bs W (W.setCell ⟨B, 0, none⟩ v) :=
  ⟨(Below.refl n₀ W).setCell (p := ⟨B, 0, none⟩) hB _, (grownBy_setCell' W B v).block Bs hne (fun e => hn (by cases e; rfl))⟩

set_option maxRecDepth 100000 in
set_option maxHeartbeats 2000000 in
theorem height_i (ps : TL) (v : Value) (k : Int) (w : World) (hT : TreeQ w v ps) (hl : (ps.length : Int) ≤ 1048576) :
    Calls Try.prog 13 #[v, .int .i64 k] w fun e w' => e = .returned (.int .i64 (heightT (bks ps) k)) ∧ Below w.heap.size w w' := by
  obtain ⟨a, cap, rfl, hr⟩ := treeq_cells hT
  have HR : Hid (0 < ps.length → ∃ g off, a = some ⟨g, off, none⟩ ∧ g < w.heap.size ∧ ∀ j (_ : j < ps.length), w.cell? ⟨g, off + j * 7, none⟩ = some (.int .i64 ps[j].1.1.1)) := fun h => by
    obtain ⟨g, off, e, hg, hc⟩ := hr h
    exact ⟨g, off, e, hg, fun j hj => (hc j hj).1⟩
  have hwl := way_len (bks ps) k
  rw [bks_len] at hwl
  clear hr hT
  refine (callsIn_wide (n := 9)).1 ?_
  refine callsIn_of_wp_marks Try.func13 rfl trivial ?_ rfl
  simp only [Try.ntmps13, List.size_toArray, List.length_cons, List.length_nil, Nat.reduceAdd, Nat.reduceSub, Array.replicate_succ, Array.replicate_zero, List.push_toArray, List.append_toArray, List.nil_append, List.cons_append]
  gi_wp2_with (refine ⟨trivial, ?_⟩; gi_at_call 57; refine (way_in Fence.wide _ trivial rfl _ _ _ _ _).mono ?_; rintro e w3 ⟨rfl, rfl⟩)
  obtain ⟨W0, hW0⟩ : ∃ W0, W0 = ((((w.alloc (Obj.cells #[Value.int IntKind.i64 0] 3)).alloc (Obj.cells #[Value.int IntKind.i64 (-1)] 3)).alloc (Obj.cells #[Value.slice a (List.length ps) cap] 24)).alloc (Obj.cells #[Value.int IntKind.i64 k] 3)) := ⟨_, rfl⟩
  obtain ⟨⟨bR, bH, bT, bK⟩, hs0, hB0⟩ := four_box w _ _ _ _ _ _ _ _ W0 hW0
  rw [← hW0]
  clear hW0
  refine wpIn_rangeFunc_ownF rfl (by omega) (gf := 79) (lb := #[.pointer (some ⟨w.heap.size + 1 + 1, 0, none⟩), .pointer (some ⟨w.heap.size + 1 + 1 + 1, 0, none⟩)]) rfl trivial (enters_of Try.func79 (by kernel_rfl) rfl)
    (way_stops Fence.wide 8 trivial rfl (by omega) (w.heap.size + 1 + 1) (w.heap.size + 1 + 1 + 1) w.heap.size cap a ps k hl W0 bT.lt bK.lt (by omega) bT.cell bK.cell (fun h => by
      obtain ⟨g, off, e, hg, hc⟩ := HR.out h
      exact ⟨g, off, e, hg, fun j hj => (hB0.cell (by exact hg)).trans (hc j hj)⟩)) kpW_t (kpW_b (by omega) bT.lt) (Below.refl _ _) (fun _ => rfl)
    (fun pre W => (((Boxed W w.heap.size 3 (.int .i64 0) ∧ Boxed W (w.heap.size + 1) 3 (.int .i64 ((pre.length : Int) - 1))) ∧ Boxed W (w.heap.size + 1 + 1) 24 (.slice a ps.length cap)) ∧ (∀ y ∈ pre, y ≠ -1)) ∧ Below w.heap.size w W)
    (fun c pre W => (Boxed W w.heap.size 3 (.int .i64 (-1)) ∧ (c = .ret ∧ (-1 : Int) ∈ pre)) ∧ Below w.heap.size w W)
    (OwnFrom.and (OwnFrom.and (OwnFrom.and (OwnFrom.and (Own.from (boxed_own _ _ _) _) (Own.from (boxed_own (w.heap.size + 1) 3 (fun pre : List Int => .int .i64 ((pre.length : Int) - 1))) _)) (Own.from (boxed_own _ _ _) _)) (ownFrom_pure _ _)) (ownFrom_below (Nat.le_refl _) (by omega)))
    (fun c => OwnFrom.and (OwnFrom.and (Own.from (boxed_own _ _ _) _) (ownFrom_pure _ _)) (ownFrom_below (Nat.le_refl _) (by omega)))
    ⟨⟨⟨⟨bR, bH⟩, bT⟩, by simp⟩, hB0⟩
    (fun x => { tmps := #[Value.slice a (List.length ps) cap, Value.int IntKind.i64 k, undef, undef, Value.pointer (some ⟨w.heap.size, 0, none⟩), Value.pointer (some ⟨w.heap.size + 1, 0, none⟩), .int .i64 x, Value.slice a (List.length ps) cap, Value.int IntKind.i64 k, .func (.func 79) #[] #[.pointer (some ⟨w.heap.size + 1 + 1, 0, none⟩), .pointer (some ⟨w.heap.size + 1 + 1 + 1, 0, none⟩)], .int .i64 x, undef, undef, undef, undef, undef], defers := [] })
    ?assign ?body ?done ?stop
  case assign =>
    intro l x W K hK
    unfold encW
    gi_wp2
    exact hK
  case body =>
    rintro l pre x W ⟨⟨⟨⟨cR, cH⟩, cT⟩, hp⟩, hB⟩ hlt
    have x1 := cR.cell
    have x2 := cR.frozen
    have x3 := cH.cell
    have x4 := cH.frozen
    have hpl : (pre.length : Int) ≤ 1048577 := by omega
    gi_wp2
    · rename_i hx
      obtain rfl : x = -1 := eq_of_beq hx
      exact ⟨KeepsOthers.setCell _ _ _, ⟨cR.set _, rfl, by simp⟩, hB.setCell (p := ⟨w.heap.size, 0, none⟩) (Nat.le_refl _) _⟩
    · rename_i hx
      have hx' : x ≠ -1 := by simpa using hx
      refine ⟨KeepsOthers.setCell _ _ _, kpW_set _ _ (w.heap.size + 1) _ _ (by omega) cT.lt (by omega), ⟨⟨⟨cR.other (by omega) _, ?_⟩, cT.other (by omega) _⟩, fun y hy => (List.mem_append.1 hy).elim (hp y) (fun e => by simp at e; subst e; exact hx')⟩, hB.setCell (p := ⟨w.heap.size + 1, 0, none⟩) (by simp) _⟩
      rw [show (((pre ++ [x]).length : Nat) : Int) - 1 = (pre.length : Int) by simp]
      exact cH.set _
  case done =>
    rintro D ys W hD rfl ⟨⟨⟨⟨cR, cH⟩, cT⟩, hp⟩, hB⟩ hK
    obtain ⟨lx, hlx⟩ := way_all hp
    have HE : Hid (heightT (bks ps) k = ((way (bks ps) k).length : Int) - 1) := (by rw [heightT_some hlx, way_some hlx, List.length_append, intsN_len]; simp : heightT (bks ps) k = ((way (bks ps) k).length : Int) - 1)
    have x1 := cR.cell
    have x2 := cR.frozen
    have x3 := cH.cell
    gi_wp2
    have hK' := (KeepsOthers.setCell W ⟨w.heap.size, 0, none⟩ (.int .i64 (((way (bks ps) k).length : Int) - 1))).same D _ hK rfl
    refine ⟨by simp, .inl ⟨_, _, rfl, run_takeDeferred hK', ?_⟩⟩
    have hc5 := cell_kept (cR.set (.int .i64 (((way (bks ps) k).length : Int) - 1))).cell (grownBy_putObj' _ D (.deferred none)) (fun r e => by cases e; exact ⟨_, hK', rfl⟩)
    refine ⟨.int .i64 (((way (bks ps) k).length : Int) - 1), ?_, by rw [HE.out], (hB.setCell (p := ⟨w.heap.size, 0, none⟩) (Nat.le_refl _) _).trans (belowK_b (w := w) (Nat.le_refl _) _ D _ _ (by omega) hK' rfl rfl)⟩
    simp [results, Try.results13, go_sem, hc5]
  case stop =>
    rintro D c pre W hD hpre ⟨⟨cR, rfl, hm⟩, hB⟩ hK
    have HE : Hid (heightT (bks ps) k = -1) := heightT_none (way_bad hpre hm)
    gi_wp2
    refine ⟨by simp, .inl ⟨_, _, rfl, run_takeDeferred hK, ?_⟩⟩
    have hc5 := cell_kept cR.cell (grownBy_putObj' _ D (.deferred none)) (fun r e => by cases e; exact ⟨_, hK, rfl⟩)
    refine ⟨.int .i64 (-1), ?_, by rw [HE.out], hB.trans (belowK_b (w := w) (Nat.le_refl _) W D _ _ (by omega) hK rfl rfl)⟩
    simp [results, Try.results13, go_sem, hc5]

def metB (under : Int) (pre : List Int) : Bool := pre.any fun x => decide (x = under)
theorem metB_hit {under : Int} {pre : List Int} (h : metB under pre = true) (x : Int) : metB under (pre ++ [x]) = true := by unfold metB at h ⊢; rw [List.any_append, h]; rfl
theorem metB_at (under : Int) (pre : List Int) : metB under (pre ++ [under]) = true := by unfold metB; simp
theorem metB_miss {under x : Int} {pre : List Int} (h : metB under pre = false) (hx : x ≠ under) : metB under (pre ++ [x]) = false := by unfold metB at h ⊢; rw [List.any_append, h]; simpa using hx

set_option maxRecDepth 100000 in
set_option maxHeartbeats 2000000 in
theorem extends_i (ps : TL) (v : Value) (k under : Int) (w : World) (hT : TreeQ w v ps) (hl : (ps.length : Int) ≤ 1048576) :
    Calls Try.prog 12 #[v, .int .i64 k, .int .i64 under] w fun e w' => e = .returned (.bool (extT (bks ps) k under)) ∧ Below w.heap.size w w' := by
  obtain ⟨a, cap, rfl, hr⟩ := treeq_cells hT
  have HR : Hid (0 < ps.length → ∃ g off, a = some ⟨g, off, none⟩ ∧ g < w.heap.size ∧ ∀ j (_ : j < ps.length), w.cell? ⟨g, off + j * 7, none⟩ = some (.int .i64 ps[j].1.1.1)) := fun h => by
    obtain ⟨g, off, e, hg, hc⟩ := hr h
    exact ⟨g, off, e, hg, fun j hj => (hc j hj).1⟩
  clear hr hT
  refine (callsIn_wide (n := 9)).1 ?_
  refine callsIn_of_wp_marks Try.func12 rfl trivial ?_ rfl
  simp only [Try.ntmps12, List.size_toArray, List.length_cons, List.length_nil, Nat.reduceAdd, Nat.reduceSub, Array.replicate_succ, Array.replicate_zero, List.push_toArray, List.append_toArray, List.nil_append, List.cons_append]
  gi_wp2_with (refine ⟨trivial, ?_⟩; gi_at_call 57; refine (way_in Fence.wide _ trivial rfl _ _ _ _ _).mono ?_; rintro e w3 ⟨rfl, rfl⟩)
  obtain ⟨W0, hW0⟩ : ∃ W0, W0 = (((((w.alloc (Obj.cells #[Value.int IntKind.i64 under] 3)).alloc (Obj.cells #[Value.bool false] 4)).alloc (Obj.cells #[Value.bool false] 4)).alloc (Obj.cells #[Value.slice a (List.length ps) cap] 24)).alloc (Obj.cells #[Value.int IntKind.i64 k] 3)) := ⟨_, rfl⟩
  obtain ⟨⟨bU, bR, bM, bT, bK⟩, hs0, hB0⟩ := five_box w _ _ _ _ _ _ _ _ _ _ W0 hW0
  rw [← hW0]
  clear hW0
  refine wpIn_rangeFunc_ownF rfl (by omega) (gf := 79) (lb := #[.pointer (some ⟨w.heap.size + 1 + 1 + 1, 0, none⟩), .pointer (some ⟨w.heap.size + 1 + 1 + 1 + 1, 0, none⟩)]) rfl trivial (enters_of Try.func79 (by kernel_rfl) rfl)
    (way_stops Fence.wide 8 trivial rfl (by omega) (w.heap.size + 1 + 1 + 1) (w.heap.size + 1 + 1 + 1 + 1) w.heap.size cap a ps k hl W0 bT.lt bK.lt (by omega) bT.cell bK.cell (fun h => by
      obtain ⟨g, off, e, hg, hc⟩ := HR.out h
      exact ⟨g, off, e, hg, fun j hj => (hB0.cell (by exact hg)).trans (hc j hj)⟩)) kpW_t (kpW_b (by omega) bT.lt) (Below.refl _ _) (fun _ => rfl)
    (fun pre W => ((((Boxed W (w.heap.size + 1) 4 (.bool false) ∧ Boxed W (w.heap.size + 1 + 1) 4 (.bool (metB under pre))) ∧ Boxed W w.heap.size 3 (.int .i64 under)) ∧ Boxed W (w.heap.size + 1 + 1 + 1) 24 (.slice a ps.length cap)) ∧ (∀ y ∈ pre, y ≠ -1)) ∧ Below w.heap.size w W)
    (fun c pre W => (Boxed W (w.heap.size + 1) 4 (.bool false) ∧ (c = .ret ∧ (-1 : Int) ∈ pre)) ∧ Below w.heap.size w W)
    (OwnFrom.and (OwnFrom.and (OwnFrom.and (OwnFrom.and (OwnFrom.and (Own.from (boxed_own _ _ _) _) (Own.from (boxed_own (w.heap.size + 1 + 1) 4 (fun pre : List Int => .bool (metB under pre))) _)) (Own.from (boxed_own _ _ _) _)) (Own.from (boxed_own _ _ _) _)) (ownFrom_pure _ _)) (ownFrom_below (Nat.le_refl _) (by omega)))
    (fun c => OwnFrom.and (OwnFrom.and (Own.from (boxed_own _ _ _) _) (ownFrom_pure _ _)) (ownFrom_below (Nat.le_refl _) (by omega)))
    ⟨⟨⟨⟨⟨bR, bM⟩, bU⟩, bT⟩, by simp⟩, hB0⟩
    (fun x => { tmps := #[Value.slice a (List.length ps) cap, Value.int IntKind.i64 k, Value.int IntKind.i64 under, undef, undef, Value.pointer (some ⟨w.heap.size, 0, none⟩), Value.pointer (some ⟨w.heap.size + 1, 0, none⟩), Value.pointer (some ⟨w.heap.size + 1 + 1, 0, none⟩), .int .i64 x, Value.slice a (List.length ps) cap, Value.int IntKind.i64 k, .func (.func 79) #[] #[.pointer (some ⟨w.heap.size + 1 + 1 + 1, 0, none⟩), .pointer (some ⟨w.heap.size + 1 + 1 + 1 + 1, 0, none⟩)], .int .i64 x, undef, undef, undef, undef, undef, undef, undef, undef, undef], defers := [] })
    ?assign ?body ?done ?stop
  case assign =>
    intro l x W K hK
    unfold encW
    gi_wp2
    exact hK
  case body =>
    rintro l pre x W ⟨⟨⟨⟨⟨cR, cM⟩, cU⟩, cT⟩, hp⟩, hB⟩ hlt
    have x1 := cR.cell
    have x2 := cR.frozen
    have x3 := cM.cell
    have x4 := cM.frozen
    have x5 := cU.cell
    by_cases hx : x = -1
    · subst hx
      gi_wp2
      exact ⟨KeepsOthers.setCell _ _ _, ⟨cR.set _, rfl, by simp⟩, hB.setCell (p := ⟨w.heap.size + 1, 0, none⟩) (by simp) _⟩
    · have d0 : (x == -1) = false := by simpa using hx
      have hp2 : ∀ y ∈ pre ++ [x], y ≠ -1 := fun y hy => (List.mem_append.1 hy).elim (hp y) (fun e => by simp at e; subst e; exact hx)
      have HP2 : Hid (∀ y ∈ pre ++ [x], y ≠ -1) := hp2
      clear hp hp2 hx
      cases hm : metB under pre with
      | true =>
        have HM : Hid (metB under (pre ++ [x]) = true) := metB_hit hm x
        rw [hm] at x3
        clear hm
        gi_wp2
        exact ⟨KeepsOthers.setCell _ _ _, kpW_set _ _ (w.heap.size + 1 + 1) _ _ (by omega) cT.lt (by omega), ⟨⟨⟨⟨cR.other (by omega) _, by rw [HM.out]; exact cM.set _⟩, cU.other (by omega) _⟩, cT.other (by omega) _⟩, HP2.out⟩, hB.setCell (p := ⟨w.heap.size + 1 + 1, 0, none⟩) (by simp; omega) _⟩
      | false =>
        rw [hm] at x3
        by_cases hu : x = under
        · subst hu
          have HM : Hid (metB x (pre ++ [x]) = true) := metB_at x pre
          have d1 : (x == x) = true := by simp
          clear hm
          gi_wp2
          exact ⟨KeepsOthers.setCell _ _ _, kpW_set _ _ (w.heap.size + 1 + 1) _ _ (by omega) cT.lt (by omega), ⟨⟨⟨⟨cR.other (by omega) _, by rw [HM.out]; exact cM.set _⟩, cU.other (by omega) _⟩, cT.other (by omega) _⟩, HP2.out⟩, hB.setCell (p := ⟨w.heap.size + 1 + 1, 0, none⟩) (by simp; omega) _⟩
        · have HM : Hid (metB under (pre ++ [x]) = false) := metB_miss hm hu
          have d1 : (x == under) = false := by simpa using hu
          clear hm hu
          gi_wp2
          exact ⟨KeepsOthers.setCell _ _ _, kpW_set _ _ (w.heap.size + 1 + 1) _ _ (by omega) cT.lt (by omega), ⟨⟨⟨⟨cR.other (by omega) _, by rw [HM.out]; exact cM.set _⟩, cU.other (by omega) _⟩, cT.other (by omega) _⟩, HP2.out⟩, hB.setCell (p := ⟨w.heap.size + 1 + 1, 0, none⟩) (by simp; omega) _⟩
  case done =>
    rintro D ys W hD rfl ⟨⟨⟨⟨⟨cR, cM⟩, cU⟩, cT⟩, hp⟩, hB⟩ hK
    obtain ⟨lx, hlx⟩ := way_all hp
    have HE : Hid (extT (bks ps) k under = metB under (way (bks ps) k)) := (by rw [extT_some hlx, way_some hlx, extL_way]; rfl : extT (bks ps) k under = metB under (way (bks ps) k))
    have x1 := cR.cell
    have x2 := cR.frozen
    have x3 := cM.cell
    gi_wp2
    have hK' := (KeepsOthers.setCell W ⟨w.heap.size + 1, 0, none⟩ (.bool (metB under (way (bks ps) k)))).same D _ hK rfl
    refine ⟨by simp, .inl ⟨_, _, rfl, run_takeDeferred hK', ?_⟩⟩
    have hc5 := cell_kept (cR.set (.bool (metB under (way (bks ps) k)))).cell (grownBy_putObj' _ D (.deferred none)) (fun r e => by cases e; exact ⟨_, hK', rfl⟩)
    refine ⟨.bool (metB under (way (bks ps) k)), ?_, by rw [HE.out], (hB.setCell (p := ⟨w.heap.size + 1, 0, none⟩) (by simp) _).trans (belowK_b (w := w) (Nat.le_refl _) _ D _ _ (by omega) hK' rfl rfl)⟩
    simp [results, Try.results12, go_sem, hc5]
  case stop =>
    rintro D c pre W hD hpre ⟨⟨cR, rfl, hm⟩, hB⟩ hK
    have HE : Hid (extT (bks ps) k under = false) := extT_none (way_bad hpre hm)
    gi_wp2
    refine ⟨by simp, .inl ⟨_, _, rfl, run_takeDeferred hK, ?_⟩⟩
    have hc5 := cell_kept cR.cell (grownBy_putObj' _ D (.deferred none)) (fun r e => by cases e; exact ⟨_, hK, rfl⟩)
    refine ⟨.bool false, ?_, by rw [HE.out], hB.trans (belowK_b (w := w) (Nat.le_refl _) W D _ _ (by omega) hK rfl rfl)⟩
    simp [results, Try.results12, go_sem, hc5]

set_option maxRecDepth 100000 in
set_option maxHeartbeats 2000000 in
theorem clash_i (ps : TL) (v : Value) (x y : Int) (w : World) (hT : TreeQ w v ps) (hl : (ps.length : Int) ≤ 1048576) :
    Calls Try.prog 15 #[v, .int .i64 x, .int .i64 y] w fun e w' => e = .returned (.bool (clashT (bks ps) x y)) ∧ Below w.heap.size w w' := by
  have HT : Hid (TreeQ w v ps) := hT
  clear hT
  cases hx : down (bks ps) x with
  | none =>
    have hh : ¬ 0 ≤ heightT (bks ps) x := by rw [heightT_none hx]; omega
    have HF : Hid (clashT (bks ps) x y = false) := (by unfold clashT; rw [hx]; rfl : clashT (bks ps) x y = false)
    clear hx
    go_enter Try.func15, Try.ntmps15
    go_wp2_with fail
    refine (height_i ps _ x w HT.out hl).mono ?_
    rintro e w1 ⟨rfl, B1⟩
    go_wp2
    go_ret
    exact ⟨ret_bool HF.out.symm, B1⟩
  | some l =>
    have hh : 0 ≤ heightT (bks ps) x := by rw [heightT_some hx]; omega
    cases hy : down (bks ps) y with
    | none =>
      have hh2 : ¬ 0 ≤ heightT (bks ps) y := by rw [heightT_none hy]; omega
      have HF : Hid (clashT (bks ps) x y = false) := (by unfold clashT; rw [hx, hy]; rfl : clashT (bks ps) x y = false)
      clear hx hy
      go_enter Try.func15, Try.ntmps15
      go_wp2_with fail
      refine (height_i ps _ x w HT.out hl).mono ?_
      rintro e w1 ⟨rfl, B1⟩
      go_wp2_with fail
      refine (height_i ps _ y w1 (HT.out.below B1) hl).mono ?_
      rintro e w2 ⟨rfl, hb2⟩
      have B2 := bt B1 hb2
      go_wp2
      go_ret
      exact ⟨ret_bool HF.out.symm, B2⟩
    | some l2 =>
      have hh2 : 0 ≤ heightT (bks ps) y := by rw [heightT_some hy]; omega
      have HC : Hid (clashT (bks ps) x y = (!extT (bks ps) x y && !extT (bks ps) y x)) := (by unfold clashT; rw [hx, hy]; rfl : clashT (bks ps) x y = (!extT (bks ps) x y && !extT (bks ps) y x))
      clear hx hy
      cases he : extT (bks ps) x y with
      | true =>
        have HF : Hid (clashT (bks ps) x y = false) := (by rw [HC.out, he]; rfl : clashT (bks ps) x y = false)
        go_enter Try.func15, Try.ntmps15
        go_wp2_with fail
        refine (height_i ps _ x w HT.out hl).mono ?_
        rintro e w1 ⟨rfl, B1⟩
        go_wp2_with fail
        refine (height_i ps _ y w1 (HT.out.below B1) hl).mono ?_
        rintro e w2 ⟨rfl, hb2⟩
        have B2 := bt B1 hb2
        go_wp2_with fail
        refine (extends_i ps _ x y w2 (HT.out.below B2) hl).mono ?_
        rintro e w3 ⟨rfl, hb3⟩
        have B3 := bt B2 hb3
        rw [he]
        go_wp2
        go_ret
        exact ⟨ret_bool HF.out.symm, B3⟩
      | false =>
        have HF : Hid (clashT (bks ps) x y = !extT (bks ps) y x) := (by rw [HC.out, he]; rfl : clashT (bks ps) x y = !extT (bks ps) y x)
        go_enter Try.func15, Try.ntmps15
        go_wp2_with fail
        refine (height_i ps _ x w HT.out hl).mono ?_
        rintro e w1 ⟨rfl, B1⟩
        go_wp2_with fail
        refine (height_i ps _ y w1 (HT.out.below B1) hl).mono ?_
        rintro e w2 ⟨rfl, hb2⟩
        have B2 := bt B1 hb2
        go_wp2_with fail
        refine (extends_i ps _ x y w2 (HT.out.below B2) hl).mono ?_
        rintro e w3 ⟨rfl, hb3⟩
        have B3 := bt B2 hb3
        rw [he]
        go_wp2_with fail
        refine (extends_i ps _ y x w3 (HT.out.below B3) hl).mono ?_
        rintro e w4 ⟨rfl, hb4⟩
        have B4 := bt B3 hb4
        go_wp2
        go_ret
        exact ⟨ret_bool HF.out.symm, B4⟩

end Go.Proofs.Ytjdddcldbfhbiab
