/-
  The contracts of the program's RowTo and RowAfter.
-/
import Derived.RangeFuncBox
import Derived.Maps.AppendAt
import Derived.Test.YtjdddcldbfhbiabHeightI
import Derived.Test.YtjdddcldbfhbiabRowS
import Derived.Test.YtjdddcldbfhbiabRevI
namespace Go.Proofs.Ytjdddcldbfhbiab
open Go.RowKit Num Go.Shelf

attribute [local go_sem] Oper.semAt_some

/-- what a way down told ahead of under is what is behind it -/
theorem after_is {t : List BK} {k under : Int} {ini : List Int} (he : extT t k under = true) (h : ini ++ [under] <+: way t k) : afterI t k under = ini.reverse := by
  cases hd : down t k with
  | none => rw [extT_none hd] at he; cases he
  | some l =>
    obtain ⟨rest, hr⟩ := h
    obtain ⟨hpos, hfall⟩ := down_falls hd
    have hw := way_some hd
    rw [← hw, ← hr] at hfall
    have hu : 0 ≤ under := by
      have hm : under ∈ way t k := by rw [← hr]; simp
      rw [hw] at hm
      rcases List.mem_append.1 hm with h1 | h1
      · exact intsN_ne h1
      · simp at h1; omega
    have e1 : (way t k).filter (fun x => decide (under < x)) = (intsN l).filter (fun x => decide (under < x)) := by
      rw [hw, List.filter_append]
      have : ¬ under < 0 := by omega
      simp [this]
    rw [List.append_assoc, List.singleton_append] at hfall
    obtain ⟨_, h2, h3⟩ := List.pairwise_append.1 hfall
    have h4 := (List.pairwise_cons.1 h2).1
    have e2 : (way t k).filter (fun x => decide (under < x)) = ini := by
      rw [← hr, List.append_assoc, List.singleton_append, List.filter_append, List.filter_cons]
      have h5 : ini.filter (fun x => decide (under < x)) = ini := List.filter_eq_self.2 fun a ha => by
        have := h3 a ha under (by simp)
        simpa using this
      have h6 : rest.filter (fun x => decide (under < x)) = [] := List.filter_eq_nil_iff.2 fun a ha => by
        have := h4 a ha
        simp; omega
      rw [h5, h6]; simp
    unfold afterI
    rw [if_pos he, rowI_some hd, show intsN l.reverse = (intsN l).reverse by simp [intsN], List.filter_reverse, ← e1, e2]
theorem after_met {t : List BK} {k under : Int} (he : extT t k under = true) (h : ∀ y ∈ way t k, y ≠ under) : False := by
  cases hd : down t k with
  | none => rw [extT_none hd] at he; cases he
  | some l =>
    rw [extT_some hd, extL_way, ← way_some hd] at he
    obtain ⟨y, hy, hyu⟩ := List.any_eq_true.1 he
    exact h y hy (by simpa using hyu)
theorem row_le (t : List BK) (k : Int) : (rowI t k).length ≤ t.length := by
  cases hd : down t k with
  | none => rw [rowI_none hd]; simp
  | some l => rw [rowI_some hd, intsN_len, List.length_reverse]; exact down_len hd
theorem after_le (t : List BK) (k under : Int) : (afterI t k under).length ≤ t.length := by
  unfold afterI
  split
  · exact Nat.le_trans (List.length_filter_le _ _) (row_le t k)
  · simp
theorem own_not_def {w : World} {base m n D : Nat} {e : TypeId} {v : Value} {xs : List Value} {o : Obj} (h : w.ownsRow base e m v n xs) (hD : w.heap[D]? = some o) (ho : o.isCells = false) : some D ≠ v.ownBlock := by
  rcases h.2 with ⟨rfl, _⟩ | ⟨g, cap, cur, rfl, _, hgb, _⟩
  · simp [Value.ownBlock]
  · intro e'
    obtain rfl : D = g := by simpa [Value.ownBlock] using e'
    rw [hgb] at hD; cases hD; cases ho

set_option maxRecDepth 100000 in
set_option maxHeartbeats 4000000 in
theorem rowAfter_i (ps : TL) (v : Value) (k under : Int) (w : World) (hT : TreeQ w v ps) (hl : (ps.length : Int) ≤ 1048576) :
    Calls Try.prog 14 #[v, .int .i64 k, .int .i64 under] w fun e w' => ∃ v', e = .returned v' ∧ w'.ownsRow w.heap.size 3 1 v' (afterI (bks ps) k under).length (flatR intF (afterI (bks ps) k under)) ∧ Below w.heap.size w w' := by
  have HT : Hid (TreeQ w v ps) := hT
  obtain ⟨a, cap, rfl, hr⟩ := treeq_cells hT
  have HR : Hid (0 < ps.length → ∃ g off, a = some ⟨g, off, none⟩ ∧ g < w.heap.size ∧ ∀ j (_ : j < ps.length), w.cell? ⟨g, off + j * 7, none⟩ = some (.int .i64 ps[j].1.1.1)) := fun h => by
    obtain ⟨g, off, e, hg, hc⟩ := hr h
    exact ⟨g, off, e, hg, fun j hj => (hc j hj).1⟩
  have hwl := way_len (bks ps) k
  rw [bks_len] at hwl
  obtain ⟨i0, hi, hz0, hz1, hz2⟩ := info_parts infoInt1
  clear hr hT
  have HBU : Hid (Below w.heap.size w (w.alloc (.cells #[.int .i64 under] 3))) := ba (Below.refl _ _) _
  refine (callsIn_wide (n := 9)).1 ?_
  refine callsIn_of_wp_marks Try.func14 rfl trivial ?_ rfl
  simp only [Try.ntmps14, List.size_toArray, List.length_cons, List.length_nil, Nat.reduceAdd, Nat.reduceSub, Array.replicate_succ, Array.replicate_zero, List.push_toArray, List.append_toArray, List.nil_append, List.cons_append]
  cases he : extT (bks ps) k under with
  | false =>
    have HF : Hid (afterI (bks ps) k under = []) := (by unfold afterI; rw [he]; rfl : afterI (bks ps) k under = [])
    gi_wp2_with (refine ⟨trivial, ?_⟩; gi_at_call 12; refine (callsIn_wide.2 (extends_i ps _ k under _ (HT.out.below HBU.out) hl)).mono ?_; rintro e w1 ⟨rfl, hb1⟩; rw [he])
    exact ⟨_, results_tmp rfl _ _ _, _, rfl, by rw [HF.out]; exact World.ownsRow_nil _ _ _ _, bt HBU.out hb1⟩
  | true =>
    have HE : Hid (extT (bks ps) k under = true) := he
    gi_wp2_with (first
      | (refine ⟨trivial, ?_⟩; gi_at_call 12; refine (callsIn_wide.2 (extends_i ps _ k under _ (HT.out.below HBU.out) hl)).mono ?_; rintro e w1 ⟨rfl, hb1⟩; rw [he])
      | (refine ⟨trivial, ?_⟩; gi_at_call 57; refine (way_in Fence.wide _ trivial rfl _ _ _ _ _).mono ?_; rintro e w3 ⟨rfl, rfl⟩))
    clear he
    have bU1 : Boxed w1 w.heap.size 3 (.int .i64 under) := (hb1.block w.heap.size (by simp)).trans (Boxed.new w 3 (.int .i64 under))
    have hB1 : Below w.heap.size w w1 := bt HBU.out hb1
    have hs1 := hb1.size
    rw [World.size_alloc] at hs1
    obtain ⟨W0, hW0⟩ : ∃ W0, W0 = ((w1.alloc (Obj.cells #[Value.slice none 0 0] 26)).alloc (Obj.cells #[Value.slice a (List.length ps) cap] 24)).alloc (Obj.cells #[Value.int IntKind.i64 k] 3) := ⟨_, rfl⟩
    have bO : Boxed W0 w1.heap.size 26 (.slice none 0 0) := by rw [hW0]; exact ((Boxed.new w1 _ _).alloc _).alloc _
    have bU : Boxed W0 w.heap.size 3 (.int .i64 under) := by rw [hW0]; exact ((bU1.alloc _).alloc _).alloc _
    have bT : Boxed W0 (w1.heap.size + 1) 24 (.slice a ps.length cap) := by
      rw [hW0]
      have := (Boxed.new (w1.alloc (Obj.cells #[Value.slice none 0 0] 26)) 24 (.slice a ps.length cap)).alloc (Obj.cells #[Value.int IntKind.i64 k] 3)
      rw [World.size_alloc] at this
      exact this
    have bK : Boxed W0 (w1.heap.size + 1 + 1) 3 (.int .i64 k) := by
      rw [hW0]
      have := Boxed.new ((w1.alloc (Obj.cells #[Value.slice none 0 0] 26)).alloc (Obj.cells #[Value.slice a (List.length ps) cap] 24)) 3 (.int .i64 k)
      rw [World.size_alloc, World.size_alloc] at this
      exact this
    have hs0 : W0.heap.size = w1.heap.size + 3 := by rw [hW0]; simp
    have hB0 : Below w.heap.size w W0 := by rw [hW0]; exact ba (ba (ba hB1 _) _) _
    rw [← hW0]
    clear hW0 hb1 bU1
    refine wpIn_rangeFunc_ownG rfl (by omega) (gf := 79) (lb := #[.pointer (some ⟨w1.heap.size + 1, 0, none⟩), .pointer (some ⟨w1.heap.size + 1 + 1, 0, none⟩)]) rfl trivial (enters_of Try.func79 (by kernel_rfl) rfl)
      (way_stops Fence.wide 8 trivial rfl (by omega) (w1.heap.size + 1) (w1.heap.size + 1 + 1) w.heap.size cap a ps k hl W0 bT.lt bK.lt (by omega) bT.cell bK.cell (fun h => by
        obtain ⟨g, off, e, hg, hc⟩ := HR.out h
        exact ⟨g, off, e, hg, fun j hj => (hB0.cell (by exact hg)).trans (hc j hj)⟩)) kpW_t (kpW_b (by omega) bT.lt) (Below.refl _ _) (fun _ => rfl)
      (fun pre W => ((((∃ u, Boxed W w1.heap.size 26 u ∧ W.ownsRow w1.heap.size 3 1 u pre.length (pre.map (Value.int .i64)) ∧ True) ∧ Boxed W w.heap.size 3 (.int .i64 under)) ∧ Boxed W (w1.heap.size + 1) 24 (.slice a ps.length cap)) ∧ (∀ y ∈ pre, y ≠ under)) ∧ Below w.heap.size w W)
      (fun c pre W => (((∃ u, Boxed W w1.heap.size 26 u ∧ W.ownsRow w1.heap.size 3 1 u (pre.length - 1) ((pre.take (pre.length - 1)).map (Value.int .i64)) ∧ True)) ∧ (c = .exit 0 ∧ ∃ ini, pre = ini ++ [under])) ∧ Below w.heap.size w W)
      (OwnFrom.and (OwnFrom.and (OwnFrom.and (OwnFrom.and (Own.from (holdsRow_own w1.heap.size w1.heap.size 26 3 1 (fun pre : List Int => pre.length) (fun pre => pre.map (Value.int .i64)) (fun _ _ => True)) _) (Own.from (boxed_own _ _ _) _)) (Own.from (boxed_own _ _ _) _)) (ownFrom_pure _ _)) (ownFrom_below (Nat.le_refl _) (by omega)))
      (fun c => OwnFrom.and (OwnFrom.and (Own.from (holdsRow_own w1.heap.size w1.heap.size 26 3 1 (fun pre : List Int => pre.length - 1) (fun pre => (pre.take (pre.length - 1)).map (Value.int .i64)) (fun _ _ => True)) _) (ownFrom_pure _ _)) (ownFrom_below (Nat.le_refl _) (by omega)))
      ⟨⟨⟨⟨⟨_, bO, World.ownsRow_nil _ _ _ _, trivial⟩, bU⟩, bT⟩, by simp⟩, hB0⟩
      (fun x => { tmps := #[Value.slice a (List.length ps) cap, Value.int IntKind.i64 k, Value.int IntKind.i64 under, undef, undef, Value.pointer (some ⟨w.heap.size, 0, none⟩), .slice none 0 0, Value.pointer (some ⟨w1.heap.size, 0, none⟩), .int .i64 x, Value.slice a (List.length ps) cap, Value.int IntKind.i64 k, Value.int IntKind.i64 under, .bool true, .bool false, Value.slice a (List.length ps) cap, Value.int IntKind.i64 k, .func (.func 79) #[] #[.pointer (some ⟨w1.heap.size + 1, 0, none⟩), .pointer (some ⟨w1.heap.size + 1 + 1, 0, none⟩)], .int .i64 x, undef, undef, undef, undef, undef, undef, undef, undef, undef, undef], defers := [] })
      ?assign ?body ?done ?stop
    case assign =>
      intro l x W K hK
      unfold encW
      gi_wp2
      exact hK
    case body =>
      rintro l pre x W ⟨⟨⟨⟨⟨u, cO, hrow, _⟩, cU⟩, cT⟩, hp⟩, hB⟩ hlt
      have x1 := cO.cell
      have x2 := cU.cell
      have hpl : pre.length ≤ 1048577 := by omega
      by_cases hx : x = under
      · subst hx
        have d0 : (x == x) = true := by simp
        gi_wp2
        exact ⟨KeepsFrom.refl _ _, ⟨⟨u, cO, by simpa using hrow, trivial⟩, rfl, pre, rfl⟩, hB⟩
      · have d0 : (x == under) = false := by simpa using hx
        have HP2 : Hid (∀ y ∈ pre ++ [x], y ≠ under) := fun y hy => (List.mem_append.1 hy).elim (hp y) (fun e => by simp at e; subst e; exact hx)
        clear hp hx
        gi_wp2_with (gi_at_builtin; refine wpListIn_append_own _ rfl _ _ 26 rfl w1.heap.size 3 i0 (.int .i64 0) 1 8 Try.underlying26 hi hz0 hz1 hz2 rfl (by decide) _ _ _ rfl (hrow.alloc _) ⟨W.heap.size, 0, none⟩ 1 1 [.int .i64 x] rfl rfl (cell_one_new _ _ _) (by simp [Value.oneCell']) (by unfold maxLen; omega) (by omega) (by have := cO.lt; simp; omega) ?_; intro v' w1' hown' hgrow _; obtain ⟨g', cap', rfl⟩ := ownsRow_succ hown'; obtain ⟨hv1, hv2, hr2, hk2, hb2⟩ := cO.appended (by decide) hrow (Nat.le_of_lt cO.lt) (Nat.le_refl _) hown' hgrow; have hc1 := hv1.cell; have hf1 := hv1.frozen)
        have cT1 : Boxed w1' (w1.heap.size + 1) 24 (.slice a ps.length cap) := (cT.alloc _).kept hgrow (cT.not_row (by decide) hrow)
        have hb3 := hb2.mono (show w.heap.size ≤ w1.heap.size by omega)
        exact ⟨hk2.from _, ⟨hb3, (cT1.other (by omega) _).trans cT.symm⟩, ⟨⟨⟨⟨_, hv2, by simpa using hr2, trivial⟩, (hb2.block w.heap.size (by omega)).trans cU⟩, cT1.other (by omega) _⟩, HP2.out⟩, hB.trans hb3⟩
    case done =>
      rintro D ys W hD rfl ⟨⟨⟨⟨_, _⟩, _⟩, hp⟩, _⟩ hK
      exact (after_met HE.out hp).elim
    case stop =>
      rintro D c pre W hD hpre ⟨⟨⟨u, cO, hrow, _⟩, rfl, ini, rfl⟩, hB⟩ hK
      have HA : Hid (afterI (bks ps) k under = ini.reverse) := after_is HE.out hpre
      have hrow2 : W.ownsRow w1.heap.size 3 1 u ini.length (flatR intF ini) := by rw [flat_int]; simpa using hrow
      have HO : Hid (W.ownsRow w1.heap.size 3 1 u ini.length (flatR intF ini)) := hrow2
      have hil : (ini.length : Int) ≤ 1048576 := by
        have h1 := hpre.length_le
        rw [List.length_append] at h1
        simp at h1
        omega
      have x1 := cO.cell
      gi_wp2_with (refine ⟨trivial, ?_⟩; gi_at_call 58; refine (callsIn_wide.2 (reverse_i ini u w1.heap.size W HO.out hil)).mono ?_; rintro e w4 ⟨rfl, hown4, hg4⟩; have cO4 : Boxed w4 w1.heap.size 26 u := cO.kept hg4 (cO.not_row (by decide) HO.out); have x4 := cO4.cell)
      have hK' : w4.heap[D]? = some (.deferred (some [])) := (hg4.block D (Array.getElem?_eq_some_iff.1 hK).1 (own_not_def HO.out hK rfl)).trans hK
      refine ⟨by simp, .inl ⟨_, _, rfl, run_takeDeferred hK', ?_⟩⟩
      refine ⟨_, results_tmp rfl _ _ _, u, rfl, ?_, ?_⟩
      · rw [HA.out, List.length_reverse]
        exact own_base (ownsRow_putObj hown4 _ hK' rfl) (by omega)
      · exact (hB.grown hg4 hB.size (fun y hy => by have := (HO.out.lt y hy).1; omega)).trans (belowK_b (w := w) (Nat.le_refl _) w4 D _ _ (by omega) hK' rfl rfl)

theorem row_after (t : List BK) (k : Int) : afterI t k 0 = rowI t k := by
  cases hd : down t k with
  | none => unfold afterI; rw [extT_none hd, rowI_none hd]; rfl
  | some l =>
    have he : extT t k 0 = true := by rw [extT_some hd]; unfold extL; simp
    unfold afterI
    rw [if_pos he, rowI_some hd]
    refine List.filter_eq_self.2 fun a ha => ?_
    unfold intsN at ha
    obtain ⟨x, hx, rfl⟩ := List.mem_map.1 ha
    have := (down_falls hd).1 x (by simpa using hx)
    simp; omega

set_option maxRecDepth 100000 in
set_option maxHeartbeats 2000000 in
theorem rowTo_i (ps : TL) (v : Value) (k : Int) (w : World) (hT : TreeQ w v ps) (hl : (ps.length : Int) ≤ 1048576) :
    Calls Try.prog 11 #[v, .int .i64 k] w fun e w' => ∃ v', e = .returned v' ∧ w'.ownsRow w.heap.size 3 1 v' (rowI (bks ps) k).length (flatR intF (rowI (bks ps) k)) ∧ Below w.heap.size w w' := by
  have HT : Hid (TreeQ w v ps) := hT
  clear hT
  go_enter Try.func11, Try.ntmps11
  go_wp2_with fail
  refine (rowAfter_i ps _ k 0 w HT.out hl).mono ?_
  rintro e w1 ⟨v1, rfl, hown1, hb1⟩
  rw [row_after] at hown1
  go_wp2
  go_ret
  exact ⟨_, rfl, hown1, hb1⟩

end Go.Proofs.Ytjdddcldbfhbiab
