/-
  The contract of the program's UndoneAll: a loop over slices.Backward, each round a call of the function that takes one account back.
-/
import Derived.Test.YtjdddcldbfhbiaaBackwI
import Derived.Test.YtjdddcldbfhbiaaTakeI
import Derived.Test.YtjdddcldbfhbiaaToldI
import Derived.Test.YtjdddcldbfhbiaaCopyI
import Derived.Test.YtjdddcldbfhbiaaCellsI
import Derived.Maps.OwnIn
import Derived.Sort.MapsRangeIn
namespace Go.Proofs.Ytjdddcldbfhbiaa
open Go.RowKit Num Go.Maps Go.Shelf

attribute [local go_sem] Oper.semAt_some

/-- the accounts when these have been taken back, one behind the other -/
def stB (cs : CL) (pre : List BI) : CL := pre.foldl (fun acc x => undoneC acc x.2.1) cs
theorem stB_snoc (cs : CL) (pre : List BI) (x : BI) : stB cs (pre ++ [x]) = undoneC (stB cs pre) x.2.1 := by simp [stB]
theorem stB_fair {cs : CL} (h : cellsB cs = true) (pre : List BI) : fair (stB cs pre) := by
  unfold stB
  have : ∀ (pre : List BI) (acc : CL), fair acc → fair (pre.foldl (fun acc x => undoneC acc x.2.1) acc) := by
    intro pre
    induction pre with
    | nil => intro acc h; exact h
    | cons x pre ih => intro acc h; exact ih _ (undone_fair h)
  exact this pre cs (fair_of h)
theorem stB_to (cs : CL) (us : List US) : ∀ k, k ≤ us.length → stB cs (backTo us k) = undoneAllC cs ((us.map Subtype.val).drop (us.length - k)) := by
  intro k
  induction k with
  | zero => intro _; rw [Nat.sub_zero, List.drop_eq_nil_of_le (by simp)]; rfl
  | succ k ih =>
    intro hk
    have hj : us.length - (k + 1) < (us.map Subtype.val).length := by simp; omega
    rw [backTo_succ, stB_snoc, ih (by omega), undoneAll_step hj, show us.length - (k + 1) + 1 = us.length - k by omega]
    congr 1
    unfold backAt
    simp only [List.getElem_map]
    rw [show us.length - 1 - k = us.length - (k + 1) by omega, List.getElem?_eq_getElem (by omega)]
    rfl
theorem stB_size {cs : CL} (h : okL cs) : ∀ (pre : List BI), okL (stB cs pre) := by
  intro pre
  unfold stB
  have : ∀ (pre : List BI) (acc : CL), okL acc → okL (pre.foldl (fun acc x => undoneC acc x.2.1) acc) := by
    intro pre
    induction pre with
    | nil => intro acc h; exact h
    | cons x pre ih => intro acc h; exact ih _ (okL_undone h x.2.2)
  exact this pre cs h

set_option maxRecDepth 100000 in
set_option maxHeartbeats 4000000 in
theorem undoneAll_us (cs : CL) (us : List US) (v u : Value) (w : World) (hv : Cells w v cs) (hu : RowsR w u 3 undoF (us.map Subtype.val)) (hok : okL cs) (hl : (us.length : Int) ≤ 1048576) :
    Calls Try.prog 25 #[v, u] w fun e w' => ∃ v', e = .returned v' ∧ w'.ownsRow w.heap.size 35 2 v' (undoneAllC cs (us.map Subtype.val)).length (flat (undoneAllC cs (us.map Subtype.val))) ∧ Below w.heap.size w w' := by
  have HV : Hid (Cells w v cs) := hv
  have HL : Hid (okL cs) := hok
  have h1 := hok.1
  obtain ⟨a, cap, rfl, _⟩ := hv
  obtain ⟨b, bcap, rfl, hr⟩ := hu
  have HR : Hid (0 < (us.map Subtype.val).length → _) := hr
  clear hr hok
  refine (callsIn_wide (n := 9)).1 ?_
  refine callsIn_of_wp_marks Try.func25 rfl trivial ?_ rfl
  simp only [Try.ntmps25, List.size_toArray, List.length_cons, List.length_nil, Nat.reduceAdd, Nat.reduceSub, Array.replicate_succ, Array.replicate_zero, List.push_toArray, List.append_toArray, List.nil_append, List.cons_append]
  cases hcb : cellsB cs with
  | false =>
    have HE : Hid (undoneAllC cs (us.map Subtype.val) = cs) := undoneAll_bad hcb _
    gi_wp2_with (first
      | (refine ⟨trivial, ?_⟩; gi_at_call 15; refine (callsIn_wide.2 (cellsOk_i cs _ w HV.out HL.out.1 HL.out.2)).mono ?_; rintro e w1 ⟨rfl, hb1⟩; rw [hcb])
      | (refine ⟨trivial, ?_⟩; gi_at_call 51; refine (callsIn_wide.2 (copy_i cs _ w1 (HV.out.below hb1) HL.out.1 HL.out.2)).mono ?_; rintro e w2 ⟨v2, rfl, hown2, hb2⟩))
    exact ⟨_, results_tmp rfl _ _ _, v2, rfl, by rw [HE.out]; exact own_base hown2 hb1.size, bt hb1 hb2⟩
  | true =>
    have HCB : Hid (cellsB cs = true) := hcb
    gi_wp2_with (first
      | (refine ⟨trivial, ?_⟩; gi_at_call 15; refine (callsIn_wide.2 (cellsOk_i cs _ w HV.out HL.out.1 HL.out.2)).mono ?_; rintro e w1 ⟨rfl, hb1⟩; rw [hcb])
      | (refine ⟨trivial, ?_⟩; gi_at_call 52; refine (callsIn_wide.2 (accounts_i cs _ w1 (HV.out.below hb1) HCB.out HL.out.2)).mono ?_; rintro e w2 ⟨rfl, hm2, hb2⟩)
      | (refine ⟨trivial, ?_⟩; gi_at_call 74; refine (backward_in Fence.wide _ trivial rfl _ _ _ _).mono ?_; rintro e w3 ⟨rfl, rfl⟩))
    have hs1 := hb1.size
    have hs2 := hb2.size
    have hm2lt := hm2.lt
    have bH := (Boxed.new w2 83 (.map (some w1.heap.size))).alloc (.cells #[.slice b us.length bcap] 44)
    have bS := Boxed.new (w2.alloc (.cells #[.map (some w1.heap.size)] 83)) 44 (.slice b us.length bcap)
    simp only [World.size_alloc] at bS
    have hB0 : Below w.heap.size w ((w2.alloc (.cells #[.map (some w1.heap.size)] 83)).alloc (.cells #[.slice b us.length bcap] 44)) := ba (ba (bt hb1 hb2) _) _
    have hsz : ((w2.alloc (.cells #[.map (some w1.heap.size)] 83)).alloc (.cells #[.slice b us.length bcap] 44)).heap.size = w2.heap.size + 2 := by simp
    have hm0 : MapIs ((w2.alloc (.cells #[.map (some w1.heap.size)] 83)).alloc (.cells #[.slice b us.length bcap] 44)) w1.heap.size cs := hm2.below (ba (ba (Below.refl _ _) _) _)
    obtain ⟨W0, hW0⟩ : ∃ W0, (w2.alloc (.cells #[.map (some w1.heap.size)] 83)).alloc (.cells #[.slice b us.length bcap] 44) = W0 := ⟨_, rfl⟩
    rw [hW0] at bH bS hB0 hsz hm0 ⊢
    clear hW0 hcb hm2
    have hlenU : (us.map Subtype.val).length = us.length := by simp
    refine wpIn_rangeFunc_ownH rfl (by omega) (gf := 98) (lb := #[.pointer (some ⟨w2.heap.size + 1, 0, none⟩)]) rfl trivial (enters_of Try.func98 (by kernel_rfl) rfl)
      (backward_stops Fence.wide 8 trivial rfl (by omega) (w2.heap.size + 1) w.heap.size b bcap us hl W0 (by omega) (by omega) bS.cell (fun h0 => by
        obtain ⟨g, off, e, hg, hc⟩ := HR.out (by rw [hlenU]; exact h0)
        exact ⟨g, off, e, hg, fun j hj i hi => by rw [hB0.cell (by exact hg), hc j (by rw [hlenU]; exact hj) i hi, List.getElem_map]⟩))
      kpB_t (kpB_b (by omega) (by omega)) (Below.refl _ _) (fun _ => rfl)
      (fun pre W => ((Boxed W w2.heap.size 83 (.map (some w1.heap.size)) ∧ Boxed W (w2.heap.size + 1) 44 (.slice b us.length bcap)) ∧ MapIs W w1.heap.size (stB cs pre)) ∧ Below w.heap.size w W)
      (fun c pre W => (Boxed W w2.heap.size 83 (.map (some w1.heap.size)) ∧ (c = .exit 0 ∧ ∃ ini last, pre = ini ++ [last] ∧ 12 < (stB cs ini).length ∧ MapIs W w1.heap.size (stB cs ini))) ∧ Below w.heap.size w W)
      (OwnFrom.and (OwnFrom.and (OwnFrom.and (Own.from (boxed_own _ _ _) _) (Own.from (boxed_own _ _ _) _)) (fun s X Y row hs hg hr => hs.kept hg (fun e => by have := (hr _ e.symm).1; omega))) (ownFrom_below (Nat.le_refl _) (by omega)))
      (fun c => OwnFrom.and (OwnFrom.and (Own.from (boxed_own _ _ _) _) (fun s X Y row hs hg hr => by obtain ⟨h1, ini, last, h2, h3, h4⟩ := hs; exact ⟨h1, ini, last, h2, h3, h4.kept hg (fun e => by have := (hr _ e.symm).1; omega)⟩)) (ownFrom_below (Nat.le_refl _) (by omega)))
      ⟨⟨⟨bH, bS⟩, hm0⟩, hB0⟩
      (fun x a' W => ∃ Bx, W0.heap.size ≤ Bx ∧ W.heap[Bx]? = some (.cells #[.string x.2.1.1, .bool x.2.1.2.1, .int .i64 x.2.1.2.2] 48 (0, 0)) ∧ a' = { tmps := #[.slice a cs.length cap, .slice b us.length bcap, undef, undef, .slice none 0 0, .pointer (some ⟨w2.heap.size, 0, none⟩), undef, .pointer (some ⟨Bx, 0, none⟩), .slice a cs.length cap, .bool true, .bool false, undef, undef, .slice a cs.length cap, .map (some w1.heap.size), .slice b us.length bcap, .func (.func 98) #[] #[.pointer (some ⟨w2.heap.size + 1, 0, none⟩)], .int .i64 (x.1 : Int), .agg #[.string x.2.1.1, .bool x.2.1.2.1, .int .i64 x.2.1.2.2], undef, undef, undef, undef, undef, undef, undef, undef, undef], defers := [] })
      (fun x a' _ X Y row hs hg hr => by
        obtain ⟨Bx, g1, g2, g3⟩ := hs
        refine ⟨Bx, g1, (hg.block Bx (Array.getElem?_eq_some_iff.1 g2).1 (fun e => ?_)).trans g2, g3⟩
        obtain ⟨_, o, ho, hc⟩ := hr Bx e.symm
        rw [g2] at ho; cases ho; cases hc)
      ?assign ?body ?done ?stop
    case assign =>
      rintro l pre x W K ⟨⟨⟨bH1, bS1⟩, hM1⟩, hB1⟩ hK
      dsimp only [encB, undoV]
      gi_wp2
      exact hK _ _ ((KeepsOthers.alloc _ _).from _) ⟨(Below.refl _ W).alloc hB1.size _, (Below.heap_alloc W _ _ bS1.lt)⟩ ⟨⟨⟨bH1.alloc _, bS1.alloc _⟩, hM1.below (ba (Below.refl _ _) _)⟩, hB1.alloc hB1.size _⟩ ⟨W.heap.size, by have := bS1.lt; omega, heap_alloc_new W _, rfl⟩
    case body =>
      rintro l pre ⟨xi, ⟨⟨key, had, num⟩, hxk⟩⟩ a' W hl0 ⟨r, hr⟩ ⟨⟨⟨bH1, bS1⟩, hM1⟩, hB1⟩ ⟨Bx, hBx, hX, rfl⟩ hlt
      simp only at hX hxk
      have cH := bH1.cell
      have hM1' := hM1
      obtain ⟨D, hD, hrep⟩ := hM1'
      have hsD : Maps.size D = (stB cs pre).length := hrep.1
      have HD : Hid (W.ownsMap Try.prog 9 (plainElem Try.prog 3) w1.heap.size (stB cs pre).length D) := hD
      clear hD hrep
      by_cases h12 : 12 < (stB cs pre).length
      · have q12 : (12 : Int) < (Maps.size D : Int) := by omega
        gi_wp2_with (gi_at_len; refine wpListIn_len_own _ rfl _ 83 rfl 9 3 mapT _ w1.heap.size _ D rfl HD.out ?_)
        exact ⟨KeepsFrom.refl _ _, ⟨bH1, rfl, pre, _, rfl, h12, hM1⟩, hB1⟩
      · have q12 : (Maps.size D : Int) ≤ 12 := by omega
        have hcb2 : cellsB (stB cs pre) = true := fair_ok (stB_fair HCB.out pre) (by omega)
        obtain ⟨_, hA2, hl2⟩ := cellsB_iff.1 hcb2
        have x0 : W.cell? ⟨Bx, 0, none⟩ = some (.string key) := by rw [cell_of_row W Bx 0 _ _ (0, 0) hX]; rfl
        have x1 : W.cell? ⟨Bx, 1, none⟩ = some (.bool had) := by rw [cell_of_row W Bx 1 _ _ (0, 0) hX]; rfl
        have x2 : W.cell? ⟨Bx, 2, none⟩ = some (.int .i64 num) := by rw [cell_of_row W Bx 2 _ _ (0, 0) hX]; rfl
        have hmx : Try.prog.follows .mixedOrders = true := by kernel_rfl
        have hHlt := bH1.lt
        have cH3 : W.drew.cell? ⟨w2.heap.size, 0, none⟩ = some (.map (some w1.heap.size)) := cH
        have cH2 : ∀ o, (W.drew.alloc o).cell? ⟨w2.heap.size, 0, none⟩ = some (.map (some w1.heap.size)) := fun o => by rw [((Below.refl _ W).drew.alloc (Nat.le_refl _) o).cell (by exact bH1.lt)]; exact cH
        cases hub : undoB (key, had, num) with
        | false =>
          obtain ⟨F, hF⟩ : ∃ F, F = Fence.wide := ⟨_, rfl⟩
          have hT : ∀ n W, CallsIn F n Try.prog 75 #[.agg #[.string key, .bool had, .int .i64 num]] W fun e w' => e = .returned (.func (.func 99) #[] #[]) ∧ w' = W.alloc (.cells #[.string key, .bool had, .int .i64 num] 48) := fun n W => by rw [hF]; exact callsIn_wide.2 (takes1 (key, had, num) W hxk hub)
          have hT1 : ∀ n mb W, CallsIn F n Try.prog 99 #[.map mb] W fun e w' => e = .returned (.tuple #[]) ∧ w' = W := fun n mb W => by rw [hF]; exact callsIn_wide.2 (take1_i mb W)
          have hf0 : F.fn 75 := by rw [hF]; trivial
          have hf1 : F.fn 99 := by rw [hF]; trivial
          rw [← hF]
          clear hF
          gi_wp2_with (gi_at_len; refine wpListIn_len_own _ rfl _ 83 rfl 9 3 mapT _ w1.heap.size _ D rfl HD.out ?_)
          gi_region_with_o (first
            | (gi_at_call 75; refine (CallsIn.inRound l (hT _ _)).mono ?_; rintro e w' ⟨rfl, rfl⟩)
            | (gi_at_call 99; refine (CallsIn.inRound l (hT1 _ _ _)).mono ?_; rintro e w' ⟨rfl, rfl⟩))
          all_goals
            refine ⟨((KeepsOthers.alloc W (Obj.cells #[Value.string key, Value.bool had, Value.int IntKind.i64 num] 48)).trans (KeepsOthers.drew _)).from _, ⟨((Below.refl _ W).alloc hB1.size _).drew, Below.heap_alloc W _ _ bS1.lt⟩, ⟨⟨bH1.alloc _, bS1.alloc _⟩, ?_⟩, (hB1.alloc hB1.size _).drew⟩
            rw [stB_snoc, undone_not hub]
            exact hM1.below (ba (Below.refl _ _) _).drew
        | true =>
          have hub2 := hub
          unfold undoB at hub2
          simp only [Bool.and_eq_true] at hub2
          cases had with
          | true =>
            have hM2 : MapIs (W.alloc (Obj.cells #[Value.string key, Value.bool true, Value.int IntKind.i64 num] 48)).drew w1.heap.size (stB cs pre) := hM1.below (ba (Below.refl _ _) _).drew
            have d0 : (W.alloc (Obj.cells #[Value.string key, Value.bool true, Value.int IntKind.i64 num] 48)).drew.cell? ⟨W.heap.size, 0, none⟩ = some (.string key) := by show (W.alloc (Obj.cells #[Value.string key, Value.bool true, Value.int IntKind.i64 num] 48)).cell? ⟨W.heap.size, 0, none⟩ = some (.string key); rw [cell_of_row _ W.heap.size 0 _ _ (0, 0) (heap_alloc_new W _)]; rfl
            have d2 : (W.alloc (Obj.cells #[Value.string key, Value.bool true, Value.int IntKind.i64 num] 48)).drew.cell? ⟨W.heap.size, 2, none⟩ = some (.int .i64 num) := by show (W.alloc (Obj.cells #[Value.string key, Value.bool true, Value.int IntKind.i64 num] 48)).cell? ⟨W.heap.size, 2, none⟩ = some (.int .i64 num); rw [cell_of_row _ W.heap.size 2 _ _ (0, 0) (heap_alloc_new W _)]; rfl
            obtain ⟨F, hF⟩ : ∃ F, F = Fence.wide := ⟨_, rfl⟩
            have hT : ∀ n W, CallsIn F n Try.prog 75 #[.agg #[.string key, .bool true, .int .i64 num]] W fun e w' => e = .returned (.func (.func 100) #[] #[.pointer (some ⟨W.heap.size, 0, none⟩)]) ∧ w' = W.alloc (Obj.cells #[Value.string key, Value.bool true, Value.int IntKind.i64 num] 48) := fun n W => by rw [hF]; exact callsIn_wide.2 (takes2 key num W hxk hub)
            have hT1 : ∀ n, CallsIn F n Try.prog 100 #[.map (some w1.heap.size), .pointer (some ⟨W.heap.size, 0, none⟩)] (W.alloc (Obj.cells #[Value.string key, Value.bool true, Value.int IntKind.i64 num] 48)).drew fun e w' => e = .returned (.tuple #[]) ∧ MapIs w' w1.heap.size (undoneC (stB cs pre) (key, true, num)) ∧ (W.alloc (Obj.cells #[Value.string key, Value.bool true, Value.int IntKind.i64 num] 48)).drew.grownBy w' (some w1.heap.size) := fun n => by
              rw [hF, undone_yes hcb2 hub, back_true]
              exact callsIn_wide.2 (take2_i (stB cs pre) w1.heap.size W.heap.size key num _ hM2 hA2 hl2 hxk hub2.2 d0 d2)
            have hf0 : F.fn 75 := by rw [hF]; trivial
            have hf1 : F.fn 100 := by rw [hF]; trivial
            rw [← hF]
            clear hF d0 d2 hM2
            gi_wp2_with (gi_at_len; refine wpListIn_len_own _ rfl _ 83 rfl 9 3 mapT _ w1.heap.size _ D rfl HD.out ?_)
            gi_region_with_o (first
              | (gi_at_call 75; refine (CallsIn.inRound l (hT _ _)).mono ?_; rintro e w' ⟨rfl, rfl⟩)
              | (gi_at_call 100; refine (CallsIn.inRound l (hT1 _)).mono ?_; rintro e w' ⟨rfl, hm', hg'⟩))
            all_goals
              have hBW : Below w.heap.size W w' := (((Below.refl _ W).alloc hB1.size (Obj.cells #[Value.string key, Value.bool true, Value.int IntKind.i64 num] 48)).drew).grown hg' (Nat.le_trans hB1.size (by have := (KeepsOthers.alloc W (Obj.cells #[Value.string key, Value.bool true, Value.int IntKind.i64 num] 48)).size; exact this)) (fun k e => by cases e; omega)
              have bH2 : Boxed (W.alloc (Obj.cells #[Value.string key, Value.bool true, Value.int IntKind.i64 num] 48)).drew w2.heap.size 83 (.map (some w1.heap.size)) := bH1.alloc _
              have bS2 : Boxed (W.alloc (Obj.cells #[Value.string key, Value.bool true, Value.int IntKind.i64 num] 48)).drew (w2.heap.size + 1) 44 (.slice b us.length bcap) := bS1.alloc _
              have n1 : some w2.heap.size ≠ some w1.heap.size := fun e => by have := Option.some.inj e; omega
              have n2 : some (w2.heap.size + 1) ≠ some w1.heap.size := fun e => by have := Option.some.inj e; omega
              refine ⟨(((KeepsOthers.alloc W (Obj.cells #[Value.string key, Value.bool true, Value.int IntKind.i64 num] 48)).trans (KeepsOthers.drew _)).from _).trans (KeepsFrom.of_grownBy hg' (fun j e => by cases e; omega)), ⟨hBW, (hg'.block (w2.heap.size + 1) bS2.lt n2).trans (Below.heap_alloc W _ _ bS1.lt)⟩, ⟨⟨bH2.kept hg' n1, bS2.kept hg' n2⟩, ?_⟩, hB1.trans hBW⟩
              rw [stB_snoc]
              exact hm'
          | false =>
            have hM2 : MapIs (W.alloc (Obj.cells #[Value.string key, Value.bool false, Value.int IntKind.i64 num] 48)).drew w1.heap.size (stB cs pre) := hM1.below (ba (Below.refl _ _) _).drew
            have d0 : (W.alloc (Obj.cells #[Value.string key, Value.bool false, Value.int IntKind.i64 num] 48)).drew.cell? ⟨W.heap.size, 0, none⟩ = some (.string key) := by show (W.alloc (Obj.cells #[Value.string key, Value.bool false, Value.int IntKind.i64 num] 48)).cell? ⟨W.heap.size, 0, none⟩ = some (.string key); rw [cell_of_row _ W.heap.size 0 _ _ (0, 0) (heap_alloc_new W _)]; rfl
            have d2 : (W.alloc (Obj.cells #[Value.string key, Value.bool false, Value.int IntKind.i64 num] 48)).drew.cell? ⟨W.heap.size, 2, none⟩ = some (.int .i64 num) := by show (W.alloc (Obj.cells #[Value.string key, Value.bool false, Value.int IntKind.i64 num] 48)).cell? ⟨W.heap.size, 2, none⟩ = some (.int .i64 num); rw [cell_of_row _ W.heap.size 2 _ _ (0, 0) (heap_alloc_new W _)]; rfl
            obtain ⟨F, hF⟩ : ∃ F, F = Fence.wide := ⟨_, rfl⟩
            have hT : ∀ n W, CallsIn F n Try.prog 75 #[.agg #[.string key, .bool false, .int .i64 num]] W fun e w' => e = .returned (.func (.func 101) #[] #[.pointer (some ⟨W.heap.size, 0, none⟩)]) ∧ w' = W.alloc (Obj.cells #[Value.string key, Value.bool false, Value.int IntKind.i64 num] 48) := fun n W => by rw [hF]; exact callsIn_wide.2 (takes3 key num W hxk hub)
            have hT1 : ∀ n, CallsIn F n Try.prog 101 #[.map (some w1.heap.size), .pointer (some ⟨W.heap.size, 0, none⟩)] (W.alloc (Obj.cells #[Value.string key, Value.bool false, Value.int IntKind.i64 num] 48)).drew fun e w' => e = .returned (.tuple #[]) ∧ MapIs w' w1.heap.size (undoneC (stB cs pre) (key, false, num)) ∧ (W.alloc (Obj.cells #[Value.string key, Value.bool false, Value.int IntKind.i64 num] 48)).drew.grownBy w' (some w1.heap.size) := fun n => by
              rw [hF, undone_yes hcb2 hub, back_false]
              exact callsIn_wide.2 (take3_i (stB cs pre) w1.heap.size W.heap.size key _ hM2 hA2 hxk d0)
            have hf0 : F.fn 75 := by rw [hF]; trivial
            have hf1 : F.fn 101 := by rw [hF]; trivial
            rw [← hF]
            clear hF d0 d2 hM2
            gi_wp2_with (gi_at_len; refine wpListIn_len_own _ rfl _ 83 rfl 9 3 mapT _ w1.heap.size _ D rfl HD.out ?_)
            gi_region_with_o (first
              | (gi_at_call 75; refine (CallsIn.inRound l (hT _ _)).mono ?_; rintro e w' ⟨rfl, rfl⟩)
              | (gi_at_call 101; refine (CallsIn.inRound l (hT1 _)).mono ?_; rintro e w' ⟨rfl, hm', hg'⟩))
            all_goals
              have hBW : Below w.heap.size W w' := (((Below.refl _ W).alloc hB1.size (Obj.cells #[Value.string key, Value.bool false, Value.int IntKind.i64 num] 48)).drew).grown hg' (Nat.le_trans hB1.size (by have := (KeepsOthers.alloc W (Obj.cells #[Value.string key, Value.bool false, Value.int IntKind.i64 num] 48)).size; exact this)) (fun k e => by cases e; omega)
              have bH2 : Boxed (W.alloc (Obj.cells #[Value.string key, Value.bool false, Value.int IntKind.i64 num] 48)).drew w2.heap.size 83 (.map (some w1.heap.size)) := bH1.alloc _
              have bS2 : Boxed (W.alloc (Obj.cells #[Value.string key, Value.bool false, Value.int IntKind.i64 num] 48)).drew (w2.heap.size + 1) 44 (.slice b us.length bcap) := bS1.alloc _
              have n1 : some w2.heap.size ≠ some w1.heap.size := fun e => by have := Option.some.inj e; omega
              have n2 : some (w2.heap.size + 1) ≠ some w1.heap.size := fun e => by have := Option.some.inj e; omega
              refine ⟨(((KeepsOthers.alloc W (Obj.cells #[Value.string key, Value.bool false, Value.int IntKind.i64 num] 48)).trans (KeepsOthers.drew _)).from _).trans (KeepsFrom.of_grownBy hg' (fun j e => by cases e; omega)), ⟨hBW, (hg'.block (w2.heap.size + 1) bS2.lt n2).trans (Below.heap_alloc W _ _ bS1.lt)⟩, ⟨⟨bH2.kept hg' n1, bS2.kept hg' n2⟩, ?_⟩, hB1.trans hBW⟩
              rw [stB_snoc]
              exact hm'
    case done =>
      rintro D ys W hD rfl ⟨⟨⟨bH1, bS1⟩, hM1⟩, hB1⟩ hK
      have heq : stB cs (backTo us us.length) = undoneAllC cs (us.map Subtype.val) := by rw [stB_to cs us us.length (Nat.le_refl _), Nat.sub_self, List.drop_zero]
      have hDW : D < W.heap.size := (Array.getElem?_eq_some_iff.1 hK).1
      have hD2 : w.heap.size ≤ D := by omega
      have hfa := stB_fair HCB.out (backTo us us.length)
      have hsz2 := (stB_size HL.out (backTo us us.length)).2
      rw [heq] at hfa hsz2 hM1
      have HM1 : Hid (MapIs W w1.heap.size (undoneAllC cs (us.map Subtype.val))) := hM1
      have HFA : Hid (fair (undoneAllC cs (us.map Subtype.val))) := hfa
      have HSZ : Hid (∀ c ∈ undoneAllC cs (us.map Subtype.val), (c.1.size : Int) ≤ 1048576) := hsz2
      have cH := bH1.cell
      clear hM1 hfa hsz2
      gi_wp2_with (refine ⟨trivial, ?_⟩; gi_at_call 54; refine (callsIn_wide.2 (told_i (undoneAllC cs (us.map Subtype.val)) w1.heap.size W HM1.out HFA.out.2.1 HFA.out.2.2 HSZ.out)).mono ?_; rintro e w' ⟨v', rfl, hown, hb⟩)
      have hK' : w'.heap[D]? = some (.deferred (some [])) := (hb.block D hDW).trans hK
      refine ⟨by simp, .inl ⟨_, _, rfl, run_takeDeferred hK', ?_⟩⟩
      refine ⟨_, results_tmp rfl _ _ _, v', rfl, own_base (World.ownsRow.kept hown (grownBy_putObj' _ D _) (Or.inr fun e => by have := (hown.lt D e).1; omega)) hB1.size, ?_⟩
      exact (hB1.trans (hb.mono hB1.size)).trans (belowK_b (w := w) (Nat.le_refl _) w' D _ _ hD2 hK' rfl rfl)
    case stop =>
      rintro D c pre W hD ⟨k, hk, rfl⟩ ⟨⟨bH1, rfl, ini, last, e1, e2, hM1⟩, hB1⟩ hK
      have heq : stB cs ini = undoneAllC cs (us.map Subtype.val) := by
        cases k with
        | zero => simp [backTo] at e1
        | succ k =>
          rw [backTo_succ] at e1
          obtain ⟨e3, _⟩ := List.append_inj' e1 rfl
          have e4 := stB_to cs us k (by omega)
          rw [e3] at e4
          rw [e4]
          rw [e4] at e2
          exact (undoneAll_over (fair_over e2)).symm
      clear e1 e2
      have hDW : D < W.heap.size := (Array.getElem?_eq_some_iff.1 hK).1
      have hD2 : w.heap.size ≤ D := by omega
      have hfa := stB_fair HCB.out ini
      have hsz2 := (stB_size HL.out ini).2
      rw [heq] at hfa hsz2 hM1
      have HM1 : Hid (MapIs W w1.heap.size (undoneAllC cs (us.map Subtype.val))) := hM1
      have HFA : Hid (fair (undoneAllC cs (us.map Subtype.val))) := hfa
      have HSZ : Hid (∀ c ∈ undoneAllC cs (us.map Subtype.val), (c.1.size : Int) ≤ 1048576) := hsz2
      have cH := bH1.cell
      clear hM1 hfa hsz2
      gi_wp2_with (refine ⟨trivial, ?_⟩; gi_at_call 54; refine (callsIn_wide.2 (told_i (undoneAllC cs (us.map Subtype.val)) w1.heap.size W HM1.out HFA.out.2.1 HFA.out.2.2 HSZ.out)).mono ?_; rintro e w' ⟨v', rfl, hown, hb⟩)
      have hK' : w'.heap[D]? = some (.deferred (some [])) := (hb.block D hDW).trans hK
      refine ⟨by simp, .inl ⟨_, _, rfl, run_takeDeferred hK', ?_⟩⟩
      refine ⟨_, results_tmp rfl _ _ _, v', rfl, own_base (World.ownsRow.kept hown (grownBy_putObj' _ D _) (Or.inr fun e => by have := (hown.lt D e).1; omega)) hB1.size, ?_⟩
      exact (hB1.trans (hb.mono hB1.size)).trans (belowK_b (w := w) (Nat.le_refl _) w' D _ _ hD2 hK' rfl rfl)

/-- .. of whatever list, its keys no longer than are met -/
theorem undoneAll_i (cs : CL) (us : List UN) (v u : Value) (w : World) (hv : Cells w v cs) (hu : RowsR w u 3 undoF us) (hok : okL cs) (hl : (us.length : Int) ≤ 1048576) (hall : ∀ x ∈ us, (x.1.size : Int) ≤ 1048576) :
    Calls Try.prog 25 #[v, u] w fun e w' => ∃ v', e = .returned v' ∧ w'.ownsRow w.heap.size 35 2 v' (undoneAllC cs us).length (flat (undoneAllC cs us)) ∧ Below w.heap.size w w' := by
  obtain ⟨us', rfl⟩ : ∃ us' : List US, us = us'.map Subtype.val := ⟨us.attach.map fun x => ⟨x.1, hall x.1 x.2⟩, by rw [List.map_map]; exact (List.attach_map_subtype_val us).symm⟩
  exact undoneAll_us cs us' v u w hv hu hok (by simpa using hl)

end Go.Proofs.Ytjdddcldbfhbiaa
