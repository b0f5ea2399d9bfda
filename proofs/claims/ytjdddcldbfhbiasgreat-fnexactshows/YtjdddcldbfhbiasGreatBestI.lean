/-
  The highest that a replica knows: the contract of the program's BestQc, and of what is common of lists there.
-/
import Derived.Test.YtjdddcldbfhbiasGreatBestS
import Derived.Test.YtjdddcldbfhbiasGreatQcI
import Derived.Test.YtjdddcldbfhbiasGreatJ1
import Derived.Test.YtjdddcldbfhbiasGreatJ2
namespace Go.Proofs.YtjdddcldbfhbiasGreat
open Go.RowKit Num

theorem infoQc : (Tryz.prog.info? 38).map (fun i => (i.zero, i.size, i.bytes)) = some (some (.agg #[.int .i64 0, .int .i64 0, .int .i64 0, .int .i64 0]), 4, 32) := by kernel_rfl
/-- the Qcs of letters -/
def qcsOf (l : List LT) : List QC := l.map (fun x => x.2.1)
theorem qcsOf_snoc (l : List LT) (k : Nat) (h : k < l.length) : qcsOf (l.take (k + 1)) = qcsOf (l.take k) ++ [l[k].2.1] := by
  unfold qcsOf
  rw [List.take_succ_eq_append_getElem h, List.map_append]
  rfl
def bestQs (q : QC) (l : List QC) : QC := l.foldl higherT q
theorem bestQs_snoc (q : QC) (l : List QC) (k : Nat) (h : k < l.length) : bestQs q (l.take (k + 1)) = higherT (bestQs q (l.take k)) l[k] := by
  unfold bestQs
  rw [List.take_succ_eq_append_getElem h, List.foldl_append]
  rfl
theorem bestQs_of (q : QC) (l : List LT) : bestQs q (qcsOf l) = bestTo q l := by
  unfold bestQs qcsOf bestTo
  rw [List.foldl_map]

/-- a letter's cells -/
def ltA (l : LT) : Array Value := #[.int .i64 l.1.1, .int .i64 l.1.2.1, .int .i64 l.1.2.2.1, .int .i64 l.1.2.2.2.1, .int .i64 l.1.2.2.2.2, .int .i64 l.2.1.1, .int .i64 l.2.1.2.1, .int .i64 l.2.1.2.2.1, .int .i64 l.2.1.2.2.2, .int .i64 l.2.2.1, .int .i64 l.2.2.2.1, .int .i64 l.2.2.2.2.1, .int .i64 l.2.2.2.2.2]

set_option maxRecDepth 100000 in
set_option maxHeartbeats 4000000 in
theorem toldQc_i (x : LT) (w : World) :
    Calls Tryz.prog 121 #[letV x] w fun e w' => e = .returned (.agg #[.int .i64 x.2.1.1, .int .i64 x.2.1.2.1, .int .i64 x.2.1.2.2.1, .int .i64 x.2.1.2.2.2]) ∧ Below w.heap.size w w' := by
  unfold letV
  go_enter Tryz.func121, Tryz.ntmps121
  go_wp2
  refine bodyPost_ret (v := .agg #[.int .i64 x.2.1.1, .int .i64 x.2.1.2.1, .int .i64 x.2.1.2.2.1, .int .i64 x.2.1.2.2.2]) (by simp [results, Tryz.results121, go_sem]) rfl ⟨rfl, ?_⟩
  exact ba (ba (Below.refl _ _) _) _

set_option maxRecDepth 100000 in
set_option maxHeartbeats 8000000 in
theorem ofEachQc_i (l : List LT) (v : Value) (w : World) (hv : RowsR w v 13 letF l) (hl : (l.length : Int) ≤ 1048576) :
    Calls Tryz.prog 120 #[v, .func (.func 121) #[] #[]] w fun e w' => ∃ v', e = .returned v' ∧ w'.ownsRow w.heap.size 38 4 v' (qcsOf l).length (flatR voteF (qcsOf l)) ∧ Below w.heap.size w w' := by
  obtain ⟨i0, hi, hz0, hz1, hz2⟩ := info_parts infoQc
  obtain ⟨a, cap, rfl, hr⟩ := hv
  have HR : Hid (0 < l.length → _) := hr
  clear hr
  go_enter Tryz.func120, Tryz.ntmps120
  go_wp2
  go_loopw [5, 10] (fun o i wr => ∃ k : Nat, k ≤ l.length ∧ i = .int .i64 (k : Int) ∧ Hid (wr.ownsRow w.heap.size 38 4 o k (flatR voteF (qcsOf (l.take k)))) ∧ Hid (Below w.heap.size w wr)) (fun _ i _ => l.length - (intOf i).toNat)
  case atStart => exact ⟨0, Nat.zero_le _, rfl, World.ownsRow_nil _ _ _ _, Below.refl _ _⟩
  case round =>
    obtain ⟨k, hk, rfl, HO, HB⟩ := hrel
    by_cases hlt : (k : Int) < l.length
    · have hkn : k < l.length := by omega
      obtain ⟨g, off, rfl, hg, hc⟩ := HR.out (by omega)
      have q0 : (0 : Int) ≤ (k : Int) := by omega
      obtain ⟨x, hx⟩ : ∃ x, x = l[k] := ⟨_, rfl⟩
      have HSN : Hid (qcsOf (l.take (k + 1)) = qcsOf (l.take k) ++ [x.2.1]) := (by rw [hx]; exact qcsOf_snoc l k hkn : _ = _)
      have HC : Hid (∀ j (hj : j < 13), wr.cell? ⟨g, off + k * 13 + j, none⟩ = (letF x)[j]?) := fun j hj => by rw [HB.out.cell (by exact hg), hx]; exact hc k hkn j hj
      have c0 : wr.cell? ⟨g, off + k * 13, none⟩ = some (.int .i64 x.1.1) := HC.out 0 (by omega)
      have c1 : wr.cell? ⟨g, off + k * 13 + 1, none⟩ = some (.int .i64 x.1.2.1) := HC.out 1 (by omega)
      have c2 : wr.cell? ⟨g, off + k * 13 + 2, none⟩ = some (.int .i64 x.1.2.2.1) := HC.out 2 (by omega)
      have c3 : wr.cell? ⟨g, off + k * 13 + 3, none⟩ = some (.int .i64 x.1.2.2.2.1) := HC.out 3 (by omega)
      have c4 : wr.cell? ⟨g, off + k * 13 + 4, none⟩ = some (.int .i64 x.1.2.2.2.2) := HC.out 4 (by omega)
      have c5 : wr.cell? ⟨g, off + k * 13 + 5, none⟩ = some (.int .i64 x.2.1.1) := HC.out 5 (by omega)
      have c6 : wr.cell? ⟨g, off + k * 13 + 6, none⟩ = some (.int .i64 x.2.1.2.1) := HC.out 6 (by omega)
      have c7 : wr.cell? ⟨g, off + k * 13 + 7, none⟩ = some (.int .i64 x.2.1.2.2.1) := HC.out 7 (by omega)
      have c8 : wr.cell? ⟨g, off + k * 13 + 8, none⟩ = some (.int .i64 x.2.1.2.2.2) := HC.out 8 (by omega)
      have c9 : wr.cell? ⟨g, off + k * 13 + 9, none⟩ = some (.int .i64 x.2.2.1) := HC.out 9 (by omega)
      have c10 : wr.cell? ⟨g, off + k * 13 + 10, none⟩ = some (.int .i64 x.2.2.2.1) := HC.out 10 (by omega)
      have c11 : wr.cell? ⟨g, off + k * 13 + 11, none⟩ = some (.int .i64 x.2.2.2.2.1) := HC.out 11 (by omega)
      have c12 : wr.cell? ⟨g, off + k * 13 + 12, none⟩ = some (.int .i64 x.2.2.2.2.2) := HC.out 12 (by omega)
      clear hc hg hx HC
      obtain ⟨W, hW⟩ : ∃ W, W = wr.alloc (.cells (ltA x) 52) := ⟨_, rfl⟩
      have HW : Hid (Below wr.heap.size wr W ∧ W.heap[wr.heap.size]? = some (.cells (ltA x) 52 (0, 0))) := (by rw [hW]; exact ⟨ba (Below.refl _ _) _, heap_alloc_new wr _⟩ : _ ∧ _)
      unfold ltA at hW
      go_wp2_with (first | (rw [← hW]; clear hW c0 c1 c2 c3 c4 c5 c6 c7 c8 c9 c10 c11 c12; refine wpList_load_row rfl _ _ rfl wr.heap.size rfl 52 _ (0, 0) _ HW.out.2 Tryz.underlying52 rfl (by kernel_rfl) ?_) | fail)
      refine (toldQc_i x W).mono ?_
      rintro e y ⟨rfl, hb⟩
      have HY : Hid (Below w.heap.size w y ∧ y.ownsRow w.heap.size 38 4 u5 k (flatR voteF (qcsOf (l.take k)))) := ⟨bt (bt HB.out HW.out.1) hb, own_kept (own_kept HO.out HW.out.1) hb⟩
      clear hb HW
      have hys := HY.out.1.size
      have HA : Hid (Below y.heap.size y (y.alloc (.cells #[.int .i64 x.2.1.1, .int .i64 x.2.1.2.1, .int .i64 x.2.1.2.2.1, .int .i64 x.2.1.2.2.2] 38))) := alloc_below _ _
      go_wp2_with (first
        | (at_builtin; refine wpList_append_lies _ rfl (.tmp 14) (.tmp 18) 157 rfl w.heap.size 38 i0 _ 4 32 Tryz.underlying157 hi hz0 hz1 hz2 rfl (by decide) u5 _ _ rfl (own_kept HY.out.2 HA.out) ⟨y.heap.size, 0, none⟩ 1 1 (voteF x.2.1) rfl rfl (World.news_of_block (heap_alloc_new y _)) (voteF_one _) (by decide) (by unfold maxLen; omega) (by omega) (by simp; omega) _ rfl ?_; intro g3 cap3 y3 ho hg hwh hl3; have HY3 : Hid (Below w.heap.size w y3) := (bt HY.out.1 HA.out).grown hg (bt HY.out.1 HA.out).size (fun k hk => ((own_kept HY.out.2 HA.out).lt k hk).1); have HO3 : Hid (y3.ownsRow w.heap.size 38 4 (.slice (some ⟨g3, 0, none⟩) (k + 1) cap3) (k + 1) (flatR voteF (qcsOf (l.take (k + 1))))) := (by rw [HSN.out, flatR_append]; simpa [flatR] using ho : y3.ownsRow _ _ _ _ _ _); clear ho hg hwh hl3))
      go_roundw
      case rel => exact ⟨k + 1, by omega, by go_num, HO3.out, HY3.out⟩
      case measure => simp [intOf]; omega
    · have hkl : k = l.length := by omega
      have HK : Hid (k = l.length) := hkl
      clear hkl
      go_wp2
      go_ret
      have := HO.out
      rw [HK.out, List.take_length] at this
      have hq : (qcsOf l).length = l.length := by simp [qcsOf]
      exact ⟨_, rfl, by rw [hq]; exact this, HB.out⟩

/-- the boxes of what came in, of the answer -/
structure BeB (w y : World) (A : Array Value) : Prop where
  below : Below w.heap.size w y
  box : y.heap[w.heap.size]? = some (.cells A 38 (0, 0))
  zero : y.heap[w.heap.size + 1]? = some (.cells #[.int .i64 0, .int .i64 0, .int .i64 0, .int .i64 0] 38 (0, 0))
theorem BeB.more {w y x : World} {A : Array Value} (h : BeB w y A) (hb : Below y.heap.size y x) : BeB w x A :=
  ⟨bt h.below hb, (hb.block _ (Array.getElem?_eq_some_iff.1 h.box).1).trans h.box, (hb.block _ (Array.getElem?_eq_some_iff.1 h.zero).1).trans h.zero⟩
theorem BeB.put {w y x : World} {A A' : Array Value} (h : BeB w y A) (hg : y.grownBy x (some w.heap.size)) (hk : x.heap[w.heap.size]? = some (.cells A' 38 (0, 0))) : BeB w x A' :=
  ⟨h.below.grown hg h.below.size (fun k hk => by cases hk; omega), hk, (hg.block _ (Array.getElem?_eq_some_iff.1 h.zero).1 (fun e => by have := Option.some.inj e; omega)).trans h.zero⟩

set_option maxRecDepth 100000 in
set_option maxHeartbeats 8000000 in
theorem bestOf_i (l : List QC) (v : Value) (q : QC) (w : World) (hv : RowsR w v 4 voteF l) (hl : (l.length : Int) ≤ 1048576) :
    Calls Tryz.prog 122 #[v, .agg #[.int .i64 q.1, .int .i64 q.2.1, .int .i64 q.2.2.1, .int .i64 q.2.2.2], .func (.func 55) #[] #[]] w fun e w' => e = .returned (.agg #[.int .i64 (bestQs q l).1, .int .i64 (bestQs q l).2.1, .int .i64 (bestQs q l).2.2.1, .int .i64 (bestQs q l).2.2.2]) ∧ Below w.heap.size w w' := by
  obtain ⟨a, cap, rfl, hr⟩ := hv
  have HR : Hid (0 < l.length → _) := hr
  clear hr
  obtain ⟨W, hW⟩ : ∃ W, W = (w.alloc (.cells #[.int .i64 q.1, .int .i64 q.2.1, .int .i64 q.2.2.1, .int .i64 q.2.2.2] 38)).alloc (.cells #[.int .i64 0, .int .i64 0, .int .i64 0, .int .i64 0] 38) := ⟨_, rfl⟩
  have HC : Hid (BeB w W #[.int .i64 (bestQs q (l.take 0)).1, .int .i64 (bestQs q (l.take 0)).2.1, .int .i64 (bestQs q (l.take 0)).2.2.1, .int .i64 (bestQs q (l.take 0)).2.2.2]) := (by rw [hW]; exact ⟨ba (ba (Below.refl _ _) _) _, (alloc2 w _ _).1, (alloc2 w _ _).2⟩ : BeB w W _)
  go_enter Tryz.func122, Tryz.ntmps122
  go_wp2
  rw [← hW]
  clear hW
  go_loopw [11] (fun i wr => ∃ k : Nat, k ≤ l.length ∧ i = .int .i64 (k : Int) ∧ Hid (BeB w wr #[.int .i64 (bestQs q (l.take k)).1, .int .i64 (bestQs q (l.take k)).2.1, .int .i64 (bestQs q (l.take k)).2.2.1, .int .i64 (bestQs q (l.take k)).2.2.2])) (fun i _ => l.length - (intOf i).toNat)
  case atStart => exact ⟨0, Nat.zero_le _, rfl, HC.out⟩
  case round =>
    obtain ⟨k, hk, rfl, HY⟩ := hrel
    by_cases hlt : (k : Int) < l.length
    · have hkn : k < l.length := by omega
      obtain ⟨g, off, rfl, hg, hc⟩ := HR.out (by omega)
      have q0 : (0 : Int) ≤ (k : Int) := by omega
      obtain ⟨x, hx⟩ : ∃ x : QC, x = l[k] := ⟨_, rfl⟩
      obtain ⟨r, hr⟩ : ∃ r : QC, r = bestQs q (l.take k) := ⟨_, rfl⟩
      have HSN : Hid (bestQs q (l.take (k + 1)) = higherT r x) := (by rw [hr, hx]; exact bestQs_snoc q l k hkn : _ = _)
      have c0 : wr.cell? ⟨g, off + k * 4, none⟩ = some (.int .i64 x.1) := by rw [HY.out.below.cell (by exact hg), hx]; exact hc k hkn 0 (by omega)
      have c1 : wr.cell? ⟨g, off + k * 4 + 1, none⟩ = some (.int .i64 x.2.1) := by rw [HY.out.below.cell (by exact hg), hx]; exact hc k hkn 1 (by omega)
      have c2 : wr.cell? ⟨g, off + k * 4 + 2, none⟩ = some (.int .i64 x.2.2.1) := by rw [HY.out.below.cell (by exact hg), hx]; exact hc k hkn 2 (by omega)
      have c3 : wr.cell? ⟨g, off + k * 4 + 3, none⟩ = some (.int .i64 x.2.2.2) := by rw [HY.out.below.cell (by exact hg), hx]; exact hc k hkn 3 (by omega)
      rw [← hr] at HY
      clear hc hg hx hr
      obtain ⟨V, hV⟩ : ∃ V, V = wr.alloc (.cells #[.int .i64 x.1, .int .i64 x.2.1, .int .i64 x.2.2.1, .int .i64 x.2.2.2] 38) := ⟨_, rfl⟩
      have HV : Hid (BeB w V #[.int .i64 r.1, .int .i64 r.2.1, .int .i64 r.2.2.1, .int .i64 r.2.2.2] ∧ V.heap[wr.heap.size]? = some (.cells #[.int .i64 x.1, .int .i64 x.2.1, .int .i64 x.2.2.1, .int .i64 x.2.2.2] 38 (0, 0))) := (by rw [hV]; exact ⟨HY.out.more (alloc_below _ _), heap_alloc_new wr _⟩ : _ ∧ _)
      go_wp2_with (first
        | (rw [← hV]; clear hV c0 c1 c2 c3 HY; refine wpList_load_row rfl _ _ rfl w.heap.size rfl 38 _ (0, 0) _ HV.out.1.box Tryz.underlying38 rfl (by kernel_rfl) ?_)
        | (refine wpList_load_row rfl _ _ rfl wr.heap.size rfl 38 _ (0, 0) _ HV.out.2 Tryz.underlying38 rfl (by kernel_rfl) ?_))
      refine (higher_i r x V).mono ?_
      obtain ⟨h2, hh2⟩ : ∃ h2, h2 = higherT r x := ⟨_, rfl⟩
      rw [← hh2] at HSN ⊢
      clear hh2
      rintro e y ⟨rfl, hb⟩
      have HZ : Hid (BeB w y #[.int .i64 r.1, .int .i64 r.2.1, .int .i64 r.2.2.1, .int .i64 r.2.2.2]) := HV.out.1.more hb
      clear hb HV
      unfold qcVal
      go_wp2_with (refine wpList_store_blk rfl _ _ _ rfl w.heap.size #[.int .i64 h2.1, .int .i64 h2.2.1, .int .i64 h2.2.2.1, .int .i64 h2.2.2.2] rfl rfl 38 _ HZ.out.box (by kernel_rfl) rfl (by simp [Value.oneCell']) ?_; intro y1 hg hk hz; have HZ1 : Hid (BeB w y1 #[.int .i64 h2.1, .int .i64 h2.2.1, .int .i64 h2.2.2.1, .int .i64 h2.2.2.2]) := HZ.out.put hg hk; clear hg hk hz HZ)
      go_roundw
      case rel => exact ⟨k + 1, by omega, by go_num, by rw [HSN.out]; exact HZ1.out⟩
      case measure => simp [intOf]; omega
    · have hkl : k = l.length := by omega
      rw [hkl, List.take_length] at HY
      clear hkl hk
      go_wp2_with (first
        | (refine wpList_load_row rfl _ _ rfl w.heap.size rfl 38 _ (0, 0) _ HY.out.box Tryz.underlying38 rfl (by kernel_rfl) ?_)
        | (refine wpList_store_blk rfl _ _ _ rfl (w.heap.size + 1) #[.int .i64 (bestQs q l).1, .int .i64 (bestQs q l).2.1, .int .i64 (bestQs q l).2.2.1, .int .i64 (bestQs q l).2.2.2] rfl rfl 38 _ HY.out.zero (by kernel_rfl) rfl (by simp [Value.oneCell']) ?_; intro z hg hk hz; have HBz : Hid (Below w.heap.size w z) := HY.out.below.grown hg HY.out.below.size (fun k hk => by cases hk; omega); have HKz : Hid (z.heap[w.heap.size + 1]? = Option.some (.cells #[.int .i64 (bestQs q l).1, .int .i64 (bestQs q l).2.1, .int .i64 (bestQs q l).2.2.1, .int .i64 (bestQs q l).2.2.2] 38 (0, 0))) := hk; clear hg hk hz HY))
      refine bodyPost_ret (v := .agg #[.int .i64 (bestQs q l).1, .int .i64 (bestQs q l).2.1, .int .i64 (bestQs q l).2.2.1, .int .i64 (bestQs q l).2.2.2]) (results_cell_row Tryz.results122 _ _ (w.heap.size + 1) 38 _ (0, 0) _ rfl HKz.out Tryz.underlying38 rfl (by kernel_rfl)) rfl ?_
      exact ⟨rfl, HBz.out⟩
set_option maxRecDepth 100000 in
set_option maxHeartbeats 8000000 in
theorem bestQcR_i (p : PE) (s : PV) (w : World) (hR : PeerR w p s) (hn : (p.news.length : Int) ≤ 1048576) :
    Calls Tryz.prog 76 #[peerV p s] w fun e w' => e = .returned (.agg #[.int .i64 (bestT p).1, .int .i64 (bestT p).2.1, .int .i64 (bestT p).2.2.1, .int .i64 (bestT p).2.2.2]) ∧ Below w.heap.size w w' := by
  have HR := hid hR
  obtain ⟨R, hRR⟩ : ∃ R, R = bestT p := ⟨_, rfl⟩
  have HE : Hid (bestQs p.high (qcsOf p.news) = R) := (by rw [hRR]; exact bestQs_of _ _ : bestQs p.high (qcsOf p.news) = R)
  have hql : ((qcsOf p.news).length : Int) ≤ 1048576 := by simpa [qcsOf] using hn
  rw [← hRR]
  clear hR hRR
  obtain ⟨W, hW⟩ : ∃ W, W = (w.alloc (.cells (peerA p s) 45)).alloc (.cells #[.int .i64 0, .int .i64 0, .int .i64 0, .int .i64 0] 38) := ⟨_, rfl⟩
  have HC : Hid (Below w.heap.size w W ∧ W.heap[w.heap.size]? = some (.cells (peerA p s) 45 (0, 0)) ∧ W.heap[w.heap.size + 1]? = some (.cells #[.int .i64 0, .int .i64 0, .int .i64 0, .int .i64 0] 38 (0, 0))) := by
    rw [hW]; exact ⟨ba (ba (Below.refl _ _) _) _, alloc2 w _ _⟩
  go_enter Tryz.func76, Tryz.ntmps76
  go_wp2
  rw [← hW]
  clear hW
  refine wp_region_H (fun x => x.heap[w.heap.size]? = some (.cells (peerA p s) 45 (0, 0))) (by kernel_rfl) ?_
  show wpAnyH Tryz.prog _ _ _ _ (6 + 1) (Array.replicate 7 false) _ _
  have hS : W.drew.heap[w.heap.size]? = some (.cells (peerA p s) 45 (0, 0)) := HC.out.2.1
  refine h_take (j := 0) (e' := some 3) (v := .pointer (some ⟨w.heap.size, 19, none⟩)) rfl rfl (by kernel_rfl) (by kernel_rfl) (by kernel_rfl) (fun _ _ _ h => h) (Or.inl ⟨by rfl, ?_⟩) hS ?_
  · intro x hx
    go_simp
    try with_reducible rfl
  simp only [Act.put, List.setIfInBounds_toArray, List.set_cons_zero, List.set_cons_succ]
  refine h_take (j := 1) (e' := some 4) (v := s.news) rfl rfl (by kernel_rfl) (by kernel_rfl) (by kernel_rfl) (fun _ _ _ h => h) (Or.inl ⟨by rfl, ?_⟩) hS ?_
  · intro x hx
    have c19 := blk_cell hx 19 s.news rfl
    go_simp
    try with_reducible rfl
  simp only [Act.put, List.setIfInBounds_toArray, List.set_cons_zero, List.set_cons_succ]
  refine h_take (j := 3) (e' := some 6) (v := .pointer (some ⟨w.heap.size, 2, none⟩)) rfl rfl (by kernel_rfl) (by kernel_rfl) (by kernel_rfl) (fun _ _ _ h => h) (Or.inl ⟨by rfl, ?_⟩) hS ?_
  · intro x hx
    go_simp
    try with_reducible rfl
  simp only [Act.put, List.setIfInBounds_toArray, List.set_cons_zero, List.set_cons_succ]
  refine h_take (j := 4) (e' := some 7) (v := .agg #[.int .i64 p.high.1, .int .i64 p.high.2.1, .int .i64 p.high.2.2.1, .int .i64 p.high.2.2.2]) rfl rfl (by kernel_rfl) (by kernel_rfl) (by kernel_rfl) (fun _ _ _ h => h) (Or.inl ⟨by rfl, ?_⟩) hS ?_
  · intro x hx
    have c2 := blk_cell hx 2 (.int .i64 p.high.1) rfl
    have c3 := blk_cell hx 3 (.int .i64 p.high.2.1) rfl
    have c4 := blk_cell hx 4 (.int .i64 p.high.2.2.1) rfl
    have c5 := blk_cell hx 5 (.int .i64 p.high.2.2.2) rfl
    go_simp
    try with_reducible rfl
  simp only [Act.put, List.setIfInBounds_toArray, List.set_cons_zero, List.set_cons_succ]
  refine h_call (c := 2) (e' := some 5) (fn := 120) (args := #[s.news, .func (.func 121) #[] #[]]) rfl rfl (by kernel_rfl) (by rfl) ?_ ((ofEachQc_i p.news s.news W.drew (HR.out.below (HC.out.1.trans (Below.refl _ _).drew)).news hn).mono ?_)
  · go_simp
    try with_reducible rfl
  rintro e x1 ⟨v1, rfl, ho, hb0⟩
  have hb : Below W.heap.size W x1 := ((Below.refl _ _).drew).trans hb0
  have HX1 : Hid (Below w.heap.size w x1 ∧ x1.heap[w.heap.size]? = some (.cells (peerA p s) 45 (0, 0)) ∧ x1.heap[w.heap.size + 1]? = some (.cells #[.int .i64 0, .int .i64 0, .int .i64 0, .int .i64 0] 38 (0, 0))) := ⟨bt HC.out.1 hb, (hb.block _ (Array.getElem?_eq_some_iff.1 HC.out.2.1).1).trans HC.out.2.1, (hb.block _ (Array.getElem?_eq_some_iff.1 HC.out.2.2).1).trans HC.out.2.2⟩
  have HO1 : Hid (RowsR x1 v1 4 voteF (qcsOf p.news)) := rows_of_own voteF_len ho
  clear ho hb hb0 hS HC
  refine ⟨_, rfl, HX1.out.2.1, ?_⟩
  simp only [Act.put, List.setIfInBounds_toArray, List.set_cons_zero, List.set_cons_succ]
  refine h_call (c := 5) (e' := some 8) (fn := 122) (args := #[v1, .agg #[.int .i64 p.high.1, .int .i64 p.high.2.1, .int .i64 p.high.2.2.1, .int .i64 p.high.2.2.2], .func (.func 55) #[] #[]]) rfl rfl (by kernel_rfl) (by rfl) ?_ ((bestOf_i (qcsOf p.news) v1 p.high x1 HO1.out hql).mono ?_)
  · go_simp
    try with_reducible rfl
  rw [HE.out]
  rintro e x2 ⟨rfl, hb⟩
  have HX2 : Hid (Below w.heap.size w x2 ∧ x2.heap[w.heap.size]? = some (.cells (peerA p s) 45 (0, 0)) ∧ x2.heap[w.heap.size + 1]? = some (.cells #[.int .i64 0, .int .i64 0, .int .i64 0, .int .i64 0] 38 (0, 0))) := ⟨bt HX1.out.1 hb, (hb.block _ (Array.getElem?_eq_some_iff.1 HX1.out.2.1).1).trans HX1.out.2.1, (hb.block _ (Array.getElem?_eq_some_iff.1 HX1.out.2.2).1).trans HX1.out.2.2⟩
  clear hb HX1 HO1
  refine ⟨_, rfl, HX2.out.2.1, ?_⟩
  simp only [Act.put, List.setIfInBounds_toArray, List.set_cons_zero, List.set_cons_succ]
  refine h_store (s := 6) (N := w.heap.size + 1) (old := #[.int .i64 0, .int .i64 0, .int .i64 0, .int .i64 0]) (cells := #[.int .i64 R.1, .int .i64 R.2.1, .int .i64 R.2.2.1, .int .i64 R.2.2.2]) rfl rfl rfl rfl (by kernel_rfl) rfl rfl HX2.out.2.2 (by kernel_rfl) rfl (by simp [Value.oneCell']) ?_
  intro z hg hk
  have HBz : Hid (Below w.heap.size w z) := HX2.out.1.grown hg HX2.out.1.size (fun k hk => by cases hk; omega)
  have HKz : Hid (z.heap[w.heap.size + 1]? = Option.some (.cells #[.int .i64 R.1, .int .i64 R.2.1, .int .i64 R.2.2.1, .int .i64 R.2.2.2] 38 (0, 0))) := hk
  have HSz : Hid (z.heap[w.heap.size]? = some (.cells (peerA p s) 45 (0, 0))) := (hg.block _ (Array.getElem?_eq_some_iff.1 HX2.out.2.1).1 (fun e => by have := Option.some.inj e; omega)).trans HX2.out.2.1
  clear hg hk HX2
  refine ⟨HSz.out, ?_⟩
  refine wpAnyH_done (by kernel_rfl) ?_ _
  go_wp2
  refine bodyPost_ret (v := .agg #[.int .i64 R.1, .int .i64 R.2.1, .int .i64 R.2.2.1, .int .i64 R.2.2.2]) (results_cell_row Tryz.results76 _ _ (w.heap.size + 1) 38 _ (0, 0) _ rfl HKz.out Tryz.underlying38 rfl (by kernel_rfl)) rfl ?_
  exact ⟨rfl, HBz.out⟩

end Go.Proofs.YtjdddcldbfhbiasGreat
