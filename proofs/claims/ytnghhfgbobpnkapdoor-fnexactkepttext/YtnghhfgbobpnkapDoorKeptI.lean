/-
  What a replica keeps, as a text: the contract of the program's KeptText. (Made by gk9i.py.)
-/
import Derived.Test.YtnghhfgbobpnkapDoorWFnExactKeptText
import Derived.Test.YtnghhfgbobpnkapDoorAppG
import Derived.Test.YtnghhfgbobpnkapDoorSealI
import Derived.Test.YtnghhfgbobpnkapDoorTxtI
import Derived.Test.YtnghhfgbobpnkapDoorLetTS
namespace Go.Proofs.YtnghhfgbobpnkapDoor
open Go.RowKit Num

theorem fold_nums (row : List Int) : ∀ s : ByteArray, row.foldl (fun s n => s ++ lowT n) s = s ++ strOfNums (numsL row) := by
  induction row with
  | nil => intro s; exact (ByteArray.append_empty (b := s)).symm
  | cons n row ih =>
    intro s
    rw [List.foldl_cons, ih, show n :: row = [n] ++ row from rfl, nums_app, nums_one, ByteArray.append_assoc]
theorem nums_kept (id view h0 h1 h2 h3 l0 l1 l2 l3 a0 a1 a2 a3 : Int) (row : List Int) : strOfNums (numsL [id, view] ++ numsL [h0, h1, h2, h3] ++ numsL [l0, l1, l2, l3] ++ numsL [a0, a1, a2, a3] ++ numsL [(row.length : Int)] ++ numsL row) =
    row.foldl (fun s n => s ++ lowT n) (lowT id ++ lowT view ++ fourT h0 h1 h2 h3 ++ fourT l0 l1 l2 l3 ++ fourT a0 a1 a2 a3 ++ vT (row.length : Int)) := by
  have e : vT (row.length : Int) = lowT (row.length : Int) := by unfold lowT lowI; rw [if_neg (by omega)]
  rw [fold_nums, e, ← str_append, ← str_append, ← str_append, ← str_append, ← str_append, nums_four, nums_four, nums_four, nums_one, show [id, view] = [id] ++ [view] from rfl, nums_app, nums_one, nums_one]

set_option maxRecDepth 100000 in
set_option maxHeartbeats 8000000 in
theorem keptText_i : WFnExactKeptText.Prg := by
  intro p s base w hO hf ht
  have HR : Hid (PeerR w p s) := hO.reads
  have HF : Hid (fitP p) := hf
  have HT : Hid (Tabs w) := ht
  have fid := hf.id
  have fvw := hf.view
  have fh := hf.high
  have fl := hf.lock
  have fa := hf.last
  have frw := hf.len
  have HFR : Hid (∀ n ∈ p.row, n ≤ 9223372036854775807) := hf.row
  have HSZ : Hid (keptTx p = keptTo p p.row.length) := rfl
  clear hO hf ht
  obtain ⟨id, view, ⟨h0, h1, h2, h3⟩, ⟨l0, l1, l2, l3⟩, ⟨a0, a1, a2, a3⟩, row, cells, early, undos, votes, news, shown⟩ := p
  simp only at fid fvw fh fl fa frw HFR
  obtain ⟨fh0, fh1, fh2, fh3⟩ := fh
  obtain ⟨fl0, fl1, fl2, fl3⟩ := fl
  obtain ⟨fa0, fa1, fa2, fa3⟩ := fa
  obtain ⟨svr, svc, sve, svu, svv, svn⟩ := s
  obtain ⟨sar, scr, ser, hrr⟩ := HR.out.row
  change svr = _ at ser
  subst ser
  have HRR : Hid (0 < row.length → ∃ g off, sar = some ⟨g, off, none⟩ ∧ g < w.heap.size ∧ ∀ i (h : i < row.length), w.cell? ⟨g, off + i, none⟩ = some (.int .i64 row[i])) := fun h => by
    obtain ⟨g, off, e, hg, hc⟩ := hrr h
    refine ⟨g, off, e, hg, fun i hi => ?_⟩
    have := hc i hi 0 (by omega)
    simpa [intF] using this
  clear hrr
  obtain ⟨sac, scc, sec, -⟩ := HR.out.cells
  change svc = _ at sec
  subst sec
  obtain ⟨sae, sce, see, -⟩ := HR.out.early
  change sve = _ at see
  subst see
  obtain ⟨sau, scu, seu, -⟩ := HR.out.undos
  change svu = _ at seu
  subst seu
  obtain ⟨sav, scv, sev, -⟩ := HR.out.votes
  change svv = _ at sev
  subst sev
  obtain ⟨san, scn, sen, -⟩ := HR.out.news
  change svn = _ at sen
  subst sen
  obtain ⟨KT, hKT⟩ : ∃ KT, KT = keptTx ⟨id, view, (h0, h1, h2, h3), (l0, l1, l2, l3), (a0, a1, a2, a3), row, cells, early, undos, votes, news, shown⟩ := ⟨_, rfl⟩
  have HN : Hid (strOfNums (numsL [id, view] ++ numsL [h0, h1, h2, h3] ++ numsL [l0, l1, l2, l3] ++ numsL [a0, a1, a2, a3] ++ numsL [(row.length : Int)] ++ numsL row) = KT) := (by rw [hKT, nums_kept]; unfold keptTx keptTo keptHd; rw [List.take_length]; rfl : _ = KT)
  have HKT : Hid (KT = keptTx ⟨id, view, (h0, h1, h2, h3), (l0, l1, l2, l3), (a0, a1, a2, a3), row, cells, early, undos, votes, news, shown⟩) := hKT
  rw [← hKT]
  clear hKT
  have HZ : Hid ((numsL [id, view]).length ≤ 20 ∧ (numsL [h0, h1, h2, h3]).length ≤ 40 ∧ (numsL [l0, l1, l2, l3]).length ≤ 40 ∧ (numsL [a0, a1, a2, a3]).length ≤ 40 ∧ (numsL [(row.length : Int)]).length ≤ 10) := by
    have n0 := numsL_len (ns := [id, view]) (by intro n hn; simp at hn; omega)
    have n1 := numsL_len (ns := [h0, h1, h2, h3]) (by intro n hn; simp at hn; omega)
    have n2 := numsL_len (ns := [l0, l1, l2, l3]) (by intro n hn; simp at hn; omega)
    have n3 := numsL_len (ns := [a0, a1, a2, a3]) (by intro n hn; simp at hn; omega)
    have n4 := numsL_len (ns := [(row.length : Int)]) (by intro n hn; simp at hn; omega)
    simp only [List.length_cons, List.length_nil] at n0 n1 n2 n3 n4
    refine ⟨by omega, by omega, by omega, by omega, by omega⟩
  unfold peerV peerA
  simp only
  obtain ⟨W1, hW1⟩ : ∃ W1, W1 = w.alloc (.cells #[.int .i64 id, .int .i64 view, .int .i64 h0, .int .i64 h1, .int .i64 h2, .int .i64 h3, .int .i64 l0, .int .i64 l1, .int .i64 l2, .int .i64 l3, .int .i64 a0, .int .i64 a1, .int .i64 a2, .int .i64 a3, .slice sar row.length scr, .slice sac cells.length scc, .slice sae early.length sce, .slice sau undos.length scu, .slice sav votes.length scv, .slice san news.length scn, .int .i64 shown] 48) := ⟨_, rfl⟩
  have HB1 : Hid (Below w.heap.size w W1) := (by rw [hW1]; exact ba (Below.refl _ _) _ : Below w.heap.size w W1)
  have HK1 : Hid (W1.heap[w.heap.size]? = some (.cells #[.int .i64 id, .int .i64 view, .int .i64 h0, .int .i64 h1, .int .i64 h2, .int .i64 h3, .int .i64 l0, .int .i64 l1, .int .i64 l2, .int .i64 l3, .int .i64 a0, .int .i64 a1, .int .i64 a2, .int .i64 a3, .slice sar row.length scr, .slice sac cells.length scc, .slice sae early.length sce, .slice sau undos.length scu, .slice sav votes.length scv, .slice san news.length scn, .int .i64 shown] 48 (0, 0))) := (by rw [hW1]; exact heap_alloc_new w _ : W1.heap[w.heap.size]? = _)
  have l01 : w.heap.size ≤ W1.heap.size := HB1.out.size
  have HE1 : Hid (W1.heap.size = w.heap.size + 1) := (by rw [hW1]; simp : W1.heap.size = w.heap.size + 1)
  go_enter Tryd.func12, Tryd.ntmps12
  have c0 := blk_cell HK1.out 0 (.int .i64 id) rfl
  have c1 := blk_cell HK1.out 1 (.int .i64 view) rfl
  rw [hW1] at c0 c1
  go_wp2_with fail
  rw [← hW1]
  clear c0 c1 hW1
  refine (appendNumbers_i w.heap.size [] (.slice none 0 0) [id, view] _ 2 3 _ (by intro n hn; simp at hn; omega) (by simp) (by simp; omega) (World.ownsRow_nil _ _ _ _) ?_ (by decide)).mono ?_
  · have := heap_alloc_new W1 (.cells #[.int .i64 id, .int .i64 view] 3)
    rw [HE1.out] at this
    simpa using this
  rintro e w2 ⟨u2, rfl, hu2⟩
  rw [List.nil_append] at hu2
  have HA2 : Hid (w2.ownsRow w.heap.size 5 1 u2 (numsL [id, view]).length ((numsL [id, view]).map (Value.int .u8))) := hu2.1
  have HK2 : Hid (Kp5 w.heap.size W1 w2) := ((Kp5.refl w.heap.size W1).alloc l01 _).trans hu2.2
  have hS : w2.drew.heap[w.heap.size]? = some (.cells #[.int .i64 id, .int .i64 view, .int .i64 h0, .int .i64 h1, .int .i64 h2, .int .i64 h3, .int .i64 l0, .int .i64 l1, .int .i64 l2, .int .i64 l3, .int .i64 a0, .int .i64 a1, .int .i64 a2, .int .i64 a3, .slice sar row.length scr, .slice sac cells.length scc, .slice sae early.length sce, .slice sau undos.length scu, .slice sav votes.length scv, .slice san news.length scn, .int .i64 shown] 48 (0, 0)) := HK2.out.other _ _ _ _ HK1.out (by decide)
  clear hu2
  go_wp2
  refine wp_region_H (fun x => x.heap[w.heap.size]? = some (.cells #[.int .i64 id, .int .i64 view, .int .i64 h0, .int .i64 h1, .int .i64 h2, .int .i64 h3, .int .i64 l0, .int .i64 l1, .int .i64 l2, .int .i64 l3, .int .i64 a0, .int .i64 a1, .int .i64 a2, .int .i64 a3, .slice sar row.length scr, .slice sac cells.length scc, .slice sae early.length sce, .slice sau undos.length scu, .slice sav votes.length scv, .slice san news.length scn, .int .i64 shown] 48 (0, 0))) (by kernel_rfl) ?_
  show wpAnyH Tryd.prog _ _ _ _ (7 + 1) (Array.replicate 8 false) _ _
  refine h_take (j := 0) (e' := some 12) (v := u2) rfl rfl (by kernel_rfl) (by kernel_rfl) (by kernel_rfl) (fun _ _ _ h => h) (Or.inl ⟨by rfl, ?_⟩) hS ?_
  · intro x hx
    go_simp
    try with_reducible rfl
  simp only [Act.put, List.setIfInBounds_toArray, List.set_cons_zero, List.set_cons_succ]
  refine h_take (j := 1) (e' := some 13) (v := .pointer (some ⟨w.heap.size, 2, none⟩)) rfl rfl (by kernel_rfl) (by kernel_rfl) (by kernel_rfl) (fun _ _ _ h => h) (Or.inl ⟨by rfl, ?_⟩) hS ?_
  · intro x hx
    go_simp
    try with_reducible rfl
  simp only [Act.put, List.setIfInBounds_toArray, List.set_cons_zero, List.set_cons_succ]
  refine h_take (j := 2) (e' := some 14) (v := .agg #[.int .i64 h0, .int .i64 h1, .int .i64 h2, .int .i64 h3]) rfl rfl (by kernel_rfl) (by kernel_rfl) (by kernel_rfl) (fun _ _ _ h => h) (Or.inl ⟨by rfl, ?_⟩) hS ?_
  · intro x hx
    have c2 := blk_cell hx 2 (.int .i64 h0) rfl
    have c3 := blk_cell hx 3 (.int .i64 h1) rfl
    have c4 := blk_cell hx 4 (.int .i64 h2) rfl
    have c5 := blk_cell hx 5 (.int .i64 h3) rfl
    go_simp
    try with_reducible rfl
  simp only [Act.put, List.setIfInBounds_toArray, List.set_cons_zero, List.set_cons_succ]
  refine h_take (j := 4) (e' := some 16) (v := .pointer (some ⟨w.heap.size, 6, none⟩)) rfl rfl (by kernel_rfl) (by kernel_rfl) (by kernel_rfl) (fun _ _ _ h => h) (Or.inl ⟨by rfl, ?_⟩) hS ?_
  · intro x hx
    go_simp
    try with_reducible rfl
  simp only [Act.put, List.setIfInBounds_toArray, List.set_cons_zero, List.set_cons_succ]
  refine h_take (j := 5) (e' := some 17) (v := .agg #[.int .i64 l0, .int .i64 l1, .int .i64 l2, .int .i64 l3]) rfl rfl (by kernel_rfl) (by kernel_rfl) (by kernel_rfl) (fun _ _ _ h => h) (Or.inl ⟨by rfl, ?_⟩) hS ?_
  · intro x hx
    have c6 := blk_cell hx 6 (.int .i64 l0) rfl
    have c7 := blk_cell hx 7 (.int .i64 l1) rfl
    have c8 := blk_cell hx 8 (.int .i64 l2) rfl
    have c9 := blk_cell hx 9 (.int .i64 l3) rfl
    go_simp
    try with_reducible rfl
  simp only [Act.put, List.setIfInBounds_toArray, List.set_cons_zero, List.set_cons_succ]
  have l2' : w.heap.size ≤ w2.drew.heap.size := Nat.le_trans l01 HK2.out.below.size
  refine h_call (c := 3) (e' := some 15) (fn := 46) (args := #[u2, .agg #[.int .i64 h0, .int .i64 h1, .int .i64 h2, .int .i64 h3]]) rfl rfl (by kernel_rfl) (by rfl) ?_ ((appendQc_i w.heap.size (numsL [id, view]) u2 h0 h1 h2 h3 w2.drew fh0 fh1 fh2 fh3 (by have := HZ.out; omega) l2' (own_kept HA2.out (Below.refl _ _).drew)).mono ?_)
  · go_simp
    try with_reducible rfl
  rintro e w3 ⟨u3, rfl, hu3⟩
  have HA3 : Hid (w3.ownsRow w.heap.size 5 1 u3 (numsL [id, view] ++ numsL [h0, h1, h2, h3]).length ((numsL [id, view] ++ numsL [h0, h1, h2, h3]).map (Value.int .u8))) := hu3.1
  have HK3 : Hid (Kp5 w.heap.size w2.drew w3) := hu3.2
  have l3' : w.heap.size ≤ w3.heap.size := Nat.le_trans l2' HK3.out.below.size
  have hS3 : w3.heap[w.heap.size]? = some (.cells #[.int .i64 id, .int .i64 view, .int .i64 h0, .int .i64 h1, .int .i64 h2, .int .i64 h3, .int .i64 l0, .int .i64 l1, .int .i64 l2, .int .i64 l3, .int .i64 a0, .int .i64 a1, .int .i64 a2, .int .i64 a3, .slice sar row.length scr, .slice sac cells.length scc, .slice sae early.length sce, .slice sau undos.length scu, .slice sav votes.length scv, .slice san news.length scn, .int .i64 shown] 48 (0, 0)) := HK3.out.other _ _ _ _ hS (by decide)
  clear hu3
  refine ⟨u3, rfl, hS3, ?_⟩
  simp only [Act.put, List.setIfInBounds_toArray, List.set_cons_zero, List.set_cons_succ]
  refine h_call (c := 6) (e' := some 18) (fn := 46) (args := #[u3, .agg #[.int .i64 l0, .int .i64 l1, .int .i64 l2, .int .i64 l3]]) rfl rfl (by kernel_rfl) (by rfl) ?_ ((appendQc_i w.heap.size (numsL [id, view] ++ numsL [h0, h1, h2, h3]) u3 l0 l1 l2 l3 w3 fl0 fl1 fl2 fl3 (by rw [List.length_append]; have := HZ.out; omega) l3' HA3.out).mono ?_)
  · go_simp
    try with_reducible rfl
  rintro e w4 ⟨u4, rfl, hu4⟩
  have HA4 : Hid (w4.ownsRow w.heap.size 5 1 u4 (numsL [id, view] ++ numsL [h0, h1, h2, h3] ++ numsL [l0, l1, l2, l3]).length ((numsL [id, view] ++ numsL [h0, h1, h2, h3] ++ numsL [l0, l1, l2, l3]).map (Value.int .u8))) := hu4.1
  have HK4 : Hid (Kp5 w.heap.size w3 w4) := hu4.2
  have hS4 : w4.heap[w.heap.size]? = some (.cells #[.int .i64 id, .int .i64 view, .int .i64 h0, .int .i64 h1, .int .i64 h2, .int .i64 h3, .int .i64 l0, .int .i64 l1, .int .i64 l2, .int .i64 l3, .int .i64 a0, .int .i64 a1, .int .i64 a2, .int .i64 a3, .slice sar row.length scr, .slice sac cells.length scc, .slice sae early.length sce, .slice sau undos.length scu, .slice sav votes.length scv, .slice san news.length scn, .int .i64 shown] 48 (0, 0)) := HK4.out.other _ _ _ _ hS3 (by decide)
  have HB4 : Hid (Below w.heap.size w w4) := HB1.out.trans (HK2.out.below.trans (((Below.refl _ _).drew).trans (HK3.out.below.trans HK4.out.below)))
  clear hu4
  refine ⟨u4, rfl, hS4, ?_⟩
  simp only [Act.put, List.setIfInBounds_toArray, List.set_cons_zero, List.set_cons_succ]
  refine h_take (j := 7) (e' := some 3) (v := u4) rfl rfl (by kernel_rfl) (by kernel_rfl) (by kernel_rfl) (fun _ _ _ h => h) (Or.inl ⟨by rfl, ?_⟩) hS4 ?_
  · intro x hx
    go_simp
    try with_reducible rfl
  simp only [Act.put, List.setIfInBounds_toArray, List.set_cons_zero, List.set_cons_succ]
  refine wpAnyH_done (by kernel_rfl) ?_ _
  have HS4 : Hid (w4.heap[w.heap.size]? = some (.cells #[.int .i64 id, .int .i64 view, .int .i64 h0, .int .i64 h1, .int .i64 h2, .int .i64 h3, .int .i64 l0, .int .i64 l1, .int .i64 l2, .int .i64 l3, .int .i64 a0, .int .i64 a1, .int .i64 a2, .int .i64 a3, .slice sar row.length scr, .slice sac cells.length scc, .slice sae early.length sce, .slice sau undos.length scu, .slice sav votes.length scv, .slice san news.length scn, .int .i64 shown] 48 (0, 0))) := hS4
  have l4' : w.heap.size ≤ w4.heap.size := HB4.out.size
  clear hS hS3 hS4 HA2 HA3 HK2 HK3 HK4 HK1 l2' l3'
  have c10 := blk_cell HS4.out 10 (.int .i64 a0) rfl
  have c11 := blk_cell HS4.out 11 (.int .i64 a1) rfl
  have c12 := blk_cell HS4.out 12 (.int .i64 a2) rfl
  have c13 := blk_cell HS4.out 13 (.int .i64 a3) rfl
  go_wp2_with fail
  clear c10 c11 c12 c13
  refine (appendVote_i w.heap.size (numsL [id, view] ++ numsL [h0, h1, h2, h3] ++ numsL [l0, l1, l2, l3]) u4 a0 a1 a2 a3 w4 fa0 fa1 fa2 fa3 (by rw [List.length_append, List.length_append]; have := HZ.out; omega) l4' HA4.out).mono ?_
  rintro e w5 ⟨u5, rfl, hu5⟩
  have HA5 : Hid (w5.ownsRow w.heap.size 5 1 u5 (numsL [id, view] ++ numsL [h0, h1, h2, h3] ++ numsL [l0, l1, l2, l3] ++ numsL [a0, a1, a2, a3]).length ((numsL [id, view] ++ numsL [h0, h1, h2, h3] ++ numsL [l0, l1, l2, l3] ++ numsL [a0, a1, a2, a3]).map (Value.int .u8))) := hu5.1
  have HS5 : Hid (w5.heap[w.heap.size]? = some (.cells #[.int .i64 id, .int .i64 view, .int .i64 h0, .int .i64 h1, .int .i64 h2, .int .i64 h3, .int .i64 l0, .int .i64 l1, .int .i64 l2, .int .i64 l3, .int .i64 a0, .int .i64 a1, .int .i64 a2, .int .i64 a3, .slice sar row.length scr, .slice sac cells.length scc, .slice sae early.length sce, .slice sau undos.length scu, .slice sav votes.length scv, .slice san news.length scn, .int .i64 shown] 48 (0, 0))) := hu5.2.other _ _ _ _ HS4.out (by decide)
  have HB5 : Hid (Below w.heap.size w w5) := HB4.out.trans hu5.2.below
  have l5' : w.heap.size ≤ w5.heap.size := HB5.out.size
  clear hu5 HA4 HS4 HB4 l4'
  have c14 := blk_cell HS5.out 14 (.slice sar row.length scr) rfl
  go_wp2_with fail
  clear c14
  refine (appendNumbers_i w.heap.size (numsL [id, view] ++ numsL [h0, h1, h2, h3] ++ numsL [l0, l1, l2, l3] ++ numsL [a0, a1, a2, a3]) u5 [(row.length : Int)] _ 1 3 _ (by intro n hn; simp at hn; omega) (by simp only [List.length_append, List.length_cons, List.length_nil]; have := HZ.out; omega) (by simp; omega) (HA5.out.alloc _) ?_ (by decide)).mono ?_
  · have := heap_alloc_new w5 (.cells #[.int .i64 (row.length : Int)] 3)
    simpa using this
  rintro e w6 ⟨u6, rfl, hu6⟩
  have HA6 : Hid (w6.ownsRow w.heap.size 5 1 u6 (numsL [id, view] ++ numsL [h0, h1, h2, h3] ++ numsL [l0, l1, l2, l3] ++ numsL [a0, a1, a2, a3] ++ numsL [(row.length : Int)]).length ((numsL [id, view] ++ numsL [h0, h1, h2, h3] ++ numsL [l0, l1, l2, l3] ++ numsL [a0, a1, a2, a3] ++ numsL [(row.length : Int)]).map (Value.int .u8))) := hu6.1
  have HK6 : Hid (Kp5 w.heap.size w5 w6) := ((Kp5.refl w.heap.size w5).alloc l5' _).trans hu6.2
  have HS6 : Hid (w6.heap[w.heap.size]? = some (.cells #[.int .i64 id, .int .i64 view, .int .i64 h0, .int .i64 h1, .int .i64 h2, .int .i64 h3, .int .i64 l0, .int .i64 l1, .int .i64 l2, .int .i64 l3, .int .i64 a0, .int .i64 a1, .int .i64 a2, .int .i64 a3, .slice sar row.length scr, .slice sac cells.length scc, .slice sae early.length sce, .slice sau undos.length scu, .slice sav votes.length scv, .slice san news.length scn, .int .i64 shown] 48 (0, 0))) := HK6.out.other _ _ _ _ HS5.out (by decide)
  have HB6 : Hid (Below w.heap.size w w6) := HB5.out.trans HK6.out.below
  have l6' : w.heap.size ≤ w6.heap.size := HB6.out.size
  clear hu6 HA5 HS5 HB5 HK6 l5'
  have c14 := blk_cell HS6.out 14 (.slice sar row.length scr) rfl
  go_wp2_with fail
  clear c14
  refine (appendNumbers_g w.heap.size (numsL [id, view] ++ numsL [h0, h1, h2, h3] ++ numsL [l0, l1, l2, l3] ++ numsL [a0, a1, a2, a3] ++ numsL [(row.length : Int)]) u6 row sar scr w6 HFR.out (by simp only [List.length_append]; have := HZ.out; omega) l6' HA6.out ?_).mono ?_
  · intro h
    obtain ⟨g, off, e, hg, hc⟩ := HRR.out h
    exact ⟨g, off, e, hg, fun i hi => by rw [HB6.out.cell (by exact hg)]; exact hc i hi⟩
  rintro e w7 ⟨u7, rfl, hu7⟩
  have hcv := strOfNums_row hu7.1
  rw [HN.out] at hcv
  have HB7 : Hid (Below w.heap.size w w7) := HB6.out.trans hu7.2.below
  have HT7 : Hid (Tabs w7) := HT.out.below HB7.out
  clear hu7 HA6 HS6 HB6 l6'
  by_cases hsz : (KT.size : Int) ≤ 20000
  · have HE : Hid (sealT KT = KT ++ strOfNums (seal4 (sumT KT))) := (by unfold sealT; rw [if_pos (by omega)] : sealT KT = _)
    go_wp2_with fail
    refine (sealed_yes_i KT w7 hsz HT7).mono ?_
    rintro e w8 ⟨rfl, b8⟩
    have HB8 : Hid (Below w.heap.size w w8) := bt HB7.out b8
    clear b8 hcv
    go_wp2
    go_ret
    exact ⟨ret_txt HE.out.symm, HB8.out⟩
  · have HE : Hid (sealT KT = ByteArray.empty) := (by unfold sealT; rw [if_neg (by omega)] : sealT KT = _)
    go_wp2_with fail
    refine (sealed_no_i KT w7 (by omega)).mono ?_
    rintro e w8 ⟨rfl, b8⟩
    have HB8 : Hid (Below w.heap.size w w8) := bt HB7.out b8
    clear b8 hcv
    go_wp2
    go_ret
    exact ⟨ret_txt HE.out.symm, HB8.out⟩

end Go.Proofs.YtnghhfgbobpnkapDoor
