/-
  A block that is put in by hand: the contract of the specification's HandBlock. (Made by ghs16.py.)
-/
import Derived.Test.YtcfgfhodbjakoavGreatDoorHandN
import Derived.Test.YtcfgfhodbjakoavGreatDoorClusW
import Derived.Test.YtcfgfhodbjakoavGreatDoorQcS
import Derived.Test.YtcfgfhodbjakoavGreatDoorPutBS
import Derived.Test.YtcfgfhodbjakoavGreatDoorFloatP
namespace Go.Proofs.YtcfgfhodbjakoavGreatDoor
open Go.RowKit Num

theorem handF_yes {c : CU} {b : BK} (h1 : qcRightB c.tree c.n b.2.2 = true) (h2 : provenB c.said b.2.2 c.liars = true) : handBlockF c b = ({ c with tree := putT c.tree b }, putAt c.tree b) := by
  have h0 : qcCode c b.2.2 = 0 := by unfold qcCode; rw [h1, h2]; rfl
  unfold handBlockF handCode
  rw [if_pos h0]
  by_cases h3 : putAt c.tree b = -1
  · rw [if_pos h3, if_neg (by decide)]
    rcases putAt_cases c.tree b with ⟨h4, h5⟩ | ⟨h4, _⟩
    · rw [h4, h5]
    · omega
  · rw [if_neg h3, if_pos rfl]
theorem handF_no {c : CU} {b : BK} (h1 : qcRightB c.tree c.n b.2.2 = false ∨ provenB c.said b.2.2 c.liars = false) : handBlockF c b = (c, -1) := by
  have h0 : qcCode c b.2.2 ≠ 0 := by
    rcases qcCode_cases c b.2.2 with ⟨_, h⟩ | ⟨_, _, h⟩ | ⟨h2, h3, _⟩
    · rw [h]; decide
    · rw [h]; decide
    · rcases h1 with h | h
      · rw [h2] at h; exact absurd h (by decide)
      · rw [h3] at h; exact absurd h (by decide)
  unfold handBlockF handCode
  rw [if_neg h0, if_neg h0]
theorem wpList_load_mid_w {P : Program} {ops : Array Oper} {rest : List Oper} {op : Oper} {a : Act} {w : World} {Q : Exit → Act → World → Prop} (hw : Region.wanted op (yielded ops a.tmps) = true) (ty : TypeId) (x : Operand) (ho : op.op = .load ty x)
    (b o : Nat) (hx : a.eval x = .pointer (some ⟨b, o, none⟩)) (cs : List Value) (d : TypeDesc) (hc : w.rangeAt b o cs)
    (hu : P.underlying ty = some d) (hd : d.isRow = true) (hi : (P.info? ty).map (·.size) = some cs.length)
    (h : wpList P ops Q rest (a.put op.dst (.agg cs.toArray)) w) : wpList P ops Q (op :: rest) a w :=
  wpList_step fun K hK => by rw [if_pos hw]; exact wp_load_mid ty x ho b o hx cs d hc hu hd hi (hK _ _ h)
def qcLs (q : QC) : List Value := [.int .i64 q.1, .int .i64 q.2.1, .int .i64 q.2.2.1, .int .i64 q.2.2.2]
theorem blk_justs {w : World} {n : Nat} {b : BK} {cv : Value} {t : TypeId} (h : w.heap[n]? = some (.cells (blkA b cv) t (0, 0))) : w.rangeAt n 3 (qcLs b.2.2) := fun j v hj => by
  refine blk_cell h (3 + j) v ?_
  match j, hj with
  | 0, h => exact h
  | 1, h => exact h
  | 2, h => exact h
  | 3, h => exact h
  | j + 4, h => simp [qcLs] at h

set_option maxRecDepth 100000 in
set_option maxHeartbeats 16000000 in
theorem handBlock_s (c : CU) (b : BK) (cb : Value) (w : World) (hB : RowsR w cb 3 cmdF b.2.1) (hk : okC c) (hg : goodC c) (hkb : okB b) (hq : wfQ b.2.2) (s : CW) (lo hi : Nat) (hO : OwnC lo hi w c s) :
    Calls Tryz.prog 17 #[clusV c s, blkV b cb] w fun e w' => ∃ s', e = .returned (.tuple #[clusV (handBlockF c b).1 s', .int .i64 (handBlockF c b).2]) ∧ OwnC w.heap.size w'.heap.size w' (handBlockF c b).1 s' ∧ Below w.heap.size w w' := by
  have HOB := hid hO
  have HKB := hid hkb
  have HOK := hid hk
  have HCB := hid hB
  have HK : Hid ((s.tree.length : Int) ≤ 1048576 ∧ (c.said.length : Int) ≤ 1048576 ∧ (-9223372036854775808 ≤ c.n ∧ c.n ≤ 9223372036854775807) ∧ fitQ b.2.2) := ⟨by have := hk.tree.1; rw [← hO.etree, bks_len] at this; exact this, hk.said, bounds_i64 hg.n, ⟨(bounds_i64 hq.2.2.2).1, (bounds_i64 hq.2.2.2).2⟩⟩
  clear hB hk hg hkb hq hO
  obtain ⟨G, hG⟩ : ∃ G, G = handBlockF c b := ⟨_, rfl⟩
  have HG : Hid (handBlockF c b = G) := hG.symm
  rw [← hG]
  clear hG
  obtain ⟨W, hW⟩ : ∃ W, W = ((w.alloc (.cells (clusA c s) 43)).alloc (.cells (blkA b cb) 61)).alloc (.cells zeroC 43) := ⟨_, rfl⟩
  have HC : Hid (Below w.heap.size w W ∧ W.heap[w.heap.size]? = some (.cells (clusA c s) 43 (0, 0)) ∧ W.heap[w.heap.size + 1]? = some (.cells (blkA b cb) 61 (0, 0)) ∧ W.heap[w.heap.size + 1 + 1]? = some (.cells zeroC 43 (0, 0))) := by
    rw [hW]; exact ⟨ba (ba (ba (Below.refl _ _) _) _) _, alloc3 w _ _ _⟩
  have HWS : Hid (w.heap.size + 1 + 1 < W.heap.size) := (Array.getElem?_eq_some_iff.1 HC.out.2.2.2).1
  unfold zeroC at hW
  unfold blkV
  go_enter Tryz.func17, Tryz.ntmps17
  go_wp2_with (first
    | (rw [← hW]; clear hW; refine wpList_load_row rfl _ _ rfl w.heap.size rfl 43 _ (0, 0) _ HC.out.2.1 Tryz.underlying43 rfl (by kernel_rfl) ?_)
    | (refine wpList_load_row rfl _ _ rfl w.heap.size rfl 43 _ (0, 0) _ HC.out.2.1 Tryz.underlying43 rfl (by kernel_rfl) ?_))
  refine (copyC_s c s W (HOB.out.below HC.out.1).reads (HOB.out.below HC.out.1).tree.read HOK.out).mono ?_
  rintro e x1 ⟨s1, rfl, ho, hb⟩
  have HX1 : Hid (Below W.heap.size W x1 ∧ OwnC W.heap.size x1.heap.size x1 c s1) := ⟨hb, ho⟩
  have HR1 : Hid (∀ y, Below x1.heap.size x1 y → y.heap[w.heap.size]? = some (.cells (clusA c s) 43 (0, 0)) ∧ y.heap[w.heap.size + 1]? = some (.cells (blkA b cb) 61 (0, 0)) ∧ y.heap[w.heap.size + 1 + 1]? = some (.cells zeroC 43 (0, 0)) ∧ Below w.heap.size w y) := fun y hy => ⟨((hb.trans (hy.mono hb.size)).block _ (Array.getElem?_eq_some_iff.1 HC.out.2.1).1).trans HC.out.2.1, ((hb.trans (hy.mono hb.size)).block _ (Array.getElem?_eq_some_iff.1 HC.out.2.2.1).1).trans HC.out.2.2.1, ((hb.trans (hy.mono hb.size)).block _ (Array.getElem?_eq_some_iff.1 HC.out.2.2.2).1).trans HC.out.2.2.2, bt HC.out.1 (hb.trans (hy.mono hb.size))⟩
  clear ho hb
  go_wp2_with (first
    | (refine wpList_store_blk rfl _ _ _ rfl x1.heap.size (clusA c s1) rfl rfl 43 zeroC (heap_alloc_new x1 _) (by kernel_rfl) rfl (clusA_one HX1.out.2) ?_; intro y1 hgr hk hz; have hb1 : Below x1.heap.size x1 y1 := made_below hgr; have HY1 : Hid (Below x1.heap.size x1 y1 ∧ y1.heap[x1.heap.size]? = some (.cells (clusA c s1) 43 (0, 0)) ∧ OwnC W.heap.size x1.heap.size y1 c s1) := ⟨hb1, hk, HX1.out.2.below hb1⟩; have c3 := blk_cell (HR1.out y1 hb1).1 3 s.treeV rfl; have c0 := blk_cell (HR1.out y1 hb1).1 0 (.int .i64 c.n) rfl; clear hgr hk hz hb1)
    | (refine wpList_load_mid rfl _ _ rfl (w.heap.size + 1) 3 rfl (qcLs b.2.2) _ (blk_justs (HR1.out y1 HY1.out.1).2.1) Tryz.underlying45 rfl (by kernel_rfl) ?_))
  clear c3 c0
  refine (qcRight_s s.tree s.treeV c.n b.2.2 y1 ((HOB.out.below (HR1.out y1 HY1.out.1).2.2.2).reads.tree) HK.out.1 HK.out.2.2.1.1 HK.out.2.2.1.2 HK.out.2.2.2).mono ?_
  rintro e y2 ⟨rfl, hb2⟩
  rw [HOB.out.etree]
  have HY2 : Hid (Below x1.heap.size x1 y2 ∧ y2.heap[x1.heap.size]? = some (.cells (clusA c s1) 43 (0, 0)) ∧ OwnC W.heap.size x1.heap.size y2 c s1) := ⟨bt HY1.out.1 hb2, (hb2.block _ (Array.getElem?_eq_some_iff.1 HY1.out.2.1).1).trans HY1.out.2.1, HY1.out.2.2.below hb2⟩
  clear hb2 HY1
  cases h1 : qcRightB c.tree c.n b.2.2 with
  | false =>
    have HE : Hid (G = (c, -1)) := HG.out.symm.trans (handF_no (Or.inl h1))
    have HYY : Hid (Below w.heap.size w y2 ∧ y2.heap[x1.heap.size]? = some (.cells (clusA c s1) 43 (0, 0)) ∧ y2.heap[w.heap.size + 1 + 1]? = some (.cells zeroC 43 (0, 0)) ∧ True) := ⟨(HR1.out y2 HY2.out.1).2.2.2, HY2.out.2.1, (HR1.out y2 HY2.out.1).2.2.1, trivial⟩
    clear h1
    go_wp2_with (first
      | ((with_reducible show wpList _ _ _ ({ dst := some 29, op := _, type := _, pos := _, after := _, guard := _ } :: _) _ _); refine wpList_load_row rfl _ _ rfl x1.heap.size rfl 43 _ (0, 0) _ HYY.out.2.1 Tryz.underlying43 rfl (by kernel_rfl) ?_)
      | ((with_reducible show wpList _ _ _ ({ dst := none, op := _, type := _, pos := _, after := _, guard := _ } :: _) _ _); refine wpList_store_blk rfl _ _ _ rfl (w.heap.size + 1 + 1) (clusA c s1) rfl rfl 43 zeroC HYY.out.2.2.1 (by kernel_rfl) rfl (clusA_one HY2.out.2.2) ?_; intro z hgr hnew hz; have HBz : Hid (Below w.heap.size w z ∧ z.heap[w.heap.size + 1 + 1]? = some (.cells (clusA c s1) 43 (0, 0)) ∧ OwnC w.heap.size z.heap.size z c s1) := ⟨HYY.out.1.grown hgr HYY.out.1.size (fun k hk => by cases hk; omega), hnew, ((HY2.out.2.2.boxT HYY.out.2.2.1 hgr).low (by have := HWS.out; omega)).wide (Nat.le_trans HY2.out.2.2.size hgr.size) (Nat.le_refl _)⟩; clear hgr hnew hz))
    refine bodyPost_ret (v := .tuple #[.agg (clusA c s1), .int .i64 (-1)]) (results_ct Tryz.results17 _ _ (w.heap.size + 1 + 1) 43 _ (0, 0) _ _ rfl HBz.out.2.1 Tryz.underlying43 rfl (by kernel_rfl) rfl) rfl ?_
    rw [HE.out]
    exact ⟨s1, rfl, HBz.out.2.2, HBz.out.1⟩
  | true =>
    have c6 := blk_cell (HR1.out y2 HY2.out.1).1 6 s.said rfl
    have c2 := blk_cell (HR1.out y2 HY2.out.1).1 2 (.int .i64 c.liars) rfl
    go_wp2_with (refine wpList_load_mid_w (by first | rfl | simp [Region.wanted, yielded]) _ _ rfl (w.heap.size + 1) 3 rfl (qcLs b.2.2) _ (blk_justs (HR1.out y2 HY2.out.1).2.1) Tryz.underlying45 rfl (by kernel_rfl) ?_)
    clear c6 c2
    refine (proven_s c.said s.said b.2.2 c.liars y2 ((HOB.out.below (HR1.out y2 HY2.out.1).2.2.2).reads.said) HK.out.2.1).mono ?_
    rintro e y3 ⟨rfl, hb3⟩
    have HY3 : Hid (Below x1.heap.size x1 y3 ∧ y3.heap[x1.heap.size]? = some (.cells (clusA c s1) 43 (0, 0)) ∧ OwnC W.heap.size x1.heap.size y3 c s1) := ⟨bt HY2.out.1 hb3, (hb3.block _ (Array.getElem?_eq_some_iff.1 HY2.out.2.1).1).trans HY2.out.2.1, HY2.out.2.2.below hb3⟩
    clear hb3 HY2
    cases h2 : provenB c.said b.2.2 c.liars with
    | false =>
      have HE : Hid (G = (c, -1)) := HG.out.symm.trans (handF_no (Or.inr h2))
      have HYY : Hid (Below w.heap.size w y3 ∧ y3.heap[x1.heap.size]? = some (.cells (clusA c s1) 43 (0, 0)) ∧ y3.heap[w.heap.size + 1 + 1]? = some (.cells zeroC 43 (0, 0)) ∧ True) := ⟨(HR1.out y3 HY3.out.1).2.2.2, HY3.out.2.1, (HR1.out y3 HY3.out.1).2.2.1, trivial⟩
      clear h1 h2
      go_wp2_with (first
        | ((with_reducible show wpList _ _ _ ({ dst := some 29, op := _, type := _, pos := _, after := _, guard := _ } :: _) _ _); refine wpList_load_row rfl _ _ rfl x1.heap.size rfl 43 _ (0, 0) _ HYY.out.2.1 Tryz.underlying43 rfl (by kernel_rfl) ?_)
        | ((with_reducible show wpList _ _ _ ({ dst := none, op := _, type := _, pos := _, after := _, guard := _ } :: _) _ _); refine wpList_store_blk rfl _ _ _ rfl (w.heap.size + 1 + 1) (clusA c s1) rfl rfl 43 zeroC HYY.out.2.2.1 (by kernel_rfl) rfl (clusA_one HY3.out.2.2) ?_; intro z hgr hnew hz; have HBz : Hid (Below w.heap.size w z ∧ z.heap[w.heap.size + 1 + 1]? = some (.cells (clusA c s1) 43 (0, 0)) ∧ OwnC w.heap.size z.heap.size z c s1) := ⟨HYY.out.1.grown hgr HYY.out.1.size (fun k hk => by cases hk; omega), hnew, ((HY3.out.2.2.boxT HYY.out.2.2.1 hgr).low (by have := HWS.out; omega)).wide (Nat.le_trans HY3.out.2.2.size hgr.size) (Nat.le_refl _)⟩; clear hgr hnew hz))
      refine bodyPost_ret (v := .tuple #[.agg (clusA c s1), .int .i64 (-1)]) (results_ct Tryz.results17 _ _ (w.heap.size + 1 + 1) 43 _ (0, 0) _ _ rfl HBz.out.2.1 Tryz.underlying43 rfl (by kernel_rfl) rfl) rfl ?_
      rw [HE.out]
      exact ⟨s1, rfl, HBz.out.2.2, HBz.out.1⟩
    | true =>
      obtain ⟨A, hA⟩ : ∃ A, A = putAt c.tree b := ⟨_, rfl⟩
      have HE : Hid (G = ({ c with tree := putT c.tree b }, A)) := HG.out.symm.trans ((handF_yes h1 h2).trans (by rw [hA]))
      have HA : Hid (putAt c.tree b = A) := hA.symm
      have c3 := blk_cell (HR1.out y3 HY3.out.1).1 3 s.treeV rfl
      clear h1 h2 hA
      go_wp2_with (refine wpList_load_row rfl _ _ rfl (w.heap.size + 1) rfl 61 _ (0, 0) _ (HR1.out y3 HY3.out.1).2.1 Tryz.underlying61 rfl (by kernel_rfl) ?_)
      clear c3
      have hput := putBlock_s s.tree s.treeV b cb y3 ((HOB.out.below (HR1.out y3 HY3.out.1).2.2.2).tree.read) (HCB.out.below (HR1.out y3 HY3.out.1).2.2.2) (by rw [HOB.out.etree]; exact HOK.out.tree) HKB.out
      rw [HOB.out.etree, HA.out] at hput
      refine hput.mono ?_
      clear hput
      rintro e y4 ⟨tv, qs, rfl, hqs, hot, hb4⟩
      have HY4 : Hid (Below x1.heap.size x1 y4 ∧ y4.heap[x1.heap.size]? = some (.cells (clusA c s1) 43 (0, 0)) ∧ OwnC W.heap.size x1.heap.size y4 c s1) := ⟨bt HY3.out.1 hb4, (hb4.block _ (Array.getElem?_eq_some_iff.1 HY3.out.2.1).1).trans HY3.out.2.1, HY3.out.2.2.below hb4⟩
      have HT4 : Hid (bks qs = putT c.tree b ∧ OwnT y4 y3.heap.size tv qs ∧ x1.heap.size ≤ y3.heap.size ∧ W.heap.size ≤ x1.heap.size ∧ y3.heap.size ≤ y4.heap.size) := ⟨hqs, hot, HY3.out.1.size, HX1.out.1.size, hb4.size⟩
      clear hqs hot hb4 HY3
      obtain ⟨C2, hC2⟩ : ∃ C2 : CU, C2 = { c with tree := putT c.tree b } := ⟨_, rfl⟩
      have HC2 : Hid ({ c with tree := putT c.tree b } = C2) := hC2.symm
      obtain ⟨S2, hS2⟩ : ∃ S2 : CW, S2 = { s1 with treeV := tv, tree := qs } := ⟨_, rfl⟩
      have HA2 : Hid (clusA C2 S2 = #[.int .i64 c.n, .bool c.chain, .int .i64 c.liars, tv, s1.peersV, s1.net, s1.said, s1.pend]) := (by rw [hC2, hS2]; rfl : _ = _)
      have HN4 : Hid (OwnC W.heap.size y4.heap.size y4 C2 S2) := by
        refine (?_ : OwnC W.heap.size y4.heap.size y4 C2 S2)
        have h1 := HY4.out.2.2.setTree (v := tv) (ps := qs) (hi' := y4.heap.size) (Nat.le_trans HT4.out.2.2.1 (by have := (Array.getElem?_eq_some_iff.1 HY4.out.2.1).1; have := HY4.out.1.size; have := HT4.out; omega)) (Nat.le_refl _) (HT4.out.2.1.base (by have := HT4.out; omega)) (fun g hg => ⟨by have := (inTree_ge HT4.out.2.1 hg).1; have := HT4.out; omega, (inTree_ge HT4.out.2.1 hg).2⟩) HT4.out.2.2.2.1
        rw [HT4.out.1, HC2.out, ← hS2] at h1
        exact h1
      rw [HC2.out] at HE
      clear hC2 hS2
      go_wp2_with (first
        | (refine wpList_store_cell rfl _ _ _ rfl x1.heap.size 3 tv rfl rfl _ _ HY4.out.2.1 (by kernel_rfl) (by simp [clusA]) (own_oneC HT4.out.2.1.row) (clusA C2 S2) (by rw [HA2.out]; rfl) ?_; intro y5 hgr hk; have HYY : Hid (Below w.heap.size w y5 ∧ y5.heap[x1.heap.size]? = some (.cells (clusA C2 S2) 43 (0, 0)) ∧ y5.heap[w.heap.size + 1 + 1]? = some (.cells zeroC 43 (0, 0)) ∧ OwnC W.heap.size y4.heap.size y5 C2 S2) := ⟨(HR1.out y4 HY4.out.1).2.2.2.grown hgr (HR1.out y4 HY4.out.1).2.2.2.size (fun k hk => by cases hk; have := HT4.out; have := HWS.out; omega), hk, (hgr.block _ (Array.getElem?_eq_some_iff.1 (HR1.out y4 HY4.out.1).2.2.1).1 (fun e => by have := Option.some.inj e; have := HT4.out; have := HWS.out; omega)).trans (HR1.out y4 HY4.out.1).2.2.1, HN4.out.boxT HY4.out.2.1 hgr⟩; clear hgr hk)
        | ((with_reducible show wpList _ _ _ ({ dst := some 39, op := _, type := _, pos := _, after := _, guard := _ } :: _) _ _); refine wpList_load_row rfl _ _ rfl x1.heap.size rfl 43 _ (0, 0) _ HYY.out.2.1 Tryz.underlying43 rfl (by kernel_rfl) ?_)
        | ((with_reducible show wpList _ _ _ ({ dst := none, op := _, type := _, pos := _, after := _, guard := _ } :: _) _ _); refine wpList_store_blk rfl _ _ _ rfl (w.heap.size + 1 + 1) (clusA C2 S2) rfl rfl 43 zeroC HYY.out.2.2.1 (by kernel_rfl) rfl (clusA_one HYY.out.2.2.2) ?_; intro z hgr hnew hz; have HBz : Hid (Below w.heap.size w z ∧ z.heap[w.heap.size + 1 + 1]? = some (.cells (clusA C2 S2) 43 (0, 0)) ∧ OwnC w.heap.size z.heap.size z C2 S2) := ⟨HYY.out.1.grown hgr HYY.out.1.size (fun k hk => by cases hk; omega), hnew, ((HYY.out.2.2.2.boxT HYY.out.2.2.1 hgr).low (by have := HWS.out; omega)).wide (Nat.le_trans HYY.out.2.2.2.size hgr.size) (Nat.le_refl _)⟩; clear hgr hnew hz))
      refine bodyPost_ret (v := .tuple #[.agg (clusA C2 S2), .int .i64 A]) (results_ct Tryz.results17 _ _ (w.heap.size + 1 + 1) 43 _ (0, 0) _ _ rfl HBz.out.2.1 Tryz.underlying43 rfl (by kernel_rfl) rfl) rfl ?_
      rw [HE.out]
      exact ⟨S2, rfl, HBz.out.2.2, HBz.out.1⟩

end Go.Proofs.YtcfgfhodbjakoavGreatDoor
