/-
  What is done too early: the contract of the specification's TooEarly. (Made by gt10b.py.)
-/
import Derived.Test.YtnghhfgbobpnkarGreatRThrS
import Derived.Test.YtnghhfgbobpnkarGreatRBackS
import Derived.Maps.AppendAt
namespace Go.Proofs.YtnghhfgbobpnkarGreatR
open Go.RowKit Num

/-- what takes the blocks of a row back -/
def earU (t : List BK) : CL → List Int → List UN
  | _, [] => []
  | cs, k :: l => undosC cs (cmdsAt t k) ++ earU t (doneAllC cs (cmdsAt t k)) l
theorem earU_take (t : List BK) (row : List Int) : ∀ (cs : CL) (m : Nat) (h : m < row.length), earU t cs (row.take (m + 1)) = earU t cs (row.take m) ++ undosC (rowC t cs (row.take m)) (cmdsAt t row[m]) := by
  induction row with
  | nil => intro cs m h; simp at h
  | cons k row ih =>
    intro cs m h
    cases m with
    | zero => simp [earU, rowC]
    | succ m =>
      have := ih (doneAllC cs (cmdsAt t k)) m (by simpa using h)
      simp only [List.take_succ_cons, earU, rowC, List.getElem_cons_succ, List.append_assoc]
      rw [this]
theorem earU_len {t : List BK} (ht : okT t) : ∀ (l : List Int) (cs : CL), (earU t cs l).length ≤ l.length * 1048576
  | [], _ => by simp [earU]
  | k :: l, cs => by
    have h1 := earU_len ht l (doneAllC cs (cmdsAt t k))
    have h2 := (cmdsAt_ok ht k).2
    simp only [earU, List.length_append, undosC_len, List.length_cons]
    omega
/-- blocks done too early -/
def earP (t : List BK) (p : PE) (l : List Int) : PE := { p with cells := rowC t p.cells l, early := l, undos := earU t p.cells l }
def earlyP (t : List BK) (p : PE) (k : Int) : PE := earP t (backP p) (afterI t k (lastI p.row))
theorem ear_own {lo hi : Nat} {w : World} {q : PE} {s : PV} (t : List BK) (L : List Int) (he : q.early = []) (hu : q.undos = []) (h : OwnD lo hi w q s) : OwnD lo hi w (earP t q (L.take 0)) s := h.other rfl (by simp [earP, rowC]) (by simp [earP, he]) (by simp [earP, earU, hu]) rfl rfl
theorem ear_step {ps : TL} {q : PE} {L : List Int} {m j : Nat} (hm : m < L.length) (hj : L[m] = (j : Int)) (hjn : j < ps.length) :
    ({ earP (bks ps) q (L.take m) with cells := doneAllC (earP (bks ps) q (L.take m)).cells ps[j].1.2.1, early := (earP (bks ps) q (L.take m)).early ++ [(j : Int)], undos := (earP (bks ps) q (L.take m)).undos ++ undosC (earP (bks ps) q (L.take m)).cells ps[j].1.2.1 } : PE) = earP (bks ps) q (L.take (m + 1)) := by
  have hc : cmdsAt (bks ps) (j : Int) = ps[j].1.2.1 := by unfold cmdsAt; rw [if_pos ⟨by omega, by rw [bks_len]; omega⟩]; simp [bks, hjn]
  have hr := rowC_take (bks ps) L q.cells m hm
  have hu := earU_take (bks ps) L q.cells m hm
  rw [hj, hc] at hr hu
  have ht : L.take (m + 1) = L.take m ++ [(j : Int)] := by rw [List.take_add_one, List.getElem?_eq_getElem hm, hj]; rfl
  unfold earP
  simp only [hr, hu]
  rw [ht]
theorem row_kind {w : World} {b1 b2 m1 m2 n1 n2 : Nat} {e1 e2 : TypeId} {v1 v2 : Value} {xs1 xs2 : List Value} (h1 : w.ownsRow b1 e1 m1 v1 n1 xs1) (h2 : w.ownsRow b2 e2 m2 v2 n2 xs2) (he : e1 ≠ e2) : v1.ownBlock = none ∨ v1.ownBlock ≠ v2.ownBlock := by
  obtain ⟨_, ⟨rfl, _⟩ | ⟨g1, cap1, cur1, rfl, _, hh1, _⟩⟩ := h1
  · exact Or.inl rfl
  · refine Or.inr fun e => ?_
    obtain ⟨_, ⟨rfl, _⟩ | ⟨g2, cap2, cur2, rfl, _, hh2, _⟩⟩ := h2
    · simp [Value.ownBlock] at e
    · have : g1 = g2 := by simpa [Value.ownBlock] using e
      subst this
      rw [hh1] at hh2
      injection hh2 with hh2
      injection hh2 with _ hh3
      exact he hh3
/-- a number more behind its Early -/
theorem OwnD.addEarly {lo hi : Nat} {y x : World} {p : PE} {s : PV} {j : Int} {g cap : Nat} (h : OwnD lo hi y p s) (hg : y.grownBy x s.early.ownBlock) (ho : x.ownsRow lo 3 1 (.slice (some ⟨g, 0, none⟩) (p.early.length + 1) cap) (p.early.length + 1) (flatR intF p.early ++ [.int .i64 j])) (hw : s.early.ownBlock = some g ∨ hi ≤ g) (hl : g < x.heap.size) :
    OwnD lo x.heap.size x { p with early := p.early ++ [j] } { s with early := .slice (some ⟨g, 0, none⟩) (p.early.length + 1) cap } := by
  have ha := h.2.1
  refine ⟨⟨World.ownsRow.kept h.1.row hg ha.a02.ne, World.ownsRow.kept h.1.cells hg ha.a12.ne, ?_, World.ownsRow.kept h.1.undos hg ha.a32.ne, World.ownsRow.kept h.1.votes hg ha.a42.ne, World.ownsRow.kept h.1.news hg ha.a52.ne⟩, ha.setEarly (Nat.le_trans h.2.2 hg.size) (fun g' e => ⟨(ho.lt g' e).1, by cases e; exact hl⟩) (fun g' e => by cases e; exact hw), Nat.le_refl _⟩
  rw [flatR_append]
  simpa [intF, flatR] using ho
/-- more behind its Undos -/
theorem OwnD.addUndos {lo hi : Nat} {y x : World} {p : PE} {s : PV} {us : List UN} {v : Value} (h : OwnD lo hi y p s) (hg : y.grownBy x s.undos.ownBlock) (ho : x.ownsRow lo 128 3 v (p.undos ++ us).length (flatR undoF (p.undos ++ us))) (hw : v.ownBlock = s.undos.ownBlock ∨ v.ownBlock = some y.heap.size) :
    OwnD lo x.heap.size x { p with undos := p.undos ++ us } { s with undos := v } := by
  have ha := h.2.1
  exact ⟨⟨World.ownsRow.kept h.1.row hg ha.a03.ne, World.ownsRow.kept h.1.cells hg ha.a13.ne, World.ownsRow.kept h.1.early hg ha.a23.ne, ho, World.ownsRow.kept h.1.votes hg ha.a43.ne, World.ownsRow.kept h.1.news hg ha.a53.ne⟩, ha.setUndos (Nat.le_trans h.2.2 hg.size) (fun g e => ⟨(ho.lt g e).1, (ho.lt g e).2⟩) (fun g e => by
    rcases hw with h1 | h1
    · exact Or.inl (h1.symm.trans e)
    · rw [h1] at e; have e := Option.some.inj e; exact Or.inr (by have := h.2.2; omega)), Nat.le_refl _⟩

/-- 'append(out, list...)': where the row lies behind it -/
theorem wpList_append_w {α : Type} {f : α → List Value} {m : Nat} (w : World) {ops : Array Oper} {rest : List Oper} {o : Oper} {a : Act} {Q : Exit → Act → World → Prop} (hgd : o.guard = none) (s x : Operand) (t : TypeId)
    (ho : o.op = .call { callee := .builtin .append, args := #[s, x], argTypes := #[t, t] })
    (base : Nat) (e : TypeId) (i : TypeInfo) (z : Value) (bytes : Nat) (ht : Tryz.prog.underlying t = some (.slice e)) (hi : Tryz.prog.info? e = some i) (hz : i.zero = some z) (hsize : i.size = m) (hby : i.bytes = bytes) (hzs : z.cells.size = m) (hsz : 0 < m)
    (hm : ∀ y, (f y).length = m) (hone : ∀ y, ∀ u ∈ f y, u.oneCell' = true)
    (v : Value) (xs : List α) (hs : a.eval s = v) (hown : w.ownsRow base e m v xs.length (flatR f xs))
    (src : Value) (cs : List α) (hx : a.eval x = src) (hsrc : RowsR w src m f cs) (h63 : xs.length + cs.length ≤ maxLen) (hbytes : (xs.length + cs.length) * bytes ≤ 140737488355328) (hbase : base ≤ w.heap.size)
    (h : ∀ v' w', w'.ownsRow base e m v' (xs ++ cs).length (flatR f (xs ++ cs)) → w.grownBy w' v.ownBlock → (v'.ownBlock = v.ownBlock ∨ v'.ownBlock = some w.heap.size) → wpList Tryz.prog ops Q rest (a.put o.dst v') w') : wpList Tryz.prog ops Q (o :: rest) a w := by
  obtain ⟨ad, cap, rfl, hr⟩ := hsrc
  cases ad with
  | none =>
    have h0 : cs.length = 0 := by
      rcases Nat.eq_zero_or_pos cs.length with h | h
      · exact h
      · obtain ⟨_, _, e, _⟩ := hr h; cases e
    obtain rfl : cs = [] := List.eq_nil_of_length_eq_zero h0
    refine wpList_plain hgd fun K' hK' => ?_
    have hrun := run_append_nil (ty := o.type) ht hi w hown cap
    unfold Oper.wp execOp
    simp only [ho, resolve, invoke, builtin, Sem.run_bind, Sem.run_pure, Result.andThen_ok, List.map_toArray, List.map_cons, List.map_nil, hs, hx, List.length_nil, hrun]
    exact hK' _ _ (h v w (by simpa using hown) ⟨rfl, rfl, rfl, Nat.le_refl _, fun _ _ _ => rfl⟩ (Or.inl rfl))
  | some ad =>
    refine wpList_append_own_at _ hgd s x t ho base e i z m bytes ht hi hz hsize hby hzs hsz v _ _ hs hown ad cs.length cap (flatR f cs) hx (flatR_len hm cs) ?_ (fun u hu => ?_) h63 hbytes hbase fun v' w' h1 h2 _ h4 => h v' w' (by rw [List.length_append, flatR_append]; exact h1) h2 h4
    · intro j u hj
      have hjl : j < cs.length * m := by
        rw [← flatR_len hm]
        exact (List.getElem?_eq_some_iff.1 hj).1
      have h0 : 0 < cs.length := by
        rcases Nat.eq_zero_or_pos cs.length with h | h
        · rw [h] at hjl; omega
        · exact h
      obtain ⟨g, off, rfl0, hg, hc⟩ := hr h0
      cases rfl0
      have hp : (⟨g, off, none⟩ : Addr).add j = ⟨g, off + j, none⟩ := by unfold Addr.add; split <;> simp_all
      have hd : j / m < cs.length := Nat.div_lt_of_lt_mul (by rw [Nat.mul_comm]; exact hjl)
      have hr : j % m < m := Nat.mod_lt _ hsz
      have e : j = j / m * m + j % m := by rw [Nat.mul_comm]; exact (Nat.div_add_mod j m).symm
      have hf := flatR_at hm cs (j / m) hd (j % m) hr
      rw [← e] at hf
      rw [hp, show off + j = off + j / m * m + j % m by omega, hc (j / m) hd (j % m) hr, ← hf, hj]
    · obtain ⟨y, _, hy⟩ := List.mem_flatMap.1 hu
      exact hone y u hy

set_option maxRecDepth 100000 in
set_option maxHeartbeats 16000000 in
theorem tooEarly_s (ps : TL) (v : Value) (p : PE) (s : PV) (k : Int) (w : World) (hT : TreeQ w v ps) (hk : okT (bks ps)) (hR : PeerR w p s) (hs : smallPe p) :
    Calls Tryz.prog 17 #[v, peerV p s, .int .i64 k] w fun e w' => ∃ s', e = .returned (peerV (earlyP (bks ps) p k) s') ∧ OwnD w.heap.size w'.heap.size w' (earlyP (bks ps) p k) s' ∧ Below w.heap.size w w' := by
  have HT := hid hT
  have HK := hid hk
  have HR := hid hR
  have HS := hid hs
  have hpl : (ps.length : Int) ≤ 1048576 := by have := hk.1; rw [bks_len] at this; exact this
  have hrl := hs.row
  have HBL : Hid ((bks ps).length = ps.length) := bks_len ps
  obtain ⟨ii, ihi, ihz0, ihz1, ihz2⟩ := info_parts infoIntL
  obtain ⟨ui, uhi, uhz0, uhz1, uhz2⟩ := info_parts infoUndo
  obtain ⟨at0, ct0, rfl, -⟩ := HT.out.1
  clear hT hk hR hs
  obtain ⟨W, hW⟩ : ∃ W, W = (w.alloc (.cells (peerA p s) 43)).alloc (.cells zeroA 43) := ⟨_, rfl⟩
  have HC : Hid (Below w.heap.size w W ∧ W.heap[w.heap.size]? = some (.cells (peerA p s) 43 (0, 0)) ∧ W.heap[w.heap.size + 1]? = some (.cells zeroA 43 (0, 0))) := by
    rw [hW]; exact ⟨ba (ba (Below.refl _ _) _) _, alloc2 w _ _⟩
  have HWS : Hid (W.heap.size = w.heap.size + 1 + 1) := (by rw [hW]; simp : W.heap.size = w.heap.size + 1 + 1)
  unfold zeroA at hW
  go_enter Tryz.func17, Tryz.ntmps17
  go_wp2_with (rw [← hW]; clear hW; refine wpList_load_row rfl _ _ rfl w.heap.size rfl 43 _ (0, 0) _ HC.out.2.1 Tryz.underlying43 rfl (by kernel_rfl) ?_)
  refine (copy_s p s W (HR.out.below HC.out.1) HS.out).mono ?_
  rintro e x1 ⟨s1, rfl, ho, hb⟩
  have HO1 : Hid (OwnD W.heap.size x1.heap.size x1 p s1) := ho.toD
  have HB1 : Hid (Below W.heap.size W x1) := hb
  clear ho hb
  go_wp2_with (first
    | (refine wpList_store_blk rfl _ _ _ rfl x1.heap.size (peerA p s1) rfl rfl 43 zeroA (heap_alloc_new x1 _) (by kernel_rfl) rfl (peerA_one HO1.out.1) ?_; intro y1 hg hk hz; have hb1 : Below x1.heap.size x1 y1 := made_below hg; have HY1 : Hid (Bx3 w y1 x1.heap.size (peerA p s) zeroA (peerA p s1)) := ⟨bt HC.out.1 (bt HB1.out hb1), (hb1.block _ (by have := HB1.out.size; have := HWS.out; omega)).trans ((HB1.out.block _ (by have := HWS.out; omega)).trans HC.out.2.1), (hb1.block _ (by have := HB1.out.size; have := HWS.out; omega)).trans ((HB1.out.block _ (by have := HWS.out; omega)).trans HC.out.2.2), hk, (by have := HB1.out.size; have := HWS.out; omega)⟩; have HD1 : Hid (OwnD W.heap.size x1.heap.size y1 p s1) := HO1.out.below hb1; clear hg hk hz hb1 HO1)
    | (refine wpList_load_row rfl _ _ rfl w.heap.size rfl 43 _ (0, 0) _ HY1.out.box Tryz.underlying43 rfl (by kernel_rfl) ?_))
  refine (back_s p s1 x1.heap.size W.heap.size x1.heap.size y1 HD1.out HY1.out.out (by have := HB1.out.size; have := HY1.out.lt; omega) HS.out).mono ?_
  rintro e x3 ⟨⟨r0, rfl⟩, hg, s3, hk3, hd3⟩
  have HL3 : Hid (W.heap.size ≤ x1.heap.size ∧ x1.heap.size < y1.heap.size ∧ y1.heap.size ≤ x3.heap.size) := ⟨HB1.out.size, HY1.out.lt, hg.size⟩
  have HY3 : Hid (Bx3 w x3 x1.heap.size (peerA p s) zeroA (peerA (backP p) s3)) := HY1.out.put hg hk3
  have HD3 : Hid (OwnD W.heap.size x3.heap.size x3 (backP p) s3) := hd3
  clear hg hk3 hd3 HY1 HD1
  go_wp2_with (refine wpList_load_row rfl _ _ rfl w.heap.size rfl 43 _ (0, 0) _ HY3.out.box Tryz.underlying43 rfl (by kernel_rfl) ?_)
  refine (last_s p s x3 (HR.out.below HY3.out.below) hrl).mono ?_
  rintro e x4 ⟨rfl, hb⟩
  obtain ⟨u, hu⟩ : ∃ u, u = lastI p.row := ⟨_, rfl⟩
  have HE : Hid (earlyP (bks ps) p k = earP (bks ps) (backP p) (afterI (bks ps) k u)) := (by unfold earlyP; rw [hu] : earlyP (bks ps) p k = _)
  rw [← hu]
  clear hu
  have HY4 : Hid (Bx3 w x4 x1.heap.size (peerA p s) zeroA (peerA (backP p) s3)) := HY3.out.more hb
  have HD4 : Hid (OwnD W.heap.size x3.heap.size x4 (backP p) s3) := HD3.out.below hb
  have HL4 : Hid (x3.heap.size ≤ x4.heap.size) := hb.size
  clear hb HY3 HD3
  go_wp2_with fail
  refine (rowAfter_s ps _ k u x4 (HT.out.below HY4.out.below) hpl).mono ?_
  rintro e x5 ⟨v5, rfl, ho, hb⟩
  obtain ⟨L, hL⟩ : ∃ L, L = afterI (bks ps) k u := ⟨_, rfl⟩
  have HLM : Hid (∀ x ∈ L, ∃ j : Nat, x = (j : Int) ∧ j < ps.length) := (by rw [hL]; intro x hx; have := after_mem hx; rw [HBL.out] at this; exact this : ∀ x ∈ L, ∃ j : Nat, x = (j : Int) ∧ j < ps.length)
  have hll : (L.length : Int) ≤ 1048576 := by have := after_length (bks ps) k u; rw [← hL, HBL.out] at this; omega
  rw [← hL] at HE ho
  have HM5 : Hid (x5.ownsRow x4.heap.size 3 1 v5 L.length (flatR intF L)) := ho
  have HY5 : Hid (Bx3 w x5 x1.heap.size (peerA p s) zeroA (peerA (backP p) s3)) := HY4.out.more hb
  have HD5 : Hid (OwnD W.heap.size x3.heap.size x5 (backP p) s3) := HD4.out.below hb
  have HL5 : Hid (x4.heap.size ≤ x5.heap.size) := hb.size
  obtain ⟨a5, c5, rfl, hr5⟩ := rows_of_own intF_len ho
  clear hr5
  clear hL ho hb HY4 HD4
  obtain ⟨q, hq⟩ : ∃ q, q = backP p := ⟨_, rfl⟩
  have HQR : Hid (q.early = [] ∧ q.undos = [] ∧ okL q.cells) := (by rw [hq]; exact ⟨rfl, rfl, okL_back HS.out⟩ : q.early = [] ∧ q.undos = [] ∧ okL q.cells)
  rw [← hq] at HE HY5 HD5
  clear hq
  go_wp2
  go_loopw [9, 10, 11] (fun i _ _ wr => ∃ (m : Nat) (tm : PV), m ≤ L.length ∧ i = .int .i64 (m : Int) ∧ Hid (Bx3 w wr x1.heap.size (peerA p s) zeroA (peerA (earP (bks ps) q (L.take m)) tm)) ∧ Hid (OwnD W.heap.size wr.heap.size wr (earP (bks ps) q (L.take m)) tm) ∧ Hid (wr.ownsRow x4.heap.size 3 1 (.slice a5 L.length c5) L.length (flatR intF L)) ∧ Hid (apart tm.early (.slice a5 L.length c5)) ∧ Hid (x5.heap.size ≤ wr.heap.size)) (fun i _ _ _ => L.length - (intOf i).toNat)
  case atStart => exact ⟨0, s3, Nat.zero_le _, rfl, HY5.out, ear_own _ _ HQR.out.1 HQR.out.2.1 (HD5.out.wide (by have := HL4.out; have := HL5.out; omega) (Nat.le_refl _)), HM5.out, apart_of HD5.out.2.1.l2 (fun g e => ⟨(HM5.out.lt g e).1, (HM5.out.lt g e).2⟩) (Or.inl HL4.out), Nat.le_refl _⟩
  case round =>
    obtain ⟨m, tm, hm, rfl, HYm, HDm, HMm, HAm, HSm⟩ := hrel
    by_cases hlt : (m : Int) < L.length
    · have hmn : m < L.length := by omega
      obtain ⟨j, hj, hjn⟩ := HLM.out L[m] (List.getElem_mem hmn)
      have HJ : Hid (L[m] = (j : Int)) := hj
      have q0 : (0 : Int) ≤ (m : Int) := by omega
      have j0 : (0 : Int) ≤ (j : Int) := by omega
      have j1 : (j : Int) < ps.length := by omega
      obtain ⟨a5', c5', e5, hr5⟩ := rows_of_own intF_len HMm.out
      injection e5 with e51 _ e53
      subst e51 e53
      obtain ⟨g5, o5, rfl, hg5, hc5⟩ := hr5 (by omega)
      have HC5 : Hid (g5 < wr.heap.size ∧ wr.cell? ⟨g5, o5 + m, none⟩ = some (.int .i64 (j : Int))) := ⟨hg5, by have := hc5 m hmn 0 (by omega); rw [HJ.out] at this; simpa [intF] using this⟩
      clear hc5 hg5 hr5 hj
      obtain ⟨at1, ct1, et, htr⟩ := (HT.out.below HYm.out.below).1
      injection et with et1 _ et3
      subst et1 et3
      obtain ⟨gt, ot, rfl, hgt, hct⟩ := htr (by omega)
      obtain ⟨cv, hcv⟩ : ∃ cv, cv = ps[j].2 := ⟨_, rfl⟩
      have HCV : Hid (RowsR wr cv 3 cmdF ps[j].1.2.1 ∧ okB ps[j].1) := (by rw [hcv]; exact ⟨(HT.out.below HYm.out.below).2 ps[j] (List.getElem_mem hjn), okT_at HK.out hjn⟩ : RowsR wr cv 3 cmdF ps[j].1.2.1 ∧ okB ps[j].1)
      have HTC : Hid (gt < wr.heap.size ∧ wr.cell? ⟨gt, ot + j * 7 + 2, none⟩ = some cv) := ⟨hgt, by rw [hcv]; exact hct j hjn 2 (by omega)⟩
      clear hgt hct hcv htr
      obtain ⟨qm, hqm⟩ : ∃ qm : PE, qm = earP (bks ps) q (L.take m) := ⟨_, rfl⟩
      have HST : Hid (({ qm with cells := doneAllC qm.cells ps[j].1.2.1, early := qm.early ++ [(j : Int)], undos := qm.undos ++ undosC qm.cells ps[j].1.2.1 } : PE) = earP (bks ps) q (L.take (m + 1)) ∧ okL qm.cells ∧ qm.early.length = m ∧ qm.undos.length ≤ m * 1048576 ∧ (undosC qm.cells ps[j].1.2.1).length ≤ 1048576) := (by
        rw [hqm]
        refine ⟨ear_step hmn HJ.out hjn, rowC_ok HK.out _ _ HQR.out.2.2, by unfold earP; simp; omega, ?_, ?_⟩
        · have := earU_len HK.out (L.take m) q.cells
          rw [List.length_take, Nat.min_eq_left hm] at this
          exact this
        · rw [undosC_len]; have := HCV.out.2.1; omega : _ ∧ _ ∧ _ ∧ _ ∧ _)
      rw [← hqm] at HYm HDm
      clear hqm
      go_wp2
      refine wp_region_P (fun i => decide (i < 11)) (fun x => x.heap[x1.heap.size]? = some (.cells (peerA qm tm) 43 (0, 0)) ∧ x.cell? ⟨g5, o5 + m, none⟩ = some (.int .i64 (j : Int)) ∧ x.cell? ⟨gt, ot + j * 7 + 2, none⟩ = some cv) (by kernel_rfl) ?_
      show wpAnyP Tryz.prog _ _ _ _ _ (15 + 1) (Array.replicate 16 false) _ _
      have hS : wr.drew.heap[x1.heap.size]? = some (.cells (peerA qm tm) 43 (0, 0)) ∧ wr.drew.cell? ⟨g5, o5 + m, none⟩ = some (.int .i64 (j : Int)) ∧ wr.drew.cell? ⟨gt, ot + j * 7 + 2, none⟩ = some cv := ⟨HYm.out.out, HC5.out.2, HTC.out.2⟩
      refine p_take (j := 0) (e' := some 27) (v := .pointer (some ⟨x1.heap.size, 15, none⟩)) rfl rfl (by kernel_rfl) (by kernel_rfl) (by kernel_rfl) (by kernel_rfl) (by kernel_rfl) (fun _ _ _ h => h) (Or.inl ⟨by rfl, ?_⟩) hS ?_
      · intro x hx
        go_simp
        try with_reducible rfl
      simp only [Act.put, List.setIfInBounds_toArray, List.set_cons_zero, List.set_cons_succ]
      refine p_take (j := 1) (e' := some 28) (v := tm.cells) rfl rfl (by kernel_rfl) (by kernel_rfl) (by kernel_rfl) (by kernel_rfl) (by kernel_rfl) (fun _ _ _ h => h) (Or.inl ⟨by rfl, ?_⟩) hS ?_
      · intro x hx
        have c := blk_cell hx.1 15 tm.cells rfl
        go_simp
        try with_reducible rfl
      simp only [Act.put, List.setIfInBounds_toArray, List.set_cons_zero, List.set_cons_succ]
      refine p_take (j := 2) (e' := some 29) (v := .slice (some ⟨gt, ot, none⟩) ps.length ct0) rfl rfl (by kernel_rfl) (by kernel_rfl) (by kernel_rfl) (by kernel_rfl) (by kernel_rfl) (fun _ _ _ h => h) (Or.inl ⟨by rfl, ?_⟩) hS ?_
      · intro x hx
        go_simp
        try with_reducible rfl
      simp only [Act.put, List.setIfInBounds_toArray, List.set_cons_zero, List.set_cons_succ]
      refine p_take (j := 3) (e' := some 30) (v := .slice (some ⟨g5, o5, none⟩) L.length c5) rfl rfl (by kernel_rfl) (by kernel_rfl) (by kernel_rfl) (by kernel_rfl) (by kernel_rfl) (fun _ _ _ h => h) (Or.inl ⟨by rfl, ?_⟩) hS ?_
      · intro x hx
        go_simp
        try with_reducible rfl
      simp only [Act.put, List.setIfInBounds_toArray, List.set_cons_zero, List.set_cons_succ]
      refine p_take (j := 4) (e' := some 31) (v := .int .i64 (m : Int)) rfl rfl (by kernel_rfl) (by kernel_rfl) (by kernel_rfl) (by kernel_rfl) (by kernel_rfl) (fun _ _ _ h => h) (Or.inl ⟨by rfl, ?_⟩) hS ?_
      · intro x hx
        go_simp
        try with_reducible rfl
      simp only [Act.put, List.setIfInBounds_toArray, List.set_cons_zero, List.set_cons_succ]
      refine p_take (j := 5) (e' := some 32) (v := .pointer (some ⟨g5, o5 + m, none⟩)) rfl rfl (by kernel_rfl) (by kernel_rfl) (by kernel_rfl) (by kernel_rfl) (by kernel_rfl) (fun _ _ _ h => h) (Or.inl ⟨by rfl, ?_⟩) hS ?_
      · intro x hx
        go_simp
        try with_reducible rfl
      simp only [Act.put, List.setIfInBounds_toArray, List.set_cons_zero, List.set_cons_succ]
      refine p_take (j := 6) (e' := some 33) (v := .int .i64 (j : Int)) rfl rfl (by kernel_rfl) (by kernel_rfl) (by kernel_rfl) (by kernel_rfl) (by kernel_rfl) (fun _ _ _ h => h) (Or.inl ⟨by rfl, ?_⟩) hS ?_
      · intro x hx
        have c := hx.2.1
        go_simp
        try with_reducible rfl
      simp only [Act.put, List.setIfInBounds_toArray, List.set_cons_zero, List.set_cons_succ]
      refine p_take (j := 7) (e' := some 34) (v := .pointer (some ⟨gt, ot + j * 7, none⟩)) rfl rfl (by kernel_rfl) (by kernel_rfl) (by kernel_rfl) (by kernel_rfl) (by kernel_rfl) (fun _ _ _ h => h) (Or.inl ⟨by rfl, ?_⟩) hS ?_
      · intro x hx
        go_simp
        try with_reducible rfl
      simp only [Act.put, List.setIfInBounds_toArray, List.set_cons_zero, List.set_cons_succ]
      refine p_take (j := 8) (e' := some 35) (v := .pointer (some ⟨gt, ot + j * 7 + 2, none⟩)) rfl rfl (by kernel_rfl) (by kernel_rfl) (by kernel_rfl) (by kernel_rfl) (by kernel_rfl) (fun _ _ _ h => h) (Or.inl ⟨by rfl, ?_⟩) hS ?_
      · intro x hx
        go_simp
        try with_reducible rfl
      simp only [Act.put, List.setIfInBounds_toArray, List.set_cons_zero, List.set_cons_succ]
      refine p_take (j := 9) (e' := some 36) (v := cv) rfl rfl (by kernel_rfl) (by kernel_rfl) (by kernel_rfl) (by kernel_rfl) (by kernel_rfl) (fun _ _ _ h => h) (Or.inl ⟨by rfl, ?_⟩) hS ?_
      · intro x hx
        have c := hx.2.2
        go_simp
        try with_reducible rfl
      simp only [Act.put, List.setIfInBounds_toArray, List.set_cons_zero, List.set_cons_succ]
      refine p_call (s := 10) (e' := some 37) (fn := 67) (args := #[tm.cells, cv]) rfl rfl (by kernel_rfl) (by rfl) ?_ ((doneBack_s qm.cells ps[j].1.2.1 tm.cells cv wr.drew (HDm.out.reads.cells.below (Below.refl _ _).drew) (HCV.out.1.below (Below.refl _ _).drew) HST.out.2.1 HCV.out.2.1 HCV.out.2.2).mono ?_)
      · go_simp
        try with_reducible rfl
      rintro e y1 ⟨w1, w2, rfl, ho, ho2, -, hb0⟩
      have hb : Below wr.heap.size wr y1 := ((Below.refl _ _).drew).trans hb0
      have HO1 : Hid (y1.ownsRow wr.heap.size 126 2 w1 (doneAllC qm.cells ps[j].1.2.1).length (flat (doneAllC qm.cells ps[j].1.2.1))) := ho
      have HU1 : Hid (y1.ownsRow wr.heap.size 128 3 w2 (undosC qm.cells ps[j].1.2.1).length (flatR undoF (undosC qm.cells ps[j].1.2.1))) := ho2
      have HY1 : Hid (Bx3 w y1 x1.heap.size (peerA p s) zeroA (peerA qm tm)) := HYm.out.more hb
      have HD1 : Hid (OwnD W.heap.size wr.heap.size y1 qm tm) := HDm.out.below hb
      have HM1 : Hid (y1.ownsRow x4.heap.size 3 1 (.slice (some ⟨g5, o5, none⟩) L.length c5) L.length (flatR intF L)) := own_kept HMm.out hb
      have HZ1 : Hid (wr.heap.size ≤ y1.heap.size) := hb.size
      have HG1 : Hid (y1.cell? ⟨g5, o5 + m, none⟩ = some (.int .i64 (j : Int))) := (by rw [hb.cell (by exact HC5.out.1)]; exact HC5.out.2 : y1.cell? ⟨g5, o5 + m, none⟩ = _)
      have hS1 : y1.heap[x1.heap.size]? = some (.cells (peerA qm tm) 43 (0, 0)) ∧ y1.cell? ⟨g5, o5 + m, none⟩ = some (.int .i64 (j : Int)) ∧ y1.cell? ⟨gt, ot + j * 7 + 2, none⟩ = some cv := ⟨HY1.out.out, HG1.out, by rw [hb.cell (by exact HTC.out.1)]; exact HTC.out.2⟩
      clear ho ho2 hb hb0 hS HTC HCV HYm HDm HMm
      refine ⟨_, rfl, fun _ => hS1, ?_⟩
      simp only [Act.put, List.setIfInBounds_toArray, List.set_cons_zero, List.set_cons_succ]
      refine p_pure (j := 11) (e' := some 26) (v := .tuple #[w1, w2]) rfl rfl (by kernel_rfl) (by kernel_rfl) (by kernel_rfl) (by rfl) (fun _ _ _ h => h) (Or.inl ⟨by rfl, ?_⟩) ?_
      · intro x hx
        go_simp
        try with_reducible rfl
      simp only [Act.put, List.setIfInBounds_toArray, List.set_cons_zero, List.set_cons_succ]
      refine p_pure (j := 12) (e' := some 38) (v := w1) rfl rfl (by kernel_rfl) (by kernel_rfl) (by kernel_rfl) (by rfl) (fun _ _ _ h => h) (Or.inl ⟨by rfl, ?_⟩) ?_
      · intro x hx
        go_simp
        try with_reducible rfl
      simp only [Act.put, List.setIfInBounds_toArray, List.set_cons_zero, List.set_cons_succ]
      refine p_pure (j := 13) (e' := some 39) (v := w2) rfl rfl (by kernel_rfl) (by kernel_rfl) (by kernel_rfl) (by rfl) (fun _ _ _ h => h) (Or.inl ⟨by rfl, ?_⟩) ?_
      · intro x hx
        go_simp
        try with_reducible rfl
      simp only [Act.put, List.setIfInBounds_toArray, List.set_cons_zero, List.set_cons_succ]
      refine p_pure (j := 14) (e' := some 10) (v := w1) rfl rfl (by kernel_rfl) (by kernel_rfl) (by kernel_rfl) (by rfl) (fun _ _ _ h => h) (Or.inl ⟨by rfl, ?_⟩) ?_
      · intro x hx
        go_simp
        try with_reducible rfl
      simp only [Act.put, List.setIfInBounds_toArray, List.set_cons_zero, List.set_cons_succ]
      refine p_pure (j := 15) (e' := some 11) (v := w2) rfl rfl (by kernel_rfl) (by kernel_rfl) (by kernel_rfl) (by rfl) (fun _ _ _ h => h) (Or.inl ⟨by rfl, ?_⟩) ?_
      · intro x hx
        go_simp
        try with_reducible rfl
      simp only [Act.put, List.setIfInBounds_toArray, List.set_cons_zero, List.set_cons_succ]
      refine wpAnyP_done (by kernel_rfl) ?_ _
      clear hS1
      go_wp2_with (refine wpList_store_cell rfl _ _ _ rfl x1.heap.size 15 w1 rfl rfl _ _ HY1.out.out (by kernel_rfl) (by simp [peerA]) (own_one HO1.out) (peerA { qm with cells := doneAllC qm.cells ps[j].1.2.1 } { tm with cells := w1 }) rfl ?_; intro y2 hg hk; have HY2 : Hid (Bx3 w y2 x1.heap.size (peerA p s) zeroA (peerA { qm with cells := doneAllC qm.cells ps[j].1.2.1 } { tm with cells := w1 })) := HY1.out.put hg hk; have HD2 : Hid (OwnD W.heap.size y2.heap.size y2 { qm with cells := doneAllC qm.cells ps[j].1.2.1 } { tm with cells := w1 }) := (HD1.out.boxed HY1.out.out hg).setCells (Nat.le_trans HZ1.out hg.size) (Nat.le_refl _) (own_base (World.ownsRow.kept HO1.out hg (row_not_box HO1.out HY1.out.out (by decide))) (by have := HL3.out; have := HL4.out; have := HL5.out; have := HSm.out; omega)) (fun g e => Nat.lt_of_lt_of_le (HO1.out.lt g e).2 hg.size) (fun g e => Or.inr (HO1.out.lt g e).1); have HM2 : Hid (y2.ownsRow x4.heap.size 3 1 (.slice (Option.some ⟨g5, o5, none⟩) L.length c5) L.length (flatR intF L)) := World.ownsRow.kept HM1.out hg (row_not_box HM1.out HY1.out.out (by decide)); have HU2 : Hid (y2.ownsRow wr.heap.size 128 3 w2 (undosC qm.cells ps[j].1.2.1).length (flatR undoF (undosC qm.cells ps[j].1.2.1))) := World.ownsRow.kept HU1.out hg (row_not_box HU1.out HY1.out.out (by decide)); have HG2 : Hid (y2.cell? ⟨g5, o5 + m, none⟩ = Option.some (.int .i64 (j : Int))) := (by rw [hg.cell_far ⟨g5, o5 + m, none⟩ (by show g5 < y1.heap.size; have := HC5.out.1; have := HZ1.out; omega) (fun e => (row_not_box HM1.out HY1.out.out (by decide)).elim (fun h => by cases h) (fun h => h e))]; exact HG1.out : y2.cell? ⟨g5, o5 + m, none⟩ = _); have HZ2 : Hid (wr.heap.size ≤ y2.heap.size) := Nat.le_trans HZ1.out hg.size; clear hg hk HY1 HD1 HM1 HU1 HG1 HZ1 HO1)
      obtain ⟨q1, hq1⟩ : ∃ q1 : PE, q1 = { qm with cells := doneAllC qm.cells ps[j].1.2.1 } := ⟨_, rfl⟩
      obtain ⟨t1, ht1⟩ : ∃ t1 : PV, t1 = { tm with cells := w1 } := ⟨_, rfl⟩
      have HS1 : Hid (({ q1 with early := q1.early ++ [(j : Int)], undos := q1.undos ++ undosC qm.cells ps[j].1.2.1 } : PE) = earP (bks ps) q (L.take (m + 1)) ∧ q1.early.length = m ∧ q1.undos.length ≤ m * 1048576) := (by rw [hq1]; exact ⟨HST.out.1, HST.out.2.2.1, HST.out.2.2.2.1⟩ : _ ∧ _ ∧ _)
      have HA1 : Hid (apart t1.early (.slice (some ⟨g5, o5, none⟩) L.length c5)) := (by rw [ht1]; exact HAm.out : apart t1.early _)
      have HUL : Hid ((undosC qm.cells ps[j].1.2.1).length ≤ 1048576) := HST.out.2.2.2.2
      obtain ⟨us, hus⟩ : ∃ us, us = undosC qm.cells ps[j].1.2.1 := ⟨_, rfl⟩
      rw [← hq1, ← ht1] at HY2 HD2
      rw [← hus] at HS1 HUL HU2
      clear hq1 ht1 hus HST HAm
      refine wp_region_P (fun i => i != 9) (fun x => x.heap[x1.heap.size]? = some (.cells (peerA q1 t1) 43 (0, 0)) ∧ x.cell? ⟨g5, o5 + m, none⟩ = some (.int .i64 (j : Int))) (by kernel_rfl) ?_
      show wpAnyP Tryz.prog _ _ _ _ _ (9 + 1) (Array.replicate 10 false) _ _
      have hS : y2.drew.heap[x1.heap.size]? = some (.cells (peerA q1 t1) 43 (0, 0)) ∧ y2.drew.cell? ⟨g5, o5 + m, none⟩ = some (.int .i64 (j : Int)) := ⟨HY2.out.out, HG2.out⟩
      refine p_take (j := 0) (e' := some 42) (v := .pointer (some ⟨x1.heap.size, 16, none⟩)) rfl rfl (by kernel_rfl) (by kernel_rfl) (by kernel_rfl) (by kernel_rfl) (by kernel_rfl) (fun _ _ _ h => h) (Or.inl ⟨by rfl, ?_⟩) hS ?_
      · intro x hx
        go_simp
        try with_reducible rfl
      simp only [Act.put, List.setIfInBounds_toArray, List.set_cons_zero, List.set_cons_succ]
      refine p_take (j := 1) (e' := some 43) (v := t1.early) rfl rfl (by kernel_rfl) (by kernel_rfl) (by kernel_rfl) (by kernel_rfl) (by kernel_rfl) (fun _ _ _ h => h) (Or.inl ⟨by rfl, ?_⟩) hS ?_
      · intro x hx
        have c := blk_cell hx.1 16 t1.early rfl
        go_simp
        try with_reducible rfl
      simp only [Act.put, List.setIfInBounds_toArray, List.set_cons_zero, List.set_cons_succ]
      refine p_take (j := 2) (e' := some 44) (v := .slice (some ⟨g5, o5, none⟩) L.length c5) rfl rfl (by kernel_rfl) (by kernel_rfl) (by kernel_rfl) (by kernel_rfl) (by kernel_rfl) (fun _ _ _ h => h) (Or.inl ⟨by rfl, ?_⟩) hS ?_
      · intro x hx
        go_simp
        try with_reducible rfl
      simp only [Act.put, List.setIfInBounds_toArray, List.set_cons_zero, List.set_cons_succ]
      refine p_take (j := 3) (e' := some 45) (v := .int .i64 (m : Int)) rfl rfl (by kernel_rfl) (by kernel_rfl) (by kernel_rfl) (by kernel_rfl) (by kernel_rfl) (fun _ _ _ h => h) (Or.inl ⟨by rfl, ?_⟩) hS ?_
      · intro x hx
        go_simp
        try with_reducible rfl
      simp only [Act.put, List.setIfInBounds_toArray, List.set_cons_zero, List.set_cons_succ]
      refine p_take (j := 4) (e' := some 46) (v := .pointer (some ⟨g5, o5 + m, none⟩)) rfl rfl (by kernel_rfl) (by kernel_rfl) (by kernel_rfl) (by kernel_rfl) (by kernel_rfl) (fun _ _ _ h => h) (Or.inl ⟨by rfl, ?_⟩) hS ?_
      · intro x hx
        go_simp
        try with_reducible rfl
      simp only [Act.put, List.setIfInBounds_toArray, List.set_cons_zero, List.set_cons_succ]
      refine p_take (j := 5) (e' := some 47) (v := .int .i64 (j : Int)) rfl rfl (by kernel_rfl) (by kernel_rfl) (by kernel_rfl) (by kernel_rfl) (by kernel_rfl) (fun _ _ _ h => h) (Or.inl ⟨by rfl, ?_⟩) hS ?_
      · intro x hx
        have c := hx.2
        go_simp
        try with_reducible rfl
      simp only [Act.put, List.setIfInBounds_toArray, List.set_cons_zero, List.set_cons_succ]
      obtain ⟨y3, hy3⟩ : ∃ y3, y3 = y2.drew.alloc (.cells #[.int .i64 (j : Int)] 3) := ⟨_, rfl⟩
      have hby : Below y2.heap.size y2 y3 := (by rw [hy3]; exact ((Below.refl y2.heap.size y2).drew).alloc (show y2.heap.size ≤ y2.drew.heap.size from Nat.le_refl _) _ : Below y2.heap.size y2 y3)
      have HY3 : Hid (Bx3 w y3 x1.heap.size (peerA p s) zeroA (peerA q1 t1)) := HY2.out.more hby
      have HD3 : Hid (OwnD W.heap.size y2.heap.size y3 q1 t1) := HD2.out.below hby
      have HM3 : Hid (y3.ownsRow x4.heap.size 3 1 (.slice (some ⟨g5, o5, none⟩) L.length c5) L.length (flatR intF L)) := own_kept HM2.out hby
      have HU3 : Hid (y3.ownsRow wr.heap.size 128 3 w2 us.length (flatR undoF us)) := own_kept HU2.out hby
      have HZ3 : Hid (y3.heap.size = y2.heap.size + 1 ∧ y3.heap[y2.heap.size]? = some (.cells #[.int .i64 (j : Int)] 3 (0, 0))) := (by rw [hy3]; exact ⟨by simp, heap_alloc_new y2.drew _⟩ : y3.heap.size = y2.heap.size + 1 ∧ _)
      have hS3 : y3.heap[x1.heap.size]? = some (.cells (peerA q1 t1) 43 (0, 0)) ∧ y3.cell? ⟨g5, o5 + m, none⟩ = some (.int .i64 (j : Int)) := ⟨HY3.out.out, by rw [hby.cell (by have := HC5.out.1; have := HZ2.out; show g5 < y2.heap.size; omega)]; exact HG2.out⟩
      refine p_run (s := 6) (e' := some 48) rfl rfl rfl (by kernel_rfl) (.slice (some ⟨y2.heap.size, 0, none⟩) 1 1) y3 ?_ ⟨fun _ => hS3, ?_⟩
      · rw [hy3]
        go_simp
        try with_reducible rfl
      clear hy3 hS hby
      simp only [Act.put, List.setIfInBounds_toArray, List.set_cons_zero, List.set_cons_succ]
      refine p_lies (s := 7) (e' := some 49) rfl rfl rfl (.tmp 43) (.tmp 48) 27 rfl (by kernel_rfl) W.heap.size 3 ii _ 1 8 Tryz.underlying27 ihi ihz0 ihz1 ihz2 rfl (by decide) t1.early _ _ rfl HD3.out.1.early ⟨y2.heap.size, 0, none⟩ 1 1 [.int .i64 (j : Int)] rfl rfl (World.news_of_block HZ3.out.2) (by intro x hx; simp at hx; subst hx; rfl) (by decide) (by rw [HS1.out.2.1]; unfold maxLen; omega) (by rw [HS1.out.2.1]; omega) (by have := HL3.out; have := HZ3.out.1; have := HSm.out; have := HL4.out; have := HL5.out; have := HZ2.out; omega) _ HZ3.out.1 ?_
      intro g2 cap2 y4 hoe hg4 hwh hlt4
      have hne5 : some g5 ≠ t1.early.ownBlock := fun e => HA1.out g5 e.symm rfl
      have HY4 : Hid (Bx3 w y4 x1.heap.size (peerA p s) zeroA (peerA q1 t1)) := HY3.out.grow HD3.out.1.early (by decide) HC.out.1.size hg4
      have HM4 : Hid (y4.ownsRow x4.heap.size 3 1 (.slice (some ⟨g5, o5, none⟩) L.length c5) L.length (flatR intF L)) := World.ownsRow.kept HM3.out hg4 HA1.out.symm.ne
      have HU4 : Hid (y4.ownsRow wr.heap.size 128 3 w2 us.length (flatR undoF us)) := World.ownsRow.kept HU3.out hg4 (row_kind HU3.out HD3.out.1.early (by decide))
      have HD4 : Hid (OwnD W.heap.size y4.heap.size y4 { q1 with early := q1.early ++ [(j : Int)] } { t1 with early := .slice (some ⟨g2, 0, none⟩) (q1.early.length + 1) cap2 }) := HD3.out.addEarly hg4 hoe (hwh.imp id (fun e => by omega)) hlt4
      have HA4 : Hid (apart (.slice (some ⟨g2, 0, none⟩) (q1.early.length + 1) cap2) (.slice (some ⟨g5, o5, none⟩) L.length c5)) := (by
        intro g e e2
        cases e
        rcases hwh with h | h
        · exact HA1.out _ h e2
        · have e2 := Option.some.inj e2; have := HC5.out.1; have := HZ2.out; simp at e2; omega : apart _ _)
      have HZ4 : Hid (y3.heap.size ≤ y4.heap.size) := hg4.size
      have hS4 : y4.heap[x1.heap.size]? = some (.cells (peerA q1 t1) 43 (0, 0)) ∧ y4.cell? ⟨g5, o5 + m, none⟩ = some (.int .i64 (j : Int)) := ⟨HY4.out.out, by rw [hg4.cell_far ⟨g5, o5 + m, none⟩ (by show g5 < y3.heap.size; have := HC5.out.1; have := HZ3.out.1; have := HZ2.out; omega) hne5]; exact hS3.2⟩
      clear hoe hg4 hwh hlt4 hne5 hS3 HY3 HD3 HM3 HU3
      refine ⟨fun _ => hS4, ?_⟩
      simp only [Act.put, List.setIfInBounds_toArray, List.set_cons_zero, List.set_cons_succ]
      refine p_take (j := 8) (e' := some 50) (v := .pointer (some ⟨x1.heap.size, 16, none⟩)) rfl rfl (by kernel_rfl) (by kernel_rfl) (by kernel_rfl) (by kernel_rfl) (by kernel_rfl) (fun _ _ _ h => h) (Or.inl ⟨by rfl, ?_⟩) hS4 ?_
      · intro x hx
        go_simp
        try with_reducible rfl
      simp only [Act.put, List.setIfInBounds_toArray, List.set_cons_zero, List.set_cons_succ]
      refine p_cell (s := 9) (N := x1.heap.size) (o := 16) (u := .slice (some ⟨g2, 0, none⟩) (q1.early.length + 1) cap2) (old := peerA q1 t1) (new := peerA { q1 with early := q1.early ++ [(j : Int)] } { t1 with early := .slice (some ⟨g2, 0, none⟩) (q1.early.length + 1) cap2 }) rfl rfl rfl rfl (by kernel_rfl) rfl rfl hS4.1 (by kernel_rfl) (by simp [peerA]) rfl rfl ?_
      intro y5 hg hk
      have HY5 : Hid (Bx3 w y5 x1.heap.size (peerA p s) zeroA (peerA { q1 with early := q1.early ++ [(j : Int)] } { t1 with early := .slice (some ⟨g2, 0, none⟩) (q1.early.length + 1) cap2 })) := HY4.out.put hg hk
      have HD5 : Hid (OwnD W.heap.size y5.heap.size y5 { q1 with early := q1.early ++ [(j : Int)] } { t1 with early := .slice (some ⟨g2, 0, none⟩) (q1.early.length + 1) cap2 }) := (HD4.out.boxed hS4.1 hg).wide hg.size (Nat.le_refl _)
      have HM5 : Hid (y5.ownsRow x4.heap.size 3 1 (.slice (some ⟨g5, o5, none⟩) L.length c5) L.length (flatR intF L)) := World.ownsRow.kept HM4.out hg (row_not_box HM4.out hS4.1 (by decide))
      have HU5 : Hid (y5.ownsRow wr.heap.size 128 3 w2 us.length (flatR undoF us)) := World.ownsRow.kept HU4.out hg (row_not_box HU4.out hS4.1 (by decide))
      have HZ5 : Hid (x5.heap.size ≤ y5.heap.size ∧ wr.heap.size ≤ y5.heap.size) := (by have := HSm.out; have := HZ2.out; have := HZ3.out.1; have := HZ4.out; have := hg.size; omega : _ ∧ _)
      clear hg hk hS4 HY4 HD4 HM4 HU4 HY2 HD2 HM2 HU2 HG2 HZ2 HZ3 HZ4 HC5
      refine ⟨fun h => (by cases h), ?_⟩
      refine wpAnyP_done (by kernel_rfl) ?_ _
      obtain ⟨q2, hq2⟩ : ∃ q2 : PE, q2 = { q1 with early := q1.early ++ [(j : Int)] } := ⟨_, rfl⟩
      obtain ⟨t2, ht2⟩ : ∃ t2 : PV, t2 = { t1 with early := .slice (some ⟨g2, 0, none⟩) (q1.early.length + 1) cap2 } := ⟨_, rfl⟩
      have HS2 : Hid (({ q2 with undos := q2.undos ++ us } : PE) = earP (bks ps) q (L.take (m + 1)) ∧ q2.undos.length ≤ m * 1048576) := (by rw [hq2]; exact ⟨HS1.out.1, HS1.out.2.2⟩ : _ ∧ _)
      have HA5 : Hid (apart t2.early (.slice (some ⟨g5, o5, none⟩) L.length c5)) := (by rw [ht2]; exact HA4.out : apart t2.early _)
      rw [← hq2, ← ht2] at HY5 HD5
      clear hq2 ht2 HA4 HA1 HS1
      have c17 := blk_cell HY5.out.out 17 t2.undos rfl
      have hb1 := HS2.out.2
      have hb2 := HUL.out
      go_wp2_with (first
        | (at_builtin; refine wpList_append_w _ rfl _ _ 39 rfl W.heap.size 128 ui _ 32 Tryz.underlying39 uhi uhz0 uhz1 uhz2 rfl (by decide) undoF_len undoF_one t2.undos q2.undos rfl HD5.out.1.undos w2 us rfl (rows_of_own undoF_len HU5.out) (by unfold maxLen; omega) (by omega) (by have := HL3.out; have := HL4.out; have := HL5.out; have := HZ5.out; omega) ?_; intro v6 y6 ho6 hg6 hat6; have HY6 : Hid (Bx3 w y6 x1.heap.size (peerA p s) zeroA (peerA q2 t2)) := HY5.out.grow HD5.out.1.undos (by decide) HC.out.1.size hg6; have HM6 : Hid (y6.ownsRow x4.heap.size 3 1 (.slice (Option.some ⟨g5, o5, none⟩) L.length c5) L.length (flatR intF L)) := World.ownsRow.kept HM5.out hg6 (row_kind HM5.out HD5.out.1.undos (by decide)); have HD6 : Hid (OwnD W.heap.size y6.heap.size y6 { q2 with undos := q2.undos ++ us } { t2 with undos := v6 }) := HD5.out.addUndos hg6 ho6 hat6; have HV6 : Hid (v6.oneCell' = true) := own_one ho6; have HZ6 : Hid (x5.heap.size ≤ y6.heap.size) := Nat.le_trans HZ5.out.1 hg6.size; clear ho6 hg6 hat6 HY5 HD5 HM5 HU5 c17)
        | (refine wpList_store_cell rfl _ _ _ rfl x1.heap.size 17 v6 rfl rfl _ _ HY6.out.out (by kernel_rfl) (by simp [peerA]) HV6.out (peerA { q2 with undos := q2.undos ++ us } { t2 with undos := v6 }) rfl ?_; intro y7 hg hk; have HY7 : Hid (Bx3 w y7 x1.heap.size (peerA p s) zeroA (peerA { q2 with undos := q2.undos ++ us } { t2 with undos := v6 })) := HY6.out.put hg hk; have HD7 : Hid (OwnD W.heap.size y7.heap.size y7 { q2 with undos := q2.undos ++ us } { t2 with undos := v6 }) := (HD6.out.boxed HY6.out.out hg).wide hg.size (Nat.le_refl _); have HM7 : Hid (y7.ownsRow x4.heap.size 3 1 (.slice (Option.some ⟨g5, o5, none⟩) L.length c5) L.length (flatR intF L)) := World.ownsRow.kept HM6.out hg (row_not_box HM6.out HY6.out.out (by decide)); have HZ7 : Hid (x5.heap.size ≤ y7.heap.size) := Nat.le_trans HZ6.out hg.size; clear hg hk HY6 HD6 HM6 HZ6))
      rw [HS2.out.1] at HY7 HD7
      go_roundw
      case rel => exact ⟨m + 1, { t2 with undos := v6 }, by omega, by go_num, HY7.out, HD7.out, HM7.out, HA5.out, HZ7.out⟩
      case measure => simp [intOf]; omega
    · have hml : m = L.length := by omega
      subst hml
      rw [List.take_length] at HYm HDm
      obtain ⟨QQ, hQQ⟩ : ∃ QQ, QQ = earP (bks ps) q L := ⟨_, rfl⟩
      rw [← hQQ] at HYm HDm HE
      clear hQQ
      go_wp2_with (first
        | (refine wpList_load_row rfl _ _ rfl x1.heap.size rfl 43 _ (0, 0) _ HYm.out.out Tryz.underlying43 rfl (by kernel_rfl) ?_)
        | (refine wpList_store_blk rfl _ _ _ rfl (w.heap.size + 1) (peerA QQ tm) rfl rfl 43 zeroA HYm.out.zero (by kernel_rfl) rfl (peerA_one HDm.out.1) ?_; intro z hg hk hz; have HBz : Hid (Below w.heap.size w z) := HYm.out.below.grown hg HYm.out.below.size (fun k hk => by cases hk; omega); have HKz : Hid (z.heap[w.heap.size + 1]? = Option.some (.cells (peerA QQ tm) 43 (0, 0))) := hk; have HFz : Hid (OwnD W.heap.size z.heap.size z QQ tm) := (HDm.out.boxed HYm.out.zero hg).wide hg.size (Nat.le_refl _); clear hg hk hz HYm HDm))
      refine bodyPost_ret (v := .agg (peerA QQ tm)) (results_cell_row Tryz.results17 _ _ (w.heap.size + 1) 43 _ (0, 0) _ rfl HKz.out Tryz.underlying43 rfl (by kernel_rfl)) rfl ?_
      rw [HE.out]
      exact ⟨_, rfl, HFz.out.low HC.out.1.size, HBz.out⟩

end Go.Proofs.YtnghhfgbobpnkarGreatR
