/-
  Texts of ours that later ones lean on, in one: 19, one behind the other.
-/
import Derived.Test.YtnghhfgbobpnkarGreatRJ1
import Derived.Laws.AppendOwn
import Derived.OwnWalk
import Derived.Deep.AppendLies
import Derived.Test.YtnghhfgbobpnkarGreatRJ0
import Derived.Laws.Cover1
import Derived.BigQuiet
import Derived.Laws.StructEq
namespace Go.Proofs.YtnghhfgbobpnkarGreatR
open Go.RowKit Num

/-- nothing is appended -/
theorem run_append_nil {P : Program} {t ty e : TypeId} {i : TypeInfo} (ht : P.underlying t = some (.slice e)) (hi : P.info? e = some i) (w : World) {base : Nat} {v : Value} {n : Nat} {xs : List Value} {m : Nat} (hown : w.ownsRow base e m v n xs) (c : Nat) :
    (Builtin.append_ #[t, t] ty #[v, .slice none 0 c]).run P w = .ok v w := by
  obtain ⟨hl, ⟨rfl, h0⟩ | ⟨g, cap, cur, rfl, hb, hh, hn, hc, hs, htk⟩⟩ := hown
  · simp [Builtin.append_, run_underlying ht, sizeOf, typeInfo, hi, Builtin.lenOf, Builtin.firstCells]
  · have : n ≤ cap := by omega
    simp [Builtin.append_, run_underlying ht, sizeOf, typeInfo, hi, Builtin.lenOf, Builtin.firstCells, storeCells, this]

/-- 'append(out, list...)': out is the call's own, list can be read -/
theorem wpList_append_a {α : Type} {f : α → List Value} {m : Nat} (w : World) {ops : Array Oper} {rest : List Oper} {o : Oper} {a : Act} {Q : Exit → Act → World → Prop} (hgd : o.guard = none) (s x : Operand) (t : TypeId)
    (ho : o.op = .call { callee := .builtin .append, args := #[s, x], argTypes := #[t, t] })
    (base : Nat) (e : TypeId) (i : TypeInfo) (z : Value) (bytes : Nat) (ht : Tryz.prog.underlying t = some (.slice e)) (hi : Tryz.prog.info? e = some i) (hz : i.zero = some z) (hsize : i.size = m) (hby : i.bytes = bytes) (hzs : z.cells.size = m) (hsz : 0 < m)
    (hm : ∀ y, (f y).length = m) (hone : ∀ y, ∀ u ∈ f y, u.oneCell' = true)
    (v : Value) (xs : List α) (hs : a.eval s = v) (hown : w.ownsRow base e m v xs.length (flatR f xs))
    (src : Value) (cs : List α) (hx : a.eval x = src) (hsrc : RowsR w src m f cs) (h63 : xs.length + cs.length ≤ maxLen) (hbytes : (xs.length + cs.length) * bytes ≤ 140737488355328) (hbase : base ≤ w.heap.size)
    (h : ∀ v' w', w'.ownsRow base e m v' (xs ++ cs).length (flatR f (xs ++ cs)) → w.grownBy w' v.ownBlock → wpList Tryz.prog ops Q rest (a.put o.dst v') w') : wpList Tryz.prog ops Q (o :: rest) a w := by
  obtain ⟨ad, cap, rfl, hr⟩ := hsrc
  cases ad with
  | none =>
    have h0 : cs.length = 0 := by
      rcases Nat.eq_zero_or_pos cs.length with h | h
      · exact h
      · obtain ⟨_, _, e, _⟩ := hr h; cases e
    obtain rfl : cs = [] := List.eq_nil_of_length_eq_zero h0
    refine wpList_plain hgd fun K' hK' => ?_
    have hrun := run_append_nil (ty := o.type) ht hi w hown cap
    unfold Oper.wp execOp
    simp only [ho, resolve, invoke, builtin, Sem.run_bind, Sem.run_pure, Result.andThen_ok, List.map_toArray, List.map_cons, List.map_nil, hs, hx, List.length_nil, hrun]
    exact hK' _ _ (h v w (by simpa using hown) ⟨rfl, rfl, rfl, Nat.le_refl _, fun _ _ _ => rfl⟩)
  | some ad =>
    refine wpList_append_own _ hgd s x t ho base e i z m bytes ht hi hz hsize hby hzs hsz v _ _ hs hown ad cs.length cap (flatR f cs) hx (flatR_len hm cs) ?_ (fun u hu => ?_) h63 hbytes hbase fun v' w' h1 h2 _ => h v' w' (by rw [List.length_append, flatR_append]; exact h1) h2
    · intro j u hj
      have hjl : j < cs.length * m := by
        rw [← flatR_len hm]
        exact (List.getElem?_eq_some_iff.1 hj).1
      have h0 : 0 < cs.length := by
        rcases Nat.eq_zero_or_pos cs.length with h | h
        · rw [h] at hjl; omega
        · exact h
      obtain ⟨g, off, rfl0, hg, hc⟩ := hr h0
      cases rfl0
      have hp : (⟨g, off, none⟩ : Addr).add j = ⟨g, off + j, none⟩ := by unfold Addr.add; split <;> simp_all
      have hd : j / m < cs.length := Nat.div_lt_of_lt_mul (by rw [Nat.mul_comm]; exact hjl)
      have hr : j % m < m := Nat.mod_lt _ hsz
      have e : j = j / m * m + j % m := by rw [Nat.mul_comm]; exact (Nat.div_add_mod j m).symm
      have hf := flatR_at hm cs (j / m) hd (j % m) hr
      rw [← e] at hf
      rw [hp, show off + j = off + j / m * m + j % m by omega, hc (j / m) hd (j % m) hr, ← hf, hj]
    · obtain ⟨y, _, hy⟩ := List.mem_flatMap.1 hu
      exact hone y u hy

theorem intF_one_a (n : Int) : ∀ u ∈ intF n, u.oneCell' = true := by intro u hu; simp [intF] at hu; subst hu; rfl
theorem undoF_one (n : UN) : ∀ u ∈ undoF n, u.oneCell' = true := by intro u hu; simp [undoF] at hu; rcases hu with h | h | h <;> subst h <;> rfl
theorem letF_one (n : LT) : ∀ u ∈ letF n, u.oneCell' = true := by
  intro u hu; simp [letF] at hu
  rcases hu with h | h | h | h | h | h | h | h | h | h | h | h | h <;> subst h <;> rfl
/-- an account's cells -/
def cellF (c : ByteArray × Int) : List Value := [.string c.1, .int .i64 c.2]
theorem cellF_len (c : ByteArray × Int) : (cellF c).length = 2 := rfl
theorem cellF_one (c : ByteArray × Int) : ∀ u ∈ cellF c, u.oneCell' = true := by intro u hu; simp [cellF] at hu; rcases hu with h | h <;> subst h <;> rfl
theorem flat_cellF (cs : CL) : flatR cellF cs = flat cs := rfl
theorem rows_cells {w : World} {v : Value} {cs : CL} (h : Cells w v cs) : RowsR w v 2 cellF cs := by
  obtain ⟨a, cap, rfl, hr⟩ := h
  refine ⟨a, cap, rfl, fun h0 => ?_⟩
  obtain ⟨g, off, rfl, hg, hc⟩ := hr h0
  refine ⟨g, off, rfl, hg, fun i hi j hj => ?_⟩
  have := hc i hi
  match j, hj with
  | 0, _ => exact this.1
  | 1, _ => exact this.2
/-- memory that was made, and a row that grew in it -/
theorem made_below {y x : World} {o : Obj} (hg : (y.alloc o).grownBy x (some y.heap.size)) : Below y.heap.size y x :=
  ((Below.refl y.heap.size y).alloc (Nat.le_refl _) o).grown hg (by simp) (fun k hk => by cases hk; exact Nat.le_refl _)

end Go.Proofs.YtnghhfgbobpnkarGreatR

namespace Go.Proofs.YtnghhfgbobpnkarGreatR
open Go.RowKit Num

/-- while a replica is copied: the box of the one that came in, the box of the answer, the box of the copy -/
structure CopyS (w y : World) (p : PE) (s t : PV) : Prop where
  below : Below w.heap.size w y
  box : y.heap[w.heap.size]? = some (.cells (peerA p s) 43 (0, 0))
  zero : y.heap[w.heap.size + 1]? = some (.cells zeroA 43 (0, 0))
  out : y.heap[w.heap.size + 1 + 1]? = some (.cells (peerA p t) 43 (0, 0))
theorem CopyS.lt {w y : World} {p : PE} {s t : PV} (h : CopyS w y p s t) : w.heap.size + 1 + 1 < y.heap.size := (Array.getElem?_eq_some_iff.1 h.out).1
theorem CopyS.more {w y x : World} {p : PE} {s t : PV} (h : CopyS w y p s t) (hb : Below y.heap.size y x) : CopyS w x p s t := by
  have := h.lt
  exact ⟨bt h.below hb, (hb.block _ (by omega)).trans h.box, (hb.block _ (by omega)).trans h.zero, (hb.block _ (by omega)).trans h.out⟩
theorem CopyS.put {w y x : World} {p : PE} {s t t' : PV} (h : CopyS w y p s t) (hg : y.grownBy x (some (w.heap.size + 1 + 1))) (hk : x.heap[w.heap.size + 1 + 1]? = some (.cells (peerA p t') 43 (0, 0))) : CopyS w x p s t' := by
  have := h.lt
  exact ⟨h.below.grown hg h.below.size (fun k hk => by cases hk; omega), (hg.block _ (by omega) (fun e => by have := Option.some.inj e; omega)).trans h.box, (hg.block _ (by omega) (fun e => by have := Option.some.inj e; omega)).trans h.zero, hk⟩
theorem peerA_oneR {w : World} {p : PE} {s : PV} (h : PeerR w p s) : (peerA p s).all (·.oneCell') = true := by
  obtain ⟨sr, sc, se, su, sv, sn⟩ := s
  obtain ⟨_, _, e1, -⟩ := h.row
  obtain ⟨_, _, e2, -⟩ := h.cells
  obtain ⟨_, _, e3, -⟩ := h.early
  obtain ⟨_, _, e4, -⟩ := h.undos
  obtain ⟨_, _, e5, -⟩ := h.votes
  obtain ⟨_, _, e6, -⟩ := h.news
  change sr = _ at e1
  change sc = _ at e2
  change se = _ at e3
  change su = _ at e4
  change sv = _ at e5
  change sn = _ at e6
  subst e1 e2 e3 e4 e5 e6
  unfold peerA
  simp [Value.oneCell']

set_option maxRecDepth 100000 in
set_option maxHeartbeats 8000000 in
theorem copy_s (p : PE) (s : PV) (w : World) (hR : PeerR w p s) (hs : smallPe p) :
    Calls Tryz.prog 31 #[peerV p s] w fun e w' => ∃ s', e = .returned (peerV p s') ∧ OwnP w.heap.size w' p s' ∧ Below w.heap.size w w' := by
  have HR := hid hR
  have HS := hid hs
  have hz1 := hs.row
  have hz2 := hs.cells
  have hz3 := hs.early
  have hz4 := hs.undos
  have hz5 := hs.votes
  have hz6 := hs.news
  obtain ⟨ii, ihi, ihz0, ihz1, ihz2⟩ := info_parts infoIntL
  obtain ⟨ci, chi, chz0, chz1, chz2⟩ := info_parts infoCell
  obtain ⟨ui, uhi, uhz0, uhz1, uhz2⟩ := info_parts infoUndo
  obtain ⟨vi, vhi, vhz0, vhz1, vhz2⟩ := info_parts infoVote
  obtain ⟨li, lhi, lhz0, lhz1, lhz2⟩ := info_parts infoLetter
  have HONE : Hid ((peerA p s).all (·.oneCell') = true) := peerA_oneR hR
  clear hR hs
  obtain ⟨W, hW⟩ : ∃ W, W = ((w.alloc (.cells (peerA p s) 43)).alloc (.cells zeroA 43)).alloc (.cells zeroA 43) := ⟨_, rfl⟩
  have HC : Hid (Below w.heap.size w W ∧ W.heap[w.heap.size]? = some (.cells (peerA p s) 43 (0, 0)) ∧ W.heap[w.heap.size + 1]? = some (.cells zeroA 43 (0, 0)) ∧ W.heap[w.heap.size + 1 + 1]? = some (.cells zeroA 43 (0, 0))) := by
    rw [hW]; exact ⟨ba (ba (ba (Below.refl _ _) _) _) _, alloc3 w _ _ _⟩
  unfold zeroA at hW
  go_enter Tryz.func31, Tryz.ntmps31
  go_wp2_with (first
    | (rw [← hW]; clear hW; refine wpList_store_blk rfl _ _ _ rfl (w.heap.size + 1 + 1) (peerA p s) rfl rfl 43 zeroA HC.out.2.2.2 (by kernel_rfl) rfl HONE.out ?_; intro y0 hg hk hz; have HS0 : Hid (CopyS w y0 p s s) := ⟨HC.out.1.grown hg HC.out.1.size (fun k hk => by cases hk; omega), (hg.block _ (Array.getElem?_eq_some_iff.1 HC.out.2.1).1 (fun e => by have := Option.some.inj e; omega)).trans HC.out.2.1, (hg.block _ (Array.getElem?_eq_some_iff.1 HC.out.2.2.1).1 (fun e => by have := Option.some.inj e; omega)).trans HC.out.2.2.1, hk⟩; have HQ0 : Hid (w.heap.size + 1 + 1 < y0.heap.size) := HS0.out.lt; clear hg hk hz HC; have c14 := blk_cell (HS0.out.more ((Below.refl y0.heap.size y0).alloc (Nat.le_refl _) (.cells #[] 3))).box 14 s.row rfl)
    | (refine wpList_load_row rfl _ _ rfl w.heap.size rfl 43 _ (0, 0) _ (alloc2 w _ _).1 Tryz.underlying43 rfl (by kernel_rfl) ?_)
    | (at_builtin; refine wpList_append_a _ rfl _ _ 27 rfl y0.heap.size 3 ii _ 8 Tryz.underlying27 ihi ihz0 ihz1 ihz2 rfl (by decide) intF_len intF_one_a _ [] rfl (own_new y0 _ _) _ p.row rfl (((HR.out.below HS0.out.below).row).below ((Below.refl y0.heap.size y0).alloc (Nat.le_refl _) _)) (by simp; unfold maxLen; omega) (by simp; omega) (by simp) ?_; intro v0 x0 ho hg; have hbx : Below y0.heap.size y0 x0 := made_below hg; have HX0 : Hid (CopyS w x0 p s ⟨s.row, s.cells, s.early, s.undos, s.votes, s.news⟩) := HS0.out.more hbx; have HI0a : Hid (In y0.heap.size x0.heap.size x0 3 1 v0 p.row.length (flatR intF p.row)) := ⟨ho, fun g hg => (ho.lt g hg).2⟩; have HL0a : Hid (y0.heap.size ≤ x0.heap.size) := hbx.size; obtain ⟨va0, vc0, rfl, -⟩ := own_form ho; clear ho hg hbx HS0 c14)
    | (refine wpList_store_cell rfl _ _ _ rfl (w.heap.size + 1 + 1) 14 (.slice va0 p.row.length vc0) rfl rfl _ _ HX0.out.out (by kernel_rfl) (by simp [peerA]) rfl (peerA p ⟨.slice va0 p.row.length vc0, s.cells, s.early, s.undos, s.votes, s.news⟩) rfl ?_; intro y1 hg hk; have HS1 : Hid (CopyS w y1 p s ⟨.slice va0 p.row.length vc0, s.cells, s.early, s.undos, s.votes, s.news⟩) := HX0.out.put hg hk; have HI0 : Hid (In y0.heap.size x0.heap.size y1 3 1 (.slice va0 p.row.length vc0) p.row.length (flatR intF p.row)) := HI0a.out.far hg (Or.inl (by have := HQ0.out; omega)); have HM0 : Hid (y0.heap.size ≤ x0.heap.size ∧ x0.heap.size ≤ y1.heap.size) := ⟨HL0a.out, hg.size⟩; have HQ1 : Hid (w.heap.size + 1 + 1 < y1.heap.size) := HS1.out.lt; clear hg hk HX0 HL0a HI0a; have c15 := blk_cell (HS1.out.more ((Below.refl y1.heap.size y1).alloc (Nat.le_refl _) (.cells #[] 126))).box 15 s.cells rfl)
    | (at_builtin; refine wpList_append_a _ rfl _ _ 38 rfl y1.heap.size 126 ci _ 24 Tryz.underlying38 chi chz0 chz1 chz2 rfl (by decide) cellF_len cellF_one _ [] rfl (own_new y1 _ _) _ p.cells rfl ((rows_cells (HR.out.below HS1.out.below).cells).below ((Below.refl y1.heap.size y1).alloc (Nat.le_refl _) _)) (by simp; unfold maxLen; omega) (by simp; omega) (by simp) ?_; intro v1 x1 ho hg; have hbx : Below y1.heap.size y1 x1 := made_below hg; have HX1 : Hid (CopyS w x1 p s ⟨.slice va0 p.row.length vc0, s.cells, s.early, s.undos, s.votes, s.news⟩) := HS1.out.more hbx; have HI1a : Hid (In y1.heap.size x1.heap.size x1 126 2 v1 p.cells.length (flatR cellF p.cells)) := ⟨ho, fun g hg => (ho.lt g hg).2⟩; have HI0a : Hid (In y0.heap.size x0.heap.size x1 3 1 (.slice va0 p.row.length vc0) p.row.length (flatR intF p.row)) := HI0.out.below hbx; have HL1a : Hid (y1.heap.size ≤ x1.heap.size) := hbx.size; obtain ⟨va1, vc1, rfl, -⟩ := own_form ho; clear ho hg hbx HS1 c15 HI0)
    | (refine wpList_store_cell rfl _ _ _ rfl (w.heap.size + 1 + 1) 15 (.slice va1 p.cells.length vc1) rfl rfl _ _ HX1.out.out (by kernel_rfl) (by simp [peerA]) rfl (peerA p ⟨.slice va0 p.row.length vc0, .slice va1 p.cells.length vc1, s.early, s.undos, s.votes, s.news⟩) rfl ?_; intro y2 hg hk; have HS2 : Hid (CopyS w y2 p s ⟨.slice va0 p.row.length vc0, .slice va1 p.cells.length vc1, s.early, s.undos, s.votes, s.news⟩) := HX1.out.put hg hk; have HI0 : Hid (In y0.heap.size x0.heap.size y2 3 1 (.slice va0 p.row.length vc0) p.row.length (flatR intF p.row)) := HI0a.out.far hg (Or.inl (by have := HQ0.out; omega)); have HI1 : Hid (In y1.heap.size x1.heap.size y2 126 2 (.slice va1 p.cells.length vc1) p.cells.length (flatR cellF p.cells)) := HI1a.out.far hg (Or.inl (by have := HQ1.out; omega)); have HM1 : Hid (y1.heap.size ≤ x1.heap.size ∧ x1.heap.size ≤ y2.heap.size) := ⟨HL1a.out, hg.size⟩; have HQ2 : Hid (w.heap.size + 1 + 1 < y2.heap.size) := HS2.out.lt; clear hg hk HX1 HL1a HI0a HI1a; have c16 := blk_cell (HS2.out.more ((Below.refl y2.heap.size y2).alloc (Nat.le_refl _) (.cells #[] 3))).box 16 s.early rfl)
    | (at_builtin; refine wpList_append_a _ rfl _ _ 27 rfl y2.heap.size 3 ii _ 8 Tryz.underlying27 ihi ihz0 ihz1 ihz2 rfl (by decide) intF_len intF_one_a _ [] rfl (own_new y2 _ _) _ p.early rfl (((HR.out.below HS2.out.below).early).below ((Below.refl y2.heap.size y2).alloc (Nat.le_refl _) _)) (by simp; unfold maxLen; omega) (by simp; omega) (by simp) ?_; intro v2 x2 ho hg; have hbx : Below y2.heap.size y2 x2 := made_below hg; have HX2 : Hid (CopyS w x2 p s ⟨.slice va0 p.row.length vc0, .slice va1 p.cells.length vc1, s.early, s.undos, s.votes, s.news⟩) := HS2.out.more hbx; have HI2a : Hid (In y2.heap.size x2.heap.size x2 3 1 v2 p.early.length (flatR intF p.early)) := ⟨ho, fun g hg => (ho.lt g hg).2⟩; have HI0a : Hid (In y0.heap.size x0.heap.size x2 3 1 (.slice va0 p.row.length vc0) p.row.length (flatR intF p.row)) := HI0.out.below hbx; have HI1a : Hid (In y1.heap.size x1.heap.size x2 126 2 (.slice va1 p.cells.length vc1) p.cells.length (flatR cellF p.cells)) := HI1.out.below hbx; have HL2a : Hid (y2.heap.size ≤ x2.heap.size) := hbx.size; obtain ⟨va2, vc2, rfl, -⟩ := own_form ho; clear ho hg hbx HS2 c16 HI0 HI1)
    | (refine wpList_store_cell rfl _ _ _ rfl (w.heap.size + 1 + 1) 16 (.slice va2 p.early.length vc2) rfl rfl _ _ HX2.out.out (by kernel_rfl) (by simp [peerA]) rfl (peerA p ⟨.slice va0 p.row.length vc0, .slice va1 p.cells.length vc1, .slice va2 p.early.length vc2, s.undos, s.votes, s.news⟩) rfl ?_; intro y3 hg hk; have HS3 : Hid (CopyS w y3 p s ⟨.slice va0 p.row.length vc0, .slice va1 p.cells.length vc1, .slice va2 p.early.length vc2, s.undos, s.votes, s.news⟩) := HX2.out.put hg hk; have HI0 : Hid (In y0.heap.size x0.heap.size y3 3 1 (.slice va0 p.row.length vc0) p.row.length (flatR intF p.row)) := HI0a.out.far hg (Or.inl (by have := HQ0.out; omega)); have HI1 : Hid (In y1.heap.size x1.heap.size y3 126 2 (.slice va1 p.cells.length vc1) p.cells.length (flatR cellF p.cells)) := HI1a.out.far hg (Or.inl (by have := HQ1.out; omega)); have HI2 : Hid (In y2.heap.size x2.heap.size y3 3 1 (.slice va2 p.early.length vc2) p.early.length (flatR intF p.early)) := HI2a.out.far hg (Or.inl (by have := HQ2.out; omega)); have HM2 : Hid (y2.heap.size ≤ x2.heap.size ∧ x2.heap.size ≤ y3.heap.size) := ⟨HL2a.out, hg.size⟩; have HQ3 : Hid (w.heap.size + 1 + 1 < y3.heap.size) := HS3.out.lt; clear hg hk HX2 HL2a HI0a HI1a HI2a; have c17 := blk_cell (HS3.out.more ((Below.refl y3.heap.size y3).alloc (Nat.le_refl _) (.cells #[] 128))).box 17 s.undos rfl)
    | (at_builtin; refine wpList_append_a _ rfl _ _ 39 rfl y3.heap.size 128 ui _ 32 Tryz.underlying39 uhi uhz0 uhz1 uhz2 rfl (by decide) undoF_len undoF_one _ [] rfl (own_new y3 _ _) _ p.undos rfl (((HR.out.below HS3.out.below).undos).below ((Below.refl y3.heap.size y3).alloc (Nat.le_refl _) _)) (by simp; unfold maxLen; omega) (by simp; omega) (by simp) ?_; intro v3 x3 ho hg; have hbx : Below y3.heap.size y3 x3 := made_below hg; have HX3 : Hid (CopyS w x3 p s ⟨.slice va0 p.row.length vc0, .slice va1 p.cells.length vc1, .slice va2 p.early.length vc2, s.undos, s.votes, s.news⟩) := HS3.out.more hbx; have HI3a : Hid (In y3.heap.size x3.heap.size x3 128 3 v3 p.undos.length (flatR undoF p.undos)) := ⟨ho, fun g hg => (ho.lt g hg).2⟩; have HI0a : Hid (In y0.heap.size x0.heap.size x3 3 1 (.slice va0 p.row.length vc0) p.row.length (flatR intF p.row)) := HI0.out.below hbx; have HI1a : Hid (In y1.heap.size x1.heap.size x3 126 2 (.slice va1 p.cells.length vc1) p.cells.length (flatR cellF p.cells)) := HI1.out.below hbx; have HI2a : Hid (In y2.heap.size x2.heap.size x3 3 1 (.slice va2 p.early.length vc2) p.early.length (flatR intF p.early)) := HI2.out.below hbx; have HL3a : Hid (y3.heap.size ≤ x3.heap.size) := hbx.size; obtain ⟨va3, vc3, rfl, -⟩ := own_form ho; clear ho hg hbx HS3 c17 HI0 HI1 HI2)
    | (refine wpList_store_cell rfl _ _ _ rfl (w.heap.size + 1 + 1) 17 (.slice va3 p.undos.length vc3) rfl rfl _ _ HX3.out.out (by kernel_rfl) (by simp [peerA]) rfl (peerA p ⟨.slice va0 p.row.length vc0, .slice va1 p.cells.length vc1, .slice va2 p.early.length vc2, .slice va3 p.undos.length vc3, s.votes, s.news⟩) rfl ?_; intro y4 hg hk; have HS4 : Hid (CopyS w y4 p s ⟨.slice va0 p.row.length vc0, .slice va1 p.cells.length vc1, .slice va2 p.early.length vc2, .slice va3 p.undos.length vc3, s.votes, s.news⟩) := HX3.out.put hg hk; have HI0 : Hid (In y0.heap.size x0.heap.size y4 3 1 (.slice va0 p.row.length vc0) p.row.length (flatR intF p.row)) := HI0a.out.far hg (Or.inl (by have := HQ0.out; omega)); have HI1 : Hid (In y1.heap.size x1.heap.size y4 126 2 (.slice va1 p.cells.length vc1) p.cells.length (flatR cellF p.cells)) := HI1a.out.far hg (Or.inl (by have := HQ1.out; omega)); have HI2 : Hid (In y2.heap.size x2.heap.size y4 3 1 (.slice va2 p.early.length vc2) p.early.length (flatR intF p.early)) := HI2a.out.far hg (Or.inl (by have := HQ2.out; omega)); have HI3 : Hid (In y3.heap.size x3.heap.size y4 128 3 (.slice va3 p.undos.length vc3) p.undos.length (flatR undoF p.undos)) := HI3a.out.far hg (Or.inl (by have := HQ3.out; omega)); have HM3 : Hid (y3.heap.size ≤ x3.heap.size ∧ x3.heap.size ≤ y4.heap.size) := ⟨HL3a.out, hg.size⟩; have HQ4 : Hid (w.heap.size + 1 + 1 < y4.heap.size) := HS4.out.lt; clear hg hk HX3 HL3a HI0a HI1a HI2a HI3a; have c18 := blk_cell (HS4.out.more ((Below.refl y4.heap.size y4).alloc (Nat.le_refl _) (.cells #[] 37))).box 18 s.votes rfl)
    | (at_builtin; refine wpList_append_a _ rfl _ _ 40 rfl y4.heap.size 37 vi _ 32 Tryz.underlying40 vhi vhz0 vhz1 vhz2 rfl (by decide) voteF_len voteF_one _ [] rfl (own_new y4 _ _) _ p.votes rfl (((HR.out.below HS4.out.below).votes).below ((Below.refl y4.heap.size y4).alloc (Nat.le_refl _) _)) (by simp; unfold maxLen; omega) (by simp; omega) (by simp) ?_; intro v4 x4 ho hg; have hbx : Below y4.heap.size y4 x4 := made_below hg; have HX4 : Hid (CopyS w x4 p s ⟨.slice va0 p.row.length vc0, .slice va1 p.cells.length vc1, .slice va2 p.early.length vc2, .slice va3 p.undos.length vc3, s.votes, s.news⟩) := HS4.out.more hbx; have HI4a : Hid (In y4.heap.size x4.heap.size x4 37 4 v4 p.votes.length (flatR voteF p.votes)) := ⟨ho, fun g hg => (ho.lt g hg).2⟩; have HI0a : Hid (In y0.heap.size x0.heap.size x4 3 1 (.slice va0 p.row.length vc0) p.row.length (flatR intF p.row)) := HI0.out.below hbx; have HI1a : Hid (In y1.heap.size x1.heap.size x4 126 2 (.slice va1 p.cells.length vc1) p.cells.length (flatR cellF p.cells)) := HI1.out.below hbx; have HI2a : Hid (In y2.heap.size x2.heap.size x4 3 1 (.slice va2 p.early.length vc2) p.early.length (flatR intF p.early)) := HI2.out.below hbx; have HI3a : Hid (In y3.heap.size x3.heap.size x4 128 3 (.slice va3 p.undos.length vc3) p.undos.length (flatR undoF p.undos)) := HI3.out.below hbx; have HL4a : Hid (y4.heap.size ≤ x4.heap.size) := hbx.size; obtain ⟨va4, vc4, rfl, -⟩ := own_form ho; clear ho hg hbx HS4 c18 HI0 HI1 HI2 HI3)
    | (refine wpList_store_cell rfl _ _ _ rfl (w.heap.size + 1 + 1) 18 (.slice va4 p.votes.length vc4) rfl rfl _ _ HX4.out.out (by kernel_rfl) (by simp [peerA]) rfl (peerA p ⟨.slice va0 p.row.length vc0, .slice va1 p.cells.length vc1, .slice va2 p.early.length vc2, .slice va3 p.undos.length vc3, .slice va4 p.votes.length vc4, s.news⟩) rfl ?_; intro y5 hg hk; have HS5 : Hid (CopyS w y5 p s ⟨.slice va0 p.row.length vc0, .slice va1 p.cells.length vc1, .slice va2 p.early.length vc2, .slice va3 p.undos.length vc3, .slice va4 p.votes.length vc4, s.news⟩) := HX4.out.put hg hk; have HI0 : Hid (In y0.heap.size x0.heap.size y5 3 1 (.slice va0 p.row.length vc0) p.row.length (flatR intF p.row)) := HI0a.out.far hg (Or.inl (by have := HQ0.out; omega)); have HI1 : Hid (In y1.heap.size x1.heap.size y5 126 2 (.slice va1 p.cells.length vc1) p.cells.length (flatR cellF p.cells)) := HI1a.out.far hg (Or.inl (by have := HQ1.out; omega)); have HI2 : Hid (In y2.heap.size x2.heap.size y5 3 1 (.slice va2 p.early.length vc2) p.early.length (flatR intF p.early)) := HI2a.out.far hg (Or.inl (by have := HQ2.out; omega)); have HI3 : Hid (In y3.heap.size x3.heap.size y5 128 3 (.slice va3 p.undos.length vc3) p.undos.length (flatR undoF p.undos)) := HI3a.out.far hg (Or.inl (by have := HQ3.out; omega)); have HI4 : Hid (In y4.heap.size x4.heap.size y5 37 4 (.slice va4 p.votes.length vc4) p.votes.length (flatR voteF p.votes)) := HI4a.out.far hg (Or.inl (by have := HQ4.out; omega)); have HM4 : Hid (y4.heap.size ≤ x4.heap.size ∧ x4.heap.size ≤ y5.heap.size) := ⟨HL4a.out, hg.size⟩; have HQ5 : Hid (w.heap.size + 1 + 1 < y5.heap.size) := HS5.out.lt; clear hg hk HX4 HL4a HI0a HI1a HI2a HI3a HI4a; have c19 := blk_cell (HS5.out.more ((Below.refl y5.heap.size y5).alloc (Nat.le_refl _) (.cells #[] 58))).box 19 s.news rfl)
    | (at_builtin; refine wpList_append_a _ rfl _ _ 41 rfl y5.heap.size 58 li _ 104 Tryz.underlying41 lhi lhz0 lhz1 lhz2 rfl (by decide) letF_len letF_one _ [] rfl (own_new y5 _ _) _ p.news rfl (((HR.out.below HS5.out.below).news).below ((Below.refl y5.heap.size y5).alloc (Nat.le_refl _) _)) (by simp; unfold maxLen; omega) (by simp; omega) (by simp) ?_; intro v5 x5 ho hg; have hbx : Below y5.heap.size y5 x5 := made_below hg; have HX5 : Hid (CopyS w x5 p s ⟨.slice va0 p.row.length vc0, .slice va1 p.cells.length vc1, .slice va2 p.early.length vc2, .slice va3 p.undos.length vc3, .slice va4 p.votes.length vc4, s.news⟩) := HS5.out.more hbx; have HI5a : Hid (In y5.heap.size x5.heap.size x5 58 13 v5 p.news.length (flatR letF p.news)) := ⟨ho, fun g hg => (ho.lt g hg).2⟩; have HI0a : Hid (In y0.heap.size x0.heap.size x5 3 1 (.slice va0 p.row.length vc0) p.row.length (flatR intF p.row)) := HI0.out.below hbx; have HI1a : Hid (In y1.heap.size x1.heap.size x5 126 2 (.slice va1 p.cells.length vc1) p.cells.length (flatR cellF p.cells)) := HI1.out.below hbx; have HI2a : Hid (In y2.heap.size x2.heap.size x5 3 1 (.slice va2 p.early.length vc2) p.early.length (flatR intF p.early)) := HI2.out.below hbx; have HI3a : Hid (In y3.heap.size x3.heap.size x5 128 3 (.slice va3 p.undos.length vc3) p.undos.length (flatR undoF p.undos)) := HI3.out.below hbx; have HI4a : Hid (In y4.heap.size x4.heap.size x5 37 4 (.slice va4 p.votes.length vc4) p.votes.length (flatR voteF p.votes)) := HI4.out.below hbx; have HL5a : Hid (y5.heap.size ≤ x5.heap.size) := hbx.size; obtain ⟨va5, vc5, rfl, -⟩ := own_form ho; clear ho hg hbx HS5 c19 HI0 HI1 HI2 HI3 HI4)
    | (refine wpList_store_cell rfl _ _ _ rfl (w.heap.size + 1 + 1) 19 (.slice va5 p.news.length vc5) rfl rfl _ _ HX5.out.out (by kernel_rfl) (by simp [peerA]) rfl (peerA p ⟨.slice va0 p.row.length vc0, .slice va1 p.cells.length vc1, .slice va2 p.early.length vc2, .slice va3 p.undos.length vc3, .slice va4 p.votes.length vc4, .slice va5 p.news.length vc5⟩) rfl ?_; intro y6 hg hk; have HS6 : Hid (CopyS w y6 p s ⟨.slice va0 p.row.length vc0, .slice va1 p.cells.length vc1, .slice va2 p.early.length vc2, .slice va3 p.undos.length vc3, .slice va4 p.votes.length vc4, .slice va5 p.news.length vc5⟩) := HX5.out.put hg hk; have HI0 : Hid (In y0.heap.size x0.heap.size y6 3 1 (.slice va0 p.row.length vc0) p.row.length (flatR intF p.row)) := HI0a.out.far hg (Or.inl (by have := HQ0.out; omega)); have HI1 : Hid (In y1.heap.size x1.heap.size y6 126 2 (.slice va1 p.cells.length vc1) p.cells.length (flatR cellF p.cells)) := HI1a.out.far hg (Or.inl (by have := HQ1.out; omega)); have HI2 : Hid (In y2.heap.size x2.heap.size y6 3 1 (.slice va2 p.early.length vc2) p.early.length (flatR intF p.early)) := HI2a.out.far hg (Or.inl (by have := HQ2.out; omega)); have HI3 : Hid (In y3.heap.size x3.heap.size y6 128 3 (.slice va3 p.undos.length vc3) p.undos.length (flatR undoF p.undos)) := HI3a.out.far hg (Or.inl (by have := HQ3.out; omega)); have HI4 : Hid (In y4.heap.size x4.heap.size y6 37 4 (.slice va4 p.votes.length vc4) p.votes.length (flatR voteF p.votes)) := HI4a.out.far hg (Or.inl (by have := HQ4.out; omega)); have HI5 : Hid (In y5.heap.size x5.heap.size y6 58 13 (.slice va5 p.news.length vc5) p.news.length (flatR letF p.news)) := HI5a.out.far hg (Or.inl (by have := HQ5.out; omega)); have HM5 : Hid (y5.heap.size ≤ x5.heap.size ∧ x5.heap.size ≤ y6.heap.size) := ⟨HL5a.out, hg.size⟩; have HQ6 : Hid (w.heap.size + 1 + 1 < y6.heap.size) := HS6.out.lt; clear hg hk HX5 HL5a HI0a HI1a HI2a HI3a HI4a HI5a) | (refine wpList_load_row rfl _ _ rfl (w.heap.size + 1 + 1) rfl 43 _ (0, 0) _ HS6.out.out Tryz.underlying43 rfl (by kernel_rfl) ?_) | (refine wpList_store_blk rfl _ _ _ rfl (w.heap.size + 1) (peerA p ⟨.slice va0 p.row.length vc0, .slice va1 p.cells.length vc1, .slice va2 p.early.length vc2, .slice va3 p.undos.length vc3, .slice va4 p.votes.length vc4, .slice va5 p.news.length vc5⟩) rfl rfl 43 zeroA HS6.out.zero (by kernel_rfl) rfl (by have h := HONE.out; unfold peerA at h ⊢; simp [Value.oneCell'] at h ⊢) ?_; intro z hg hk hz; have HBz : Hid (Below w.heap.size w z) := HS6.out.below.grown hg HS6.out.below.size (fun k hk => by cases hk; omega); have HKz : Hid (z.heap[w.heap.size + 1]? = Option.some (.cells (peerA p ⟨.slice va0 p.row.length vc0, .slice va1 p.cells.length vc1, .slice va2 p.early.length vc2, .slice va3 p.undos.length vc3, .slice va4 p.votes.length vc4, .slice va5 p.news.length vc5⟩) 43 (0, 0))) := hk; have HMz : Hid (y6.heap.size ≤ z.heap.size) := hg.size; have HI0z : Hid (In y0.heap.size x0.heap.size z 3 1 (.slice va0 p.row.length vc0) p.row.length (flatR intF p.row)) := HI0.out.far hg (Or.inl (by have := HQ0.out; omega)); have HI1z : Hid (In y1.heap.size x1.heap.size z 126 2 (.slice va1 p.cells.length vc1) p.cells.length (flatR cellF p.cells)) := HI1.out.far hg (Or.inl (by have := HQ1.out; omega)); have HI2z : Hid (In y2.heap.size x2.heap.size z 3 1 (.slice va2 p.early.length vc2) p.early.length (flatR intF p.early)) := HI2.out.far hg (Or.inl (by have := HQ2.out; omega)); have HI3z : Hid (In y3.heap.size x3.heap.size z 128 3 (.slice va3 p.undos.length vc3) p.undos.length (flatR undoF p.undos)) := HI3.out.far hg (Or.inl (by have := HQ3.out; omega)); have HI4z : Hid (In y4.heap.size x4.heap.size z 37 4 (.slice va4 p.votes.length vc4) p.votes.length (flatR voteF p.votes)) := HI4.out.far hg (Or.inl (by have := HQ4.out; omega)); have HI5z : Hid (In y5.heap.size x5.heap.size z 58 13 (.slice va5 p.news.length vc5) p.news.length (flatR letF p.news)) := HI5.out.far hg (Or.inl (by have := HQ5.out; omega)); clear hg hk hz HI0 HI1 HI2 HI3 HI4 HI5))
  refine bodyPost_ret (v := .agg (peerA p ⟨.slice va0 p.row.length vc0, .slice va1 p.cells.length vc1, .slice va2 p.early.length vc2, .slice va3 p.undos.length vc3, .slice va4 p.votes.length vc4, .slice va5 p.news.length vc5⟩)) (results_cell_row Tryz.results31 _ _ (w.heap.size + 1) 43 _ (0, 0) _ rfl HKz.out Tryz.underlying43 rfl (by kernel_rfl)) rfl ?_
  refine ⟨_, rfl, ⟨x0.heap.size, x1.heap.size, x2.heap.size, x3.heap.size, x4.heap.size, x5.heap.size, ?_, ?_, ?_, ?_, ?_, ?_, ?_⟩, HBz.out⟩
  · have := HM0.out; have := HM1.out; have := HM2.out; have := HM3.out; have := HM4.out; have := HM5.out; have := HMz.out; have := HQ0.out; omega
  · exact ⟨own_base HI0z.out.1 (by have := HQ0.out; exact (by omega)), HI0z.out.2⟩
  · exact ⟨own_base HI1z.out.1 (by have := HQ0.out; have := HM0.out; exact (by omega)), HI1z.out.2⟩
  · exact ⟨own_base HI2z.out.1 (by have := HQ0.out; have := HM1.out; exact (by omega)), HI2z.out.2⟩
  · exact ⟨own_base HI3z.out.1 (by have := HQ0.out; have := HM2.out; exact (by omega)), HI3z.out.2⟩
  · exact ⟨own_base HI4z.out.1 (by have := HQ0.out; have := HM3.out; exact (by omega)), HI4z.out.2⟩
  · exact ⟨own_base HI5z.out.1 (by have := HQ0.out; have := HM4.out; exact (by omega)), HI5z.out.2⟩

end Go.Proofs.YtnghhfgbobpnkarGreatR

namespace Go.Proofs.YtnghhfgbobpnkarGreatR
open Go.RowKit Num

theorem apart_new {x v old : Value} {lo hi : Nat} (ha : apart x old) (hx : ∀ g, x.ownBlock = some g → lo ≤ g ∧ g < hi) (hv : ∀ g, v.ownBlock = some g → old.ownBlock = some g ∨ hi ≤ g) : apart x v := fun g e1 e2 => by
  rcases hv g e2 with h | h
  · exact ha g e1 h
  · have := hx g e1; omega
theorem Apart6.wide {lo hi hi' : Nat} {s : PV} (h : Apart6 lo hi s) (hh : hi ≤ hi') : Apart6 lo hi' s :=
  ⟨h.a01, h.a02, h.a03, h.a04, h.a05, h.a10, h.a12, h.a13, h.a14, h.a15, h.a20, h.a21, h.a23, h.a24, h.a25, h.a30, h.a31, h.a32, h.a34, h.a35, h.a40, h.a41, h.a42, h.a43, h.a45, h.a50, h.a51, h.a52, h.a53, h.a54, fun g e => ⟨(h.l0 g e).1, Nat.lt_of_lt_of_le (h.l0 g e).2 hh⟩, fun g e => ⟨(h.l1 g e).1, Nat.lt_of_lt_of_le (h.l1 g e).2 hh⟩, fun g e => ⟨(h.l2 g e).1, Nat.lt_of_lt_of_le (h.l2 g e).2 hh⟩, fun g e => ⟨(h.l3 g e).1, Nat.lt_of_lt_of_le (h.l3 g e).2 hh⟩, fun g e => ⟨(h.l4 g e).1, Nat.lt_of_lt_of_le (h.l4 g e).2 hh⟩, fun g e => ⟨(h.l5 g e).1, Nat.lt_of_lt_of_le (h.l5 g e).2 hh⟩⟩
theorem OwnD.wide {lo hi hi' : Nat} {w : World} {p : PE} {s : PV} (h : OwnD lo hi w p s) (hh : hi ≤ hi') (hs : hi' ≤ w.heap.size) : OwnD lo hi' w p s := ⟨h.1, h.2.1.wide hh, hs⟩
theorem OwnD.other {lo hi : Nat} {w : World} {p q : PE} {s : PV} (h : OwnD lo hi w p s) (e0 : q.row = p.row) (e1 : q.cells = p.cells) (e2 : q.early = p.early) (e3 : q.undos = p.undos) (e4 : q.votes = p.votes) (e5 : q.news = p.news) : OwnD lo hi w q s := by
  obtain ⟨⟨r0, r1, r2, r3, r4, r5⟩, ha, hs⟩ := h
  refine ⟨⟨?_, ?_, ?_, ?_, ?_, ?_⟩, ha, hs⟩
  · rw [e0]; exact r0
  · rw [e1]; exact r1
  · rw [e2]; exact r2
  · rw [e3]; exact r3
  · rw [e4]; exact r4
  · rw [e5]; exact r5
theorem OwnD.low {lo lo' hi : Nat} {w : World} {p : PE} {s : PV} (h : OwnD lo hi w p s) (hl : lo' ≤ lo) : OwnD lo' hi w p s := by
  obtain ⟨⟨r0, r1, r2, r3, r4, r5⟩, ha, hs⟩ := h
  exact ⟨⟨own_base r0 hl, own_base r1 hl, own_base r2 hl, own_base r3 hl, own_base r4 hl, own_base r5 hl⟩, ⟨ha.a01, ha.a02, ha.a03, ha.a04, ha.a05, ha.a10, ha.a12, ha.a13, ha.a14, ha.a15, ha.a20, ha.a21, ha.a23, ha.a24, ha.a25, ha.a30, ha.a31, ha.a32, ha.a34, ha.a35, ha.a40, ha.a41, ha.a42, ha.a43, ha.a45, ha.a50, ha.a51, ha.a52, ha.a53, ha.a54, fun g e => ⟨Nat.le_trans hl (ha.l0 g e).1, (ha.l0 g e).2⟩, fun g e => ⟨Nat.le_trans hl (ha.l1 g e).1, (ha.l1 g e).2⟩, fun g e => ⟨Nat.le_trans hl (ha.l2 g e).1, (ha.l2 g e).2⟩, fun g e => ⟨Nat.le_trans hl (ha.l3 g e).1, (ha.l3 g e).2⟩, fun g e => ⟨Nat.le_trans hl (ha.l4 g e).1, (ha.l4 g e).2⟩, fun g e => ⟨Nat.le_trans hl (ha.l5 g e).1, (ha.l5 g e).2⟩⟩, hs⟩
theorem Apart6.setRow {lo hi hi' : Nat} {s : PV} {v : Value} (h : Apart6 lo hi s) (hh : hi ≤ hi') (hr : ∀ g, v.ownBlock = some g → lo ≤ g ∧ g < hi') (hv : ∀ g, v.ownBlock = some g → s.row.ownBlock = some g ∨ hi ≤ g) : Apart6 lo hi' { s with row := v } :=
  ⟨(apart_new h.a10 h.l1 hv).symm, (apart_new h.a20 h.l2 hv).symm, (apart_new h.a30 h.l3 hv).symm, (apart_new h.a40 h.l4 hv).symm, (apart_new h.a50 h.l5 hv).symm, apart_new h.a10 h.l1 hv, h.a12, h.a13, h.a14, h.a15, apart_new h.a20 h.l2 hv, h.a21, h.a23, h.a24, h.a25, apart_new h.a30 h.l3 hv, h.a31, h.a32, h.a34, h.a35, apart_new h.a40 h.l4 hv, h.a41, h.a42, h.a43, h.a45, apart_new h.a50 h.l5 hv, h.a51, h.a52, h.a53, h.a54, hr, fun g e => ⟨(h.l1 g e).1, Nat.lt_of_lt_of_le (h.l1 g e).2 hh⟩, fun g e => ⟨(h.l2 g e).1, Nat.lt_of_lt_of_le (h.l2 g e).2 hh⟩, fun g e => ⟨(h.l3 g e).1, Nat.lt_of_lt_of_le (h.l3 g e).2 hh⟩, fun g e => ⟨(h.l4 g e).1, Nat.lt_of_lt_of_le (h.l4 g e).2 hh⟩, fun g e => ⟨(h.l5 g e).1, Nat.lt_of_lt_of_le (h.l5 g e).2 hh⟩⟩
theorem OwnD.setRow {lo hi hi' : Nat} {w : World} {p : PE} {s : PV} {v : Value} {l : List (Int)} (h : OwnD lo hi w p s) (hh : hi ≤ hi') (hs : hi' ≤ w.heap.size) (ho : w.ownsRow lo 3 1 v l.length (flatR intF l)) (hr : ∀ g, v.ownBlock = some g → g < hi') (hv : ∀ g, v.ownBlock = some g → s.row.ownBlock = some g ∨ hi ≤ g) : OwnD lo hi' w { p with row := l } { s with row := v } :=
  ⟨⟨ho, h.1.cells, h.1.early, h.1.undos, h.1.votes, h.1.news⟩, h.2.1.setRow hh (fun g e => ⟨(ho.lt g e).1, hr g e⟩) hv, hs⟩
theorem Apart6.setCells {lo hi hi' : Nat} {s : PV} {v : Value} (h : Apart6 lo hi s) (hh : hi ≤ hi') (hr : ∀ g, v.ownBlock = some g → lo ≤ g ∧ g < hi') (hv : ∀ g, v.ownBlock = some g → s.cells.ownBlock = some g ∨ hi ≤ g) : Apart6 lo hi' { s with cells := v } :=
  ⟨apart_new h.a01 h.l0 hv, h.a02, h.a03, h.a04, h.a05, (apart_new h.a01 h.l0 hv).symm, (apart_new h.a21 h.l2 hv).symm, (apart_new h.a31 h.l3 hv).symm, (apart_new h.a41 h.l4 hv).symm, (apart_new h.a51 h.l5 hv).symm, h.a20, apart_new h.a21 h.l2 hv, h.a23, h.a24, h.a25, h.a30, apart_new h.a31 h.l3 hv, h.a32, h.a34, h.a35, h.a40, apart_new h.a41 h.l4 hv, h.a42, h.a43, h.a45, h.a50, apart_new h.a51 h.l5 hv, h.a52, h.a53, h.a54, fun g e => ⟨(h.l0 g e).1, Nat.lt_of_lt_of_le (h.l0 g e).2 hh⟩, hr, fun g e => ⟨(h.l2 g e).1, Nat.lt_of_lt_of_le (h.l2 g e).2 hh⟩, fun g e => ⟨(h.l3 g e).1, Nat.lt_of_lt_of_le (h.l3 g e).2 hh⟩, fun g e => ⟨(h.l4 g e).1, Nat.lt_of_lt_of_le (h.l4 g e).2 hh⟩, fun g e => ⟨(h.l5 g e).1, Nat.lt_of_lt_of_le (h.l5 g e).2 hh⟩⟩
theorem OwnD.setCells {lo hi hi' : Nat} {w : World} {p : PE} {s : PV} {v : Value} {l : List (ByteArray × Int)} (h : OwnD lo hi w p s) (hh : hi ≤ hi') (hs : hi' ≤ w.heap.size) (ho : w.ownsRow lo 126 2 v l.length (flat l)) (hr : ∀ g, v.ownBlock = some g → g < hi') (hv : ∀ g, v.ownBlock = some g → s.cells.ownBlock = some g ∨ hi ≤ g) : OwnD lo hi' w { p with cells := l } { s with cells := v } :=
  ⟨⟨h.1.row, ho, h.1.early, h.1.undos, h.1.votes, h.1.news⟩, h.2.1.setCells hh (fun g e => ⟨(ho.lt g e).1, hr g e⟩) hv, hs⟩
theorem Apart6.setEarly {lo hi hi' : Nat} {s : PV} {v : Value} (h : Apart6 lo hi s) (hh : hi ≤ hi') (hr : ∀ g, v.ownBlock = some g → lo ≤ g ∧ g < hi') (hv : ∀ g, v.ownBlock = some g → s.early.ownBlock = some g ∨ hi ≤ g) : Apart6 lo hi' { s with early := v } :=
  ⟨h.a01, apart_new h.a02 h.l0 hv, h.a03, h.a04, h.a05, h.a10, apart_new h.a12 h.l1 hv, h.a13, h.a14, h.a15, (apart_new h.a02 h.l0 hv).symm, (apart_new h.a12 h.l1 hv).symm, (apart_new h.a32 h.l3 hv).symm, (apart_new h.a42 h.l4 hv).symm, (apart_new h.a52 h.l5 hv).symm, h.a30, h.a31, apart_new h.a32 h.l3 hv, h.a34, h.a35, h.a40, h.a41, apart_new h.a42 h.l4 hv, h.a43, h.a45, h.a50, h.a51, apart_new h.a52 h.l5 hv, h.a53, h.a54, fun g e => ⟨(h.l0 g e).1, Nat.lt_of_lt_of_le (h.l0 g e).2 hh⟩, fun g e => ⟨(h.l1 g e).1, Nat.lt_of_lt_of_le (h.l1 g e).2 hh⟩, hr, fun g e => ⟨(h.l3 g e).1, Nat.lt_of_lt_of_le (h.l3 g e).2 hh⟩, fun g e => ⟨(h.l4 g e).1, Nat.lt_of_lt_of_le (h.l4 g e).2 hh⟩, fun g e => ⟨(h.l5 g e).1, Nat.lt_of_lt_of_le (h.l5 g e).2 hh⟩⟩
theorem OwnD.setEarly {lo hi hi' : Nat} {w : World} {p : PE} {s : PV} {v : Value} {l : List (Int)} (h : OwnD lo hi w p s) (hh : hi ≤ hi') (hs : hi' ≤ w.heap.size) (ho : w.ownsRow lo 3 1 v l.length (flatR intF l)) (hr : ∀ g, v.ownBlock = some g → g < hi') (hv : ∀ g, v.ownBlock = some g → s.early.ownBlock = some g ∨ hi ≤ g) : OwnD lo hi' w { p with early := l } { s with early := v } :=
  ⟨⟨h.1.row, h.1.cells, ho, h.1.undos, h.1.votes, h.1.news⟩, h.2.1.setEarly hh (fun g e => ⟨(ho.lt g e).1, hr g e⟩) hv, hs⟩
theorem Apart6.setUndos {lo hi hi' : Nat} {s : PV} {v : Value} (h : Apart6 lo hi s) (hh : hi ≤ hi') (hr : ∀ g, v.ownBlock = some g → lo ≤ g ∧ g < hi') (hv : ∀ g, v.ownBlock = some g → s.undos.ownBlock = some g ∨ hi ≤ g) : Apart6 lo hi' { s with undos := v } :=
  ⟨h.a01, h.a02, apart_new h.a03 h.l0 hv, h.a04, h.a05, h.a10, h.a12, apart_new h.a13 h.l1 hv, h.a14, h.a15, h.a20, h.a21, apart_new h.a23 h.l2 hv, h.a24, h.a25, (apart_new h.a03 h.l0 hv).symm, (apart_new h.a13 h.l1 hv).symm, (apart_new h.a23 h.l2 hv).symm, (apart_new h.a43 h.l4 hv).symm, (apart_new h.a53 h.l5 hv).symm, h.a40, h.a41, h.a42, apart_new h.a43 h.l4 hv, h.a45, h.a50, h.a51, h.a52, apart_new h.a53 h.l5 hv, h.a54, fun g e => ⟨(h.l0 g e).1, Nat.lt_of_lt_of_le (h.l0 g e).2 hh⟩, fun g e => ⟨(h.l1 g e).1, Nat.lt_of_lt_of_le (h.l1 g e).2 hh⟩, fun g e => ⟨(h.l2 g e).1, Nat.lt_of_lt_of_le (h.l2 g e).2 hh⟩, hr, fun g e => ⟨(h.l4 g e).1, Nat.lt_of_lt_of_le (h.l4 g e).2 hh⟩, fun g e => ⟨(h.l5 g e).1, Nat.lt_of_lt_of_le (h.l5 g e).2 hh⟩⟩
theorem OwnD.setUndos {lo hi hi' : Nat} {w : World} {p : PE} {s : PV} {v : Value} {l : List (UN)} (h : OwnD lo hi w p s) (hh : hi ≤ hi') (hs : hi' ≤ w.heap.size) (ho : w.ownsRow lo 128 3 v l.length (flatR undoF l)) (hr : ∀ g, v.ownBlock = some g → g < hi') (hv : ∀ g, v.ownBlock = some g → s.undos.ownBlock = some g ∨ hi ≤ g) : OwnD lo hi' w { p with undos := l } { s with undos := v } :=
  ⟨⟨h.1.row, h.1.cells, h.1.early, ho, h.1.votes, h.1.news⟩, h.2.1.setUndos hh (fun g e => ⟨(ho.lt g e).1, hr g e⟩) hv, hs⟩
theorem Apart6.setVotes {lo hi hi' : Nat} {s : PV} {v : Value} (h : Apart6 lo hi s) (hh : hi ≤ hi') (hr : ∀ g, v.ownBlock = some g → lo ≤ g ∧ g < hi') (hv : ∀ g, v.ownBlock = some g → s.votes.ownBlock = some g ∨ hi ≤ g) : Apart6 lo hi' { s with votes := v } :=
  ⟨h.a01, h.a02, h.a03, apart_new h.a04 h.l0 hv, h.a05, h.a10, h.a12, h.a13, apart_new h.a14 h.l1 hv, h.a15, h.a20, h.a21, h.a23, apart_new h.a24 h.l2 hv, h.a25, h.a30, h.a31, h.a32, apart_new h.a34 h.l3 hv, h.a35, (apart_new h.a04 h.l0 hv).symm, (apart_new h.a14 h.l1 hv).symm, (apart_new h.a24 h.l2 hv).symm, (apart_new h.a34 h.l3 hv).symm, (apart_new h.a54 h.l5 hv).symm, h.a50, h.a51, h.a52, h.a53, apart_new h.a54 h.l5 hv, fun g e => ⟨(h.l0 g e).1, Nat.lt_of_lt_of_le (h.l0 g e).2 hh⟩, fun g e => ⟨(h.l1 g e).1, Nat.lt_of_lt_of_le (h.l1 g e).2 hh⟩, fun g e => ⟨(h.l2 g e).1, Nat.lt_of_lt_of_le (h.l2 g e).2 hh⟩, fun g e => ⟨(h.l3 g e).1, Nat.lt_of_lt_of_le (h.l3 g e).2 hh⟩, hr, fun g e => ⟨(h.l5 g e).1, Nat.lt_of_lt_of_le (h.l5 g e).2 hh⟩⟩
theorem OwnD.setVotes {lo hi hi' : Nat} {w : World} {p : PE} {s : PV} {v : Value} {l : List (VT)} (h : OwnD lo hi w p s) (hh : hi ≤ hi') (hs : hi' ≤ w.heap.size) (ho : w.ownsRow lo 37 4 v l.length (flatR voteF l)) (hr : ∀ g, v.ownBlock = some g → g < hi') (hv : ∀ g, v.ownBlock = some g → s.votes.ownBlock = some g ∨ hi ≤ g) : OwnD lo hi' w { p with votes := l } { s with votes := v } :=
  ⟨⟨h.1.row, h.1.cells, h.1.early, h.1.undos, ho, h.1.news⟩, h.2.1.setVotes hh (fun g e => ⟨(ho.lt g e).1, hr g e⟩) hv, hs⟩
theorem Apart6.setNews {lo hi hi' : Nat} {s : PV} {v : Value} (h : Apart6 lo hi s) (hh : hi ≤ hi') (hr : ∀ g, v.ownBlock = some g → lo ≤ g ∧ g < hi') (hv : ∀ g, v.ownBlock = some g → s.news.ownBlock = some g ∨ hi ≤ g) : Apart6 lo hi' { s with news := v } :=
  ⟨h.a01, h.a02, h.a03, h.a04, apart_new h.a05 h.l0 hv, h.a10, h.a12, h.a13, h.a14, apart_new h.a15 h.l1 hv, h.a20, h.a21, h.a23, h.a24, apart_new h.a25 h.l2 hv, h.a30, h.a31, h.a32, h.a34, apart_new h.a35 h.l3 hv, h.a40, h.a41, h.a42, h.a43, apart_new h.a45 h.l4 hv, (apart_new h.a05 h.l0 hv).symm, (apart_new h.a15 h.l1 hv).symm, (apart_new h.a25 h.l2 hv).symm, (apart_new h.a35 h.l3 hv).symm, (apart_new h.a45 h.l4 hv).symm, fun g e => ⟨(h.l0 g e).1, Nat.lt_of_lt_of_le (h.l0 g e).2 hh⟩, fun g e => ⟨(h.l1 g e).1, Nat.lt_of_lt_of_le (h.l1 g e).2 hh⟩, fun g e => ⟨(h.l2 g e).1, Nat.lt_of_lt_of_le (h.l2 g e).2 hh⟩, fun g e => ⟨(h.l3 g e).1, Nat.lt_of_lt_of_le (h.l3 g e).2 hh⟩, fun g e => ⟨(h.l4 g e).1, Nat.lt_of_lt_of_le (h.l4 g e).2 hh⟩, hr⟩
theorem OwnD.setNews {lo hi hi' : Nat} {w : World} {p : PE} {s : PV} {v : Value} {l : List (LT)} (h : OwnD lo hi w p s) (hh : hi ≤ hi') (hs : hi' ≤ w.heap.size) (ho : w.ownsRow lo 58 13 v l.length (flatR letF l)) (hr : ∀ g, v.ownBlock = some g → g < hi') (hv : ∀ g, v.ownBlock = some g → s.news.ownBlock = some g ∨ hi ≤ g) : OwnD lo hi' w { p with news := l } { s with news := v } :=
  ⟨⟨h.1.row, h.1.cells, h.1.early, h.1.undos, h.1.votes, ho⟩, h.2.1.setNews hh (fun g e => ⟨(ho.lt g e).1, hr g e⟩) hv, hs⟩
/-- a row is no box -/
theorem row_not_box {w : World} {base n m N : Nat} {e T : TypeId} {v : Value} {xs : List Value} {A : Array Value} {fz : Nat × Nat} (h : w.ownsRow base e m v n xs) (hN : w.heap[N]? = some (.cells A T fz)) (hne : e ≠ T) : v.ownBlock = none ∨ v.ownBlock ≠ some N := by
  cases e2 : v.ownBlock with
  | none => exact Or.inl rfl
  | some g =>
    refine Or.inr fun e3 => ?_
    obtain rfl := Option.some.inj e3
    obtain ⟨_, ⟨rfl, _⟩ | ⟨g', cap, cur, rfl, _, hh, _⟩⟩ := h
    · cases e2
    · obtain rfl : g' = g := Option.some.inj e2
      rw [hN] at hh
      injection hh with hh
      injection hh with _ hh
      exact hne hh.symm
theorem OwnD.boxed {lo hi N : Nat} {w w' : World} {p : PE} {s : PV} {A : Array Value} (h : OwnD lo hi w p s) (hN : w.heap[N]? = some (.cells A 43 (0, 0))) (hg : w.grownBy w' (some N)) : OwnD lo hi w' p s :=
  ⟨⟨World.ownsRow.kept h.1.row hg (row_not_box h.1.row hN (by decide)), World.ownsRow.kept h.1.cells hg (row_not_box h.1.cells hN (by decide)), World.ownsRow.kept h.1.early hg (row_not_box h.1.early hN (by decide)), World.ownsRow.kept h.1.undos hg (row_not_box h.1.undos hN (by decide)), World.ownsRow.kept h.1.votes hg (row_not_box h.1.votes hN (by decide)), World.ownsRow.kept h.1.news hg (row_not_box h.1.news hN (by decide))⟩, h.2.1, Nat.le_trans h.2.2 hg.size⟩

/-- a struct loaded where a guard lets it -/
theorem wpList_load_row_w {P : Program} {ops : Array Oper} {rest : List Oper} {o : Oper} {a : Act} {w : World} {Q : Exit → Act → World → Prop} (hw : Region.wanted o (yielded ops a.tmps) = true) (ty : TypeId) (x : Operand) (ho : o.op = .load ty x)
    (g : Nat) (hx : a.eval x = .pointer (some ⟨g, 0, none⟩)) (t : TypeId) (cs : Array Value) (fr : Nat × Nat) (d : TypeDesc) (hg : w.heap[g]? = some (.cells cs t fr))
    (hu : P.underlying ty = some d) (hd : (match d with | .struct _ | .array _ _ => true | _ => false) = true) (hi : (P.info? ty).map (·.size) = some cs.size)
    (h : wpList P ops Q rest (a.put o.dst (.agg cs)) w) : wpList P ops Q (o :: rest) a w :=
  wpList_step fun K hK => by rw [if_pos hw]; exact wp_load_row ty x ho g hx t cs fr d hg hu hd hi (hK _ _ h)

end Go.Proofs.YtnghhfgbobpnkarGreatR

namespace Go.Proofs.YtnghhfgbobpnkarGreatR
open Go.RowKit Num

/-- whether it may give a vote of this Phase and View -/
def mayB (p : PE) (phase view : Int) : Bool := decide (p.last.2.1 < view) || (decide (p.last.2.1 = view) && decide (p.last.1 < phase))
/-- .. in a View of its own -/
def enterP (p : PE) (view : Int) : PE := if view > p.view ∧ view ≤ 900 then { p with view := view, votes := [], news := [] } else p
/-- .. that gave a vote -/
def votedP (p : PE) (phase view block : Int) : PE := { p with last := (phase, view, block, p.id) }
theorem voted_small {p : PE} (h : smallPe p) (phase view block : Int) : smallPe (votedP p phase view block) := ⟨h.row, h.cells, h.early, h.undos, h.votes, h.news, h.kcells, h.kundos⟩
theorem enter_small {p : PE} (h : smallPe p) (view : Int) : smallPe (enterP p view) := by
  unfold enterP
  split
  · exact ⟨h.row, h.cells, h.early, h.undos, by simp, by simp, h.kcells, h.kundos⟩
  · exact h
theorem enter_len (p : PE) (view : Int) : lenPe (enterP p view) ≤ lenPe p := by
  unfold enterP
  split
  · unfold lenPe; simp; omega
  · exact Nat.le_refl _

theorem enter_sum {p : PE} (h : sumPe p) (view : Int) : sumPe (enterP p view) := by
  have hl := enter_len p view
  unfold enterP at hl ⊢
  split
  · rename_i hc
    rw [if_pos hc] at hl
    exact ⟨Nat.le_trans hl h.1, h.2.1, h.2.2.1, h.2.2.2.1, h.2.2.2.2.1, by simp, by simp⟩
  · exact h


/-- three boxes: of the one that came in, of the answer, and one more -/
structure Bx3 (w y : World) (N : Nat) (A Z O : Array Value) : Prop where
  below : Below w.heap.size w y
  box : y.heap[w.heap.size]? = some (.cells A 43 (0, 0))
  zero : y.heap[w.heap.size + 1]? = some (.cells Z 43 (0, 0))
  out : y.heap[N]? = some (.cells O 43 (0, 0))
  far : w.heap.size + 1 < N
theorem Bx3.lt {w y : World} {N : Nat} {A Z O : Array Value} (h : Bx3 w y N A Z O) : N < y.heap.size := (Array.getElem?_eq_some_iff.1 h.out).1
theorem Bx3.more {w y x : World} {N : Nat} {A Z O : Array Value} (h : Bx3 w y N A Z O) (hb : Below y.heap.size y x) : Bx3 w x N A Z O := by
  have := h.lt
  have := h.far
  exact ⟨bt h.below hb, (hb.block _ (by omega)).trans h.box, (hb.block _ (by omega)).trans h.zero, (hb.block _ (by omega)).trans h.out, h.far⟩
theorem Bx3.put {w y x : World} {N : Nat} {A Z O O' : Array Value} (h : Bx3 w y N A Z O) (hg : y.grownBy x (some N)) (hk : x.heap[N]? = some (.cells O' 43 (0, 0))) : Bx3 w x N A Z O' := by
  have := h.lt
  have := h.far
  exact ⟨h.below.grown hg h.below.size (fun k hk => by cases hk; omega), (hg.block _ (by omega) (fun e => by have := Option.some.inj e; omega)).trans h.box, (hg.block _ (by omega) (fun e => by have := Option.some.inj e; omega)).trans h.zero, hk, h.far⟩

set_option maxRecDepth 100000 in
set_option maxHeartbeats 8000000 in
theorem entered_s (p : PE) (s : PV) (view : Int) (w : World) (hR : PeerR w p s) (hs : smallPe p) :
    Calls Tryz.prog 110 #[peerV p s, .int .i64 view] w fun e w' => ∃ s', e = .returned (peerV (enterP p view) s') ∧ OwnD w.heap.size w'.heap.size w' (enterP p view) s' ∧ Below w.heap.size w w' := by
  have HR := hid hR
  have HS := hid hs
  clear hR hs
  obtain ⟨W, hW⟩ : ∃ W, W = (w.alloc (.cells (peerA p s) 43)).alloc (.cells zeroA 43) := ⟨_, rfl⟩
  have HC : Hid (Below w.heap.size w W ∧ W.heap[w.heap.size]? = some (.cells (peerA p s) 43 (0, 0)) ∧ W.heap[w.heap.size + 1]? = some (.cells zeroA 43 (0, 0))) := by
    rw [hW]; exact ⟨ba (ba (Below.refl _ _) _) _, alloc2 w _ _⟩
  have HWS : Hid (W.heap.size = w.heap.size + 1 + 1) := (by rw [hW]; simp : W.heap.size = w.heap.size + 1 + 1)
  unfold zeroA at hW
  go_enter Tryz.func110, Tryz.ntmps110
  go_wp2_with (rw [← hW]; clear hW; refine wpList_load_row rfl _ _ rfl w.heap.size rfl 43 _ (0, 0) _ HC.out.2.1 Tryz.underlying43 rfl (by kernel_rfl) ?_)
  refine (copy_s p s W (HR.out.below HC.out.1) HS.out).mono ?_
  rintro e x1 ⟨s1, rfl, ho, hb⟩
  have HO1 : Hid (OwnD W.heap.size x1.heap.size x1 p s1) := ho.toD
  have HB1 : Hid (Below W.heap.size W x1) := hb
  clear ho hb
  by_cases hin : view > p.view ∧ view ≤ 900
  · have h1 : view > p.view := hin.1
    have h1' : p.view < view := hin.1
    have h2 : view ≤ 900 := hin.2
    have HE : Hid (enterP p view = { p with view := view, votes := [], news := [] }) := (by unfold enterP; rw [if_pos hin] : enterP p view = _)
    clear hin
    go_wp2_with (first
      | (refine wpList_store_blk rfl _ _ _ rfl x1.heap.size (peerA p s1) rfl rfl 43 zeroA (heap_alloc_new x1 _) (by kernel_rfl) rfl (peerA_one HO1.out.1) ?_; intro y1 hg hk hz; have hb1 : Below x1.heap.size x1 y1 := made_below hg; have HY1 : Hid (Bx3 w y1 x1.heap.size (peerA p s) zeroA (peerA p s1)) := ⟨bt HC.out.1 (bt HB1.out hb1), (hb1.block _ (by have := HB1.out.size; have := HWS.out; omega)).trans ((HB1.out.block _ (by have := HWS.out; omega)).trans HC.out.2.1), (hb1.block _ (by have := HB1.out.size; have := HWS.out; omega)).trans ((HB1.out.block _ (by have := HWS.out; omega)).trans HC.out.2.2), hk, (by have := HB1.out.size; have := HWS.out; omega)⟩; have HD1 : Hid (OwnD W.heap.size x1.heap.size y1 p s1) := HO1.out.below hb1; clear hg hk hz hb1 HO1; have c1 := blk_cell HY1.out.box 1 (.int .i64 p.view) rfl)
      | (refine wpList_store_cell rfl _ _ _ rfl x1.heap.size 1 (.int .i64 view) rfl rfl _ _ HY1.out.out (by kernel_rfl) (by simp [peerA]) rfl (peerA { p with view := view } s1) rfl ?_; intro y2 hg hk; have HY2 : Hid (Bx3 w y2 x1.heap.size (peerA p s) zeroA (peerA { p with view := view } s1)) := HY1.out.put hg hk; have HD2 : Hid (OwnD W.heap.size x1.heap.size y2 p s1) := HD1.out.far hg (Or.inr (Nat.le_refl _)); clear hg hk HY1 HD1 c1)
      | (refine wpList_store_cell rfl _ _ _ rfl x1.heap.size 18 (.slice (some ⟨y2.heap.size, 0, none⟩) 0 0) rfl rfl _ _ (HY2.out.more ((Below.refl _ _).alloc (Nat.le_refl _) (.cells #[] 37))).out (by kernel_rfl) (by simp [peerA]) rfl (peerA { p with view := view } { s1 with votes := .slice (some ⟨y2.heap.size, 0, none⟩) 0 0 }) rfl ?_; intro y3 hg hk; have HY3 : Hid (Bx3 w y3 x1.heap.size (peerA p s) zeroA (peerA { p with view := view } { s1 with votes := .slice (some ⟨y2.heap.size, 0, none⟩) 0 0 })) := (HY2.out.more ((Below.refl _ _).alloc (Nat.le_refl _) _)).put hg hk; have HD3 : Hid (OwnD W.heap.size x1.heap.size y3 p s1) := (HD2.out.below ((Below.refl _ _).alloc (Nat.le_refl _) _)).far hg (Or.inr (Nat.le_refl _)); have HV3 : Hid (y3.ownsRow y2.heap.size 37 4 (.slice (some ⟨y2.heap.size, 0, none⟩) 0 0) 0 []) := World.ownsRow.kept (own_new y2 _ _) hg (Or.inr (fun e => by have e := Option.some.inj e; have := HY2.out.lt; simp at e; omega)); have HL3 : Hid (x1.heap.size < y2.heap.size ∧ y2.heap.size < y3.heap.size) := ⟨HY2.out.lt, Nat.lt_of_lt_of_le (by simp) hg.size⟩; clear hg hk HY2 HD2)
      | (refine wpList_store_cell rfl _ _ _ rfl x1.heap.size 19 (.slice (some ⟨y3.heap.size, 0, none⟩) 0 0) rfl rfl _ _ (HY3.out.more ((Below.refl _ _).alloc (Nat.le_refl _) (.cells #[] 58))).out (by kernel_rfl) (by simp [peerA]) rfl (peerA { p with view := view } { s1 with votes := .slice (some ⟨y2.heap.size, 0, none⟩) 0 0, news := .slice (some ⟨y3.heap.size, 0, none⟩) 0 0 }) rfl ?_; intro y4 hg hk; have HY4 : Hid (Bx3 w y4 x1.heap.size (peerA p s) zeroA (peerA { p with view := view } { s1 with votes := .slice (some ⟨y2.heap.size, 0, none⟩) 0 0, news := .slice (some ⟨y3.heap.size, 0, none⟩) 0 0 })) := (HY3.out.more ((Below.refl _ _).alloc (Nat.le_refl _) _)).put hg hk; have HD4 : Hid (OwnD W.heap.size x1.heap.size y4 p s1) := (HD3.out.below ((Below.refl _ _).alloc (Nat.le_refl _) _)).far hg (Or.inr (Nat.le_refl _)); have HV4 : Hid (y4.ownsRow y2.heap.size 37 4 (.slice (some ⟨y2.heap.size, 0, none⟩) 0 0) 0 []) := World.ownsRow.kept (HV3.out.alloc _) hg (Or.inr (fun e => by have e := Option.some.inj e; have := HL3.out; simp at e; omega)); have HN4 : Hid (y4.ownsRow y3.heap.size 58 13 (.slice (some ⟨y3.heap.size, 0, none⟩) 0 0) 0 []) := World.ownsRow.kept (own_new y3 _ _) hg (Or.inr (fun e => by have e := Option.some.inj e; have := HL3.out; simp at e; omega)); have HL4 : Hid (y3.heap.size < y4.heap.size) := Nat.lt_of_lt_of_le (by simp) hg.size; have HF4 : Hid (OwnD W.heap.size y4.heap.size y4 { p with view := view, votes := [], news := [] } { s1 with votes := .slice (some ⟨y2.heap.size, 0, none⟩) 0 0, news := .slice (some ⟨y3.heap.size, 0, none⟩) 0 0 }) := OwnD.setNews (l := []) (OwnD.setVotes (l := []) (hi' := y3.heap.size) (HD4.out.other (q := { p with view := view }) rfl rfl rfl rfl rfl rfl) (by have := HL3.out; omega) (by have := HL4.out; omega) (own_base HV4.out (by have := HB1.out.size; have := HL3.out; omega)) (fun g e => by cases e; exact HL3.out.2) (fun g e => by cases e; exact Or.inr (Nat.le_of_lt HL3.out.1))) (by have := HL4.out; omega) (Nat.le_refl _) (own_base HN4.out (by have := HB1.out.size; have := HL3.out; omega)) (fun g e => by cases e; exact HL4.out) (fun g e => by cases e; exact Or.inr (Nat.le_refl _)); clear hg hk HY3 HD3 HV3)
      | (refine wpList_load_row rfl _ _ rfl x1.heap.size rfl 43 _ (0, 0) _ HY4.out.out Tryz.underlying43 rfl (by kernel_rfl) ?_)
      | (refine wpList_store_blk rfl _ _ _ rfl (w.heap.size + 1) (peerA { p with view := view, votes := [], news := [] } { s1 with votes := .slice (some ⟨y2.heap.size, 0, none⟩) 0 0, news := .slice (some ⟨y3.heap.size, 0, none⟩) 0 0 }) rfl rfl 43 zeroA HY4.out.zero (by kernel_rfl) rfl (peerA_one HF4.out.1) ?_; intro z hg hk hz; have HBz : Hid (Below w.heap.size w z) := HY4.out.below.grown hg HY4.out.below.size (fun k hk => by cases hk; omega); have HKz : Hid (z.heap[w.heap.size + 1]? = Option.some (.cells (peerA { p with view := view, votes := [], news := [] } { s1 with votes := .slice (some ⟨y2.heap.size, 0, none⟩) 0 0, news := .slice (some ⟨y3.heap.size, 0, none⟩) 0 0 }) 43 (0, 0))) := hk; have HFz : Hid (OwnD W.heap.size y4.heap.size z { p with view := view, votes := [], news := [] } { s1 with votes := .slice (some ⟨y2.heap.size, 0, none⟩) 0 0, news := .slice (some ⟨y3.heap.size, 0, none⟩) 0 0 }) := HF4.out.far hg (Or.inl (by have := HWS.out; omega)); have HSz : Hid (y4.heap.size ≤ z.heap.size) := hg.size; clear hg hk hz HY4 HF4))
    refine bodyPost_ret (v := .agg (peerA { p with view := view, votes := [], news := [] } { s1 with votes := .slice (some ⟨y2.heap.size, 0, none⟩) 0 0, news := .slice (some ⟨y3.heap.size, 0, none⟩) 0 0 })) (results_cell_row Tryz.results110 _ _ (w.heap.size + 1) 43 _ (0, 0) _ rfl HKz.out Tryz.underlying43 rfl (by kernel_rfl)) rfl ?_
    rw [HE.out]
    exact ⟨_, rfl, (HFz.out.wide HSz.out (Nat.le_refl _)).low HC.out.1.size, HBz.out⟩
  · have HE : Hid (enterP p view = p) := (by unfold enterP; rw [if_neg hin] : enterP p view = p)
    by_cases h1 : p.view < view
    · have h2 : ¬ view ≤ 900 := fun h => hin ⟨h1, h⟩
      clear hin
      go_wp2_with (first
        | (refine wpList_store_blk rfl _ _ _ rfl x1.heap.size (peerA p s1) rfl rfl 43 zeroA (heap_alloc_new x1 _) (by kernel_rfl) rfl (peerA_one HO1.out.1) ?_; intro y1 hg hk hz; have hb1 : Below x1.heap.size x1 y1 := made_below hg; have HY1 : Hid (Bx3 w y1 x1.heap.size (peerA p s) zeroA (peerA p s1)) := ⟨bt HC.out.1 (bt HB1.out hb1), (hb1.block _ (by have := HB1.out.size; have := HWS.out; omega)).trans ((HB1.out.block _ (by have := HWS.out; omega)).trans HC.out.2.1), (hb1.block _ (by have := HB1.out.size; have := HWS.out; omega)).trans ((HB1.out.block _ (by have := HWS.out; omega)).trans HC.out.2.2), hk, (by have := HB1.out.size; have := HWS.out; omega)⟩; have HD1 : Hid (OwnD W.heap.size x1.heap.size y1 p s1) := HO1.out.below hb1; clear hg hk hz hb1 HO1; have c1 := blk_cell HY1.out.box 1 (.int .i64 p.view) rfl)
        | (refine wpList_load_row rfl _ _ rfl x1.heap.size rfl 43 _ (0, 0) _ HY1.out.out Tryz.underlying43 rfl (by kernel_rfl) ?_)
        | (refine wpList_store_blk rfl _ _ _ rfl (w.heap.size + 1) (peerA p s1) rfl rfl 43 zeroA HY1.out.zero (by kernel_rfl) rfl (peerA_one HD1.out.1) ?_; intro z hg hk hz; have HBz : Hid (Below w.heap.size w z) := HY1.out.below.grown hg HY1.out.below.size (fun k hk => by cases hk; omega); have HKz : Hid (z.heap[w.heap.size + 1]? = Option.some (.cells (peerA p s1) 43 (0, 0))) := hk; have HFz : Hid (OwnD W.heap.size x1.heap.size z p s1) := HD1.out.far hg (Or.inl (by have := HWS.out; omega)); have HSz : Hid (x1.heap.size ≤ z.heap.size) := Nat.le_trans (Nat.le_of_lt HY1.out.lt) hg.size; clear hg hk hz HY1 HD1))
      refine bodyPost_ret (v := .agg (peerA p s1)) (results_cell_row Tryz.results110 _ _ (w.heap.size + 1) 43 _ (0, 0) _ rfl HKz.out Tryz.underlying43 rfl (by kernel_rfl)) rfl ?_
      rw [HE.out]
      exact ⟨_, rfl, (HFz.out.wide HSz.out (Nat.le_refl _)).low HC.out.1.size, HBz.out⟩
    · clear hin
      go_wp2_with (first
        | (refine wpList_store_blk rfl _ _ _ rfl x1.heap.size (peerA p s1) rfl rfl 43 zeroA (heap_alloc_new x1 _) (by kernel_rfl) rfl (peerA_one HO1.out.1) ?_; intro y1 hg hk hz; have hb1 : Below x1.heap.size x1 y1 := made_below hg; have HY1 : Hid (Bx3 w y1 x1.heap.size (peerA p s) zeroA (peerA p s1)) := ⟨bt HC.out.1 (bt HB1.out hb1), (hb1.block _ (by have := HB1.out.size; have := HWS.out; omega)).trans ((HB1.out.block _ (by have := HWS.out; omega)).trans HC.out.2.1), (hb1.block _ (by have := HB1.out.size; have := HWS.out; omega)).trans ((HB1.out.block _ (by have := HWS.out; omega)).trans HC.out.2.2), hk, (by have := HB1.out.size; have := HWS.out; omega)⟩; have HD1 : Hid (OwnD W.heap.size x1.heap.size y1 p s1) := HO1.out.below hb1; clear hg hk hz hb1 HO1; have c1 := blk_cell HY1.out.box 1 (.int .i64 p.view) rfl)
        | (refine wpList_load_row rfl _ _ rfl x1.heap.size rfl 43 _ (0, 0) _ HY1.out.out Tryz.underlying43 rfl (by kernel_rfl) ?_)
        | (refine wpList_store_blk rfl _ _ _ rfl (w.heap.size + 1) (peerA p s1) rfl rfl 43 zeroA HY1.out.zero (by kernel_rfl) rfl (peerA_one HD1.out.1) ?_; intro z hg hk hz; have HBz : Hid (Below w.heap.size w z) := HY1.out.below.grown hg HY1.out.below.size (fun k hk => by cases hk; omega); have HKz : Hid (z.heap[w.heap.size + 1]? = Option.some (.cells (peerA p s1) 43 (0, 0))) := hk; have HFz : Hid (OwnD W.heap.size x1.heap.size z p s1) := HD1.out.far hg (Or.inl (by have := HWS.out; omega)); have HSz : Hid (x1.heap.size ≤ z.heap.size) := Nat.le_trans (Nat.le_of_lt HY1.out.lt) hg.size; clear hg hk hz HY1 HD1))
      refine bodyPost_ret (v := .agg (peerA p s1)) (results_cell_row Tryz.results110 _ _ (w.heap.size + 1) 43 _ (0, 0) _ rfl HKz.out Tryz.underlying43 rfl (by kernel_rfl)) rfl ?_
      rw [HE.out]
      exact ⟨_, rfl, (HFz.out.wide HSz.out (Nat.le_refl _)).low HC.out.1.size, HBz.out⟩

end Go.Proofs.YtnghhfgbobpnkarGreatR

namespace Go.Proofs.YtnghhfgbobpnkarGreatR
open Go.RowKit Num

theorem exec_load_blk {P : Program} {op : Oper} {a : Act} {w : World} (ty : TypeId) (x : Operand) (ho : op.op = .load ty x) (g : Nat) (hx : a.eval x = .pointer (some ⟨g, 0, none⟩)) (t : TypeId) (cs : Array Value) (fr : Nat × Nat) (d : TypeDesc) (hg : w.heap[g]? = some (.cells cs t fr))
    (hu : P.underlying ty = some d) (hd : (match d with | .struct _ | .array _ _ => true | _ => false) = true) (hi : (P.info? ty).map (·.size) = some cs.size) : (execOp a.eval op).run P w = .ok (.value (.agg cs)) w := by
  unfold execOp
  simp only [ho, hx, Instr.loadAt, Instr.sureAddr, Sem.run_bind, Sem.run_pure, Result.andThen_ok, run_loadVar_row w g t ty cs fr d hg hu hd hi]
theorem results_cells2 {P : Program} {fn : Func} {p q : Tmp} {ty tz : TypeId} (h : fn.results = #[.cell p ty, .cell q tz]) (tmps : Array Value) (w : World) (g : Nat) (t : TypeId) (cs : Array Value) (fr : Nat × Nat) (d : TypeDesc) (g' : Nat) (t' : TypeId) (cs' : Array Value) (fr' : Nat × Nat) (d' : TypeDesc)
    (hp : tmps.getD p undef = .pointer (some ⟨g, 0, none⟩)) (hg : w.heap[g]? = some (.cells cs t fr)) (hu : P.underlying ty = some d) (hd : (match d with | .struct _ | .array _ _ => true | _ => false) = true) (hi : (P.info? ty).map (·.size) = some cs.size)
    (hq : tmps.getD q undef = .pointer (some ⟨g', 0, none⟩)) (hg' : w.heap[g']? = some (.cells cs' t' fr')) (hu' : P.underlying tz = some d') (hd' : (match d' with | .struct _ | .array _ _ => true | _ => false) = true) (hi' : (P.info? tz).map (·.size) = some cs'.size) :
    (results fn tmps).run P w = .ok (.tuple #[.agg cs, .agg cs']) w := by
  have hp' : tmps[p]?.getD undef = .pointer (some ⟨g, 0, none⟩) := by simpa using hp
  have hq' : tmps[q]?.getD undef = .pointer (some ⟨g', 0, none⟩) := by simpa using hq
  simp [results, h, hp', hq', asAddr, run_loadVar_row w g t ty cs fr d hg hu hd hi, run_loadVar_row w g' t' tz cs' fr' d' hg' hu' hd' hi']


end Go.Proofs.YtnghhfgbobpnkarGreatR

namespace Go.Proofs.YtnghhfgbobpnkarGreatR
open Go.RowKit Num

section
variable {P : Program} {ops : Array Oper} {Q : Exit → Act → World → Prop} {md : Region.Mode} {S : World → Prop}

/-- one cell of a block -/
theorem h_cell {s : Nat} {os : Oper} {f : Nat} {L : Array Bool} {a : Act} {w : World} {ty t : TypeId} {x y : Operand} {N o : Nat} {u : Value} {old new : Array Value} (ho : ops[s]? = some os) (hgd : os.guard = none) (hop : os.op = .store ty x y) (hd : os.dst = none) (hr : Region.ready md ops L = [s])
    (hx : a.eval x = .pointer (some ⟨N, o, none⟩)) (hy : a.eval y = u) (hg : w.heap[N]? = some (.cells old t (0, 0))) (hi : (P.info? ty).map (·.size) = some 1) (hold : o < old.size) (h1 : u.oneCell' = true) (hn : old.setIfInBounds o u = new)
    (h : ∀ w', w.grownBy w' (some N) → w'.heap[N]? = some (.cells new t (0, 0)) → S w' ∧ wpAnyH P md ops Q S f (L.setIfInBounds s true) a w') : wpAnyH P md ops Q S (f + 1) L a w := by
  subst hn
  refine ⟨fun h0 => (by rw [hr] at h0; cases h0), fun j hj => ?_⟩
  rw [hr] at hj
  obtain rfl : j = s := by simpa using hj
  have hcell : w.cell? ⟨N, o, none⟩ = some old[o] := by rw [cell_of_row _ N o _ _ _ hg]; simp [hold]
  have hfro := frozen_of_row _ N o _ _ hg
  have hrun : (storeVar ty ⟨N, o, none⟩ u).run P w = .ok () (w.setCell ⟨N, o, none⟩ u) := by
    cases hq : P.info? ty with
    | none => simp [hq] at hi
    | some i =>
      have hsz : i.size = 1 := by simpa [hq] using hi
      have huc : u.cells = #[u] := by cases u <;> first | rfl | simp [Value.oneCell'] at h1
      have hadd : (⟨N, o, none⟩ : Addr).add 0 = ⟨N, o, none⟩ := by unfold Addr.add; split <;> simp_all
      simp [storeVar, sizeOf, typeInfo, hq, hsz, huc, storeCells, hadd, run_store P w _ u _ h1, hcell, hfro]
  unfold wpOp
  simp only [ho]
  rw [if_pos (by simp [Region.wanted, hgd])]
  refine Or.inl ?_
  unfold Oper.wp execOp
  simp only [hop, hx, hy, Instr.storeAt, Instr.sureAddr, Sem.run_bind, Sem.run_pure, Result.andThen_ok, hrun]
  unfold Oper.upon
  simp only [hd]
  exact h _ ⟨rfl, rfl, rfl, by simp, fun k _ hk => heap_setCell_other w ⟨N, o, none⟩ k u (fun e => hk (by simp [e]))⟩ (heap_setCell_same w N o old t u hg)

/-- a row appended to a row of the call's own -/
theorem h_append {s : Nat} {os : Oper} {e' : Option Tmp} {f : Nat} {L : Array Bool} {a : Act} {w : World} (ho : ops[s]? = some os) (he : os.dst = e') (hgd : os.guard = none) (x y : Operand) (t : TypeId) (hop : os.op = .call { callee := .builtin .append, args := #[x, y], argTypes := #[t, t] }) (hr : Region.ready md ops L = [s])
    (base : Nat) (e : TypeId) (i : TypeInfo) (z : Value) (size bytes : Nat) (ht : P.underlying t = some (.slice e)) (hi : P.info? e = some i) (hz : i.zero = some z) (hsize : i.size = size) (hby : i.bytes = bytes) (hzs : z.cells.size = size) (hsz : 0 < size)
    (v : Value) (n : Nat) (xs : List Value) (hs : a.eval x = v) (hown : w.ownsRow base e size v n xs)
    (ad : Addr) (m c : Nat) (news : List Value) (hx : a.eval y = .slice (some ad) m c) (hl : news.length = m * size) (hnews : ∀ j u, news[j]? = some u → w.cell? (ad.add j) = some u) (h1 : ∀ u ∈ news, u.oneCell' = true)
    (h63 : n + m ≤ maxLen) (hbytes : (n + m) * bytes ≤ 140737488355328) (hbase : base ≤ w.heap.size)
    (h : ∀ v' w', w'.ownsRow base e size v' (n + m) (xs ++ news) → w.grownBy w' v.ownBlock → S w' ∧ wpAnyH P md ops Q S f (L.setIfInBounds s true) (a.put e' v') w') : wpAnyH P md ops Q S (f + 1) L a w := by
  subst he
  refine ⟨fun h0 => (by rw [hr] at h0; cases h0), fun j hj => ?_⟩
  rw [hr] at hj
  obtain rfl : j = s := by simpa using hj
  unfold wpOp
  simp only [ho]
  rw [if_pos (by simp [Region.wanted, hgd])]
  exact Or.inl (wp_append_own w x y t hop base e i z size bytes ht hi hz hsize hby hzs hsz v n xs hs hown ad m c news hx hl hnews h1 h63 hbytes hbase fun v' w' h2 h3 _ => h v' w' h2 h3)

/-- an operation that makes memory: what it does is told outright -/
theorem h_run {s : Nat} {os : Oper} {e' : Option Tmp} {f : Nat} {L : Array Bool} {a : Act} {w : World} (ho : ops[s]? = some os) (he : os.dst = e') (hgd : os.guard = none) (hr : Region.ready md ops L = [s])
    (v : Value) (w' : World) (hrun : (execOp a.eval os).run P w = .ok (.value v) w') (h : S w' ∧ wpAnyH P md ops Q S f (L.setIfInBounds s true) (a.put e' v) w') : wpAnyH P md ops Q S (f + 1) L a w := by
  subst he
  refine ⟨fun h0 => (by rw [hr] at h0; cases h0), fun j hj => ?_⟩
  rw [hr] at hj
  obtain rfl : j = s := by simpa using hj
  unfold wpOp
  simp only [ho]
  rw [if_pos (by simp [Region.wanted, hgd])]
  refine Or.inl ?_
  unfold Oper.wp
  rw [hrun]
  exact h
end

section
variable {P : Program} {ops : Array Oper} {Q : Exit → Act → World → Prop} {md : Region.Mode} {C : World → Prop} {pend : Nat → Bool}

/-- one cell of a block -/
theorem p_cell {s : Nat} {os : Oper} {f : Nat} {L : Array Bool} {a : Act} {w : World} {ty t : TypeId} {x y : Operand} {N o : Nat} {u : Value} {old new : Array Value} (ho : ops[s]? = some os) (hgd : os.guard = none) (hop : os.op = .store ty x y) (hd : os.dst = none) (hr : Region.ready md ops L = [s])
    (hx : a.eval x = .pointer (some ⟨N, o, none⟩)) (hy : a.eval y = u) (hg : w.heap[N]? = some (.cells old t (0, 0))) (hi : (P.info? ty).map (·.size) = some 1) (hold : o < old.size) (h1 : u.oneCell' = true) (hn : old.setIfInBounds o u = new)
    (h : ∀ w', w.grownBy w' (some N) → w'.heap[N]? = some (.cells new t (0, 0)) → (pend s = true → C w') ∧ wpAnyP P md ops Q C pend f (L.setIfInBounds s true) a w') : wpAnyP P md ops Q C pend (f + 1) L a w := by
  subst hn
  refine ⟨fun h0 => (by rw [hr] at h0; cases h0), fun j hj => ?_⟩
  rw [hr] at hj
  obtain rfl : j = s := by simpa using hj
  have hcell : w.cell? ⟨N, o, none⟩ = some old[o] := by rw [cell_of_row _ N o _ _ _ hg]; simp [hold]
  have hfro := frozen_of_row _ N o _ _ hg
  have hrun : (storeVar ty ⟨N, o, none⟩ u).run P w = .ok () (w.setCell ⟨N, o, none⟩ u) := by
    cases hq : P.info? ty with
    | none => simp [hq] at hi
    | some i =>
      have hsz : i.size = 1 := by simpa [hq] using hi
      have huc : u.cells = #[u] := by cases u <;> first | rfl | simp [Value.oneCell'] at h1
      have hadd : (⟨N, o, none⟩ : Addr).add 0 = ⟨N, o, none⟩ := by unfold Addr.add; split <;> simp_all
      simp [storeVar, sizeOf, typeInfo, hq, hsz, huc, storeCells, hadd, run_store P w _ u _ h1, hcell, hfro]
  unfold wpOp
  simp only [ho]
  rw [if_pos (by simp [Region.wanted, hgd])]
  refine Or.inl ?_
  unfold Oper.wp execOp
  simp only [hop, hx, hy, Instr.storeAt, Instr.sureAddr, Sem.run_bind, Sem.run_pure, Result.andThen_ok, hrun]
  unfold Oper.upon
  simp only [hd]
  exact h _ ⟨rfl, rfl, rfl, by simp, fun k _ hk => heap_setCell_other w ⟨N, o, none⟩ k u (fun e => hk (by simp [e]))⟩ (heap_setCell_same w N o old t u hg)

/-- a row appended to a row of the call's own -/
theorem p_append {s : Nat} {os : Oper} {e' : Option Tmp} {f : Nat} {L : Array Bool} {a : Act} {w : World} (ho : ops[s]? = some os) (he : os.dst = e') (hgd : os.guard = none) (x y : Operand) (t : TypeId) (hop : os.op = .call { callee := .builtin .append, args := #[x, y], argTypes := #[t, t] }) (hr : Region.ready md ops L = [s])
    (base : Nat) (e : TypeId) (i : TypeInfo) (z : Value) (size bytes : Nat) (ht : P.underlying t = some (.slice e)) (hi : P.info? e = some i) (hz : i.zero = some z) (hsize : i.size = size) (hby : i.bytes = bytes) (hzs : z.cells.size = size) (hsz : 0 < size)
    (v : Value) (n : Nat) (xs : List Value) (hs : a.eval x = v) (hown : w.ownsRow base e size v n xs)
    (ad : Addr) (m c : Nat) (news : List Value) (hx : a.eval y = .slice (some ad) m c) (hl : news.length = m * size) (hnews : ∀ j u, news[j]? = some u → w.cell? (ad.add j) = some u) (h1 : ∀ u ∈ news, u.oneCell' = true)
    (h63 : n + m ≤ maxLen) (hbytes : (n + m) * bytes ≤ 140737488355328) (hbase : base ≤ w.heap.size)
    (h : ∀ v' w', w'.ownsRow base e size v' (n + m) (xs ++ news) → w.grownBy w' v.ownBlock → (pend s = true → C w') ∧ wpAnyP P md ops Q C pend f (L.setIfInBounds s true) (a.put e' v') w') : wpAnyP P md ops Q C pend (f + 1) L a w := by
  subst he
  refine ⟨fun h0 => (by rw [hr] at h0; cases h0), fun j hj => ?_⟩
  rw [hr] at hj
  obtain rfl : j = s := by simpa using hj
  unfold wpOp
  simp only [ho]
  rw [if_pos (by simp [Region.wanted, hgd])]
  exact Or.inl (wp_append_own w x y t hop base e i z size bytes ht hi hz hsize hby hzs hsz v n xs hs hown ad m c news hx hl hnews h1 h63 hbytes hbase fun v' w' h2 h3 _ => h v' w' h2 h3)

/-- an operation that makes memory: what it does is told outright -/
theorem p_run {s : Nat} {os : Oper} {e' : Option Tmp} {f : Nat} {L : Array Bool} {a : Act} {w : World} (ho : ops[s]? = some os) (he : os.dst = e') (hgd : os.guard = none) (hr : Region.ready md ops L = [s])
    (v : Value) (w' : World) (hrun : (execOp a.eval os).run P w = .ok (.value v) w') (h : (pend s = true → C w') ∧ wpAnyP P md ops Q C pend f (L.setIfInBounds s true) (a.put e' v) w') : wpAnyP P md ops Q C pend (f + 1) L a w := by
  subst he
  refine ⟨fun h0 => (by rw [hr] at h0; cases h0), fun j hj => ?_⟩
  rw [hr] at hj
  obtain rfl : j = s := by simpa using hj
  unfold wpOp
  simp only [ho]
  rw [if_pos (by simp [Region.wanted, hgd])]
  refine Or.inl ?_
  unfold Oper.wp
  rw [hrun]
  exact h

/-- something appended to a row of the call's own: where the row lies behind it -/
theorem p_lies {s : Nat} {os : Oper} {e' : Option Tmp} {f : Nat} {L : Array Bool} {a : Act} {w : World} (ho : ops[s]? = some os) (he : os.dst = e') (hgd : os.guard = none) (x y : Operand) (t : TypeId) (hop : os.op = .call { callee := .builtin .append, args := #[x, y], argTypes := #[t, t] }) (hr : Region.ready md ops L = [s])
    (base : Nat) (e : TypeId) (i : TypeInfo) (z : Value) (size bytes : Nat) (ht : P.underlying t = some (.slice e)) (hi : P.info? e = some i) (hz : i.zero = some z) (hsize : i.size = size) (hby : i.bytes = bytes) (hzs : z.cells.size = size) (hsz : 0 < size)
    (v : Value) (n : Nat) (xs : List Value) (hs : a.eval x = v) (hown : w.ownsRow base e size v n xs)
    (ad : Addr) (m c : Nat) (news : List Value) (hx : a.eval y = .slice (some ad) m c) (hl : news.length = m * size) (hnews : ∀ j u, news[j]? = some u → w.cell? (ad.add j) = some u) (h1 : ∀ u ∈ news, u.oneCell' = true)
    (hm : 0 < m) (h63 : n + m ≤ maxLen) (hbytes : (n + m) * bytes ≤ 140737488355328) (hbase : base ≤ w.heap.size) (H : Nat) (hH : w.heap.size = H)
    (h : ∀ g cap w', w'.ownsRow base e size (.slice (some ⟨g, 0, none⟩) (n + m) cap) (n + m) (xs ++ news) → w.grownBy w' v.ownBlock → (v.ownBlock = some g ∨ g = H) → g < w'.heap.size → (pend s = true → C w') ∧ wpAnyP P md ops Q C pend f (L.setIfInBounds s true) (a.put e' (.slice (some ⟨g, 0, none⟩) (n + m) cap)) w') : wpAnyP P md ops Q C pend (f + 1) L a w := by
  subst he
  refine ⟨fun h0 => (by rw [hr] at h0; cases h0), fun j hj => ?_⟩
  rw [hr] at hj
  obtain rfl : j = s := by simpa using hj
  unfold wpOp
  simp only [ho]
  rw [if_pos (by simp [Region.wanted, hgd])]
  exact Or.inl (wp_append_lies w x y t hop base e i z size bytes ht hi hz hsize hby hzs hsz v n xs hs hown ad m c news hx hl hnews h1 hm h63 hbytes hbase H hH fun g cap w' h2 h3 h4 h5 => h g cap w' h2 h3 h4 h5)
/-- a call -/
theorem p_call {s : Nat} {e' : Option Tmp} {oc : Oper} {f : Nat} {L : Array Bool} {a : Act} {w : World} {fn : FuncId} {args : Array Value} (hc : ops[s]? = some oc) (hce : oc.dst = e') (hr : Region.ready md ops L = [s])
    (hw : Region.wanted oc (yielded ops a.tmps) = true) (hrun : (execOp a.eval oc).run P w = .ok (.enter fn args) w)
    (h : Calls P fn args w fun e w' => ∃ v, e = .returned v ∧ (pend s = true → C w') ∧ wpAnyP P md ops Q C pend f (L.setIfInBounds s true) (a.put e' v) w') : wpAnyP P md ops Q C pend (f + 1) L a w := by
  subst hce
  refine ⟨fun h0 => (by rw [hr] at h0; cases h0), fun j hj => ?_⟩
  rw [hr] at hj
  obtain rfl : j = s := by simpa using hj
  exact wpOp_call hc hw hrun h
/-- an operation that asks nothing of the world, behind all loads -/
theorem wpAnyP_pure {i : Nat} {oi : Oper} {v : Value} (hi : ops[i]? = some oi) (hsel : ∀ (j : Nat) (o : Oper) cs b, ops[j]? = some o → o.op ≠ .select cs b)
    (hQ : ∀ c a w, Q (.panic c) (a.put oi.dst v) w → Q (.panic c) a w) (hp : pend i = false) :
    ∀ (f : Nat) (listed : Array Bool) (a : Act) (w : World),
      (∀ j oj, ops[j]? = some oj → j ≠ i → listed.getD j true = false → (∀ e ∈ oj.after, Region.binds md e = true → e.on ≠ i) → oi.apart ops oj = true) →
      i ∈ Region.ready md ops listed → YieldsIf P ops (fun _ => True) oi v a →
      wpAnyP P md ops Q C pend f (listed.setIfInBounds i true) (a.put oi.dst v) w → wpAnyP P md ops Q C pend (f + 1) listed a w := by
  intro f
  induction f with
  | zero =>
    intro listed a w _ hr hy H
    refine ⟨fun h => (by rw [h] at hr; cases hr), fun j hj => ?_⟩
    by_cases hji : j = i
    · subst hji; exact hy.wpOp hi trivial ⟨fun h => (by rw [hp] at h; cases h), H⟩
    · have := ready_mono hj hji
      rw [H.1] at this
      cases this
  | succ f ih =>
    intro listed a w hfree hr hy H
    refine ⟨fun h => (by rw [h] at hr; cases hr), fun j hj => ?_⟩
    by_cases hji : j = i
    · subst hji; exact hy.wpOp hi trivial ⟨fun h => (by rw [hp] at h; cases h), H⟩
    · have h1 := H.2 j (ready_mono hj hji)
      obtain ⟨hjun, oj, hoj, hall⟩ := mem_ready.1 hj
      have hnot : ∀ e ∈ oj.after, Region.binds md e = true → e.on ≠ i := fun e he hb heq => by
        have h4 := hall e he hb
        rw [heq, off_of (mem_ready.1 hr).1] at h4
        cases h4
      have h2 := wpOp_putIf hoj (hfree j oj hoj hji hjun hnot) (fun cs b => hsel i oi cs b hi) (fun cs b => hsel j oj cs b hoj) hQ hy h1
      have hfree' := fun k ok hk hki hun hno => hfree k ok hk hki (still_off hjun hun) hno
      refine wpOp_mono (fun a' w' h3 => ⟨h3.2.1, ih (listed.setIfInBounds j true) a' w' hfree' (ready_mono hr (Ne.symm hji)) h3.1 ?_⟩) h2
      rw [Array.setIfInBounds_comm _ _ hji]
      exact h3.2.2
theorem p_pure {j : Nat} {e' : Option Tmp} {oj : Oper} {v : Value} {f : Nat} {L : Array Bool} {a : Act} {w : World} (hj : ops[j]? = some oj) (hje : oj.dst = e') (hsel : Region.noSelect ops = true) (hf : Region.free md ops L j = true) (hr : (Region.ready md ops L).contains j = true)
    (hp : pend j = false) (hQ : ∀ c a w, Q (.panic c) (a.put e' v) w → Q (.panic c) a w) (hy : YieldsIf P ops (fun _ => True) oj v a) (next : wpAnyP P md ops Q C pend f (L.setIfInBounds j true) (a.put e' v) w) : wpAnyP P md ops Q C pend (f + 1) L a w := by
  subst hje
  exact wpAnyP_pure hj (Region.noSelect_spec hsel) hQ hp f L a w (Region.free_spec hj hf) (by simpa using hr) hy next
/-- an operation that asks nothing of the world but C, taken first -/
theorem p_take {j : Nat} {e' : Option Tmp} {oj : Oper} {v : Value} {f : Nat} {L : Array Bool} {a : Act} {w : World} (hj : ops[j]? = some oj) (hje : oj.dst = e') (hsel : Region.noSelect ops = true) (hf : Region.free md ops L j = true) (hr : (Region.ready md ops L).contains j = true)
    (hw : waitsB md ops pend j = true) (hl : closedB md ops L = true) (hQ : ∀ c a w, Q (.panic c) (a.put e' v) w → Q (.panic c) a w) (hy : YieldsIf P ops C oj v a) (hC : C w) (next : wpAnyP P md ops Q C pend f (L.setIfInBounds j true) (a.put e' v) w) : wpAnyP P md ops Q C pend (f + 1) L a w := by
  subst hje
  exact wpAnyP_take hj hsel hf hr hw hl hQ hy hC next
end

section
variable {P : Program} {ops : Array Oper} {Q : Exit → Act → World → Prop} {md : Region.Mode} {S : World → Prop}
/-- the store at the end of a region with a block that floats: the block was there -/
theorem fl_end_b {i s : Nat} {d : Option Tmp} {oi os : Oper} {obj : Obj} {base f : Nat} {T : World → Prop} {L : Array Bool} {a : Act} {ty t : TypeId} {x y : Operand} {old cells : Array Value}
    (hi : ops[i]? = some oi) (hdd : oi.dst = d) (hmk : Makes P oi obj) (hb : ∀ w, T w → base ≤ w.heap.size) (hU : Up T) (hTS : ∀ w, T w → S w)
    (ho : ops[s]? = some os) (hg : os.guard = none) (hop : os.op = .store ty x y) (hd : os.dst = none) (hr0 : Region.ready md ops L = [i]) (hr1 : Region.ready md ops (L.setIfInBounds i true) = [s]) (hr2 : Region.ready md ops ((L.setIfInBounds i true).setIfInBounds s true) = [])
    (hx : ∀ N, (a.put d (flP N)).eval x = flP N) (hy : ∀ N, (a.put d (flP N)).eval y = .agg cells) (hobj : obj = .cells old t (0, 0)) (hsz : (P.info? ty).map (·.size) = some cells.size) (hold : old.size = cells.size) (h1 : cells.all (·.oneCell') = true)
    (fin : ∀ N w w', T w → base ≤ N → w.heap[N]? = some (.cells old t (0, 0)) → w.grownBy w' (some N) → w'.heap[N]? = some (.cells cells t (0, 0)) → N < w'.heap.size → S w' ∧ Q .normal (a.put d (flP N)) w') : Fl P md ops Q S i d obj base T (f + 1) L a := by
  subst hdd
  have hsome : ∀ N w, T w → flI obj base w (some N) → wpAnyH P md ops Q S (f + 1) (L.setIfInBounds i true) (a.put oi.dst (flP N)) w := fun N w hT hI => by
    refine ⟨fun h => (by rw [hr1] at h; cases h), fun j hj => ?_⟩
    rw [hr1] at hj
    obtain rfl : j = s := by simpa using hj
    have hI2 : w.heap[N]? = some (.cells old t (0, 0)) := by rw [← hobj]; exact hI.2
    obtain ⟨g1, g2, g3⟩ := setRow_grown (cells := cells) hI2
    have hf := fin N w _ hT hI.1 hI2 g1 g2 (by rw [g3]; exact (Array.getElem?_eq_some_iff.1 hI2).1)
    unfold wpOp
    simp only [ho]
    rw [if_pos (by simp [Region.wanted, hg])]
    refine Or.inl (wp_store_row ty x y hop N cells (hx N) (hy N) t old hI2 hsz hold h1 ?_)
    rw [hd]
    exact ⟨hf.1, wpAnyH_done hr2 hf.2 _⟩
  intro al w hT hI
  cases al with
  | some N => exact hsome N w hT hI
  | none =>
    show wpAnyH P md ops Q S (f + 1 + 1) L a w
    refine ⟨fun h => (by rw [hr0] at h; cases h), fun j hj => ?_⟩
    rw [hr0] at hj
    obtain rfl : j = i := by simpa using hj
    refine wpOp_value hi (by simp [Region.wanted, hmk.1]) (hmk.2 a.eval w) ⟨hTS _ (hU _ _ hT (alloc_below w obj)), ?_⟩
    exact hsome w.heap.size (w.alloc obj) (hU _ _ hT (alloc_below w obj)) ⟨hb w hT, alloc_new w obj⟩
end

end Go.Proofs.YtnghhfgbobpnkarGreatR

namespace Go.Proofs.YtnghhfgbobpnkarGreatR
open Go.RowKit Num

theorem infoC : (Tryz.prog.info? 126).map (fun i => (i.zero, i.size, i.bytes)) = some (some (.agg #[.string ByteArray.empty, .int .i64 0]), 2, 24) := by kernel_rfl

/-- nothing is appended -/
theorem run_append_none {P : Program} {t ty e : TypeId} {i : TypeInfo} (ht : P.underlying t = some (.slice e)) (hi : P.info? e = some i) (w : World) {base : Nat} {v : Value} {n : Nat} {xs : List Value} {m : Nat} (hown : w.ownsRow base e m v n xs) (c : Nat) :
    (Builtin.append_ #[t, t] ty #[v, .slice none 0 c]).run P w = .ok v w := by
  obtain ⟨hl, ⟨rfl, h0⟩ | ⟨g, cap, cur, rfl, hb, hh, hn, hc, hs, htk⟩⟩ := hown
  · simp [Builtin.append_, run_underlying ht, sizeOf, typeInfo, hi, Builtin.lenOf, Builtin.firstCells]
  · have : n ≤ cap := by omega
    simp [Builtin.append_, run_underlying ht, sizeOf, typeInfo, hi, Builtin.lenOf, Builtin.firstCells, storeCells, this]

theorem flat_one {cs : CL} : ∀ u ∈ flat cs, u.oneCell' = true := by
  intro u hu
  obtain ⟨c, _, hc⟩ := List.mem_flatMap.1 hu
  simp at hc
  rcases hc with rfl | rfl <;> rfl

/-- 'append(out, list...)' at accounts: out is the call's own, list can be read -/
theorem wpList_append_cells (w : World) {ops : Array Oper} {rest : List Oper} {o : Oper} {a : Act} {Q : Exit → Act → World → Prop} (hgd : o.guard = none) (s x : Operand)
    (ho : o.op = .call { callee := .builtin .append, args := #[s, x], argTypes := #[38, 38] })
    (base : Nat) (v : Value) (xs : CL) (hs : a.eval s = v) (hown : w.ownsRow base 126 2 v xs.length (flat xs))
    (src : Value) (cs : CL) (hx : a.eval x = src) (hsrc : Cells w src cs) (h63 : xs.length + cs.length ≤ 4194304) (hbase : base ≤ w.heap.size)
    (h : ∀ v' w', w'.ownsRow base 126 2 v' (xs ++ cs).length (flat (xs ++ cs)) → w.grownBy w' v.ownBlock → wpList Tryz.prog ops Q rest (a.put o.dst v') w') : wpList Tryz.prog ops Q (o :: rest) a w := by
  obtain ⟨i0, hi, hz0, hz1, hz2⟩ := info_parts infoC
  obtain ⟨ad, cap, rfl, hr⟩ := hsrc
  cases ad with
  | none =>
    have h0 : cs.length = 0 := by
      rcases Nat.eq_zero_or_pos cs.length with h | h
      · exact h
      · obtain ⟨_, _, e, _⟩ := hr h; cases e
    obtain rfl : cs = [] := List.eq_nil_of_length_eq_zero h0
    refine wpList_plain hgd fun K' hK' => ?_
    have hrun := run_append_none (ty := o.type) Tryz.underlying38 hi w hown cap
    unfold Oper.wp execOp
    simp only [ho, resolve, invoke, builtin, Sem.run_bind, Sem.run_pure, Result.andThen_ok, List.map_toArray, List.map_cons, List.map_nil, hs, hx, List.length_nil, hrun]
    exact hK' _ _ (h v w (by simpa using hown) ⟨rfl, rfl, rfl, Nat.le_refl _, fun _ _ _ => rfl⟩)
  | some ad =>
    refine wpList_append_own _ hgd s x 38 ho base 126 i0 _ 2 24 Tryz.underlying38 hi hz0 hz1 hz2 rfl (by decide) v _ _ hs hown ad cs.length cap (flat cs) hx (flat_len cs) ?_ flat_one (by unfold maxLen; omega) (by omega) hbase fun v' w' h1 h2 _ => h v' w' (by rw [List.length_append, flat_append]; exact h1) h2
    intro j u hj
    have hjl : j < cs.length * 2 := by
      rw [← flat_len]
      exact (List.getElem?_eq_some_iff.1 hj).1
    obtain ⟨g, off, rfl0, hg, hc⟩ := hr (by omega)
    cases rfl0
    have hp : (⟨g, off, none⟩ : Addr).add j = ⟨g, off + j, none⟩ := by unfold Addr.add; split <;> simp_all
    rw [hp]
    have hf := flat_at cs (j / 2) (by omega)
    have hcc := hc (j / 2) (by omega)
    by_cases hev : j % 2 = 0
    · have e : j = j / 2 * 2 := by omega
      rw [← e] at hf hcc
      rw [hcc.1, ← hf.1, hj]
    · have e : j = j / 2 * 2 + 1 := by omega
      have e' : off + j = off + j / 2 * 2 + 1 := by omega
      rw [← e] at hf
      rw [e', hcc.2, ← hf.2, hj]

/-- the one account that is appended, as a row that can be read -/
theorem one_cell (W : World) (c : ByteArray × Int) (t : TypeId) : Cells (W.alloc (.cells #[.string c.1, .int .i64 c.2] t)) (.slice (some ⟨W.heap.size, 0, none⟩) 1 1) [c] := by
  refine ⟨_, 1, rfl, fun _ => ⟨W.heap.size, 0, rfl, by simp, fun i hi => ?_⟩⟩
  have : i = 0 := by simp at hi; omega
  subst this
  simp

end Go.Proofs.YtnghhfgbobpnkarGreatR

namespace Go.Proofs.YtnghhfgbobpnkarGreatR
open Go.RowKit Num

theorem take_yes {cs : CL} {p : ByteArray × Int → Bool} {k : Nat} (h : k < cs.length) (hp : p cs[k] = true) : (cs.take (k + 1)).filter p = (cs.take k).filter p ++ [cs[k]] := by
  rw [List.take_add_one, List.getElem?_eq_getElem h, List.filter_append]; simp [hp]
theorem take_no {cs : CL} {p : ByteArray × Int → Bool} {k : Nat} (h : k < cs.length) (hp : p cs[k] = false) : (cs.take (k + 1)).filter p = (cs.take k).filter p := by
  rw [List.take_add_one, List.getElem?_eq_getElem h, List.filter_append]; simp [hp]
theorem take_len {cs : CL} {p : ByteArray × Int → Bool} {k : Nat} (h : k ≤ cs.length) : ((cs.take k).filter p).length ≤ k := by
  have := List.length_filter_le p (cs.take k)
  rw [List.length_take] at this; omega
set_option maxRecDepth 100000 in
set_option maxHeartbeats 2000000 in
theorem put_s (cs : CL) (v : Value) (x : ByteArray × Int) (w : World) (hv : Cells w v cs) (hl : (cs.length : Int) ≤ 1048576) :
    Calls Tryz.prog 125 #[v, cellV x] w fun e w' => ∃ v', e = .returned v' ∧ w'.ownsRow w.heap.size 126 2 v' (putC cs x).length (flat (putC cs x)) ∧ Below w.heap.size w w' := by
  obtain ⟨key, num⟩ := x
  have hbw : Below w.heap.size w (w.alloc (Obj.cells #[Value.string key, Value.int IntKind.i64 num] 126)) := ba (Below.refl _ _) _
  obtain ⟨a, cap, rfl, hr⟩ := hv
  have HR : Hid (0 < cs.length → _) := hr
  have HB : Hid (Below w.heap.size w (w.alloc (Obj.cells #[Value.string key, Value.int IntKind.i64 num] 126))) := hbw
  clear hr hbw
  unfold cellV
  go_enter Tryz.func125, Tryz.ntmps125
  go_wp2
  obtain ⟨w1, hw1⟩ : ∃ w1, w1 = w.alloc (Obj.cells #[Value.string key, Value.int IntKind.i64 num] 126) := ⟨_, rfl⟩
  have hw1s : w1.heap.size = w.heap.size + 1 := by rw [hw1]; simp
  have HW : Hid (w1 = w.alloc (Obj.cells #[Value.string key, Value.int IntKind.i64 num] 126)) := hw1
  rw [← hw1]
  clear hw1
  go_loopw [5, 6] (fun o i wr => ∃ k : Nat, k ≤ cs.length ∧ i = .int .i64 (k : Int) ∧ wr.ownsRow w1.heap.size 126 2 o ((cs.take k).filter fun c => kLt c.1 key).length (flat ((cs.take k).filter fun c => kLt c.1 key)) ∧ Below w1.heap.size w1 wr) (fun _ i _ => cs.length - (intOf i).toNat)
  case atStart =>
    refine ⟨0, Nat.zero_le _, rfl, ?_, ba (Below.refl _ _) _⟩
    have := own_new w1 126 2
    rw [hw1s] at this ⊢
    exact this
  case round =>
    obtain ⟨k, hk, rfl, hown, hbel⟩ := hrel
    have HO : Hid (wr.ownsRow w1.heap.size 126 2 _ ((cs.take k).filter fun c => kLt c.1 key).length (flat ((cs.take k).filter fun c => kLt c.1 key))) := hown
    have hfl := take_len (p := fun c => kLt c.1 key) hk
    clear hown
    by_cases hlt : (k : Int) < cs.length
    · have hkn : k < cs.length := by omega
      obtain ⟨g, off, rfl, hg, hc⟩ := HR.out (by omega)
      have q0 : (0 : Int) ≤ (k : Int) := by omega
      have hne := bw_some wr
      have B1 : Below w.heap.size w w1 := by rw [HW.out]; exact HB.out
      have hx0 : w1.cell? ⟨w.heap.size, 0, none⟩ = some (.string key) := by rw [HW.out]; simp
      have c0 : ∀ x : Bw wr, x.to.cell? ⟨g, off + k * 2, none⟩ = some (.string cs[k].1) := fun x => by rw [(bt B1 (bt hbel x.below)).cell (by exact hg)]; exact (hc k hkn).1
      have c1 : ∀ x : Bw wr, x.to.cell? ⟨g, off + k * 2 + 1, none⟩ = some (.int .i64 cs[k].2) := fun x => by rw [(bt B1 (bt hbel x.below)).cell (by exact hg)]; exact (hc k hkn).2
      have c2 : ∀ x : Bw wr, x.to.cell? ⟨w.heap.size, 0, none⟩ = some (.string key) := fun x => by rw [(bt hbel x.below).cell (by simp [hw1s])]; exact hx0
      clear hc hx0 B1
      cases hlb : Op.bytesLess cs[k].1.toList key.toList with
      | false =>
        have HT : Hid (((cs.take (k + 1)).filter fun c => kLt c.1 key) = _) := take_no hkn hlb
        go_wp2
        refine wp_region_bw (by kernel_rfl) (by kernel_rfl) ?_
        repeat (go_big_quiet_step (fail))
        refine wpQuiet_nil ?_
        intro _ hw'
        obtain ⟨x, rfl⟩ := hw'
        go_wp2
        go_roundw
        case rel => exact ⟨k + 1, by omega, by go_num, by rw [HT.out]; exact own_kept HO.out x.below, bt hbel x.below⟩
        case measure => simp [intOf]; omega
      | true =>
        have HT : Hid (((cs.take (k + 1)).filter fun c => kLt c.1 key) = _) := take_yes hkn hlb
        go_wp2
        refine wp_region_bw (by kernel_rfl) (by kernel_rfl) ?_
        repeat (go_big_quiet_step (fail))
        refine wpQuiet_nil ?_
        intro _ hw'
        obtain ⟨x, rfl⟩ := hw'
        have hxs := (bt hbel x.below).size
        have HO1 : Hid (x.to.ownsRow w1.heap.size 126 2 _ ((cs.take k).filter fun c => kLt c.1 key).length (flat ((cs.take k).filter fun c => kLt c.1 key))) := own_kept HO.out x.below
        go_wp2_with (at_builtin; refine wpList_append_cells _ rfl _ _ rfl w1.heap.size _ ((cs.take k).filter fun c => kLt c.1 key) rfl (World.ownsRow.alloc HO1.out _) _ [cs[k]] rfl (one_cell _ cs[k] _) (by simp; omega) (by simp; omega) ?_; intro v' w3 hown' hgrow)
        go_roundw
        case rel => exact ⟨k + 1, by omega, by go_num, by rw [HT.out]; exact hown', (ba (bt hbel x.below) _).grown hgrow (by simp; omega) fun b hb => (HO1.out.lt b hb).1⟩
        case measure => simp [intOf]; omega
    · have hkl : k = cs.length := by omega
      have HO1 : Hid (wr.ownsRow w1.heap.size 126 2 u5 (cs.filter fun c => kLt c.1 key).length (flat (cs.filter fun c => kLt c.1 key))) := by have := HO.out; rw [hkl, List.take_length] at this; exact this
      have hbs := hbel.size
      have hfl2 : (cs.filter fun c => kLt c.1 key).length ≤ cs.length := List.length_filter_le _ _
      have B1 : Below w.heap.size w w1 := by rw [HW.out]; exact HB.out
      have hx0 : wr.cell? ⟨w.heap.size, 0, none⟩ = some (.string key) := by rw [hbel.cell (by simp [hw1s]), HW.out]; simp
      have hx1 : wr.cell? ⟨w.heap.size, 1, none⟩ = some (.int .i64 num) := by rw [hbel.cell (by simp [hw1s]), HW.out]; simp
      clear hkl HO hfl
      go_wp2_with (at_builtin; refine wpList_append_cells _ rfl _ _ rfl w1.heap.size _ (cs.filter fun c => kLt c.1 key) rfl (World.ownsRow.alloc HO1.out _) _ [(key, num)] rfl (one_cell _ (key, num) _) (by simp; omega) (by simp; omega) ?_; intro v' w3 hown' hgrow)
      have B3 : Below w1.heap.size w1 w3 := (ba hbel _).grown hgrow (by simp; omega) fun b hb => (HO1.out.lt b hb).1
      have HO3 : Hid (w3.ownsRow w1.heap.size 126 2 v' _ _) := hown'
      clear hown' hgrow hx0 hx1 B1 HO1 hbel hbs
      go_loopw [5, 7] (fun o i wr => ∃ k : Nat, k ≤ cs.length ∧ i = .int .i64 (k : Int) ∧ wr.ownsRow w1.heap.size 126 2 o ((cs.filter fun c => kLt c.1 key) ++ (key, num) :: (cs.take k).filter fun c => kLt key c.1).length (flat ((cs.filter fun c => kLt c.1 key) ++ (key, num) :: (cs.take k).filter fun c => kLt key c.1)) ∧ Below w1.heap.size w1 wr) (fun _ i _ => cs.length - (intOf i).toNat)
      case atStart => exact ⟨0, Nat.zero_le _, rfl, HO3.out, B3⟩
      case round =>
        obtain ⟨k, hk, rfl, hown, hbel⟩ := hrel
        have HO : Hid (wr.ownsRow w1.heap.size 126 2 u5 ((cs.filter fun c => kLt c.1 key) ++ (key, num) :: (cs.take k).filter fun c => kLt key c.1).length (flat ((cs.filter fun c => kLt c.1 key) ++ (key, num) :: (cs.take k).filter fun c => kLt key c.1))) := hown
        have hfl := take_len (p := fun c => kLt key c.1) hk
        clear hown
        by_cases hlt : (k : Int) < cs.length
        · have hkn : k < cs.length := by omega
          obtain ⟨g, off, rfl, hg, hc⟩ := HR.out (by omega)
          have q0 : (0 : Int) ≤ (k : Int) := by omega
          have hne := bw_some wr
          have B1 : Below w.heap.size w w1 := by rw [HW.out]; exact HB.out
          have hx0 : w1.cell? ⟨w.heap.size, 0, none⟩ = some (.string key) := by rw [HW.out]; simp
          have c0 : ∀ x : Bw wr, x.to.cell? ⟨g, off + k * 2, none⟩ = some (.string cs[k].1) := fun x => by rw [(bt B1 (bt hbel x.below)).cell (by exact hg)]; exact (hc k hkn).1
          have c1 : ∀ x : Bw wr, x.to.cell? ⟨g, off + k * 2 + 1, none⟩ = some (.int .i64 cs[k].2) := fun x => by rw [(bt B1 (bt hbel x.below)).cell (by exact hg)]; exact (hc k hkn).2
          have c2 : ∀ x : Bw wr, x.to.cell? ⟨w.heap.size, 0, none⟩ = some (.string key) := fun x => by rw [(bt hbel x.below).cell (by simp [hw1s])]; exact hx0
          clear hc hx0 B1
          cases hgb : kLt key cs[k].1 with
          | false =>
            cases hlb : Op.bytesLess cs[k].1.toList key.toList with
            | true =>
              have HT : Hid (((cs.take (k + 1)).filter fun c => kLt key c.1) = _) := take_no hkn hgb
              go_wp2
              refine wp_region_bw (by kernel_rfl) (by kernel_rfl) ?_
              repeat (go_big_quiet_step (fail))
              refine wpQuiet_nil ?_
              intro _ hw'
              obtain ⟨x, rfl⟩ := hw'
              go_wp2
              go_roundw
              case rel => exact ⟨k + 1, by omega, by go_num, by rw [HT.out]; exact own_kept HO.out x.below, bt hbel x.below⟩
              case measure => simp [intOf]; omega
            | false =>
              have heq : (cs[k].1.toList == key.toList) = true := ba_eq (kLt_tri hlb hgb)
              have HT : Hid (((cs.take (k + 1)).filter fun c => kLt key c.1) = _) := take_no hkn hgb
              go_wp2
              refine wp_region_bw (by kernel_rfl) (by kernel_rfl) ?_
              repeat (go_big_quiet_step (fail))
              refine wpQuiet_nil ?_
              intro _ hw'
              obtain ⟨x, rfl⟩ := hw'
              go_wp2
              go_roundw
              case rel => exact ⟨k + 1, by omega, by go_num, by rw [HT.out]; exact own_kept HO.out x.below, bt hbel x.below⟩
              case measure => simp [intOf]; omega
          | true =>
            have HT : Hid (((cs.take (k + 1)).filter fun c => kLt key c.1) = _) := take_yes hkn hgb
            have hlb : Op.bytesLess cs[k].1.toList key.toList = false := kLt_asym hgb
            have heq : (cs[k].1.toList == key.toList) = false := ba_ne (kLt_ne hgb).symm
            go_wp2
            refine wp_region_bw (by kernel_rfl) (by kernel_rfl) ?_
            repeat (go_big_quiet_step (fail))
            refine wpQuiet_nil ?_
            intro _ hw'
            obtain ⟨x, rfl⟩ := hw'
            have hxs := (bt hbel x.below).size
            have HO1 : Hid (x.to.ownsRow w1.heap.size 126 2 u5 ((cs.filter fun c => kLt c.1 key) ++ (key, num) :: (cs.take k).filter fun c => kLt key c.1).length (flat ((cs.filter fun c => kLt c.1 key) ++ (key, num) :: (cs.take k).filter fun c => kLt key c.1))) := own_kept HO.out x.below
            have hfl3 : ((cs.filter fun c => kLt c.1 key) ++ (key, num) :: (cs.take k).filter fun c => kLt key c.1).length ≤ 2097153 := by simp; omega
            go_wp2_with (at_builtin; refine wpList_append_cells _ rfl _ _ rfl w1.heap.size _ ((cs.filter fun c => kLt c.1 key) ++ (key, num) :: (cs.take k).filter fun c => kLt key c.1) rfl (World.ownsRow.alloc HO1.out _) _ [cs[k]] rfl (one_cell _ cs[k] _) (by simp only [List.length_singleton]; omega) (by simp; omega) ?_; intro v' w3 hown' hgrow)
            go_roundw
            case rel => exact ⟨k + 1, by omega, by go_num, by rw [HT.out]; simpa using hown', (ba (bt hbel x.below) _).grown hgrow (by simp; omega) fun b hb => (HO1.out.lt b hb).1⟩
            case measure => simp [intOf]; omega
        · have hkl : k = cs.length := by omega
          have HK : Hid (k = cs.length) := hkl
          have B1 : Below w.heap.size w w1 := by rw [HW.out]; exact HB.out
          clear hkl
          go_wp2
          go_ret
          refine ⟨_, rfl, own_base (base := w1.heap.size) ?_ (by omega), bt B1 hbel⟩
          have := HO.out
          rw [HK.out, List.take_length] at this
          exact this

end Go.Proofs.YtnghhfgbobpnkarGreatR

namespace Go.Proofs.YtnghhfgbobpnkarGreatR
open Go.RowKit Num

set_option maxHeartbeats 1000000 in
theorem key_s (k : ByteArray) (w : World) (hk : (k.size : Int) ≤ 1048576) :
    Calls Tryz.prog 157 #[.string k] w fun e w' => e = .returned (.bool (keyB k)) ∧ w' = w := by
  go_enter Tryz.func157, Tryz.ntmps157
  go_wp2
  go_loop [3] (fun i => ∃ j : Nat, j ≤ k.size ∧ i = .int .i64 (j : Int) ∧ Hid (keyTo k j)) (fun i => k.size - (intOf i).toNat)
  case atStart => exact ⟨0, Nat.zero_le _, rfl, fun j _ h => by omega⟩
  case round =>
    obtain ⟨j, hj, rfl, HK⟩ := hrel
    by_cases hlt : (j : Int) < k.size
    · have hjn : j < k.size := by omega
      have hb := byte_le k[j]
      have q0 : (0 : Int) ≤ (j : Int) := by omega
      by_cases h1 : (k[j].toNat : Int) < 97
      · go_wp2
        go_ret
        exact ⟨ret_bool (keyB_no hjn (by omega)).symm, rfl⟩
      · by_cases h2 : 122 < (k[j].toNat : Int)
        · go_wp2
          go_ret
          exact ⟨ret_bool (keyB_no hjn (by omega)).symm, rfl⟩
        · have HN : Hid (keyTo k (j + 1)) := fun i hi hij => by
            by_cases e : i = j
            · subst e; omega
            · exact HK.out i hi (by omega)
          go_wp2
          go_round
          case rel => exact ⟨j + 1, by omega, by go_num, HN.out⟩
          case measure => simp [intOf]; omega
    · have hjn : j = k.size := by omega
      have HJ : Hid (j = k.size) := hjn
      clear hjn
      go_wp2_with fail
      refine (in_any (k.size : Int) 1 3 w).mono ?_
      rintro e w1 ⟨rfl, rfl⟩
      go_wp2
      go_ret
      have hkt := HK.out
      rw [HJ.out] at hkt
      exact ⟨ret_bool (keyB_all hkt).symm, rfl⟩

set_option maxHeartbeats 1000000 in
theorem cellAt_s (cs : CL) (v : Value) (key : ByteArray) (w : World) (hv : Cells w v cs) (hl : (cs.length : Int) ≤ 1048576) :
    Calls Tryz.prog 124 #[v, .string key] w fun e w' => e = .returned (.int .i64 (cellAt cs key)) ∧ w' = w := by
  obtain ⟨a, cap, rfl, hr⟩ := hv
  have HR : Hid (0 < cs.length → _) := hr
  clear hr
  go_enter Tryz.func124, Tryz.ntmps124
  go_wp2
  go_loop [5] (fun i => ∃ k : Nat, k ≤ cs.length ∧ i = .int .i64 (k : Int) ∧ Hid (cellAt cs key = cellAtFrom key (cs.drop k) k)) (fun i => cs.length - (intOf i).toNat)
  case atStart => exact ⟨0, Nat.zero_le _, rfl, rfl⟩
  case round =>
    obtain ⟨k, hk, rfl, HC⟩ := hrel
    by_cases hlt : (k : Int) < cs.length
    · have hkn : k < cs.length := by omega
      obtain ⟨g, off, rfl, hg, hc⟩ := HR.out (by omega)
      obtain ⟨hc0, hc1⟩ := hc k hkn
      have q0 : (0 : Int) ≤ (k : Int) := by omega
      have HS : Hid (cellAtFrom key (cs.drop k) k = _) := cellAt_drop cs key k hkn
      clear hc
      by_cases he : cs[k].1 = key
      · have heq := ba_eq he
        go_wp2
        go_ret
        exact ⟨ret_int (by rw [HC.out, HS.out, if_pos he]), rfl⟩
      · have heq := ba_ne he
        have HE : Hid (¬ cs[k].1 = key) := he
        clear he
        go_wp2
        go_round
        case rel => exact ⟨k + 1, by omega, by go_num, (show cellAt cs key = _ from by rw [HC.out, HS.out, if_neg HE.out])⟩
        case measure => simp [intOf]; omega
    · have hkl : k = cs.length := by omega
      have HK : Hid (k = cs.length) := hkl
      clear hkl
      go_wp2
      go_ret
      exact ⟨ret_int (by rw [HC.out, HK.out, List.drop_length]; rfl), rfl⟩

end Go.Proofs.YtnghhfgbobpnkarGreatR

namespace Go.Proofs.YtnghhfgbobpnkarGreatR
open Go.RowKit Num

set_option maxRecDepth 100000 in
set_option maxHeartbeats 2000000 in
theorem cellsOk_s (cs : CL) (v : Value) (w : World) (hv : Cells w v cs) (hl : (cs.length : Int) ≤ 1048576) (hall : ∀ c ∈ cs, (c.1.size : Int) ≤ 1048576) :
    Calls Tryz.prog 122 #[v] w fun e w' => e = .returned (.bool (cellsB cs)) ∧ Below w.heap.size w w' := by
  obtain ⟨a, cap, rfl, hr⟩ := hv
  have HR : Hid (0 < cs.length → _) := hr
  have HA : Hid (∀ c ∈ cs, (c.1.size : Int) ≤ 1048576) := hall
  clear hr hall
  go_enter Tryz.func122, Tryz.ntmps122
  go_wp2
  go_loopw [3] (fun i wr => ∃ k : Nat, k ≤ cs.length ∧ i = .int .i64 (k : Int) ∧ Hid (okTo cs k) ∧ Below w.heap.size w wr) (fun i _ => cs.length - (intOf i).toNat)
  case atStart => exact ⟨0, Nat.zero_le _, rfl, fun i hi => by omega, Below.refl _ _⟩
  case round =>
    obtain ⟨k, hk, rfl, HO, hbel⟩ := hrel
    by_cases hlt : (k : Int) < cs.length
    · have hkn : k < cs.length := by omega
      obtain ⟨g, off, rfl, hg, hc⟩ := HR.out (by omega)
      have hne := bw_some wr
      have hsz := HA.out cs[k] (List.getElem_mem hkn)
      have c0 : ∀ x : Bw wr, x.to.cell? ⟨g, off + k * 2, none⟩ = some (.string cs[k].1) := fun x => by rw [(bt hbel x.below).cell (by exact hg)]; exact (hc k hkn).1
      have c1 : ∀ x : Bw wr, x.to.cell? ⟨g, off + k * 2 + 1, none⟩ = some (.int .i64 cs[k].2) := fun x => by rw [(bt hbel x.below).cell (by exact hg)]; exact (hc k hkn).2
      have q0 : (0 : Int) ≤ (k : Int) := by omega
      cases hkb : keyB cs[k].1 with
      | false =>
        have HN : Hid (okAt cs k = false) := by
          cases k with
          | zero => rw [okAt_zero hkn, hkb]; rfl
          | succ j => rw [okAt_succ hkn, hkb]; rfl
        clear hc
        go_wp2
        refine wp_region_bw (by kernel_rfl) (by kernel_rfl) ?_
        repeat (go_big_quiet_step (first | refine calls_bw_same (key_s _ _ hsz) | refine calls_bw_same (in_any _ _ _ _)))
        refine wpQuiet_nil ?_
        intro _ hw'
        obtain ⟨x, rfl⟩ := hw'
        go_wp2
        go_ret
        exact ⟨ret_bool (cellsB_no hkn HN.out).symm, bt hbel x.below⟩
      | true =>
        cases hnb : inB cs[k].2 0 1000000000 with
        | false =>
          have HN : Hid (okAt cs k = false) := by
            cases k with
            | zero => rw [okAt_zero hkn, hkb, numB, hnb]; rfl
            | succ j => rw [okAt_succ hkn, hkb, numB, hnb]; rfl
          clear hc
          go_wp2
          refine wp_region_bw (by kernel_rfl) (by kernel_rfl) ?_
          repeat (go_big_quiet_step (first | refine calls_bw_same (key_s _ _ hsz) | refine calls_bw_same (in_any _ _ _ _)))
          refine wpQuiet_nil ?_
          intro _ hw'
          obtain ⟨x, rfl⟩ := hw'
          go_wp2
          go_ret
          exact ⟨ret_bool (cellsB_no hkn HN.out).symm, bt hbel x.below⟩
        | true =>
          cases k with
          | zero =>
            have HN : Hid (okAt cs 0 = true) := by rw [okAt_zero hkn, hkb, numB, hnb]; rfl
            have c0' : ∀ x : Bw wr, x.to.cell? ⟨g, off, none⟩ = some (.string cs[0].1) := fun x => by simpa using c0 x
            have c1' : ∀ x : Bw wr, x.to.cell? ⟨g, off + 1, none⟩ = some (.int .i64 cs[0].2) := fun x => by simpa using c1 x
            have q1 : (0 : Int) < (cs.length : Int) := by omega
            clear hc
            go_wp2
            refine wp_region_bw (by kernel_rfl) (by kernel_rfl) ?_
            repeat (go_big_quiet_step (first | refine calls_bw_same (key_s _ _ hsz) | refine calls_bw_same (in_any _ _ _ _)))
            refine wpQuiet_nil ?_
            intro _ hw'
            obtain ⟨x, rfl⟩ := hw'
            go_wp2
            go_roundw
            case rel => exact ⟨1, by omega, by go_num, okTo_next HO.out HN.out, bt hbel x.below⟩
            case measure => simp [intOf]; omega
          | succ j =>
            have c2 : ∀ x : Bw wr, x.to.cell? ⟨g, off + j * 2, none⟩ = some (.string cs[j].1) := fun x => by rw [(bt hbel x.below).cell (by exact hg)]; exact (hc j (by omega)).1
            have q1 : ((j : Int) + 1) < (cs.length : Int) := by omega
            have q2 : (0 : Int) ≤ (j : Int) := by omega
            cases hlb : Op.bytesLess cs[j].1.toList cs[j + 1].1.toList with
            | false =>
              have HN : Hid (okAt cs (j + 1) = false) := by rw [okAt_succ hkn, hkb, numB, hnb, hlb]; rfl
              clear hc
              go_wp2
              refine wp_region_bw (by kernel_rfl) (by kernel_rfl) ?_
              repeat (go_big_quiet_step (first | refine calls_bw_same (key_s _ _ hsz) | refine calls_bw_same (in_any _ _ _ _)))
              refine wpQuiet_nil ?_
              intro _ hw'
              obtain ⟨x, rfl⟩ := hw'
              go_wp2
              go_ret
              exact ⟨ret_bool (cellsB_no hkn HN.out).symm, bt hbel x.below⟩
            | true =>
              have HN : Hid (okAt cs (j + 1) = true) := by rw [okAt_succ hkn, hkb, numB, hnb, hlb]; rfl
              clear hc
              go_wp2
              refine wp_region_bw (by kernel_rfl) (by kernel_rfl) ?_
              repeat (go_big_quiet_step (first | refine calls_bw_same (key_s _ _ hsz) | refine calls_bw_same (in_any _ _ _ _)))
              refine wpQuiet_nil ?_
              intro _ hw'
              obtain ⟨x, rfl⟩ := hw'
              go_wp2
              go_roundw
              case rel => exact ⟨j + 1 + 1, by omega, by go_num, okTo_next HO.out HN.out, bt hbel x.below⟩
              case measure => simp [intOf]; omega
    · have hkl : k = cs.length := by omega
      have HK : Hid (k = cs.length) := hkl
      clear hkl
      go_wp2
      go_ret
      have hot := HO.out
      rw [HK.out] at hot
      exact ⟨ret_bool (by rw [cellsB_all hot]; simp; omega), hbel⟩

end Go.Proofs.YtnghhfgbobpnkarGreatR

namespace Go.Proofs.YtnghhfgbobpnkarGreatR
open Go.RowKit Num

theorem undo_block {w w' : World} {t : TypeId} {u0 u1 u2 : Value} (h : Below (w.alloc (.cells #[u0, u1, u2] t)).heap.size (w.alloc (.cells #[u0, u1, u2] t)) w') : w'.heap[w.heap.size]? = some (.cells #[u0, u1, u2] t (0, 0)) :=
  (h.block w.heap.size (by simp)).trans (heap_alloc_new w _)

set_option maxRecDepth 100000 in
set_option maxHeartbeats 1000000 in
theorem undoOf_s (cs : CL) (v : Value) (key : ByteArray) (w : World) (hv : Cells w v cs) (hl : (cs.length : Int) ≤ 1048576) :
    Calls Tryz.prog 102 #[v, .string key] w fun e w' => e = .returned (undoV (undoC cs key)) ∧ Below w.heap.size w w' := by
  have HV : Hid (Cells w v cs) := hv
  obtain ⟨a, cap, rfl, hr⟩ := hv
  have HR : Hid (0 < cs.length → _) := hr
  clear hr
  go_enter Tryz.func102, Tryz.ntmps102
  go_wp2_with fail
  have B1 : Below w.heap.size w (w.alloc (.cells #[.string ByteArray.empty, .bool false, .int .i64 0] 128)) := ba (Below.refl _ _) _
  have HK : Hid ((w.alloc (.cells #[.string ByteArray.empty, .bool false, .int .i64 0] 128)).heap[w.heap.size]? = some (.cells #[.string ByteArray.empty, .bool false, .int .i64 0] 128 (0, 0))) := heap_alloc_new w _
  refine (cellAt_s cs _ key _ (HV.out.below B1) hl).mono ?_
  rintro e w2 ⟨rfl, rfl⟩
  have HB1 : Hid (Below w.heap.size w (w.alloc (.cells #[.string ByteArray.empty, .bool false, .int .i64 0] 128))) := B1
  clear B1
  cases hh : hasK cs key with
  | false =>
    have hca : cellAt cs key = -1 := cellAt_no hh
    have HE : Hid (undoC cs key = (key, false, 0)) := undo_no hh
    rw [hca]
    go_wp2
    refine bodyPost_ret (v := .agg #[.string key, .bool false, .int .i64 0]) (by simp [results, Tryz.results102, go_sem]) rfl ?_
    refine ⟨?_, ?_⟩
    · rw [HE.out]; rfl
    · exact ba (Below.refl _ _) _
  | true =>
    obtain ⟨j, hj, hca, hu⟩ := undo_at hh
    have HE : Hid (undoC cs key = (key, true, cs[j].2)) := hu
    rw [hca]
    clear hu hca
    obtain ⟨g, off, rfl, hg, hc⟩ := HR.out (by omega)
    have q0 : (0 : Int) ≤ (j : Int) := by omega
    have q1 : (j : Int) < cs.length := by omega
    have c1 : (w.alloc (.cells #[.string ByteArray.empty, .bool false, .int .i64 0] 128)).cell? ⟨g, off + j * 2 + 1, none⟩ = some (.int .i64 cs[j].2) := by rw [HB1.out.cell (by exact hg)]; exact (hc j hj).2
    clear hc
    go_wp2
    refine bodyPost_ret (v := .agg #[.string key, .bool true, .int .i64 cs[j].2]) (by simp [results, Tryz.results102, go_sem]) rfl ?_
    refine ⟨?_, ?_⟩
    · rw [HE.out]; rfl
    · exact ba (Below.refl _ _) _

set_option maxRecDepth 100000 in
set_option maxHeartbeats 2000000 in
theorem undone_s (cs : CL) (v : Value) (u : UN) (w : World) (hv : Cells w v cs) (hok : okL cs) (hk : (u.1.size : Int) ≤ 1048576) :
    Calls Tryz.prog 121 #[v, undoV u] w fun e w' => ∃ v', e = .returned v' ∧ w'.ownsRow w.heap.size 126 2 v' (undoneC cs u).length (flat (undoneC cs u)) ∧ Below w.heap.size w w' := by
  obtain ⟨key, had, num⟩ := u
  have hl := hok.1
  have HL : Hid (okL cs) := hok
  have HV : Hid (Cells w v cs) := hv
  obtain ⟨a, cap, rfl, hr⟩ := hv
  have HR : Hid (0 < cs.length → _) := hr
  clear hr hok
  simp only at hk
  unfold undoV
  go_enter Tryz.func121, Tryz.ntmps121
  go_wp2_with fail
  have B1 : Below w.heap.size w (w.alloc (Obj.cells #[Value.string key, Value.bool had, Value.int IntKind.i64 num] 128)) := ba (Below.refl _ _) _
  refine (cellsOk_s cs _ _ (HV.out.below B1) hl HL.out.2).mono ?_
  rintro e w2 ⟨rfl, hb2⟩
  have HB2 : Hid (Below w.heap.size w w2) := bt B1 hb2
  have k0 : w2.cell? ⟨w.heap.size, 0, none⟩ = some (.string key) := by rw [hb2.cell (by simp)]; simp
  have k1 : w2.cell? ⟨w.heap.size, 1, none⟩ = some (.bool had) := by rw [hb2.cell (by simp)]; simp
  have k2 : w2.cell? ⟨w.heap.size, 2, none⟩ = some (.int .i64 num) := by rw [hb2.cell (by simp)]; simp
  have hlt2 : w.heap.size < w2.heap.size := by have := hb2.size; simp at this; omega
  clear B1 hb2
  cases hcb : cellsB cs with
  | false =>
    have HE : Hid (undoneC cs (key, had, num) = cs) := undone_bad hcb
    have HV4 : Hid (Cells (w2.alloc (.cells #[] 126)) (.slice a cs.length cap) cs) := (HV.out.below HB2.out).below (ba (Below.refl _ _) _)
    have HO4 : Hid ((w2.alloc (.cells #[] 126)).ownsRow w2.heap.size 126 2 (.slice (some ⟨w2.heap.size, 0, none⟩) 0 0) ([] : CL).length (flat [])) := own_new w2 126 2
    go_wp2_with (at_builtin; refine wpList_append_cells _ rfl _ _ rfl w2.heap.size _ [] rfl HO4.out _ cs rfl HV4.out (by simp; omega) (by simp) ?_; intro v5 w5 hown5 hgrow5)
    have B5 : Below w2.heap.size w2 w5 := (ba (Below.refl _ _) _).grown hgrow5 (by simp) fun b hb => (HO4.out.lt b hb).1
    have HO5 : Hid (w5.ownsRow w2.heap.size 126 2 v5 cs.length (flat cs)) := (by simpa using hown5 : w5.ownsRow w2.heap.size 126 2 v5 cs.length (flat cs))
    clear hown5 hgrow5
    try go_wp2
    go_ret
    exact ⟨v5, rfl, by rw [HE.out]; exact own_base HO5.out HB2.out.size, bt HB2.out B5⟩
  | true =>
    have HCB : Hid (cellsB cs = true) := hcb
    clear hcb
    go_wp2_with fail
    refine (key_s key _ hk).mono ?_
    rintro e w2 ⟨rfl, rfl⟩
    cases hkb : keyB key with
    | false =>
      have HE : Hid (undoneC cs (key, had, num) = cs) := undone_not (by unfold undoB; simp only; rw [hkb]; rfl)
      have HV4 : Hid (Cells (w2.alloc (.cells #[] 126)) (.slice a cs.length cap) cs) := (HV.out.below HB2.out).below (ba (Below.refl _ _) _)
      have HO4 : Hid ((w2.alloc (.cells #[] 126)).ownsRow w2.heap.size 126 2 (.slice (some ⟨w2.heap.size, 0, none⟩) 0 0) ([] : CL).length (flat [])) := own_new w2 126 2
      go_wp2_with (at_builtin; refine wpList_append_cells _ rfl _ _ rfl w2.heap.size _ [] rfl HO4.out _ cs rfl HV4.out (by simp; omega) (by simp) ?_; intro v5 w5 hown5 hgrow5)
      have B5 : Below w2.heap.size w2 w5 := (ba (Below.refl _ _) _).grown hgrow5 (by simp) fun b hb => (HO4.out.lt b hb).1
      have HO5 : Hid (w5.ownsRow w2.heap.size 126 2 v5 cs.length (flat cs)) := (by simpa using hown5 : w5.ownsRow w2.heap.size 126 2 v5 cs.length (flat cs))
      clear hown5 hgrow5
      try go_wp2
      go_ret
      exact ⟨v5, rfl, by rw [HE.out]; exact own_base HO5.out HB2.out.size, bt HB2.out B5⟩
    | true =>
      go_wp2_with fail
      refine (in_any num 0 1000000000 _).mono ?_
      rintro e w2 ⟨rfl, rfl⟩
      cases hnb : inB num 0 1000000000 with
      | false =>
        have HE : Hid (undoneC cs (key, had, num) = cs) := undone_not (by unfold undoB numB; simp only; rw [hkb, hnb]; rfl)
        have HV4 : Hid (Cells (w2.alloc (.cells #[] 126)) (.slice a cs.length cap) cs) := (HV.out.below HB2.out).below (ba (Below.refl _ _) _)
        have HO4 : Hid ((w2.alloc (.cells #[] 126)).ownsRow w2.heap.size 126 2 (.slice (some ⟨w2.heap.size, 0, none⟩) 0 0) ([] : CL).length (flat [])) := own_new w2 126 2
        go_wp2_with (at_builtin; refine wpList_append_cells _ rfl _ _ rfl w2.heap.size _ [] rfl HO4.out _ cs rfl HV4.out (by simp; omega) (by simp) ?_; intro v5 w5 hown5 hgrow5)
        have B5 : Below w2.heap.size w2 w5 := (ba (Below.refl _ _) _).grown hgrow5 (by simp) fun b hb => (HO4.out.lt b hb).1
        have HO5 : Hid (w5.ownsRow w2.heap.size 126 2 v5 cs.length (flat cs)) := (by simpa using hown5 : w5.ownsRow w2.heap.size 126 2 v5 cs.length (flat cs))
        clear hown5 hgrow5
        try go_wp2
        go_ret
        exact ⟨v5, rfl, by rw [HE.out]; exact own_base HO5.out HB2.out.size, bt HB2.out B5⟩
      | true =>
        have HE : Hid (undoneC cs (key, had, num) = backC cs (key, had, num)) := undone_yes HCB.out (by unfold undoB numB; simp only; rw [hkb, hnb]; rfl)
        clear hkb hnb
        cases had with
        | true =>
          have HP : Hid (backC cs (key, true, num) = putC cs (key, num)) := back_true cs key num
          go_wp2_with fail
          refine (put_s cs _ (key, num) _ (HV.out.below HB2.out) hl).mono ?_
          rintro e w6 ⟨v6, rfl, hown6, hb6⟩
          have HO6 : Hid (w6.ownsRow _ 126 2 v6 _ _) := hown6
          clear hown6
          go_wp2
          go_ret
          exact ⟨v6, rfl, by rw [HE.out, HP.out]; exact own_base HO6.out HB2.out.size, bt HB2.out hb6⟩
        | false =>
          have HP : Hid (backC cs (key, false, num) = cs.filter fun c => decide (c.1 ≠ key)) := back_false cs key num
          have HC : Hid (∀ w', Below w2.heap.size w2 w' → w'.cell? ⟨w.heap.size, 0, none⟩ = some (.string key)) := fun w' hb => by rw [hb.cell (by exact hlt2)]; exact k0
          go_wp2
          clear k0 k2
          go_loopw [5, 6] (fun o i wr => ∃ k : Nat, k ≤ cs.length ∧ i = .int .i64 (k : Int) ∧ wr.ownsRow w2.heap.size 126 2 o ((cs.take k).filter fun c => decide (c.1 ≠ key)).length (flat ((cs.take k).filter fun c => decide (c.1 ≠ key))) ∧ Below w2.heap.size w2 wr) (fun _ i _ => cs.length - (intOf i).toNat)
          case atStart => exact ⟨0, Nat.zero_le _, rfl, own_new w2 126 2, ba (Below.refl _ _) _⟩
          case round =>
            obtain ⟨k, hkk, rfl, hown, hbel⟩ := hrel
            have HO : Hid (wr.ownsRow w2.heap.size 126 2 u5 ((cs.take k).filter fun c => decide (c.1 ≠ key)).length (flat ((cs.take k).filter fun c => decide (c.1 ≠ key)))) := hown
            have hfl := take_len (p := fun c => decide (c.1 ≠ key)) hkk
            clear hown
            by_cases hlt : (k : Int) < cs.length
            · have hkn : k < cs.length := by omega
              obtain ⟨g, off, rfl, hg, hc⟩ := HR.out (by omega)
              have q0 : (0 : Int) ≤ (k : Int) := by omega
              have hne := bw_some wr
              have c0 : ∀ x : Bw wr, x.to.cell? ⟨g, off + k * 2, none⟩ = some (.string cs[k].1) := fun x => by rw [(bt HB2.out (bt hbel x.below)).cell (by exact hg)]; exact (hc k hkn).1
              have c1 : ∀ x : Bw wr, x.to.cell? ⟨g, off + k * 2 + 1, none⟩ = some (.int .i64 cs[k].2) := fun x => by rw [(bt HB2.out (bt hbel x.below)).cell (by exact hg)]; exact (hc k hkn).2
              have c2 : ∀ x : Bw wr, x.to.cell? ⟨w.heap.size, 0, none⟩ = some (.string key) := fun x => HC.out _ (bt hbel x.below)
              clear hc
              by_cases hlb : cs[k].1 = key
              · have heq := ba_eq hlb
                have HT : Hid (((cs.take (k + 1)).filter fun c => decide (c.1 ≠ key)) = _) := take_no (p := fun c => decide (c.1 ≠ key)) hkn (by simp [hlb])
                clear hlb
                go_wp2
                refine wp_region_bw (by kernel_rfl) (by kernel_rfl) ?_
                repeat (go_big_quiet_step (fail))
                refine wpQuiet_nil ?_
                intro _ hw'
                obtain ⟨x, rfl⟩ := hw'
                go_wp2
                go_roundw
                case rel => exact ⟨k + 1, by omega, by go_num, by rw [HT.out]; exact own_kept HO.out x.below, bt hbel x.below⟩
                case measure => simp [intOf]; omega
              · have heq := ba_ne hlb
                have HT : Hid (((cs.take (k + 1)).filter fun c => decide (c.1 ≠ key)) = _) := take_yes (p := fun c => decide (c.1 ≠ key)) hkn (by simp [hlb])
                clear hlb
                go_wp2
                refine wp_region_bw (by kernel_rfl) (by kernel_rfl) ?_
                repeat (go_big_quiet_step (fail))
                refine wpQuiet_nil ?_
                intro _ hw'
                obtain ⟨x, rfl⟩ := hw'
                have hxs := (bt hbel x.below).size
                have HO1 : Hid (x.to.ownsRow w2.heap.size 126 2 _ ((cs.take k).filter fun c => decide (c.1 ≠ key)).length (flat ((cs.take k).filter fun c => decide (c.1 ≠ key)))) := own_kept HO.out x.below
                go_wp2_with (at_builtin; refine wpList_append_cells _ rfl _ _ rfl w2.heap.size _ ((cs.take k).filter fun c => decide (c.1 ≠ key)) rfl (World.ownsRow.alloc HO1.out _) _ [cs[k]] rfl (one_cell _ cs[k] _) (by simp only [List.length_singleton]; omega) (by simp; omega) ?_; intro v' w3 hown' hgrow)
                go_roundw
                case rel => exact ⟨k + 1, by omega, by go_num, by rw [HT.out]; exact hown', (ba (bt hbel x.below) _).grown hgrow (by simp; omega) fun b hb => (HO1.out.lt b hb).1⟩
                case measure => simp [intOf]; omega
            · have hkl : k = cs.length := by omega
              have HO1 : Hid (wr.ownsRow w2.heap.size 126 2 u5 (cs.filter fun c => decide (c.1 ≠ key)).length (flat (cs.filter fun c => decide (c.1 ≠ key)))) := by have := HO.out; rw [hkl, List.take_length] at this; exact this
              clear hkl HO hfl
              go_wp2
              go_ret
              exact ⟨_, rfl, by rw [HE.out, HP.out]; exact own_base HO1.out HB2.out.size, bt HB2.out hbel⟩

end Go.Proofs.YtnghhfgbobpnkarGreatR

namespace Go.Proofs.YtnghhfgbobpnkarGreatR
open Go.RowKit Num

set_option maxRecDepth 100000 in
set_option maxHeartbeats 2000000 in
theorem undoneAll_s (cs : CL) (us : List UN) (v u : Value) (w : World) (hv : Cells w v cs) (hu : RowsR w u 3 undoF us) (hok : okL cs) (hl : (us.length : Int) ≤ 1048576) (hall : ∀ x ∈ us, (x.1.size : Int) ≤ 1048576) :
    Calls Tryz.prog 80 #[v, u] w fun e w' => ∃ v', e = .returned v' ∧ w'.ownsRow w.heap.size 126 2 v' (undoneAllC cs us).length (flat (undoneAllC cs us)) ∧ Below w.heap.size w w' := by
  have HV : Hid (Cells w v cs) := hv
  have HL : Hid (okL cs) := hok
  have HA : Hid (∀ x ∈ us, (x.1.size : Int) ≤ 1048576) := hall
  have h1 := hok.1
  have HV0 : Hid (Cells (w.alloc (.cells #[] 126)) v cs) := hv.below (ba (Below.refl _ _) _)
  have HO0 : Hid ((w.alloc (.cells #[] 126)).ownsRow w.heap.size 126 2 (.slice (some ⟨w.heap.size, 0, none⟩) 0 0) ([] : CL).length (flat [])) := own_new w 126 2
  obtain ⟨a, cap, rfl, _⟩ := hv
  obtain ⟨b, bcap, rfl, hr⟩ := hu
  have HR : Hid (0 < us.length → _) := hr
  clear hall hr hok
  go_enter Tryz.func80, Tryz.ntmps80
  go_wp2_with (at_builtin; refine wpList_append_cells _ rfl _ _ rfl w.heap.size _ [] rfl HO0.out _ cs rfl HV0.out (by simp; omega) (by simp) ?_; intro v0 w0 hown0 hgrow0)
  have B0 : Below w.heap.size w w0 := (ba (Below.refl _ _) _).grown hgrow0 (by simp) fun b hb => (HO0.out.lt b hb).1
  have hs0 := B0.size
  have HO1 : Hid (w0.ownsRow w.heap.size 126 2 v0 cs.length (flat cs)) := (by simpa using hown0 : w0.ownsRow w.heap.size 126 2 v0 cs.length (flat cs))
  have HB0 : Hid (Below w.heap.size w w0) := B0
  clear hown0 hgrow0 HO0 HV0 B0
  go_loopw [5, 6] (fun o i wr => ∃ k : Nat, k ≤ us.length ∧ i = .int .i64 ((k : Int) - 1) ∧ wr.ownsRow w.heap.size 126 2 o (undoneAllC cs (us.drop k)).length (flat (undoneAllC cs (us.drop k))) ∧ Below w.heap.size w wr) (fun _ i _ => (intOf i + 1).toNat)
  case atStart => exact ⟨us.length, Nat.le_refl _, rfl, by rw [List.drop_length]; exact HO1.out, HB0.out⟩
  case round =>
    obtain ⟨k, hk, rfl, hown, hbel⟩ := hrel
    have HO : Hid (wr.ownsRow w.heap.size 126 2 u5 (undoneAllC cs (us.drop k)).length (flat (undoneAllC cs (us.drop k)))) := hown
    have HB : Hid (Below w.heap.size w wr) := hbel
    have hbs := hbel.size
    clear hown hbel
    cases k with
    | zero =>
      rw [show (((0 : Nat) : Int) - 1) = -1 from rfl]
      go_wp2
      go_ret
      exact ⟨_, rfl, HO.out, HB.out⟩
    | succ j =>
      rw [show (((j + 1 : Nat) : Int) - 1) = (j : Int) by omega]
      have hjn : j < us.length := by omega
      have q0 : (0 : Int) ≤ (j : Int) := by omega
      have q1 : (j : Int) < us.length := by omega
      obtain ⟨g, off, rfl, hg, hc⟩ := HR.out (by omega)
      have c0 : wr.cell? ⟨g, off + j * 3, none⟩ = some (.string us[j].1) := by rw [HB.out.cell (by exact hg)]; exact hc j hjn 0 (by omega)
      have c1 : wr.cell? ⟨g, off + j * 3 + 1, none⟩ = some (.bool us[j].2.1) := by rw [HB.out.cell (by exact hg)]; exact hc j hjn 1 (by omega)
      have c2 : wr.cell? ⟨g, off + j * 3 + 2, none⟩ = some (.int .i64 us[j].2.2) := by rw [HB.out.cell (by exact hg)]; exact hc j hjn 2 (by omega)
      have HK2 : Hid (okL (undoneAllC cs (us.drop (j + 1)))) := okL_undoneAll HL.out _ fun c hc => HA.out c (List.mem_of_mem_drop hc)
      have HS : Hid (undoneAllC cs (us.drop j) = undoneC (undoneAllC cs (us.drop (j + 1))) us[j]) := undoneAll_step hjn
      clear hc
      go_wp2_with fail
      refine (undone_s (undoneAllC cs (us.drop (j + 1))) _ us[j] wr (cells_of_own HO.out) HK2.out (HA.out _ (List.getElem_mem hjn))).mono ?_
      rintro e w2 ⟨v2, rfl, hown2, hb2⟩
      have HO2 : Hid (w2.ownsRow wr.heap.size 126 2 v2 _ _) := hown2
      have HB2 : Hid (Below w.heap.size w w2) := bt HB.out hb2
      clear hown2 hb2 c0 c1 c2
      go_wp2
      go_roundw
      case rel => exact ⟨j, by omega, rfl, by rw [HS.out]; exact own_base HO2.out hbs, HB2.out⟩
      case measure => simp [intOf]

end Go.Proofs.YtnghhfgbobpnkarGreatR

namespace Go.Proofs.YtnghhfgbobpnkarGreatR
open Go.RowKit Num

/-- the last of a row; 0 of an empty one -/
def lastI (l : List Int) : Int := l.getD (l.length - 1) 0
/-- what is too early taken back -/
def backP (p : PE) : PE := { p with cells := undoneAllC p.cells p.undos, early := [], undos := [] }

theorem okL_back {p : PE} (h : smallPe p) : okL (backP p).cells := okL_undoneAll ⟨h.cells, h.kcells⟩ p.undos h.kundos

theorem below_grownN {w w' : World} {r : Option Nat} (h : Below w.heap.size w w') : w.grownBy w' r := ⟨h.os, h.tape, h.output, h.size, fun k hk _ => h.block k hk⟩

set_option maxRecDepth 100000 in
theorem last_s (p : PE) (s : PV) (w : World) (hR : PeerR w p s) (hs : (p.row.length : Int) ≤ 1048576) :
    Calls Tryz.prog 33 #[peerV p s] w fun e w' => e = .returned (.int .i64 (lastI p.row)) ∧ Below w.heap.size w w' := by
  obtain ⟨a, cap, er, hr⟩ := hR.row
  have HR : Hid (0 < p.row.length → _) := hr
  have HK : Hid ((w.alloc (.cells (peerA p s) 43)).heap[w.heap.size]? = some (.cells (peerA p s) 43 (0, 0))) := heap_alloc_new w _
  have c14 := blk_cell HK.out 14 s.row rfl
  rw [er] at c14
  clear hr hR
  by_cases h0 : (p.row.length : Int) = 0
  · have b0 : ((p.row.length : Int) == 0) = true := by simpa using h0
    have HE : Hid (lastI p.row = 0) := (by unfold lastI; rw [List.eq_nil_of_length_eq_zero (show p.row.length = 0 by omega)]; rfl : lastI p.row = 0)
    go_enter Tryz.func33, Tryz.ntmps33
    go_wp2
    go_ret
    exact ⟨by rw [HE.out]; rfl, ba (Below.refl _ _) _⟩
  · have b0 : ((p.row.length : Int) == 0) = false := by simpa using h0
    have hm : p.row.length - 1 < p.row.length := by omega
    have HE : Hid (lastI p.row = p.row[p.row.length - 1]) := (by unfold lastI; simp [List.getD, hm] : lastI p.row = _)
    obtain ⟨g, off, rfl, hg, hc⟩ := HR.out (by omega)
    have q0 : (0 : Int) ≤ (p.row.length : Int) - 1 := by omega
    have q1 : (p.row.length : Int) - 1 < p.row.length := by omega
    have hcc : (w.alloc (.cells (peerA p s) 43)).cell? ⟨g, off + (p.row.length - 1), none⟩ = some (.int .i64 p.row[p.row.length - 1]) := by
      rw [((Below.refl w.heap.size w).alloc (Nat.le_refl _) _).cell (by exact hg)]
      have := hc (p.row.length - 1) hm 0 (by omega)
      simpa [intF] using this
    have hcd : ((p.row.length : Int) - 1).toNat = p.row.length - 1 := by omega
    clear hc hg HR
    go_enter Tryz.func33, Tryz.ntmps33
    go_wp2
    go_ret
    exact ⟨by rw [HE.out]; rfl, ba (Below.refl _ _) _⟩

set_option maxRecDepth 100000 in
set_option maxHeartbeats 4000000 in
theorem back_s (p : PE) (s : PV) (N lo hi : Nat) (w : World) (hD : OwnD lo hi w p s) (hN : w.heap[N]? = some (.cells (peerA p s) 43 (0, 0))) (hlo : lo ≤ w.heap.size) (hs : smallPe p) :
    Calls Tryz.prog 34 #[.pointer (some ⟨N, 0, none⟩)] w fun e w' => (∃ u, e = .returned u) ∧ w.grownBy w' (some N) ∧ ∃ s', w'.heap[N]? = some (.cells (peerA (backP p) s') 43 (0, 0)) ∧ OwnD lo w'.heap.size w' (backP p) s' := by
  have HD := hid hD
  have HN := hid hN
  have HS := hid hs
  clear hD hN hs
  go_enter Tryz.func34, Tryz.ntmps34
  go_wp2
  refine wp_region_P (fun i => i != 12) (fun x => x.heap[N]? = some (.cells (peerA p s) 43 (0, 0))) (by kernel_rfl) ?_
  show wpAnyP Tryz.prog _ _ _ _ _ (12 + 1) (Array.replicate 13 false) _ _
  have hS : w.drew.heap[N]? = some (.cells (peerA p s) 43 (0, 0)) := HN.out
  refine p_take (j := 0) (e' := some 2) (v := .pointer (some ⟨N, 0, none⟩)) rfl rfl (by kernel_rfl) (by kernel_rfl) (by kernel_rfl) (by kernel_rfl) (by kernel_rfl) (fun _ _ _ h => h) (Or.inl ⟨by rfl, ?_⟩) hS ?_
  · intro x hx
    go_simp
    try with_reducible rfl
  simp only [Act.put, List.setIfInBounds_toArray, List.set_cons_zero, List.set_cons_succ]
  refine p_take (j := 1) (e' := some 3) (v := .pointer (some ⟨N, 0, none⟩)) rfl rfl (by kernel_rfl) (by kernel_rfl) (by kernel_rfl) (by kernel_rfl) (by kernel_rfl) (fun _ _ _ h => h) (Or.inl ⟨by rfl, ?_⟩) hS ?_
  · intro x hx
    go_simp
    try with_reducible rfl
  simp only [Act.put, List.setIfInBounds_toArray, List.set_cons_zero, List.set_cons_succ]
  refine p_take (j := 2) (e' := some 4) (v := .pointer (some ⟨N, 0, none⟩)) rfl rfl (by kernel_rfl) (by kernel_rfl) (by kernel_rfl) (by kernel_rfl) (by kernel_rfl) (fun _ _ _ h => h) (Or.inl ⟨by rfl, ?_⟩) hS ?_
  · intro x hx
    go_simp
    try with_reducible rfl
  simp only [Act.put, List.setIfInBounds_toArray, List.set_cons_zero, List.set_cons_succ]
  refine p_take (j := 3) (e' := some 5) (v := .pointer (some ⟨N, 15, none⟩)) rfl rfl (by kernel_rfl) (by kernel_rfl) (by kernel_rfl) (by kernel_rfl) (by kernel_rfl) (fun _ _ _ h => h) (Or.inl ⟨by rfl, ?_⟩) hS ?_
  · intro x hx
    go_simp
    try with_reducible rfl
  simp only [Act.put, List.setIfInBounds_toArray, List.set_cons_zero, List.set_cons_succ]
  refine p_take (j := 4) (e' := some 6) (v := s.cells) rfl rfl (by kernel_rfl) (by kernel_rfl) (by kernel_rfl) (by kernel_rfl) (by kernel_rfl) (fun _ _ _ h => h) (Or.inl ⟨by rfl, ?_⟩) hS ?_
  · intro x hx
    have c := blk_cell hx 15 s.cells rfl
    go_simp
    try with_reducible rfl
  simp only [Act.put, List.setIfInBounds_toArray, List.set_cons_zero, List.set_cons_succ]
  refine p_take (j := 5) (e' := some 7) (v := .pointer (some ⟨N, 0, none⟩)) rfl rfl (by kernel_rfl) (by kernel_rfl) (by kernel_rfl) (by kernel_rfl) (by kernel_rfl) (fun _ _ _ h => h) (Or.inl ⟨by rfl, ?_⟩) hS ?_
  · intro x hx
    go_simp
    try with_reducible rfl
  simp only [Act.put, List.setIfInBounds_toArray, List.set_cons_zero, List.set_cons_succ]
  refine p_take (j := 6) (e' := some 8) (v := .pointer (some ⟨N, 0, none⟩)) rfl rfl (by kernel_rfl) (by kernel_rfl) (by kernel_rfl) (by kernel_rfl) (by kernel_rfl) (fun _ _ _ h => h) (Or.inl ⟨by rfl, ?_⟩) hS ?_
  · intro x hx
    go_simp
    try with_reducible rfl
  simp only [Act.put, List.setIfInBounds_toArray, List.set_cons_zero, List.set_cons_succ]
  refine p_take (j := 7) (e' := some 9) (v := .pointer (some ⟨N, 17, none⟩)) rfl rfl (by kernel_rfl) (by kernel_rfl) (by kernel_rfl) (by kernel_rfl) (by kernel_rfl) (fun _ _ _ h => h) (Or.inl ⟨by rfl, ?_⟩) hS ?_
  · intro x hx
    go_simp
    try with_reducible rfl
  simp only [Act.put, List.setIfInBounds_toArray, List.set_cons_zero, List.set_cons_succ]
  refine p_take (j := 8) (e' := some 10) (v := s.undos) rfl rfl (by kernel_rfl) (by kernel_rfl) (by kernel_rfl) (by kernel_rfl) (by kernel_rfl) (fun _ _ _ h => h) (Or.inl ⟨by rfl, ?_⟩) hS ?_
  · intro x hx
    have c := blk_cell hx 17 s.undos rfl
    go_simp
    try with_reducible rfl
  simp only [Act.put, List.setIfInBounds_toArray, List.set_cons_zero, List.set_cons_succ]
  have hlt : N < w.heap.size := (Array.getElem?_eq_some_iff.1 HN.out).1
  refine p_call (s := 9) (e' := some 11) (fn := 80) (args := #[s.cells, s.undos]) rfl rfl (by kernel_rfl) (by rfl) ?_ ((undoneAll_s p.cells p.undos s.cells s.undos w.drew (HD.out.reads.cells.below (Below.refl _ _).drew) (HD.out.reads.undos.below (Below.refl _ _).drew) ⟨HS.out.cells, HS.out.kcells⟩ HS.out.undos HS.out.kundos).mono ?_)
  · go_simp
    try with_reducible rfl
  rintro e x1 ⟨v1, rfl, ho, hb0⟩
  have hb : Below w.heap.size w x1 := ((Below.refl _ _).drew).trans hb0
  have HB1 := hid hb
  have HO1 : Hid (x1.ownsRow w.heap.size 126 2 v1 (undoneAllC p.cells p.undos).length (flat (undoneAllC p.cells p.undos))) := ho
  have HD1 : Hid (OwnD lo hi x1 p s) := HD.out.below hb
  have hS1 : x1.heap[N]? = some (.cells (peerA p s) 43 (0, 0)) := (hb.block _ hlt).trans HN.out
  clear ho hb hb0 hS
  refine ⟨_, rfl, fun _ => hS1, ?_⟩
  simp only [Act.put, List.setIfInBounds_toArray, List.set_cons_zero, List.set_cons_succ]
  refine p_take (j := 10) (e' := some 12) (v := .pointer (some ⟨N, 0, none⟩)) rfl rfl (by kernel_rfl) (by kernel_rfl) (by kernel_rfl) (by kernel_rfl) (by kernel_rfl) (fun _ _ _ h => h) (Or.inl ⟨by rfl, ?_⟩) hS1 ?_
  · intro x hx
    go_simp
    try with_reducible rfl
  simp only [Act.put, List.setIfInBounds_toArray, List.set_cons_zero, List.set_cons_succ]
  refine p_take (j := 11) (e' := some 13) (v := .pointer (some ⟨N, 15, none⟩)) rfl rfl (by kernel_rfl) (by kernel_rfl) (by kernel_rfl) (by kernel_rfl) (by kernel_rfl) (fun _ _ _ h => h) (Or.inl ⟨by rfl, ?_⟩) hS1 ?_
  · intro x hx
    go_simp
    try with_reducible rfl
  simp only [Act.put, List.setIfInBounds_toArray, List.set_cons_zero, List.set_cons_succ]
  refine p_cell (s := 12) (N := N) (o := 15) (u := v1) (old := peerA p s) (new := peerA { p with cells := undoneAllC p.cells p.undos } { s with cells := v1 }) rfl rfl rfl rfl (by kernel_rfl) rfl rfl hS1 (by kernel_rfl) (by simp [peerA]) (own_one HO1.out) rfl ?_
  intro x2 hg hk
  have HS2 : Hid (x2.heap[N]? = some (.cells (peerA { p with cells := undoneAllC p.cells p.undos } { s with cells := v1 }) 43 (0, 0))) := hk
  have HG2 : Hid (w.grownBy x2 (some N)) := grown_trans (below_grownN HB1.out) hg
  have HD2 : Hid (OwnD lo x2.heap.size x2 { p with cells := undoneAllC p.cells p.undos } { s with cells := v1 }) := ((HD1.out.boxed hS1 hg).setCells (Nat.le_trans HD.out.2.2 (Nat.le_trans HB1.out.size hg.size)) (Nat.le_refl _) (own_base (World.ownsRow.kept HO1.out hg (row_not_box HO1.out hS1 (by decide))) hlo) (fun g e => Nat.lt_of_lt_of_le (HO1.out.lt g e).2 hg.size) (fun g e => Or.inr (Nat.le_trans HD.out.2.2 (HO1.out.lt g e).1)))
  refine ⟨fun h => (by cases h), ?_⟩
  refine wpAnyP_done (by kernel_rfl) ?_ _
  clear hg hk HO1 HD1 hS1
  obtain ⟨q1, hq1⟩ : ∃ q1 : PE, q1 = { p with cells := undoneAllC p.cells p.undos } := ⟨_, rfl⟩
  obtain ⟨t1, ht1⟩ : ∃ t1 : PV, t1 = { s with cells := v1 } := ⟨_, rfl⟩
  rw [← hq1, ← ht1] at HS2 HD2
  have HQ1 : Hid (backP p = { q1 with early := [], undos := [] }) := (by rw [hq1]; rfl : backP p = _)
  clear hq1 ht1
  go_wp2_with (first
    | (refine wpList_store_cell rfl _ _ _ rfl N 16 (.slice (some ⟨x2.heap.size, 0, none⟩) 0 0) rfl rfl _ _ ((((Below.refl x2.heap.size x2).alloc (Nat.le_refl _) (.cells #[] 3)).block _ (Array.getElem?_eq_some_iff.1 HS2.out).1).trans HS2.out) (by kernel_rfl) (by simp [peerA]) rfl (peerA q1 { t1 with early := .slice (some ⟨x2.heap.size, 0, none⟩) 0 0 }) rfl ?_; intro x3 hg hk; have HG3 : Hid (w.grownBy x3 (some N)) := grown_trans HG2.out (grown_trans (below_grownN ((Below.refl x2.heap.size x2).alloc (Nat.le_refl _) _)) hg); have hbx : (x2.alloc (.cells #[] 3)).heap[N]? = Option.some (.cells (peerA q1 t1) 43 (0, 0)) := (((Below.refl x2.heap.size x2).alloc (Nat.le_refl _) (.cells #[] 3)).block _ (Array.getElem?_eq_some_iff.1 HS2.out).1).trans HS2.out; have HS3 : Hid (x3.heap[N]? = Option.some (.cells (peerA { q1 with early := [] } { t1 with early := .slice (some ⟨x2.heap.size, 0, none⟩) 0 0 }) 43 (0, 0))) := hk; have HD3 : Hid (OwnD lo x3.heap.size x3 { q1 with early := [] } { t1 with early := .slice (some ⟨x2.heap.size, 0, none⟩) 0 0 }) := OwnD.setEarly (l := []) ((HD2.out.below ((Below.refl x2.heap.size x2).alloc (Nat.le_refl _) _)).boxed hbx hg) (Nat.le_trans (by simp) hg.size) (Nat.le_refl _) (own_base (World.ownsRow.kept (own_new x2 3 1) hg (row_not_box (own_new x2 3 1) hbx (by decide))) (by have := HG2.out.size; omega)) (fun g e => by cases e; exact Nat.lt_of_lt_of_le (by simp) hg.size) (fun g e => by cases e; exact Or.inr (Nat.le_refl _)); clear hg hk hbx HS2 HD2 HG2)
    | (refine wpList_store_cell rfl _ _ _ rfl N 17 (.slice (some ⟨x3.heap.size, 0, none⟩) 0 0) rfl rfl _ _ ((((Below.refl x3.heap.size x3).alloc (Nat.le_refl _) (.cells #[] 128)).block _ (Array.getElem?_eq_some_iff.1 HS3.out).1).trans HS3.out) (by kernel_rfl) (by simp [peerA]) rfl (peerA { q1 with early := [] } { t1 with early := .slice (some ⟨x2.heap.size, 0, none⟩) 0 0, undos := .slice (some ⟨x3.heap.size, 0, none⟩) 0 0 }) rfl ?_; intro x4 hg hk; have HG4 : Hid (w.grownBy x4 (some N)) := grown_trans HG3.out (grown_trans (below_grownN ((Below.refl x3.heap.size x3).alloc (Nat.le_refl _) _)) hg); have hbx : (x3.alloc (.cells #[] 128)).heap[N]? = Option.some (.cells (peerA { q1 with early := [] } { t1 with early := .slice (some ⟨x2.heap.size, 0, none⟩) 0 0 }) 43 (0, 0)) := (((Below.refl x3.heap.size x3).alloc (Nat.le_refl _) (.cells #[] 128)).block _ (Array.getElem?_eq_some_iff.1 HS3.out).1).trans HS3.out; have HS4 : Hid (x4.heap[N]? = Option.some (.cells (peerA { q1 with early := [], undos := [] } { t1 with early := .slice (some ⟨x2.heap.size, 0, none⟩) 0 0, undos := .slice (some ⟨x3.heap.size, 0, none⟩) 0 0 }) 43 (0, 0))) := hk; have HD4 : Hid (OwnD lo x4.heap.size x4 { q1 with early := [], undos := [] } { t1 with early := .slice (some ⟨x2.heap.size, 0, none⟩) 0 0, undos := .slice (some ⟨x3.heap.size, 0, none⟩) 0 0 }) := OwnD.setUndos (l := []) ((HD3.out.below ((Below.refl x3.heap.size x3).alloc (Nat.le_refl _) _)).boxed hbx hg) (Nat.le_trans (by simp) hg.size) (Nat.le_refl _) (own_base (World.ownsRow.kept (own_new x3 128 3) hg (row_not_box (own_new x3 128 3) hbx (by decide))) (by have := HG3.out.size; omega)) (fun g e => by cases e; exact Nat.lt_of_lt_of_le (by simp) hg.size) (fun g e => by cases e; exact Or.inr (Nat.le_refl _)); clear hg hk hbx HS3 HD3 HG3))
  refine bodyPost_end (results_none Tryz.results34 _ _ _) rfl ?_
  rw [HQ1.out]
  exact ⟨⟨_, rfl⟩, HG4.out, _, HS4.out, HD4.out⟩

end Go.Proofs.YtnghhfgbobpnkarGreatR

namespace Go.Proofs.YtnghhfgbobpnkarGreatR
open Go.RowKit Num

/-- the Parent of the block at a place -/
def parAt (t : List BK) (k : Nat) : Int := (t[k]?.getD firstB).1.1
theorem parAt_at {t : List BK} {k : Nat} (h : k < t.length) : parAt t k = t[k].1.1 := by unfold parAt; rw [List.getElem?_eq_getElem h]; rfl

/-- the places from a block down to the first one, the block itself first, the first one left out; nothing where a Parent on the way is not ahead of its own. The number bounds the steps. -/
def downN (t : List BK) : Nat → Nat → Option (List Nat)
  | _, 0 => some []
  | 0, _ + 1 => none
  | n + 1, k + 1 => if k + 1 < t.length ∧ 0 ≤ parAt t (k + 1) ∧ parAt t (k + 1) ≤ (k : Int) then (downN t n (parAt t (k + 1)).toNat).map ((k + 1) :: ·) else none
/-- the way down from a place -/
def down (t : List BK) (k : Int) : Option (List Nat) := if 0 ≤ k ∧ k < (t.length : Int) then downN t t.length k.toNat else none

theorem downN_more (t : List BK) : ∀ (n m k : Nat), k ≤ n → n ≤ m → downN t n k = downN t m k
  | n, m, 0, _, _ => by cases n <;> cases m <;> rfl
  | 0, _, k + 1, h, _ => by omega
  | n + 1, 0, k + 1, _, h => by omega
  | n + 1, m + 1, k + 1, h, h2 => by
    unfold downN
    split
    · rename_i hc
      rw [downN_more t n m _ (by omega) (by omega)]
    · rfl
theorem downN_at (t : List BK) (n k : Nat) (hk : k + 1 ≤ n) : downN t n (k + 1) = if k + 1 < t.length ∧ 0 ≤ parAt t (k + 1) ∧ parAt t (k + 1) ≤ (k : Int) then (downN t n (parAt t (k + 1)).toNat).map ((k + 1) :: ·) else none := by
  cases n with
  | zero => omega
  | succ n =>
    rw [downN]
    split
    · rename_i hc
      rw [downN_more t n (n + 1) _ (by omega) (by omega)]
    · rfl

/-- how high a block stands; -1 where it does not -/
def heightT (t : List BK) (k : Int) : Int := match down t k with
  | some l => (l.length : Int)
  | none => -1
/-- the row to a block -/
def rowT (t : List BK) (k : Int) : List Nat := match down t k with
  | some l => l.reverse
  | none => []
/-- whether it is under, or stands on it -/
def extT (t : List BK) (k under : Int) : Bool := match down t k with
  | some l => decide (under = 0) || l.any fun x => decide ((x : Int) = under)
  | none => false
def clashT (t : List BK) (a b : Int) : Bool := (down t a).isSome && ((down t b).isSome && (!extT t a b && !extT t b a))
def afterT (t : List BK) (k under : Int) : List Nat := if extT t k under = true then (rowT t k).filter fun x => decide (under < (x : Int)) else []
def beginB (a b : List Int) : Bool := (a.zip b).all fun p => decide (p.1 = p.2)

/-- a block on the way: its place above 0, its Parent ahead of it -/
def okAtT (t : List BK) (k : Nat) : Prop := 0 < k ∧ k < t.length ∧ 0 ≤ parAt t k ∧ parAt t k ≤ (k : Int) - 1
theorem down_zero {t : List BK} (h : 0 < t.length) : down t 0 = some [] := by
  unfold down
  rw [if_pos ⟨by omega, by omega⟩]
  cases t.length <;> rfl
theorem down_step {t : List BK} {k : Nat} (h : okAtT t k) : down t (k : Int) = (down t (parAt t k)).map (k :: ·) := by
  obtain ⟨h0, h1, h2, h3⟩ := h
  obtain ⟨j, rfl⟩ : ∃ j, k = j + 1 := ⟨k - 1, by omega⟩
  unfold down
  rw [if_pos ⟨by omega, by omega⟩, if_pos ⟨h2, by omega⟩, show ((j + 1 : Nat) : Int).toNat = j + 1 by omega, downN_at t t.length j (by omega), if_pos ⟨h1, h2, by omega⟩]
theorem down_bad {t : List BK} {k : Nat} (h0 : 0 < k) (h : ¬ okAtT t k) : down t (k : Int) = none := by
  obtain ⟨j, rfl⟩ : ∃ j, k = j + 1 := ⟨k - 1, by omega⟩
  unfold down
  by_cases h1 : (0 : Int) ≤ ((j + 1 : Nat) : Int) ∧ ((j + 1 : Nat) : Int) < (t.length : Int)
  · rw [if_pos h1, show ((j + 1 : Nat) : Int).toNat = j + 1 by omega, downN_at t t.length j (by omega), if_neg (fun hc => h ⟨h0, hc.1, hc.2.1, by omega⟩)]
  · rw [if_neg h1]
theorem down_out {t : List BK} {k : Int} (h : ¬ (0 ≤ k ∧ k < (t.length : Int))) : down t k = none := if_neg h

/-- n steps taken, k the place where they led -/
def heightN (t : List BK) (k : Int) (n : Nat) : Int := match down t k with
  | some l => (n : Int) + (l.length : Int)
  | none => -1
theorem heightT_N (t : List BK) (k : Int) : heightT t k = heightN t k 0 := by unfold heightT heightN; cases down t k <;> simp
theorem heightN_step {t : List BK} {k n : Nat} (h : okAtT t k) : heightN t (k : Int) n = heightN t (parAt t k) (n + 1) := by
  unfold heightN
  rw [down_step h]
  cases down t (parAt t k) with
  | none => rfl
  | some l => simp; omega
theorem heightN_bad {t : List BK} {k n : Nat} (h0 : 0 < k) (h : ¬ okAtT t k) : heightN t (k : Int) n = -1 := by unfold heightN; rw [down_bad h0 h]
theorem heightN_out {t : List BK} {k : Int} {n : Nat} (h : ¬ (0 ≤ k ∧ k < (t.length : Int))) : heightN t k n = -1 := by unfold heightN; rw [down_out h]
theorem heightN_zero {t : List BK} {n : Nat} (h : 0 < t.length) : heightN t 0 n = (n : Int) := by unfold heightN; rw [down_zero h]; simp
theorem heightN_none {t : List BK} {n : Nat} (h : t.length = 0) : heightN t 0 n = -1 := heightN_out (by omega)

theorem down_some {t : List BK} {k : Nat} {l : List Nat} (h0 : 0 < k) (h : down t (k : Int) = some l) : okAtT t k ∧ ∃ l', down t (parAt t k) = some l' ∧ l = k :: l' := by
  by_cases hk : okAtT t k
  · rw [down_step hk] at h
    cases hp : down t (parAt t k) with
    | none => rw [hp] at h; cases h
    | some l' =>
      rw [hp] at h
      exact ⟨hk, l', rfl, (Option.some.inj h).symm⟩
  · rw [down_bad h0 hk] at h; cases h
theorem down_range {t : List BK} {k : Int} {l : List Nat} (h : down t k = some l) : 0 ≤ k ∧ k < (t.length : Int) := by
  by_cases hk : 0 ≤ k ∧ k < (t.length : Int)
  · exact hk
  · rw [down_out hk] at h; cases h
theorem heightT_none {t : List BK} {k : Int} (h : down t k = none) : heightT t k = -1 := by unfold heightT; rw [h]
theorem heightT_some {t : List BK} {k : Int} {l : List Nat} (h : down t k = some l) : heightT t k = (l.length : Int) := by unfold heightT; rw [h]

/-- whether under is met on the rest of the way -/
def extL (l : List Nat) (under : Int) : Bool := decide (under = 0) || l.any fun x => decide ((x : Int) = under)
theorem extT_some {t : List BK} {k under : Int} {l : List Nat} (h : down t k = some l) : extT t k under = extL l under := by unfold extT; rw [h]; rfl
theorem extT_none {t : List BK} {k under : Int} (h : down t k = none) : extT t k under = false := by unfold extT; rw [h]
theorem extL_nil (under : Int) : extL [] under = decide (under = 0) := by simp [extL]
theorem extL_hit {x : Nat} {l : List Nat} {under : Int} (h : (x : Int) = under) : extL (x :: l) under = true := by simp [extL, h]
theorem extL_miss {x : Nat} {l : List Nat} {under : Int} (h : ¬ (x : Int) = under) : extL (x :: l) under = extL l under := by simp [extL, h]

/-- as far as place i both are the same -/
def sameUp (a b : List Int) (i : Nat) : Prop := ∀ j (h : j < a.length) (h' : j < b.length), j < i → a[j] = b[j]
theorem beginB_no {a b : List Int} {i : Nat} (h : i < a.length) (h' : i < b.length) (hn : a[i] ≠ b[i]) : beginB a b = false := by
  unfold beginB
  refine List.all_eq_false.2 ⟨(a[i], b[i]), ?_, by simpa using hn⟩
  rw [List.mem_iff_getElem]
  exact ⟨i, by rw [List.length_zip]; omega, by rw [List.getElem_zip]⟩
theorem beginB_yes {a b : List Int} {i : Nat} (h : sameUp a b i) (hi : a.length ≤ i ∨ b.length ≤ i) : beginB a b = true := by
  unfold beginB
  refine List.all_eq_true.2 fun p hp => ?_
  obtain ⟨j, hj, rfl⟩ := List.mem_iff_getElem.1 hp
  rw [List.length_zip] at hj
  rw [List.getElem_zip]
  simpa using h j (by omega) (by omega) (by omega)

/-- places as numbers -/
def intsN (l : List Nat) : List Int := l.map fun x : Nat => (x : Int)
theorem intsN_len (l : List Nat) : (intsN l).length = l.length := by simp [intsN]
theorem intsN_cons (x : Nat) (l : List Nat) : intsN (x :: l) = (x : Int) :: intsN l := rfl
def rowI (t : List BK) (k : Int) : List Int := intsN (rowT t k)
theorem rowI_none {t : List BK} {k : Int} (h : down t k = none) : rowI t k = [] := by unfold rowI rowT; rw [h]; rfl
theorem rowI_some {t : List BK} {k : Int} {l : List Nat} (h : down t k = some l) : rowI t k = intsN l.reverse := by unfold rowI rowT; rw [h]
theorem downN_len (t : List BK) : ∀ (n k : Nat) (l : List Nat), downN t n k = some l → l.length ≤ n
  | n, 0, l, h => by cases n <;> (simp [downN] at h; subst h; simp)
  | 0, _ + 1, _, h => by cases h
  | n + 1, k + 1, l, h => by
    rw [downN] at h
    split at h
    · cases hd : downN t n (parAt t (k + 1)).toNat with
      | none => rw [hd] at h; cases h
      | some l' =>
        rw [hd] at h
        obtain rfl := (Option.some.inj h).symm
        have := downN_len t n _ l' hd
        simp; omega
    · cases h
theorem down_len {t : List BK} {k : Int} {l : List Nat} (h : down t k = some l) : l.length ≤ t.length := by
  unfold down at h
  split at h
  · exact downN_len t _ _ l h
  · cases h

end Go.Proofs.YtnghhfgbobpnkarGreatR

namespace Go.Proofs.YtnghhfgbobpnkarGreatR
open Go.RowKit Num

theorem numOk_i (n : Int) (w : World) : Calls Tryz.prog 132 #[.int .i64 n] w fun e w' => e = .returned (.bool (numB n)) ∧ w' = w := by
  by_cases h1 : 0 ≤ n
  · by_cases h2 : n ≤ 1000000000
    · rw [numB, inB_yes ⟨h1, h2⟩]
      go_enter Tryz.func132, Tryz.ntmps132
      go_wp2
      go_ret
      exact ⟨rfl, rfl⟩
    · rw [numB, inB_no (by omega)]
      go_enter Tryz.func132, Tryz.ntmps132
      go_wp2
      go_ret
      exact ⟨rfl, rfl⟩
  · rw [numB, inB_no (by omega)]
    go_enter Tryz.func132, Tryz.ntmps132
    go_wp2
    go_ret
    exact ⟨rfl, rfl⟩

theorem keyB_len {k : ByteArray} (h : ¬ (1 ≤ (k.size : Int) ∧ (k.size : Int) ≤ 3)) : keyB k = false := by
  unfold keyB; rw [inB_no h, Bool.and_false]
theorem keyB_yes {k : ByteArray} (h : keyTo k k.size) (h2 : 1 ≤ (k.size : Int) ∧ (k.size : Int) ≤ 3) : keyB k = true := by
  rw [keyB_all h, inB_yes h2]

theorem ba_none {k : ByteArray} (h : k.size = 0) : k = ByteArray.empty := by
  apply ByteArray.ext
  have : k.data.size = 0 := h
  exact Array.eq_empty_of_size_eq_zero this

set_option maxHeartbeats 1000000 in
theorem key_i (k : ByteArray) (w : World) (hk : (k.size : Int) ≤ 1048576) :
    Calls Tryz.prog 131 #[.string k] w fun e w' => e = .returned (.bool (keyB k)) ∧ w' = w := by
  by_cases h0 : k.size = 0
  · obtain rfl := ba_none h0
    have e : keyB ByteArray.empty = false := keyB_len (by simp)
    rw [e]
    go_enter Tryz.func131, Tryz.ntmps131
    go_wp2
    go_ret
    exact ⟨rfl, rfl⟩
  · have hn1 : ¬ k.toList = [] := fun e => h0 (by
      have : k.data.toList.length = 0 := by rw [← ByteArray.toList_eq, e]; rfl
      simpa using this)
    have hn2 : k.toList.isEmpty = false := by cases h : k.toList with
      | nil => exact absurd h hn1
      | cons _ _ => rfl
    by_cases h3 : 3 < (k.size : Int)
    · rw [keyB_len (by omega)]
      go_enter Tryz.func131, Tryz.ntmps131
      go_wp2
      go_ret
      exact ⟨rfl, rfl⟩
    · go_enter Tryz.func131, Tryz.ntmps131
      go_wp2
      go_loop [13] (fun i => ∃ j : Nat, j ≤ k.size ∧ i = .int .i64 (j : Int) ∧ Hid (keyTo k j)) (fun i => k.size - (intOf i).toNat)
      case atStart => exact ⟨0, Nat.zero_le _, rfl, fun j _ h => by omega⟩
      case round =>
        obtain ⟨j, hj, rfl, HK⟩ := hrel
        by_cases hlt : (j : Int) < k.size
        · have hjn : j < k.size := by omega
          have hb := byte_le k[j]
          have q0 : (0 : Int) ≤ (j : Int) := by omega
          by_cases h1 : (k[j].toNat : Int) < 97
          · go_wp2
            go_ret
            exact ⟨ret_bool (keyB_no hjn (by omega)).symm, rfl⟩
          · by_cases h2 : 122 < (k[j].toNat : Int)
            · go_wp2
              go_ret
              exact ⟨ret_bool (keyB_no hjn (by omega)).symm, rfl⟩
            · have HN : Hid (keyTo k (j + 1)) := fun i hi hij => by
                by_cases e : i = j
                · subst e; omega
                · exact HK.out i hi (by omega)
              go_wp2
              go_round
              case rel => exact ⟨j + 1, by omega, by go_num, HN.out⟩
              case measure => simp [intOf]; omega
        · have hjn : j = k.size := by omega
          have HJ : Hid (j = k.size) := hjn
          clear hjn
          go_wp2
          go_ret
          have hkt := HK.out
          rw [HJ.out] at hkt
          exact ⟨ret_bool (keyB_yes hkt (by omega)).symm, rfl⟩

end Go.Proofs.YtnghhfgbobpnkarGreatR

namespace Go.Proofs.YtnghhfgbobpnkarGreatR
open Go.RowKit Num

/-- a command as a value -/
def cmdV (c : CM) : Value := .agg #[.int .i64 c.1, .string c.2.1, .int .i64 c.2.2]

theorem cmdB_kind {c : CM} (h : ¬ (1 ≤ c.1 ∧ c.1 ≤ 3)) : cmdB c = false := by unfold cmdB; rw [inB_no h]; rfl
theorem cmdB_key {c : CM} (h : keyB c.2.1 = false) : cmdB c = false := by unfold cmdB; rw [h, Bool.false_and, Bool.and_false]
theorem cmdB_rest {c : CM} (h : 1 ≤ c.1 ∧ c.1 ≤ 3) (h2 : keyB c.2.1 = true) : cmdB c = numB c.2.2 := by unfold cmdB; rw [inB_yes h, h2]; rfl

set_option maxHeartbeats 1000000 in
theorem cmd_i (c : CM) (w : World) (hk : (c.2.1.size : Int) ≤ 1048576) :
    Calls Tryz.prog 133 #[cmdV c] w fun e w' => e = .returned (.bool (cmdB c)) ∧ Below w.heap.size w w' := by
  obtain ⟨kd, k, n⟩ := c
  simp only [cmdV] at hk ⊢
  by_cases h1 : 1 ≤ kd
  · by_cases h2 : kd ≤ 3
    · cases hkb : keyB k with
      | false =>
        rw [cmdB_key hkb]
        go_enter Tryz.func133, Tryz.ntmps133
        go_wp2_with (first
          | (go_at_call 131; refine (key_i _ _ hk).mono ?_; rintro e w' ⟨rfl, rfl⟩; rw [hkb])
          | (go_at_call 132; refine (numOk_i _ _).mono ?_; rintro e w' ⟨rfl, rfl⟩))
        go_ret
        exact ⟨rfl, ba (Below.refl _ _) _⟩
      | true =>
        rw [cmdB_rest ⟨h1, h2⟩ hkb]
        go_enter Tryz.func133, Tryz.ntmps133
        go_wp2_with (first
          | (go_at_call 131; refine (key_i _ _ hk).mono ?_; rintro e w' ⟨rfl, rfl⟩; rw [hkb])
          | (go_at_call 132; refine (numOk_i _ _).mono ?_; rintro e w' ⟨rfl, rfl⟩))
        go_ret
        exact ⟨rfl, ba (Below.refl _ _) _⟩
    · rw [cmdB_kind (by simp only; omega)]
      go_enter Tryz.func133, Tryz.ntmps133
      go_wp2
      go_ret
      exact ⟨rfl, ba (Below.refl _ _) _⟩
  · rw [cmdB_kind (by simp only; omega)]
    go_enter Tryz.func133, Tryz.ntmps133
    go_wp2
    go_ret
    exact ⟨rfl, ba (Below.refl _ _) _⟩

set_option maxHeartbeats 1000000 in
theorem cmd_s (c : CM) (w : World) (hk : (c.2.1.size : Int) ≤ 1048576) :
    Calls Tryz.prog 123 #[cmdV c] w fun e w' => e = .returned (.bool (cmdB c)) ∧ Below w.heap.size w w' := by
  obtain ⟨kd, k, n⟩ := c
  simp only [cmdV] at hk ⊢
  by_cases h : 1 ≤ kd ∧ kd ≤ 3
  · have hi := inB_yes h
    cases hkb : keyB k with
    | false =>
      rw [cmdB_key hkb]
      go_enter Tryz.func123, Tryz.ntmps123
      go_wp2_with (first
        | (go_at_call 157; refine (key_s _ _ hk).mono ?_; rintro e w' ⟨rfl, rfl⟩; rw [hkb])
        | (go_at_call 105; refine (in_any _ _ _ _).mono ?_; rintro e w' ⟨rfl, rfl⟩; try rw [hi]))
      go_ret
      exact ⟨rfl, ba (Below.refl _ _) _⟩
    | true =>
      rw [cmdB_rest h hkb]
      go_enter Tryz.func123, Tryz.ntmps123
      go_wp2_with (first
        | (go_at_call 157; refine (key_s _ _ hk).mono ?_; rintro e w' ⟨rfl, rfl⟩; rw [hkb])
        | (go_at_call 105; refine (in_any _ _ _ _).mono ?_; rintro e w' ⟨rfl, rfl⟩; try rw [hi]))
      go_ret
      exact ⟨rfl, ba (Below.refl _ _) _⟩
  · have hi := inB_no h
    rw [cmdB_kind h]
    go_enter Tryz.func123, Tryz.ntmps123
    go_wp2_with (first
      | (go_at_call 157; refine (key_s _ _ hk).mono ?_; rintro e w' ⟨rfl, rfl⟩)
      | (go_at_call 105; refine (in_any _ _ _ _).mono ?_; rintro e w' ⟨rfl, rfl⟩; try rw [hi]))
    go_ret
    exact ⟨rfl, ba (Below.refl _ _) _⟩


end Go.Proofs.YtnghhfgbobpnkarGreatR

namespace Go.Proofs.YtnghhfgbobpnkarGreatR
open Go.RowKit Num

/-- a command, three cells -/
def cmdF (c : CM) : List Value := [.int .i64 c.1, .string c.2.1, .int .i64 c.2.2]
theorem cmdF_len (c : CM) : (cmdF c).length = 3 := rfl

end Go.Proofs.YtnghhfgbobpnkarGreatR

namespace Go.Proofs.YtnghhfgbobpnkarGreatR
open Go.RowKit Num

/-- a block as a value: cv the row of its commands -/
def blkV (b : BK) (cv : Value) : Value := .agg #[.int .i64 b.1.1, .int .i64 b.1.2, cv, .int .i64 b.2.2.1, .int .i64 b.2.2.2.1, .int .i64 b.2.2.2.2.1, .int .i64 b.2.2.2.2.2]
/-- .. as seven cells -/
def blkF (p : BK × Value) : List Value := [.int .i64 p.1.1.1, .int .i64 p.1.1.2, p.2, .int .i64 p.1.2.2.1, .int .i64 p.1.2.2.2.1, .int .i64 p.1.2.2.2.2.1, .int .i64 p.1.2.2.2.2.2]
theorem blkF_len (p : BK × Value) : (blkF p).length = 7 := rfl
/-- .. as an array of cells -/
abbrev blkA (b : BK) (cv : Value) : Array Value := #[.int .i64 b.1.1, .int .i64 b.1.2, cv, .int .i64 b.2.2.1, .int .i64 b.2.2.2.1, .int .i64 b.2.2.2.2.1, .int .i64 b.2.2.2.2.2]

/-- blocks, each with the row of its commands -/
abbrev TL := List (BK × Value)
def bks (ps : TL) : List BK := ps.map Prod.fst
theorem bks_len (ps : TL) : (bks ps).length = ps.length := by simp [bks]
theorem bks_at {ps : TL} {i : Nat} (h : i < ps.length) : (bks ps)[i]'(by rw [bks_len]; exact h) = ps[i].1 := by simp [bks]
theorem bks_take (ps : TL) (k : Nat) : bks (ps.take k) = (bks ps).take k := by simp [bks, List.map_take]

/-- blocks that can be read -/
def TreeQ (w : World) (v : Value) (ps : TL) : Prop := RowsR w v 7 blkF ps ∧ ∀ p ∈ ps, RowsR w p.2 3 cmdF p.1.2.1
theorem TreeQ.below {w w' : World} {v : Value} {ps : TL} (h : TreeQ w v ps) (hb : Below w.heap.size w w') : TreeQ w' v ps := ⟨h.1.below hb, fun p hp => (h.2 p hp).below hb⟩
/-- a slice's room is no less than its length -/
def capOk (v : Value) : Prop := ∀ a n cap, v = .slice a n cap → n ≤ cap
theorem capOk_own {w : World} {base m n : Nat} {e : TypeId} {v : Value} {xs : List Value} (h : w.ownsRow base e m v n xs) : capOk v := by
  obtain ⟨_, ⟨rfl, _⟩ | ⟨g, cap, cur, rfl, _, _, hn, _⟩⟩ := h
  · intro a n cap e; injection e with _ e2 e3; omega
  · intro a n' cap' e; injection e with _ e2 e3; omega
/-- a tree that can be read -/
structure TreeR (w : World) (v : Value) (ps : TL) : Prop where
  row : RowsR w v 7 blkF ps
  cmds : ∀ p ∈ ps, RowsR w p.2 3 cmdF p.1.2.1
  cap : capOk v
theorem TreeR.below {w w' : World} {v : Value} {ps : TL} (h : TreeR w v ps) (hb : Below w.heap.size w w') : TreeR w' v ps := ⟨h.row.below hb, fun p hp => (h.cmds p hp).below hb, h.cap⟩
theorem TreeR.q {w : World} {v : Value} {ps : TL} (h : TreeR w v ps) : TreeQ w v ps := ⟨h.row, h.cmds⟩
theorem RowsR.take {α : Type} {f : α → List Value} {m : Nat} {w : World} {a : Option Addr} {n cap : Nat} {xs : List α} (h : RowsR w (.slice a n cap) m f xs) (k : Nat) (hk : k ≤ xs.length) (c : Nat) : RowsR w (.slice a k c) m f (xs.take k) := by
  obtain ⟨a', cap', e, hr⟩ := h
  injection e with e1 e2 e3
  subst e1
  refine ⟨a, c, by rw [List.length_take, Nat.min_eq_left hk], fun h0 => ?_⟩
  rw [List.length_take] at h0
  obtain ⟨g, off, rfl, hg, hc⟩ := hr (by omega)
  refine ⟨g, off, rfl, hg, fun i hi j hj => ?_⟩
  rw [List.length_take] at hi
  rw [List.getElem_take]
  exact hc i (by omega) j hj
theorem TreeR.take {w : World} {a : Option Addr} {n cap : Nat} {ps : TL} (h : TreeR w (.slice a n cap) ps) (k : Nat) (hk : k ≤ ps.length) (c : Nat) (hc : k ≤ c) : TreeR w (.slice a k c) (ps.take k) :=
  ⟨h.row.take k hk c, fun p hp => h.cmds p (List.mem_of_mem_take hp), fun a' n' c' e => by injection e with _ e2 e3; omega⟩

/-- the seven cells of a block of a tree -/
theorem treeq_cells {w : World} {v : Value} {ps : TL} (h : TreeQ w v ps) : ∃ a cap, v = .slice a ps.length cap ∧ (0 < ps.length → ∃ g off, a = some ⟨g, off, none⟩ ∧ g < w.heap.size ∧ ∀ i (hi : i < ps.length),
    w.cell? ⟨g, off + i * 7, none⟩ = some (.int .i64 ps[i].1.1.1) ∧ w.cell? ⟨g, off + i * 7 + 1, none⟩ = some (.int .i64 ps[i].1.1.2) ∧ w.cell? ⟨g, off + i * 7 + 2, none⟩ = some ps[i].2 ∧ w.cell? ⟨g, off + i * 7 + 3, none⟩ = some (.int .i64 ps[i].1.2.2.1) ∧
    w.cell? ⟨g, off + i * 7 + 4, none⟩ = some (.int .i64 ps[i].1.2.2.2.1) ∧ w.cell? ⟨g, off + i * 7 + 5, none⟩ = some (.int .i64 ps[i].1.2.2.2.2.1) ∧ w.cell? ⟨g, off + i * 7 + 6, none⟩ = some (.int .i64 ps[i].1.2.2.2.2.2)) := by
  obtain ⟨a, cap, rfl, hr⟩ := h.1
  refine ⟨a, cap, rfl, fun h0 => ?_⟩
  obtain ⟨g, off, rfl, hg, hc⟩ := hr h0
  refine ⟨g, off, rfl, hg, fun i hi => ⟨?_, ?_, ?_, ?_, ?_, ?_, ?_⟩⟩
  · exact hc i hi 0 (by omega)
  · exact hc i hi 1 (by omega)
  · exact hc i hi 2 (by omega)
  · exact hc i hi 3 (by omega)
  · exact hc i hi 4 (by omega)
  · exact hc i hi 5 (by omega)
  · exact hc i hi 6 (by omega)
theorem tree_cells {w : World} {v : Value} {ps : TL} (h : TreeR w v ps) : ∃ a cap, v = .slice a ps.length cap ∧ ps.length ≤ cap ∧ (0 < ps.length → ∃ g off, a = some ⟨g, off, none⟩ ∧ g < w.heap.size ∧ ∀ i (hi : i < ps.length),
    w.cell? ⟨g, off + i * 7, none⟩ = some (.int .i64 ps[i].1.1.1) ∧ w.cell? ⟨g, off + i * 7 + 1, none⟩ = some (.int .i64 ps[i].1.1.2) ∧ w.cell? ⟨g, off + i * 7 + 2, none⟩ = some ps[i].2 ∧ w.cell? ⟨g, off + i * 7 + 3, none⟩ = some (.int .i64 ps[i].1.2.2.1) ∧
    w.cell? ⟨g, off + i * 7 + 4, none⟩ = some (.int .i64 ps[i].1.2.2.2.1) ∧ w.cell? ⟨g, off + i * 7 + 5, none⟩ = some (.int .i64 ps[i].1.2.2.2.2.1) ∧ w.cell? ⟨g, off + i * 7 + 6, none⟩ = some (.int .i64 ps[i].1.2.2.2.2.2)) := by
  have hcap := h.cap
  obtain ⟨a, cap, rfl, hr⟩ := treeq_cells h.q
  exact ⟨a, cap, rfl, hcap _ _ _ rfl, hr⟩

/-- a row of commands is a slice of this many -/
theorem rows_form {α : Type} {f : α → List Value} {m : Nat} {w : World} {v : Value} {xs : List α} (h : RowsR w v m f xs) : ∃ a cap, v = .slice a xs.length cap := by
  obtain ⟨a, cap, rfl, _⟩ := h; exact ⟨a, cap, rfl⟩

/-- a block just boxed: its seven cells -/
theorem box_cells {w w' : World} {A : Array Value} {t : TypeId} (h : Below (w.alloc (.cells A t)).heap.size (w.alloc (.cells A t)) w') : w'.heap[w.heap.size]? = some (.cells A t (0, 0)) := (h.block w.heap.size (by simp)).trans (heap_alloc_new w _)

/-- what is owned stays, where its block is as it was -/
theorem own_same {w w' : World} {base m n : Nat} {e : TypeId} {v : Value} {xs : List Value} (h : w.ownsRow base e m v n xs) (hk : ∀ g, v.ownBlock = some g → w'.heap[g]? = w.heap[g]?) : w'.ownsRow base e m v n xs := by
  obtain ⟨hl, h0 | ⟨g, cap, cur, rfl, hb, hh, r⟩⟩ := h
  · exact ⟨hl, Or.inl h0⟩
  · exact ⟨hl, Or.inr ⟨g, cap, cur, rfl, hb, (hk g rfl).trans hh, r⟩⟩

/-- only blocks from lo on, up to hi, are other than they were -/
structure Wn (lo hi : Nat) (w w' : World) : Prop where
  os : w'.os = w.os
  tape : w'.tape = w.tape
  output : w'.output = w.output
  size : w.heap.size ≤ w'.heap.size
  block : ∀ k, k < w.heap.size → (k < lo ∨ hi ≤ k) → w'.heap[k]? = w.heap[k]?
theorem Wn.of_below {lo hi : Nat} {w w' : World} (h : Below w.heap.size w w') : Wn lo hi w w' := ⟨h.os, h.tape, h.output, h.size, fun k hk _ => h.block k hk⟩
theorem Wn.of_grown {lo hi : Nat} {w w' : World} {r : Option Nat} (h : w.grownBy w' r) (hr : ∀ g, r = some g → lo ≤ g ∧ g < hi) : Wn lo hi w w' :=
  ⟨h.os, h.tape, h.output, h.size, fun k hk hne => h.block k hk fun e => by have := hr k e.symm; omega⟩
theorem Wn.trans {lo hi : Nat} {a b c : World} (h : Wn lo hi a b) (k : Wn lo hi b c) : Wn lo hi a c :=
  ⟨k.os.trans h.os, k.tape.trans h.tape, k.output.trans h.output, Nat.le_trans h.size k.size, fun i hi' hne => (k.block i (Nat.lt_of_lt_of_le hi' h.size) hne).trans (h.block i hi' hne)⟩
theorem Wn.below {lo hi n : Nat} {w w1 w2 : World} (hb : Below n w w1) (h : Wn lo hi w1 w2) (hn : n ≤ lo) (hs : n ≤ w1.heap.size) : Below n w w2 :=
  ⟨h.os.trans hb.os, h.tape.trans hb.tape, h.output.trans hb.output, Nat.le_trans hb.size h.size, fun k hk => (h.block k (by omega) (by omega)).trans (hb.block k hk)⟩

/-- a tree of the call's own -/
structure OwnT (w : World) (base : Nat) (v : Value) (ps : TL) : Prop where
  row : w.ownsRow base 82 7 v ps.length (flatR blkF ps)
  cmds : ∀ p ∈ ps, w.ownsRow base 124 3 p.2 p.1.2.1.length (flatR cmdF p.1.2.1)
  apart : ps.Pairwise fun p q => q.2.ownBlock = none ∨ q.2.ownBlock ≠ p.2.ownBlock
theorem OwnT.read {w : World} {base : Nat} {v : Value} {ps : TL} (h : OwnT w base v ps) : TreeR w v ps := ⟨rows_of_own blkF_len h.row, fun p hp => rows_of_own cmdF_len (h.cmds p hp), capOk_own h.row⟩
theorem OwnT.same {w w' : World} {base : Nat} {v : Value} {ps : TL} (h : OwnT w base v ps) (hk : ∀ g, base ≤ g → g < w.heap.size → w'.heap[g]? = w.heap[g]?) : OwnT w' base v ps :=
  ⟨own_same h.row fun g hg => hk g (h.row.lt g hg).1 (h.row.lt g hg).2, fun p hp => own_same (h.cmds p hp) fun g hg => hk g ((h.cmds p hp).lt g hg).1 ((h.cmds p hp).lt g hg).2, h.apart⟩
theorem OwnT.below {w w' : World} {base : Nat} {v : Value} {ps : TL} (h : OwnT w base v ps) (hb : Below w.heap.size w w') : OwnT w' base v ps := h.same fun g _ hg => hb.block g hg
theorem OwnT.base {w : World} {base base' : Nat} {v : Value} {ps : TL} (h : OwnT w base v ps) (hb : base' ≤ base) : OwnT w base' v ps := ⟨own_base h.row hb, fun p hp => own_base (h.cmds p hp) hb, h.apart⟩

end Go.Proofs.YtnghhfgbobpnkarGreatR

namespace Go.Proofs.YtnghhfgbobpnkarGreatR
open Go.RowKit Num

theorem eqQ (q r : QC) (w : World) : (Op.equalIn 10000 36 (.agg #[.int .i64 q.1, .int .i64 q.2.1, .int .i64 q.2.2.1, .int .i64 q.2.2.2]) (.agg #[.int .i64 r.1, .int .i64 r.2.1, .int .i64 r.2.2.1, .int .i64 r.2.2.2])).run Tryz.prog w = .ok (decide (q = r)) w := by
  have u3 := Tryz.underlying3
  have hS : Tryz.prog.underlying 36 = some (.struct (Tryz.prog.fieldsOf 36)) := by kernel_rfl
  have hp : Tryz.prog.stoodInHeld 36 = false := by kernel_rfl
  rw [show (10000 : Nat) = 9999 + 1 from rfl, run_equalIn_agg w 9999 36 _ _ hS hp]
  simp only [Program.fieldsOf, Tryz.underlying36]
  go_simp
  obtain ⟨a, b, c, d⟩ := q
  obtain ⟨a', b', c', d'⟩ := r
  simp only [Prod.mk.injEq]
  by_cases h1 : a = a' <;> by_cases h2 : b = b' <;> by_cases h3 : c = c' <;> by_cases h4 : d = d' <;> simp [h1, h2, h3, h4]
theorem guardQ : Tryz.prog.eqGuardType Tryz.prog.depth 36 = false := by kernel_rfl

theorem eqM (c d : CM) (w : World) : (Op.equalIn 10000 124 (.agg #[.int .i64 c.1, .string c.2.1, .int .i64 c.2.2]) (.agg #[.int .i64 d.1, .string d.2.1, .int .i64 d.2.2])).run Tryz.prog w = .ok (decide (c = d)) w := by
  have u3 := Tryz.underlying3
  have u9 := Tryz.underlying9
  have hS : Tryz.prog.underlying 124 = some (.struct (Tryz.prog.fieldsOf 124)) := by kernel_rfl
  have hp : Tryz.prog.stoodInHeld 124 = false := by kernel_rfl
  rw [show (10000 : Nat) = 9999 + 1 from rfl, run_equalIn_agg w 9999 124 _ _ hS hp]
  simp only [Program.fieldsOf, Tryz.underlying124]
  go_simp
  obtain ⟨k, s, n⟩ := c
  obtain ⟨k', s', n'⟩ := d
  simp only [Prod.mk.injEq]
  by_cases h1 : k = k'
  · by_cases h2 : s = s'
    · by_cases h3 : n = n' <;> simp [h1, h2, h3]
    · have e2 : ¬ s.toList = s'.toList := beq_eq_false_iff_ne.1 (ba_ne h2)
      simp [h1, h2, e2]
  · simp [h1]
theorem guardM : Tryz.prog.eqGuardType Tryz.prog.depth 124 = false := by kernel_rfl

end Go.Proofs.YtnghhfgbobpnkarGreatR
