/-
  Texts of ours that later ones lean on, in one: 12, one behind the other.
-/
import Derived.Test.YtjdddcldbfhbiasGreatJ1
import Derived.Laws.AppendOwn
import Derived.OwnWalk
import Derived.Test.YtjdddcldbfhbiasGreatJ0
import Derived.Laws.Cover1
import Derived.BigQuiet
import Derived.Laws.StructEq
namespace Go.Proofs.YtjdddcldbfhbiasGreat
open Go.RowKit Num

/-- nothing is appended -/
theorem run_append_nil {P : Program} {t ty e : TypeId} {i : TypeInfo} (ht : P.underlying t = some (.slice e)) (hi : P.info? e = some i) (w : World) {base : Nat} {v : Value} {n : Nat} {xs : List Value} {m : Nat} (hown : w.ownsRow base e m v n xs) (c : Nat) :
    (Builtin.append_ #[t, t] ty #[v, .slice none 0 c]).run P w = .ok v w := by
  obtain ⟨hl, ⟨rfl, h0⟩ | ⟨g, cap, cur, rfl, hb, hh, hn, hc, hs, htk⟩⟩ := hown
  · simp [Builtin.append_, run_underlying ht, sizeOf, typeInfo, hi, Builtin.lenOf, Builtin.firstCells]
  · have : n ≤ cap := by omega
    simp [Builtin.append_, run_underlying ht, sizeOf, typeInfo, hi, Builtin.lenOf, Builtin.firstCells, storeCells, this]

/-- 'append(out, list...)': out is the call's own, list can be read -/
theorem wpList_append_a {α : Type} {f : α → List Value} {m : Nat} (w : World) {ops : Array Oper} {rest : List Oper} {o : Oper} {a : Act} {Q : Exit → Act → World → Prop} (hgd : o.guard = none) (s x : Operand) (t : TypeId)
    (ho : o.op = .call { callee := .builtin .append, args := #[s, x], argTypes := #[t, t] })
    (base : Nat) (e : TypeId) (i : TypeInfo) (z : Value) (bytes : Nat) (ht : Tryz.prog.underlying t = some (.slice e)) (hi : Tryz.prog.info? e = some i) (hz : i.zero = some z) (hsize : i.size = m) (hby : i.bytes = bytes) (hzs : z.cells.size = m) (hsz : 0 < m)
    (hm : ∀ y, (f y).length = m) (hone : ∀ y, ∀ u ∈ f y, u.oneCell' = true)
    (v : Value) (xs : List α) (hs : a.eval s = v) (hown : w.ownsRow base e m v xs.length (flatR f xs))
    (src : Value) (cs : List α) (hx : a.eval x = src) (hsrc : RowsR w src m f cs) (h63 : xs.length + cs.length ≤ maxLen) (hbytes : (xs.length + cs.length) * bytes ≤ 140737488355328) (hbase : base ≤ w.heap.size)
    (h : ∀ v' w', w'.ownsRow base e m v' (xs ++ cs).length (flatR f (xs ++ cs)) → w.grownBy w' v.ownBlock → wpList Tryz.prog ops Q rest (a.put o.dst v') w') : wpList Tryz.prog ops Q (o :: rest) a w := by
  obtain ⟨ad, cap, rfl, hr⟩ := hsrc
  cases ad with
  | none =>
    have h0 : cs.length = 0 := by
      rcases Nat.eq_zero_or_pos cs.length with h | h
      · exact h
      · obtain ⟨_, _, e, _⟩ := hr h; cases e
    obtain rfl : cs = [] := List.eq_nil_of_length_eq_zero h0
    refine wpList_plain hgd fun K' hK' => ?_
    have hrun := run_append_nil (ty := o.type) ht hi w hown cap
    unfold Oper.wp execOp
    simp only [ho, resolve, invoke, builtin, Sem.run_bind, Sem.run_pure, Result.andThen_ok, List.map_toArray, List.map_cons, List.map_nil, hs, hx, List.length_nil, hrun]
    exact hK' _ _ (h v w (by simpa using hown) ⟨rfl, rfl, rfl, Nat.le_refl _, fun _ _ _ => rfl⟩)
  | some ad =>
    refine wpList_append_own _ hgd s x t ho base e i z m bytes ht hi hz hsize hby hzs hsz v _ _ hs hown ad cs.length cap (flatR f cs) hx (flatR_len hm cs) ?_ (fun u hu => ?_) h63 hbytes hbase fun v' w' h1 h2 _ => h v' w' (by rw [List.length_append, flatR_append]; exact h1) h2
    · intro j u hj
      have hjl : j < cs.length * m := by
        rw [← flatR_len hm]
        exact (List.getElem?_eq_some_iff.1 hj).1
      have h0 : 0 < cs.length := by
        rcases Nat.eq_zero_or_pos cs.length with h | h
        · rw [h] at hjl; omega
        · exact h
      obtain ⟨g, off, rfl0, hg, hc⟩ := hr h0
      cases rfl0
      have hp : (⟨g, off, none⟩ : Addr).add j = ⟨g, off + j, none⟩ := by unfold Addr.add; split <;> simp_all
      have hd : j / m < cs.length := Nat.div_lt_of_lt_mul (by rw [Nat.mul_comm]; exact hjl)
      have hr : j % m < m := Nat.mod_lt _ hsz
      have e : j = j / m * m + j % m := by rw [Nat.mul_comm]; exact (Nat.div_add_mod j m).symm
      have hf := flatR_at hm cs (j / m) hd (j % m) hr
      rw [← e] at hf
      rw [hp, show off + j = off + j / m * m + j % m by omega, hc (j / m) hd (j % m) hr, ← hf, hj]
    · obtain ⟨y, _, hy⟩ := List.mem_flatMap.1 hu
      exact hone y u hy

theorem intF_one_a (n : Int) : ∀ u ∈ intF n, u.oneCell' = true := by intro u hu; simp [intF] at hu; subst hu; rfl
theorem undoF_one (n : UN) : ∀ u ∈ undoF n, u.oneCell' = true := by intro u hu; simp [undoF] at hu; rcases hu with h | h | h <;> subst h <;> rfl
theorem letF_one (n : LT) : ∀ u ∈ letF n, u.oneCell' = true := by
  intro u hu; simp [letF] at hu
  rcases hu with h | h | h | h | h | h | h | h | h | h | h | h | h <;> subst h <;> rfl
/-- an account's cells -/
def cellF (c : ByteArray × Int) : List Value := [.string c.1, .int .i64 c.2]
theorem cellF_len (c : ByteArray × Int) : (cellF c).length = 2 := rfl
theorem cellF_one (c : ByteArray × Int) : ∀ u ∈ cellF c, u.oneCell' = true := by intro u hu; simp [cellF] at hu; rcases hu with h | h <;> subst h <;> rfl
theorem flat_cellF (cs : CL) : flatR cellF cs = flat cs := rfl
theorem rows_cells {w : World} {v : Value} {cs : CL} (h : Cells w v cs) : RowsR w v 2 cellF cs := by
  obtain ⟨a, cap, rfl, hr⟩ := h
  refine ⟨a, cap, rfl, fun h0 => ?_⟩
  obtain ⟨g, off, rfl, hg, hc⟩ := hr h0
  refine ⟨g, off, rfl, hg, fun i hi j hj => ?_⟩
  have := hc i hi
  match j, hj with
  | 0, _ => exact this.1
  | 1, _ => exact this.2
/-- memory that was made, and a row that grew in it -/
theorem made_below {y x : World} {o : Obj} (hg : (y.alloc o).grownBy x (some y.heap.size)) : Below y.heap.size y x :=
  ((Below.refl y.heap.size y).alloc (Nat.le_refl _) o).grown hg (by simp) (fun k hk => by cases hk; exact Nat.le_refl _)

end Go.Proofs.YtjdddcldbfhbiasGreat

namespace Go.Proofs.YtjdddcldbfhbiasGreat
open Go.RowKit Num

/-- while a replica is copied: the box of the one that came in, the box of the answer, the box of the copy -/
structure CopyS (w y : World) (p : PE) (s t : PV) : Prop where
  below : Below w.heap.size w y
  box : y.heap[w.heap.size]? = some (.cells (peerA p s) 45 (0, 0))
  zero : y.heap[w.heap.size + 1]? = some (.cells zeroA 45 (0, 0))
  out : y.heap[w.heap.size + 1 + 1]? = some (.cells (peerA p t) 45 (0, 0))
theorem CopyS.lt {w y : World} {p : PE} {s t : PV} (h : CopyS w y p s t) : w.heap.size + 1 + 1 < y.heap.size := (Array.getElem?_eq_some_iff.1 h.out).1
theorem CopyS.more {w y x : World} {p : PE} {s t : PV} (h : CopyS w y p s t) (hb : Below y.heap.size y x) : CopyS w x p s t := by
  have := h.lt
  exact ⟨bt h.below hb, (hb.block _ (by omega)).trans h.box, (hb.block _ (by omega)).trans h.zero, (hb.block _ (by omega)).trans h.out⟩
theorem CopyS.put {w y x : World} {p : PE} {s t t' : PV} (h : CopyS w y p s t) (hg : y.grownBy x (some (w.heap.size + 1 + 1))) (hk : x.heap[w.heap.size + 1 + 1]? = some (.cells (peerA p t') 45 (0, 0))) : CopyS w x p s t' := by
  have := h.lt
  exact ⟨h.below.grown hg h.below.size (fun k hk => by cases hk; omega), (hg.block _ (by omega) (fun e => by have := Option.some.inj e; omega)).trans h.box, (hg.block _ (by omega) (fun e => by have := Option.some.inj e; omega)).trans h.zero, hk⟩
theorem peerA_oneR {w : World} {p : PE} {s : PV} (h : PeerR w p s) : (peerA p s).all (·.oneCell') = true := by
  obtain ⟨sr, sc, se, su, sv, sn⟩ := s
  obtain ⟨_, _, e1, -⟩ := h.row
  obtain ⟨_, _, e2, -⟩ := h.cells
  obtain ⟨_, _, e3, -⟩ := h.early
  obtain ⟨_, _, e4, -⟩ := h.undos
  obtain ⟨_, _, e5, -⟩ := h.votes
  obtain ⟨_, _, e6, -⟩ := h.news
  change sr = _ at e1
  change sc = _ at e2
  change se = _ at e3
  change su = _ at e4
  change sv = _ at e5
  change sn = _ at e6
  subst e1 e2 e3 e4 e5 e6
  unfold peerA
  simp [Value.oneCell']

set_option maxRecDepth 100000 in
set_option maxHeartbeats 8000000 in
theorem copy_s (p : PE) (s : PV) (w : World) (hR : PeerR w p s) (hs : smallPe p) :
    Calls Tryz.prog 33 #[peerV p s] w fun e w' => ∃ s', e = .returned (peerV p s') ∧ OwnP w.heap.size w' p s' ∧ Below w.heap.size w w' := by
  have HR := hid hR
  have HS := hid hs
  have hz1 := hs.row
  have hz2 := hs.cells
  have hz3 := hs.early
  have hz4 := hs.undos
  have hz5 := hs.votes
  have hz6 := hs.news
  obtain ⟨ii, ihi, ihz0, ihz1, ihz2⟩ := info_parts infoIntL
  obtain ⟨ci, chi, chz0, chz1, chz2⟩ := info_parts infoCell
  obtain ⟨ui, uhi, uhz0, uhz1, uhz2⟩ := info_parts infoUndo
  obtain ⟨vi, vhi, vhz0, vhz1, vhz2⟩ := info_parts infoVote
  obtain ⟨li, lhi, lhz0, lhz1, lhz2⟩ := info_parts infoLetter
  have HONE : Hid ((peerA p s).all (·.oneCell') = true) := peerA_oneR hR
  clear hR hs
  obtain ⟨W, hW⟩ : ∃ W, W = ((w.alloc (.cells (peerA p s) 45)).alloc (.cells zeroA 45)).alloc (.cells zeroA 45) := ⟨_, rfl⟩
  have HC : Hid (Below w.heap.size w W ∧ W.heap[w.heap.size]? = some (.cells (peerA p s) 45 (0, 0)) ∧ W.heap[w.heap.size + 1]? = some (.cells zeroA 45 (0, 0)) ∧ W.heap[w.heap.size + 1 + 1]? = some (.cells zeroA 45 (0, 0))) := by
    rw [hW]; exact ⟨ba (ba (ba (Below.refl _ _) _) _) _, alloc3 w _ _ _⟩
  unfold zeroA at hW
  go_enter Tryz.func33, Tryz.ntmps33
  go_wp2_with (first
    | (rw [← hW]; clear hW; refine wpList_store_blk rfl _ _ _ rfl (w.heap.size + 1 + 1) (peerA p s) rfl rfl 45 zeroA HC.out.2.2.2 (by kernel_rfl) rfl HONE.out ?_; intro y0 hg hk hz; have HS0 : Hid (CopyS w y0 p s s) := ⟨HC.out.1.grown hg HC.out.1.size (fun k hk => by cases hk; omega), (hg.block _ (Array.getElem?_eq_some_iff.1 HC.out.2.1).1 (fun e => by have := Option.some.inj e; omega)).trans HC.out.2.1, (hg.block _ (Array.getElem?_eq_some_iff.1 HC.out.2.2.1).1 (fun e => by have := Option.some.inj e; omega)).trans HC.out.2.2.1, hk⟩; have HQ0 : Hid (w.heap.size + 1 + 1 < y0.heap.size) := HS0.out.lt; clear hg hk hz HC; have c14 := blk_cell (HS0.out.more ((Below.refl y0.heap.size y0).alloc (Nat.le_refl _) (.cells #[] 3))).box 14 s.row rfl)
    | (refine wpList_load_row rfl _ _ rfl w.heap.size rfl 45 _ (0, 0) _ (alloc2 w _ _).1 Tryz.underlying45 rfl (by kernel_rfl) ?_)
    | (at_builtin; refine wpList_append_a _ rfl _ _ 27 rfl y0.heap.size 3 ii _ 8 Tryz.underlying27 ihi ihz0 ihz1 ihz2 rfl (by decide) intF_len intF_one_a _ [] rfl (own_new y0 _ _) _ p.row rfl (((HR.out.below HS0.out.below).row).below ((Below.refl y0.heap.size y0).alloc (Nat.le_refl _) _)) (by simp; unfold maxLen; omega) (by simp; omega) (by simp) ?_; intro v0 x0 ho hg; have hbx : Below y0.heap.size y0 x0 := made_below hg; have HX0 : Hid (CopyS w x0 p s ⟨s.row, s.cells, s.early, s.undos, s.votes, s.news⟩) := HS0.out.more hbx; have HI0a : Hid (In y0.heap.size x0.heap.size x0 3 1 v0 p.row.length (flatR intF p.row)) := ⟨ho, fun g hg => (ho.lt g hg).2⟩; have HL0a : Hid (y0.heap.size ≤ x0.heap.size) := hbx.size; obtain ⟨va0, vc0, rfl, -⟩ := own_form ho; clear ho hg hbx HS0 c14)
    | (refine wpList_store_cell rfl _ _ _ rfl (w.heap.size + 1 + 1) 14 (.slice va0 p.row.length vc0) rfl rfl _ _ HX0.out.out (by kernel_rfl) (by simp [peerA]) rfl (peerA p ⟨.slice va0 p.row.length vc0, s.cells, s.early, s.undos, s.votes, s.news⟩) rfl ?_; intro y1 hg hk; have HS1 : Hid (CopyS w y1 p s ⟨.slice va0 p.row.length vc0, s.cells, s.early, s.undos, s.votes, s.news⟩) := HX0.out.put hg hk; have HI0 : Hid (In y0.heap.size x0.heap.size y1 3 1 (.slice va0 p.row.length vc0) p.row.length (flatR intF p.row)) := HI0a.out.far hg (Or.inl (by have := HQ0.out; omega)); have HM0 : Hid (y0.heap.size ≤ x0.heap.size ∧ x0.heap.size ≤ y1.heap.size) := ⟨HL0a.out, hg.size⟩; have HQ1 : Hid (w.heap.size + 1 + 1 < y1.heap.size) := HS1.out.lt; clear hg hk HX0 HL0a HI0a; have c15 := blk_cell (HS1.out.more ((Below.refl y1.heap.size y1).alloc (Nat.le_refl _) (.cells #[] 139))).box 15 s.cells rfl)
    | (at_builtin; refine wpList_append_a _ rfl _ _ 40 rfl y1.heap.size 139 ci _ 24 Tryz.underlying40 chi chz0 chz1 chz2 rfl (by decide) cellF_len cellF_one _ [] rfl (own_new y1 _ _) _ p.cells rfl ((rows_cells (HR.out.below HS1.out.below).cells).below ((Below.refl y1.heap.size y1).alloc (Nat.le_refl _) _)) (by simp; unfold maxLen; omega) (by simp; omega) (by simp) ?_; intro v1 x1 ho hg; have hbx : Below y1.heap.size y1 x1 := made_below hg; have HX1 : Hid (CopyS w x1 p s ⟨.slice va0 p.row.length vc0, s.cells, s.early, s.undos, s.votes, s.news⟩) := HS1.out.more hbx; have HI1a : Hid (In y1.heap.size x1.heap.size x1 139 2 v1 p.cells.length (flatR cellF p.cells)) := ⟨ho, fun g hg => (ho.lt g hg).2⟩; have HI0a : Hid (In y0.heap.size x0.heap.size x1 3 1 (.slice va0 p.row.length vc0) p.row.length (flatR intF p.row)) := HI0.out.below hbx; have HL1a : Hid (y1.heap.size ≤ x1.heap.size) := hbx.size; obtain ⟨va1, vc1, rfl, -⟩ := own_form ho; clear ho hg hbx HS1 c15 HI0)
    | (refine wpList_store_cell rfl _ _ _ rfl (w.heap.size + 1 + 1) 15 (.slice va1 p.cells.length vc1) rfl rfl _ _ HX1.out.out (by kernel_rfl) (by simp [peerA]) rfl (peerA p ⟨.slice va0 p.row.length vc0, .slice va1 p.cells.length vc1, s.early, s.undos, s.votes, s.news⟩) rfl ?_; intro y2 hg hk; have HS2 : Hid (CopyS w y2 p s ⟨.slice va0 p.row.length vc0, .slice va1 p.cells.length vc1, s.early, s.undos, s.votes, s.news⟩) := HX1.out.put hg hk; have HI0 : Hid (In y0.heap.size x0.heap.size y2 3 1 (.slice va0 p.row.length vc0) p.row.length (flatR intF p.row)) := HI0a.out.far hg (Or.inl (by have := HQ0.out; omega)); have HI1 : Hid (In y1.heap.size x1.heap.size y2 139 2 (.slice va1 p.cells.length vc1) p.cells.length (flatR cellF p.cells)) := HI1a.out.far hg (Or.inl (by have := HQ1.out; omega)); have HM1 : Hid (y1.heap.size ≤ x1.heap.size ∧ x1.heap.size ≤ y2.heap.size) := ⟨HL1a.out, hg.size⟩; have HQ2 : Hid (w.heap.size + 1 + 1 < y2.heap.size) := HS2.out.lt; clear hg hk HX1 HL1a HI0a HI1a; have c16 := blk_cell (HS2.out.more ((Below.refl y2.heap.size y2).alloc (Nat.le_refl _) (.cells #[] 3))).box 16 s.early rfl)
    | (at_builtin; refine wpList_append_a _ rfl _ _ 27 rfl y2.heap.size 3 ii _ 8 Tryz.underlying27 ihi ihz0 ihz1 ihz2 rfl (by decide) intF_len intF_one_a _ [] rfl (own_new y2 _ _) _ p.early rfl (((HR.out.below HS2.out.below).early).below ((Below.refl y2.heap.size y2).alloc (Nat.le_refl _) _)) (by simp; unfold maxLen; omega) (by simp; omega) (by simp) ?_; intro v2 x2 ho hg; have hbx : Below y2.heap.size y2 x2 := made_below hg; have HX2 : Hid (CopyS w x2 p s ⟨.slice va0 p.row.length vc0, .slice va1 p.cells.length vc1, s.early, s.undos, s.votes, s.news⟩) := HS2.out.more hbx; have HI2a : Hid (In y2.heap.size x2.heap.size x2 3 1 v2 p.early.length (flatR intF p.early)) := ⟨ho, fun g hg => (ho.lt g hg).2⟩; have HI0a : Hid (In y0.heap.size x0.heap.size x2 3 1 (.slice va0 p.row.length vc0) p.row.length (flatR intF p.row)) := HI0.out.below hbx; have HI1a : Hid (In y1.heap.size x1.heap.size x2 139 2 (.slice va1 p.cells.length vc1) p.cells.length (flatR cellF p.cells)) := HI1.out.below hbx; have HL2a : Hid (y2.heap.size ≤ x2.heap.size) := hbx.size; obtain ⟨va2, vc2, rfl, -⟩ := own_form ho; clear ho hg hbx HS2 c16 HI0 HI1)
    | (refine wpList_store_cell rfl _ _ _ rfl (w.heap.size + 1 + 1) 16 (.slice va2 p.early.length vc2) rfl rfl _ _ HX2.out.out (by kernel_rfl) (by simp [peerA]) rfl (peerA p ⟨.slice va0 p.row.length vc0, .slice va1 p.cells.length vc1, .slice va2 p.early.length vc2, s.undos, s.votes, s.news⟩) rfl ?_; intro y3 hg hk; have HS3 : Hid (CopyS w y3 p s ⟨.slice va0 p.row.length vc0, .slice va1 p.cells.length vc1, .slice va2 p.early.length vc2, s.undos, s.votes, s.news⟩) := HX2.out.put hg hk; have HI0 : Hid (In y0.heap.size x0.heap.size y3 3 1 (.slice va0 p.row.length vc0) p.row.length (flatR intF p.row)) := HI0a.out.far hg (Or.inl (by have := HQ0.out; omega)); have HI1 : Hid (In y1.heap.size x1.heap.size y3 139 2 (.slice va1 p.cells.length vc1) p.cells.length (flatR cellF p.cells)) := HI1a.out.far hg (Or.inl (by have := HQ1.out; omega)); have HI2 : Hid (In y2.heap.size x2.heap.size y3 3 1 (.slice va2 p.early.length vc2) p.early.length (flatR intF p.early)) := HI2a.out.far hg (Or.inl (by have := HQ2.out; omega)); have HM2 : Hid (y2.heap.size ≤ x2.heap.size ∧ x2.heap.size ≤ y3.heap.size) := ⟨HL2a.out, hg.size⟩; have HQ3 : Hid (w.heap.size + 1 + 1 < y3.heap.size) := HS3.out.lt; clear hg hk HX2 HL2a HI0a HI1a HI2a; have c17 := blk_cell (HS3.out.more ((Below.refl y3.heap.size y3).alloc (Nat.le_refl _) (.cells #[] 141))).box 17 s.undos rfl)
    | (at_builtin; refine wpList_append_a _ rfl _ _ 41 rfl y3.heap.size 141 ui _ 32 Tryz.underlying41 uhi uhz0 uhz1 uhz2 rfl (by decide) undoF_len undoF_one _ [] rfl (own_new y3 _ _) _ p.undos rfl (((HR.out.below HS3.out.below).undos).below ((Below.refl y3.heap.size y3).alloc (Nat.le_refl _) _)) (by simp; unfold maxLen; omega) (by simp; omega) (by simp) ?_; intro v3 x3 ho hg; have hbx : Below y3.heap.size y3 x3 := made_below hg; have HX3 : Hid (CopyS w x3 p s ⟨.slice va0 p.row.length vc0, .slice va1 p.cells.length vc1, .slice va2 p.early.length vc2, s.undos, s.votes, s.news⟩) := HS3.out.more hbx; have HI3a : Hid (In y3.heap.size x3.heap.size x3 141 3 v3 p.undos.length (flatR undoF p.undos)) := ⟨ho, fun g hg => (ho.lt g hg).2⟩; have HI0a : Hid (In y0.heap.size x0.heap.size x3 3 1 (.slice va0 p.row.length vc0) p.row.length (flatR intF p.row)) := HI0.out.below hbx; have HI1a : Hid (In y1.heap.size x1.heap.size x3 139 2 (.slice va1 p.cells.length vc1) p.cells.length (flatR cellF p.cells)) := HI1.out.below hbx; have HI2a : Hid (In y2.heap.size x2.heap.size x3 3 1 (.slice va2 p.early.length vc2) p.early.length (flatR intF p.early)) := HI2.out.below hbx; have HL3a : Hid (y3.heap.size ≤ x3.heap.size) := hbx.size; obtain ⟨va3, vc3, rfl, -⟩ := own_form ho; clear ho hg hbx HS3 c17 HI0 HI1 HI2)
    | (refine wpList_store_cell rfl _ _ _ rfl (w.heap.size + 1 + 1) 17 (.slice va3 p.undos.length vc3) rfl rfl _ _ HX3.out.out (by kernel_rfl) (by simp [peerA]) rfl (peerA p ⟨.slice va0 p.row.length vc0, .slice va1 p.cells.length vc1, .slice va2 p.early.length vc2, .slice va3 p.undos.length vc3, s.votes, s.news⟩) rfl ?_; intro y4 hg hk; have HS4 : Hid (CopyS w y4 p s ⟨.slice va0 p.row.length vc0, .slice va1 p.cells.length vc1, .slice va2 p.early.length vc2, .slice va3 p.undos.length vc3, s.votes, s.news⟩) := HX3.out.put hg hk; have HI0 : Hid (In y0.heap.size x0.heap.size y4 3 1 (.slice va0 p.row.length vc0) p.row.length (flatR intF p.row)) := HI0a.out.far hg (Or.inl (by have := HQ0.out; omega)); have HI1 : Hid (In y1.heap.size x1.heap.size y4 139 2 (.slice va1 p.cells.length vc1) p.cells.length (flatR cellF p.cells)) := HI1a.out.far hg (Or.inl (by have := HQ1.out; omega)); have HI2 : Hid (In y2.heap.size x2.heap.size y4 3 1 (.slice va2 p.early.length vc2) p.early.length (flatR intF p.early)) := HI2a.out.far hg (Or.inl (by have := HQ2.out; omega)); have HI3 : Hid (In y3.heap.size x3.heap.size y4 141 3 (.slice va3 p.undos.length vc3) p.undos.length (flatR undoF p.undos)) := HI3a.out.far hg (Or.inl (by have := HQ3.out; omega)); have HM3 : Hid (y3.heap.size ≤ x3.heap.size ∧ x3.heap.size ≤ y4.heap.size) := ⟨HL3a.out, hg.size⟩; have HQ4 : Hid (w.heap.size + 1 + 1 < y4.heap.size) := HS4.out.lt; clear hg hk HX3 HL3a HI0a HI1a HI2a HI3a; have c18 := blk_cell (HS4.out.more ((Below.refl y4.heap.size y4).alloc (Nat.le_refl _) (.cells #[] 39))).box 18 s.votes rfl)
    | (at_builtin; refine wpList_append_a _ rfl _ _ 42 rfl y4.heap.size 39 vi _ 32 Tryz.underlying42 vhi vhz0 vhz1 vhz2 rfl (by decide) voteF_len voteF_one _ [] rfl (own_new y4 _ _) _ p.votes rfl (((HR.out.below HS4.out.below).votes).below ((Below.refl y4.heap.size y4).alloc (Nat.le_refl _) _)) (by simp; unfold maxLen; omega) (by simp; omega) (by simp) ?_; intro v4 x4 ho hg; have hbx : Below y4.heap.size y4 x4 := made_below hg; have HX4 : Hid (CopyS w x4 p s ⟨.slice va0 p.row.length vc0, .slice va1 p.cells.length vc1, .slice va2 p.early.length vc2, .slice va3 p.undos.length vc3, s.votes, s.news⟩) := HS4.out.more hbx; have HI4a : Hid (In y4.heap.size x4.heap.size x4 39 4 v4 p.votes.length (flatR voteF p.votes)) := ⟨ho, fun g hg => (ho.lt g hg).2⟩; have HI0a : Hid (In y0.heap.size x0.heap.size x4 3 1 (.slice va0 p.row.length vc0) p.row.length (flatR intF p.row)) := HI0.out.below hbx; have HI1a : Hid (In y1.heap.size x1.heap.size x4 139 2 (.slice va1 p.cells.length vc1) p.cells.length (flatR cellF p.cells)) := HI1.out.below hbx; have HI2a : Hid (In y2.heap.size x2.heap.size x4 3 1 (.slice va2 p.early.length vc2) p.early.length (flatR intF p.early)) := HI2.out.below hbx; have HI3a : Hid (In y3.heap.size x3.heap.size x4 141 3 (.slice va3 p.undos.length vc3) p.undos.length (flatR undoF p.undos)) := HI3.out.below hbx; have HL4a : Hid (y4.heap.size ≤ x4.heap.size) := hbx.size; obtain ⟨va4, vc4, rfl, -⟩ := own_form ho; clear ho hg hbx HS4 c18 HI0 HI1 HI2 HI3)
    | (refine wpList_store_cell rfl _ _ _ rfl (w.heap.size + 1 + 1) 18 (.slice va4 p.votes.length vc4) rfl rfl _ _ HX4.out.out (by kernel_rfl) (by simp [peerA]) rfl (peerA p ⟨.slice va0 p.row.length vc0, .slice va1 p.cells.length vc1, .slice va2 p.early.length vc2, .slice va3 p.undos.length vc3, .slice va4 p.votes.length vc4, s.news⟩) rfl ?_; intro y5 hg hk; have HS5 : Hid (CopyS w y5 p s ⟨.slice va0 p.row.length vc0, .slice va1 p.cells.length vc1, .slice va2 p.early.length vc2, .slice va3 p.undos.length vc3, .slice va4 p.votes.length vc4, s.news⟩) := HX4.out.put hg hk; have HI0 : Hid (In y0.heap.size x0.heap.size y5 3 1 (.slice va0 p.row.length vc0) p.row.length (flatR intF p.row)) := HI0a.out.far hg (Or.inl (by have := HQ0.out; omega)); have HI1 : Hid (In y1.heap.size x1.heap.size y5 139 2 (.slice va1 p.cells.length vc1) p.cells.length (flatR cellF p.cells)) := HI1a.out.far hg (Or.inl (by have := HQ1.out; omega)); have HI2 : Hid (In y2.heap.size x2.heap.size y5 3 1 (.slice va2 p.early.length vc2) p.early.length (flatR intF p.early)) := HI2a.out.far hg (Or.inl (by have := HQ2.out; omega)); have HI3 : Hid (In y3.heap.size x3.heap.size y5 141 3 (.slice va3 p.undos.length vc3) p.undos.length (flatR undoF p.undos)) := HI3a.out.far hg (Or.inl (by have := HQ3.out; omega)); have HI4 : Hid (In y4.heap.size x4.heap.size y5 39 4 (.slice va4 p.votes.length vc4) p.votes.length (flatR voteF p.votes)) := HI4a.out.far hg (Or.inl (by have := HQ4.out; omega)); have HM4 : Hid (y4.heap.size ≤ x4.heap.size ∧ x4.heap.size ≤ y5.heap.size) := ⟨HL4a.out, hg.size⟩; have HQ5 : Hid (w.heap.size + 1 + 1 < y5.heap.size) := HS5.out.lt; clear hg hk HX4 HL4a HI0a HI1a HI2a HI3a HI4a; have c19 := blk_cell (HS5.out.more ((Below.refl y5.heap.size y5).alloc (Nat.le_refl _) (.cells #[] 52))).box 19 s.news rfl)
    | (at_builtin; refine wpList_append_a _ rfl _ _ 43 rfl y5.heap.size 52 li _ 104 Tryz.underlying43 lhi lhz0 lhz1 lhz2 rfl (by decide) letF_len letF_one _ [] rfl (own_new y5 _ _) _ p.news rfl (((HR.out.below HS5.out.below).news).below ((Below.refl y5.heap.size y5).alloc (Nat.le_refl _) _)) (by simp; unfold maxLen; omega) (by simp; omega) (by simp) ?_; intro v5 x5 ho hg; have hbx : Below y5.heap.size y5 x5 := made_below hg; have HX5 : Hid (CopyS w x5 p s ⟨.slice va0 p.row.length vc0, .slice va1 p.cells.length vc1, .slice va2 p.early.length vc2, .slice va3 p.undos.length vc3, .slice va4 p.votes.length vc4, s.news⟩) := HS5.out.more hbx; have HI5a : Hid (In y5.heap.size x5.heap.size x5 52 13 v5 p.news.length (flatR letF p.news)) := ⟨ho, fun g hg => (ho.lt g hg).2⟩; have HI0a : Hid (In y0.heap.size x0.heap.size x5 3 1 (.slice va0 p.row.length vc0) p.row.length (flatR intF p.row)) := HI0.out.below hbx; have HI1a : Hid (In y1.heap.size x1.heap.size x5 139 2 (.slice va1 p.cells.length vc1) p.cells.length (flatR cellF p.cells)) := HI1.out.below hbx; have HI2a : Hid (In y2.heap.size x2.heap.size x5 3 1 (.slice va2 p.early.length vc2) p.early.length (flatR intF p.early)) := HI2.out.below hbx; have HI3a : Hid (In y3.heap.size x3.heap.size x5 141 3 (.slice va3 p.undos.length vc3) p.undos.length (flatR undoF p.undos)) := HI3.out.below hbx; have HI4a : Hid (In y4.heap.size x4.heap.size x5 39 4 (.slice va4 p.votes.length vc4) p.votes.length (flatR voteF p.votes)) := HI4.out.below hbx; have HL5a : Hid (y5.heap.size ≤ x5.heap.size) := hbx.size; obtain ⟨va5, vc5, rfl, -⟩ := own_form ho; clear ho hg hbx HS5 c19 HI0 HI1 HI2 HI3 HI4)
    | (refine wpList_store_cell rfl _ _ _ rfl (w.heap.size + 1 + 1) 19 (.slice va5 p.news.length vc5) rfl rfl _ _ HX5.out.out (by kernel_rfl) (by simp [peerA]) rfl (peerA p ⟨.slice va0 p.row.length vc0, .slice va1 p.cells.length vc1, .slice va2 p.early.length vc2, .slice va3 p.undos.length vc3, .slice va4 p.votes.length vc4, .slice va5 p.news.length vc5⟩) rfl ?_; intro y6 hg hk; have HS6 : Hid (CopyS w y6 p s ⟨.slice va0 p.row.length vc0, .slice va1 p.cells.length vc1, .slice va2 p.early.length vc2, .slice va3 p.undos.length vc3, .slice va4 p.votes.length vc4, .slice va5 p.news.length vc5⟩) := HX5.out.put hg hk; have HI0 : Hid (In y0.heap.size x0.heap.size y6 3 1 (.slice va0 p.row.length vc0) p.row.length (flatR intF p.row)) := HI0a.out.far hg (Or.inl (by have := HQ0.out; omega)); have HI1 : Hid (In y1.heap.size x1.heap.size y6 139 2 (.slice va1 p.cells.length vc1) p.cells.length (flatR cellF p.cells)) := HI1a.out.far hg (Or.inl (by have := HQ1.out; omega)); have HI2 : Hid (In y2.heap.size x2.heap.size y6 3 1 (.slice va2 p.early.length vc2) p.early.length (flatR intF p.early)) := HI2a.out.far hg (Or.inl (by have := HQ2.out; omega)); have HI3 : Hid (In y3.heap.size x3.heap.size y6 141 3 (.slice va3 p.undos.length vc3) p.undos.length (flatR undoF p.undos)) := HI3a.out.far hg (Or.inl (by have := HQ3.out; omega)); have HI4 : Hid (In y4.heap.size x4.heap.size y6 39 4 (.slice va4 p.votes.length vc4) p.votes.length (flatR voteF p.votes)) := HI4a.out.far hg (Or.inl (by have := HQ4.out; omega)); have HI5 : Hid (In y5.heap.size x5.heap.size y6 52 13 (.slice va5 p.news.length vc5) p.news.length (flatR letF p.news)) := HI5a.out.far hg (Or.inl (by have := HQ5.out; omega)); have HM5 : Hid (y5.heap.size ≤ x5.heap.size ∧ x5.heap.size ≤ y6.heap.size) := ⟨HL5a.out, hg.size⟩; have HQ6 : Hid (w.heap.size + 1 + 1 < y6.heap.size) := HS6.out.lt; clear hg hk HX5 HL5a HI0a HI1a HI2a HI3a HI4a HI5a) | (refine wpList_load_row rfl _ _ rfl (w.heap.size + 1 + 1) rfl 45 _ (0, 0) _ HS6.out.out Tryz.underlying45 rfl (by kernel_rfl) ?_) | (refine wpList_store_blk rfl _ _ _ rfl (w.heap.size + 1) (peerA p ⟨.slice va0 p.row.length vc0, .slice va1 p.cells.length vc1, .slice va2 p.early.length vc2, .slice va3 p.undos.length vc3, .slice va4 p.votes.length vc4, .slice va5 p.news.length vc5⟩) rfl rfl 45 zeroA HS6.out.zero (by kernel_rfl) rfl (by have h := HONE.out; unfold peerA at h ⊢; simp [Value.oneCell'] at h ⊢) ?_; intro z hg hk hz; have HBz : Hid (Below w.heap.size w z) := HS6.out.below.grown hg HS6.out.below.size (fun k hk => by cases hk; omega); have HKz : Hid (z.heap[w.heap.size + 1]? = Option.some (.cells (peerA p ⟨.slice va0 p.row.length vc0, .slice va1 p.cells.length vc1, .slice va2 p.early.length vc2, .slice va3 p.undos.length vc3, .slice va4 p.votes.length vc4, .slice va5 p.news.length vc5⟩) 45 (0, 0))) := hk; have HMz : Hid (y6.heap.size ≤ z.heap.size) := hg.size; have HI0z : Hid (In y0.heap.size x0.heap.size z 3 1 (.slice va0 p.row.length vc0) p.row.length (flatR intF p.row)) := HI0.out.far hg (Or.inl (by have := HQ0.out; omega)); have HI1z : Hid (In y1.heap.size x1.heap.size z 139 2 (.slice va1 p.cells.length vc1) p.cells.length (flatR cellF p.cells)) := HI1.out.far hg (Or.inl (by have := HQ1.out; omega)); have HI2z : Hid (In y2.heap.size x2.heap.size z 3 1 (.slice va2 p.early.length vc2) p.early.length (flatR intF p.early)) := HI2.out.far hg (Or.inl (by have := HQ2.out; omega)); have HI3z : Hid (In y3.heap.size x3.heap.size z 141 3 (.slice va3 p.undos.length vc3) p.undos.length (flatR undoF p.undos)) := HI3.out.far hg (Or.inl (by have := HQ3.out; omega)); have HI4z : Hid (In y4.heap.size x4.heap.size z 39 4 (.slice va4 p.votes.length vc4) p.votes.length (flatR voteF p.votes)) := HI4.out.far hg (Or.inl (by have := HQ4.out; omega)); have HI5z : Hid (In y5.heap.size x5.heap.size z 52 13 (.slice va5 p.news.length vc5) p.news.length (flatR letF p.news)) := HI5.out.far hg (Or.inl (by have := HQ5.out; omega)); clear hg hk hz HI0 HI1 HI2 HI3 HI4 HI5))
  refine bodyPost_ret (v := .agg (peerA p ⟨.slice va0 p.row.length vc0, .slice va1 p.cells.length vc1, .slice va2 p.early.length vc2, .slice va3 p.undos.length vc3, .slice va4 p.votes.length vc4, .slice va5 p.news.length vc5⟩)) (results_cell_row Tryz.results33 _ _ (w.heap.size + 1) 45 _ (0, 0) _ rfl HKz.out Tryz.underlying45 rfl (by kernel_rfl)) rfl ?_
  refine ⟨_, rfl, ⟨x0.heap.size, x1.heap.size, x2.heap.size, x3.heap.size, x4.heap.size, x5.heap.size, ?_, ?_, ?_, ?_, ?_, ?_, ?_⟩, HBz.out⟩
  · have := HM0.out; have := HM1.out; have := HM2.out; have := HM3.out; have := HM4.out; have := HM5.out; have := HMz.out; have := HQ0.out; omega
  · exact ⟨own_base HI0z.out.1 (by have := HQ0.out; exact (by omega)), HI0z.out.2⟩
  · exact ⟨own_base HI1z.out.1 (by have := HQ0.out; have := HM0.out; exact (by omega)), HI1z.out.2⟩
  · exact ⟨own_base HI2z.out.1 (by have := HQ0.out; have := HM1.out; exact (by omega)), HI2z.out.2⟩
  · exact ⟨own_base HI3z.out.1 (by have := HQ0.out; have := HM2.out; exact (by omega)), HI3z.out.2⟩
  · exact ⟨own_base HI4z.out.1 (by have := HQ0.out; have := HM3.out; exact (by omega)), HI4z.out.2⟩
  · exact ⟨own_base HI5z.out.1 (by have := HQ0.out; have := HM4.out; exact (by omega)), HI5z.out.2⟩

end Go.Proofs.YtjdddcldbfhbiasGreat

namespace Go.Proofs.YtjdddcldbfhbiasGreat
open Go.RowKit Num

theorem apart_new {x v old : Value} {lo hi : Nat} (ha : apart x old) (hx : ∀ g, x.ownBlock = some g → lo ≤ g ∧ g < hi) (hv : ∀ g, v.ownBlock = some g → old.ownBlock = some g ∨ hi ≤ g) : apart x v := fun g e1 e2 => by
  rcases hv g e2 with h | h
  · exact ha g e1 h
  · have := hx g e1; omega
theorem Apart6.wide {lo hi hi' : Nat} {s : PV} (h : Apart6 lo hi s) (hh : hi ≤ hi') : Apart6 lo hi' s :=
  ⟨h.a01, h.a02, h.a03, h.a04, h.a05, h.a10, h.a12, h.a13, h.a14, h.a15, h.a20, h.a21, h.a23, h.a24, h.a25, h.a30, h.a31, h.a32, h.a34, h.a35, h.a40, h.a41, h.a42, h.a43, h.a45, h.a50, h.a51, h.a52, h.a53, h.a54, fun g e => ⟨(h.l0 g e).1, Nat.lt_of_lt_of_le (h.l0 g e).2 hh⟩, fun g e => ⟨(h.l1 g e).1, Nat.lt_of_lt_of_le (h.l1 g e).2 hh⟩, fun g e => ⟨(h.l2 g e).1, Nat.lt_of_lt_of_le (h.l2 g e).2 hh⟩, fun g e => ⟨(h.l3 g e).1, Nat.lt_of_lt_of_le (h.l3 g e).2 hh⟩, fun g e => ⟨(h.l4 g e).1, Nat.lt_of_lt_of_le (h.l4 g e).2 hh⟩, fun g e => ⟨(h.l5 g e).1, Nat.lt_of_lt_of_le (h.l5 g e).2 hh⟩⟩
theorem OwnD.wide {lo hi hi' : Nat} {w : World} {p : PE} {s : PV} (h : OwnD lo hi w p s) (hh : hi ≤ hi') (hs : hi' ≤ w.heap.size) : OwnD lo hi' w p s := ⟨h.1, h.2.1.wide hh, hs⟩
theorem OwnD.other {lo hi : Nat} {w : World} {p q : PE} {s : PV} (h : OwnD lo hi w p s) (e0 : q.row = p.row) (e1 : q.cells = p.cells) (e2 : q.early = p.early) (e3 : q.undos = p.undos) (e4 : q.votes = p.votes) (e5 : q.news = p.news) : OwnD lo hi w q s := by
  obtain ⟨⟨r0, r1, r2, r3, r4, r5⟩, ha, hs⟩ := h
  refine ⟨⟨?_, ?_, ?_, ?_, ?_, ?_⟩, ha, hs⟩
  · rw [e0]; exact r0
  · rw [e1]; exact r1
  · rw [e2]; exact r2
  · rw [e3]; exact r3
  · rw [e4]; exact r4
  · rw [e5]; exact r5
theorem OwnD.low {lo lo' hi : Nat} {w : World} {p : PE} {s : PV} (h : OwnD lo hi w p s) (hl : lo' ≤ lo) : OwnD lo' hi w p s := by
  obtain ⟨⟨r0, r1, r2, r3, r4, r5⟩, ha, hs⟩ := h
  exact ⟨⟨own_base r0 hl, own_base r1 hl, own_base r2 hl, own_base r3 hl, own_base r4 hl, own_base r5 hl⟩, ⟨ha.a01, ha.a02, ha.a03, ha.a04, ha.a05, ha.a10, ha.a12, ha.a13, ha.a14, ha.a15, ha.a20, ha.a21, ha.a23, ha.a24, ha.a25, ha.a30, ha.a31, ha.a32, ha.a34, ha.a35, ha.a40, ha.a41, ha.a42, ha.a43, ha.a45, ha.a50, ha.a51, ha.a52, ha.a53, ha.a54, fun g e => ⟨Nat.le_trans hl (ha.l0 g e).1, (ha.l0 g e).2⟩, fun g e => ⟨Nat.le_trans hl (ha.l1 g e).1, (ha.l1 g e).2⟩, fun g e => ⟨Nat.le_trans hl (ha.l2 g e).1, (ha.l2 g e).2⟩, fun g e => ⟨Nat.le_trans hl (ha.l3 g e).1, (ha.l3 g e).2⟩, fun g e => ⟨Nat.le_trans hl (ha.l4 g e).1, (ha.l4 g e).2⟩, fun g e => ⟨Nat.le_trans hl (ha.l5 g e).1, (ha.l5 g e).2⟩⟩, hs⟩
theorem Apart6.setRow {lo hi hi' : Nat} {s : PV} {v : Value} (h : Apart6 lo hi s) (hh : hi ≤ hi') (hr : ∀ g, v.ownBlock = some g → lo ≤ g ∧ g < hi') (hv : ∀ g, v.ownBlock = some g → s.row.ownBlock = some g ∨ hi ≤ g) : Apart6 lo hi' { s with row := v } :=
  ⟨(apart_new h.a10 h.l1 hv).symm, (apart_new h.a20 h.l2 hv).symm, (apart_new h.a30 h.l3 hv).symm, (apart_new h.a40 h.l4 hv).symm, (apart_new h.a50 h.l5 hv).symm, apart_new h.a10 h.l1 hv, h.a12, h.a13, h.a14, h.a15, apart_new h.a20 h.l2 hv, h.a21, h.a23, h.a24, h.a25, apart_new h.a30 h.l3 hv, h.a31, h.a32, h.a34, h.a35, apart_new h.a40 h.l4 hv, h.a41, h.a42, h.a43, h.a45, apart_new h.a50 h.l5 hv, h.a51, h.a52, h.a53, h.a54, hr, fun g e => ⟨(h.l1 g e).1, Nat.lt_of_lt_of_le (h.l1 g e).2 hh⟩, fun g e => ⟨(h.l2 g e).1, Nat.lt_of_lt_of_le (h.l2 g e).2 hh⟩, fun g e => ⟨(h.l3 g e).1, Nat.lt_of_lt_of_le (h.l3 g e).2 hh⟩, fun g e => ⟨(h.l4 g e).1, Nat.lt_of_lt_of_le (h.l4 g e).2 hh⟩, fun g e => ⟨(h.l5 g e).1, Nat.lt_of_lt_of_le (h.l5 g e).2 hh⟩⟩
theorem OwnD.setRow {lo hi hi' : Nat} {w : World} {p : PE} {s : PV} {v : Value} {l : List (Int)} (h : OwnD lo hi w p s) (hh : hi ≤ hi') (hs : hi' ≤ w.heap.size) (ho : w.ownsRow lo 3 1 v l.length (flatR intF l)) (hr : ∀ g, v.ownBlock = some g → g < hi') (hv : ∀ g, v.ownBlock = some g → s.row.ownBlock = some g ∨ hi ≤ g) : OwnD lo hi' w { p with row := l } { s with row := v } :=
  ⟨⟨ho, h.1.cells, h.1.early, h.1.undos, h.1.votes, h.1.news⟩, h.2.1.setRow hh (fun g e => ⟨(ho.lt g e).1, hr g e⟩) hv, hs⟩
theorem Apart6.setCells {lo hi hi' : Nat} {s : PV} {v : Value} (h : Apart6 lo hi s) (hh : hi ≤ hi') (hr : ∀ g, v.ownBlock = some g → lo ≤ g ∧ g < hi') (hv : ∀ g, v.ownBlock = some g → s.cells.ownBlock = some g ∨ hi ≤ g) : Apart6 lo hi' { s with cells := v } :=
  ⟨apart_new h.a01 h.l0 hv, h.a02, h.a03, h.a04, h.a05, (apart_new h.a01 h.l0 hv).symm, (apart_new h.a21 h.l2 hv).symm, (apart_new h.a31 h.l3 hv).symm, (apart_new h.a41 h.l4 hv).symm, (apart_new h.a51 h.l5 hv).symm, h.a20, apart_new h.a21 h.l2 hv, h.a23, h.a24, h.a25, h.a30, apart_new h.a31 h.l3 hv, h.a32, h.a34, h.a35, h.a40, apart_new h.a41 h.l4 hv, h.a42, h.a43, h.a45, h.a50, apart_new h.a51 h.l5 hv, h.a52, h.a53, h.a54, fun g e => ⟨(h.l0 g e).1, Nat.lt_of_lt_of_le (h.l0 g e).2 hh⟩, hr, fun g e => ⟨(h.l2 g e).1, Nat.lt_of_lt_of_le (h.l2 g e).2 hh⟩, fun g e => ⟨(h.l3 g e).1, Nat.lt_of_lt_of_le (h.l3 g e).2 hh⟩, fun g e => ⟨(h.l4 g e).1, Nat.lt_of_lt_of_le (h.l4 g e).2 hh⟩, fun g e => ⟨(h.l5 g e).1, Nat.lt_of_lt_of_le (h.l5 g e).2 hh⟩⟩
theorem OwnD.setCells {lo hi hi' : Nat} {w : World} {p : PE} {s : PV} {v : Value} {l : List (ByteArray × Int)} (h : OwnD lo hi w p s) (hh : hi ≤ hi') (hs : hi' ≤ w.heap.size) (ho : w.ownsRow lo 139 2 v l.length (flat l)) (hr : ∀ g, v.ownBlock = some g → g < hi') (hv : ∀ g, v.ownBlock = some g → s.cells.ownBlock = some g ∨ hi ≤ g) : OwnD lo hi' w { p with cells := l } { s with cells := v } :=
  ⟨⟨h.1.row, ho, h.1.early, h.1.undos, h.1.votes, h.1.news⟩, h.2.1.setCells hh (fun g e => ⟨(ho.lt g e).1, hr g e⟩) hv, hs⟩
theorem Apart6.setEarly {lo hi hi' : Nat} {s : PV} {v : Value} (h : Apart6 lo hi s) (hh : hi ≤ hi') (hr : ∀ g, v.ownBlock = some g → lo ≤ g ∧ g < hi') (hv : ∀ g, v.ownBlock = some g → s.early.ownBlock = some g ∨ hi ≤ g) : Apart6 lo hi' { s with early := v } :=
  ⟨h.a01, apart_new h.a02 h.l0 hv, h.a03, h.a04, h.a05, h.a10, apart_new h.a12 h.l1 hv, h.a13, h.a14, h.a15, (apart_new h.a02 h.l0 hv).symm, (apart_new h.a12 h.l1 hv).symm, (apart_new h.a32 h.l3 hv).symm, (apart_new h.a42 h.l4 hv).symm, (apart_new h.a52 h.l5 hv).symm, h.a30, h.a31, apart_new h.a32 h.l3 hv, h.a34, h.a35, h.a40, h.a41, apart_new h.a42 h.l4 hv, h.a43, h.a45, h.a50, h.a51, apart_new h.a52 h.l5 hv, h.a53, h.a54, fun g e => ⟨(h.l0 g e).1, Nat.lt_of_lt_of_le (h.l0 g e).2 hh⟩, fun g e => ⟨(h.l1 g e).1, Nat.lt_of_lt_of_le (h.l1 g e).2 hh⟩, hr, fun g e => ⟨(h.l3 g e).1, Nat.lt_of_lt_of_le (h.l3 g e).2 hh⟩, fun g e => ⟨(h.l4 g e).1, Nat.lt_of_lt_of_le (h.l4 g e).2 hh⟩, fun g e => ⟨(h.l5 g e).1, Nat.lt_of_lt_of_le (h.l5 g e).2 hh⟩⟩
theorem OwnD.setEarly {lo hi hi' : Nat} {w : World} {p : PE} {s : PV} {v : Value} {l : List (Int)} (h : OwnD lo hi w p s) (hh : hi ≤ hi') (hs : hi' ≤ w.heap.size) (ho : w.ownsRow lo 3 1 v l.length (flatR intF l)) (hr : ∀ g, v.ownBlock = some g → g < hi') (hv : ∀ g, v.ownBlock = some g → s.early.ownBlock = some g ∨ hi ≤ g) : OwnD lo hi' w { p with early := l } { s with early := v } :=
  ⟨⟨h.1.row, h.1.cells, ho, h.1.undos, h.1.votes, h.1.news⟩, h.2.1.setEarly hh (fun g e => ⟨(ho.lt g e).1, hr g e⟩) hv, hs⟩
theorem Apart6.setUndos {lo hi hi' : Nat} {s : PV} {v : Value} (h : Apart6 lo hi s) (hh : hi ≤ hi') (hr : ∀ g, v.ownBlock = some g → lo ≤ g ∧ g < hi') (hv : ∀ g, v.ownBlock = some g → s.undos.ownBlock = some g ∨ hi ≤ g) : Apart6 lo hi' { s with undos := v } :=
  ⟨h.a01, h.a02, apart_new h.a03 h.l0 hv, h.a04, h.a05, h.a10, h.a12, apart_new h.a13 h.l1 hv, h.a14, h.a15, h.a20, h.a21, apart_new h.a23 h.l2 hv, h.a24, h.a25, (apart_new h.a03 h.l0 hv).symm, (apart_new h.a13 h.l1 hv).symm, (apart_new h.a23 h.l2 hv).symm, (apart_new h.a43 h.l4 hv).symm, (apart_new h.a53 h.l5 hv).symm, h.a40, h.a41, h.a42, apart_new h.a43 h.l4 hv, h.a45, h.a50, h.a51, h.a52, apart_new h.a53 h.l5 hv, h.a54, fun g e => ⟨(h.l0 g e).1, Nat.lt_of_lt_of_le (h.l0 g e).2 hh⟩, fun g e => ⟨(h.l1 g e).1, Nat.lt_of_lt_of_le (h.l1 g e).2 hh⟩, fun g e => ⟨(h.l2 g e).1, Nat.lt_of_lt_of_le (h.l2 g e).2 hh⟩, hr, fun g e => ⟨(h.l4 g e).1, Nat.lt_of_lt_of_le (h.l4 g e).2 hh⟩, fun g e => ⟨(h.l5 g e).1, Nat.lt_of_lt_of_le (h.l5 g e).2 hh⟩⟩
theorem OwnD.setUndos {lo hi hi' : Nat} {w : World} {p : PE} {s : PV} {v : Value} {l : List (UN)} (h : OwnD lo hi w p s) (hh : hi ≤ hi') (hs : hi' ≤ w.heap.size) (ho : w.ownsRow lo 141 3 v l.length (flatR undoF l)) (hr : ∀ g, v.ownBlock = some g → g < hi') (hv : ∀ g, v.ownBlock = some g → s.undos.ownBlock = some g ∨ hi ≤ g) : OwnD lo hi' w { p with undos := l } { s with undos := v } :=
  ⟨⟨h.1.row, h.1.cells, h.1.early, ho, h.1.votes, h.1.news⟩, h.2.1.setUndos hh (fun g e => ⟨(ho.lt g e).1, hr g e⟩) hv, hs⟩
theorem Apart6.setVotes {lo hi hi' : Nat} {s : PV} {v : Value} (h : Apart6 lo hi s) (hh : hi ≤ hi') (hr : ∀ g, v.ownBlock = some g → lo ≤ g ∧ g < hi') (hv : ∀ g, v.ownBlock = some g → s.votes.ownBlock = some g ∨ hi ≤ g) : Apart6 lo hi' { s with votes := v } :=
  ⟨h.a01, h.a02, h.a03, apart_new h.a04 h.l0 hv, h.a05, h.a10, h.a12, h.a13, apart_new h.a14 h.l1 hv, h.a15, h.a20, h.a21, h.a23, apart_new h.a24 h.l2 hv, h.a25, h.a30, h.a31, h.a32, apart_new h.a34 h.l3 hv, h.a35, (apart_new h.a04 h.l0 hv).symm, (apart_new h.a14 h.l1 hv).symm, (apart_new h.a24 h.l2 hv).symm, (apart_new h.a34 h.l3 hv).symm, (apart_new h.a54 h.l5 hv).symm, h.a50, h.a51, h.a52, h.a53, apart_new h.a54 h.l5 hv, fun g e => ⟨(h.l0 g e).1, Nat.lt_of_lt_of_le (h.l0 g e).2 hh⟩, fun g e => ⟨(h.l1 g e).1, Nat.lt_of_lt_of_le (h.l1 g e).2 hh⟩, fun g e => ⟨(h.l2 g e).1, Nat.lt_of_lt_of_le (h.l2 g e).2 hh⟩, fun g e => ⟨(h.l3 g e).1, Nat.lt_of_lt_of_le (h.l3 g e).2 hh⟩, hr, fun g e => ⟨(h.l5 g e).1, Nat.lt_of_lt_of_le (h.l5 g e).2 hh⟩⟩
theorem OwnD.setVotes {lo hi hi' : Nat} {w : World} {p : PE} {s : PV} {v : Value} {l : List (VT)} (h : OwnD lo hi w p s) (hh : hi ≤ hi') (hs : hi' ≤ w.heap.size) (ho : w.ownsRow lo 39 4 v l.length (flatR voteF l)) (hr : ∀ g, v.ownBlock = some g → g < hi') (hv : ∀ g, v.ownBlock = some g → s.votes.ownBlock = some g ∨ hi ≤ g) : OwnD lo hi' w { p with votes := l } { s with votes := v } :=
  ⟨⟨h.1.row, h.1.cells, h.1.early, h.1.undos, ho, h.1.news⟩, h.2.1.setVotes hh (fun g e => ⟨(ho.lt g e).1, hr g e⟩) hv, hs⟩
theorem Apart6.setNews {lo hi hi' : Nat} {s : PV} {v : Value} (h : Apart6 lo hi s) (hh : hi ≤ hi') (hr : ∀ g, v.ownBlock = some g → lo ≤ g ∧ g < hi') (hv : ∀ g, v.ownBlock = some g → s.news.ownBlock = some g ∨ hi ≤ g) : Apart6 lo hi' { s with news := v } :=
  ⟨h.a01, h.a02, h.a03, h.a04, apart_new h.a05 h.l0 hv, h.a10, h.a12, h.a13, h.a14, apart_new h.a15 h.l1 hv, h.a20, h.a21, h.a23, h.a24, apart_new h.a25 h.l2 hv, h.a30, h.a31, h.a32, h.a34, apart_new h.a35 h.l3 hv, h.a40, h.a41, h.a42, h.a43, apart_new h.a45 h.l4 hv, (apart_new h.a05 h.l0 hv).symm, (apart_new h.a15 h.l1 hv).symm, (apart_new h.a25 h.l2 hv).symm, (apart_new h.a35 h.l3 hv).symm, (apart_new h.a45 h.l4 hv).symm, fun g e => ⟨(h.l0 g e).1, Nat.lt_of_lt_of_le (h.l0 g e).2 hh⟩, fun g e => ⟨(h.l1 g e).1, Nat.lt_of_lt_of_le (h.l1 g e).2 hh⟩, fun g e => ⟨(h.l2 g e).1, Nat.lt_of_lt_of_le (h.l2 g e).2 hh⟩, fun g e => ⟨(h.l3 g e).1, Nat.lt_of_lt_of_le (h.l3 g e).2 hh⟩, fun g e => ⟨(h.l4 g e).1, Nat.lt_of_lt_of_le (h.l4 g e).2 hh⟩, hr⟩
theorem OwnD.setNews {lo hi hi' : Nat} {w : World} {p : PE} {s : PV} {v : Value} {l : List (LT)} (h : OwnD lo hi w p s) (hh : hi ≤ hi') (hs : hi' ≤ w.heap.size) (ho : w.ownsRow lo 52 13 v l.length (flatR letF l)) (hr : ∀ g, v.ownBlock = some g → g < hi') (hv : ∀ g, v.ownBlock = some g → s.news.ownBlock = some g ∨ hi ≤ g) : OwnD lo hi' w { p with news := l } { s with news := v } :=
  ⟨⟨h.1.row, h.1.cells, h.1.early, h.1.undos, h.1.votes, ho⟩, h.2.1.setNews hh (fun g e => ⟨(ho.lt g e).1, hr g e⟩) hv, hs⟩
/-- a row is no box -/
theorem row_not_box {w : World} {base n m N : Nat} {e T : TypeId} {v : Value} {xs : List Value} {A : Array Value} {fz : Nat × Nat} (h : w.ownsRow base e m v n xs) (hN : w.heap[N]? = some (.cells A T fz)) (hne : e ≠ T) : v.ownBlock = none ∨ v.ownBlock ≠ some N := by
  cases e2 : v.ownBlock with
  | none => exact Or.inl rfl
  | some g =>
    refine Or.inr fun e3 => ?_
    obtain rfl := Option.some.inj e3
    obtain ⟨_, ⟨rfl, _⟩ | ⟨g', cap, cur, rfl, _, hh, _⟩⟩ := h
    · cases e2
    · obtain rfl : g' = g := Option.some.inj e2
      rw [hN] at hh
      injection hh with hh
      injection hh with _ hh
      exact hne hh.symm
theorem OwnD.boxed {lo hi N : Nat} {w w' : World} {p : PE} {s : PV} {A : Array Value} (h : OwnD lo hi w p s) (hN : w.heap[N]? = some (.cells A 45 (0, 0))) (hg : w.grownBy w' (some N)) : OwnD lo hi w' p s :=
  ⟨⟨World.ownsRow.kept h.1.row hg (row_not_box h.1.row hN (by decide)), World.ownsRow.kept h.1.cells hg (row_not_box h.1.cells hN (by decide)), World.ownsRow.kept h.1.early hg (row_not_box h.1.early hN (by decide)), World.ownsRow.kept h.1.undos hg (row_not_box h.1.undos hN (by decide)), World.ownsRow.kept h.1.votes hg (row_not_box h.1.votes hN (by decide)), World.ownsRow.kept h.1.news hg (row_not_box h.1.news hN (by decide))⟩, h.2.1, Nat.le_trans h.2.2 hg.size⟩

/-- a struct loaded where a guard lets it -/
theorem wpList_load_row_w {P : Program} {ops : Array Oper} {rest : List Oper} {o : Oper} {a : Act} {w : World} {Q : Exit → Act → World → Prop} (hw : Region.wanted o (yielded ops a.tmps) = true) (ty : TypeId) (x : Operand) (ho : o.op = .load ty x)
    (g : Nat) (hx : a.eval x = .pointer (some ⟨g, 0, none⟩)) (t : TypeId) (cs : Array Value) (fr : Nat × Nat) (d : TypeDesc) (hg : w.heap[g]? = some (.cells cs t fr))
    (hu : P.underlying ty = some d) (hd : (match d with | .struct _ | .array _ _ => true | _ => false) = true) (hi : (P.info? ty).map (·.size) = some cs.size)
    (h : wpList P ops Q rest (a.put o.dst (.agg cs)) w) : wpList P ops Q (o :: rest) a w :=
  wpList_step fun K hK => by rw [if_pos hw]; exact wp_load_row ty x ho g hx t cs fr d hg hu hd hi (hK _ _ h)

end Go.Proofs.YtjdddcldbfhbiasGreat

namespace Go.Proofs.YtjdddcldbfhbiasGreat
open Go.RowKit Num

/-- whether it may give a vote of this Phase and View -/
def mayB (p : PE) (phase view : Int) : Bool := decide (p.last.2.1 < view) || (decide (p.last.2.1 = view) && decide (p.last.1 < phase))
/-- .. in a View of its own -/
def enterP (p : PE) (view : Int) : PE := if view > p.view ∧ view ≤ 900 then { p with view := view, votes := [], news := [] } else p
/-- .. that gave a vote -/
def votedP (p : PE) (phase view block : Int) : PE := { p with last := (phase, view, block, p.id) }
theorem voted_small {p : PE} (h : smallPe p) (phase view block : Int) : smallPe (votedP p phase view block) := ⟨h.row, h.cells, h.early, h.undos, h.votes, h.news, h.kcells, h.kundos⟩
theorem enter_small {p : PE} (h : smallPe p) (view : Int) : smallPe (enterP p view) := by
  unfold enterP
  split
  · exact ⟨h.row, h.cells, h.early, h.undos, by simp, by simp, h.kcells, h.kundos⟩
  · exact h
theorem enter_len (p : PE) (view : Int) : lenPe (enterP p view) ≤ lenPe p := by
  unfold enterP
  split
  · unfold lenPe; simp; omega
  · exact Nat.le_refl _

theorem enter_sum {p : PE} (h : sumPe p) (view : Int) : sumPe (enterP p view) := by
  have hl := enter_len p view
  unfold enterP at hl ⊢
  split
  · rename_i hc
    rw [if_pos hc] at hl
    exact ⟨Nat.le_trans hl h.1, h.2.1, h.2.2.1, h.2.2.2.1, h.2.2.2.2.1, by simp, by simp⟩
  · exact h

set_option maxRecDepth 100000 in
theorem mayVote_s (p : PE) (s : PV) (phase view : Int) (w : World) :
    Calls Tryz.prog 38 #[peerV p s, .int .i64 phase, .int .i64 view] w fun e w' => e = .returned (.bool (mayB p phase view)) ∧ Below w.heap.size w w' := by
  have HK : Hid ((w.alloc (.cells (peerA p s) 45)).heap[w.heap.size]? = some (.cells (peerA p s) 45 (0, 0))) := heap_alloc_new w _
  have c10 := blk_cell HK.out 10 (.int .i64 p.last.1) rfl
  have c11 := blk_cell HK.out 11 (.int .i64 p.last.2.1) rfl
  by_cases h1 : p.last.2.1 < view
  · have HR : Hid (mayB p phase view = true) := (by unfold mayB; rw [decide_eq_true h1]; rfl : mayB p phase view = true)
    go_enter Tryz.func38, Tryz.ntmps38
    go_wp2
    go_ret
    exact ⟨ret_bool HR.out.symm, ba (Below.refl _ _) _⟩
  · by_cases h2 : p.last.2.1 = view
    · have b2 : (p.last.2.1 == view) = true := by simpa using h2
      by_cases h3 : p.last.1 < phase
      · have HR : Hid (mayB p phase view = true) := (by unfold mayB; rw [decide_eq_true h2, decide_eq_true h3]; simp : mayB p phase view = true)
        go_enter Tryz.func38, Tryz.ntmps38
        go_wp2
        go_ret
        exact ⟨ret_bool HR.out.symm, ba (Below.refl _ _) _⟩
      · have HR : Hid (mayB p phase view = false) := (by unfold mayB; rw [decide_eq_false h1, decide_eq_false h3]; simp : mayB p phase view = false)
        go_enter Tryz.func38, Tryz.ntmps38
        go_wp2
        go_ret
        exact ⟨ret_bool HR.out.symm, ba (Below.refl _ _) _⟩
    · have b2 : (p.last.2.1 == view) = false := by simpa using h2
      have HR : Hid (mayB p phase view = false) := (by unfold mayB; rw [decide_eq_false h1, decide_eq_false h2]; simp : mayB p phase view = false)
      go_enter Tryz.func38, Tryz.ntmps38
      go_wp2
      go_ret
      exact ⟨ret_bool HR.out.symm, ba (Below.refl _ _) _⟩

/-- three boxes: of the one that came in, of the answer, and one more -/
structure Bx3 (w y : World) (N : Nat) (A Z O : Array Value) : Prop where
  below : Below w.heap.size w y
  box : y.heap[w.heap.size]? = some (.cells A 45 (0, 0))
  zero : y.heap[w.heap.size + 1]? = some (.cells Z 45 (0, 0))
  out : y.heap[N]? = some (.cells O 45 (0, 0))
  far : w.heap.size + 1 < N
theorem Bx3.lt {w y : World} {N : Nat} {A Z O : Array Value} (h : Bx3 w y N A Z O) : N < y.heap.size := (Array.getElem?_eq_some_iff.1 h.out).1
theorem Bx3.more {w y x : World} {N : Nat} {A Z O : Array Value} (h : Bx3 w y N A Z O) (hb : Below y.heap.size y x) : Bx3 w x N A Z O := by
  have := h.lt
  have := h.far
  exact ⟨bt h.below hb, (hb.block _ (by omega)).trans h.box, (hb.block _ (by omega)).trans h.zero, (hb.block _ (by omega)).trans h.out, h.far⟩
theorem Bx3.put {w y x : World} {N : Nat} {A Z O O' : Array Value} (h : Bx3 w y N A Z O) (hg : y.grownBy x (some N)) (hk : x.heap[N]? = some (.cells O' 45 (0, 0))) : Bx3 w x N A Z O' := by
  have := h.lt
  have := h.far
  exact ⟨h.below.grown hg h.below.size (fun k hk => by cases hk; omega), (hg.block _ (by omega) (fun e => by have := Option.some.inj e; omega)).trans h.box, (hg.block _ (by omega) (fun e => by have := Option.some.inj e; omega)).trans h.zero, hk, h.far⟩

set_option maxRecDepth 100000 in
set_option maxHeartbeats 8000000 in
theorem entered_s (p : PE) (s : PV) (view : Int) (w : World) (hR : PeerR w p s) (hs : smallPe p) :
    Calls Tryz.prog 42 #[peerV p s, .int .i64 view] w fun e w' => ∃ s', e = .returned (peerV (enterP p view) s') ∧ OwnD w.heap.size w'.heap.size w' (enterP p view) s' ∧ Below w.heap.size w w' := by
  have HR := hid hR
  have HS := hid hs
  clear hR hs
  obtain ⟨W, hW⟩ : ∃ W, W = (w.alloc (.cells (peerA p s) 45)).alloc (.cells zeroA 45) := ⟨_, rfl⟩
  have HC : Hid (Below w.heap.size w W ∧ W.heap[w.heap.size]? = some (.cells (peerA p s) 45 (0, 0)) ∧ W.heap[w.heap.size + 1]? = some (.cells zeroA 45 (0, 0))) := by
    rw [hW]; exact ⟨ba (ba (Below.refl _ _) _) _, alloc2 w _ _⟩
  have HWS : Hid (W.heap.size = w.heap.size + 1 + 1) := (by rw [hW]; simp : W.heap.size = w.heap.size + 1 + 1)
  unfold zeroA at hW
  go_enter Tryz.func42, Tryz.ntmps42
  go_wp2_with (rw [← hW]; clear hW; refine wpList_load_row rfl _ _ rfl w.heap.size rfl 45 _ (0, 0) _ HC.out.2.1 Tryz.underlying45 rfl (by kernel_rfl) ?_)
  refine (copy_s p s W (HR.out.below HC.out.1) HS.out).mono ?_
  rintro e x1 ⟨s1, rfl, ho, hb⟩
  have HO1 : Hid (OwnD W.heap.size x1.heap.size x1 p s1) := ho.toD
  have HB1 : Hid (Below W.heap.size W x1) := hb
  clear ho hb
  by_cases hin : view > p.view ∧ view ≤ 900
  · have h1 : view > p.view := hin.1
    have h1' : p.view < view := hin.1
    have h2 : view ≤ 900 := hin.2
    have HE : Hid (enterP p view = { p with view := view, votes := [], news := [] }) := (by unfold enterP; rw [if_pos hin] : enterP p view = _)
    clear hin
    go_wp2_with (first
      | (refine wpList_store_blk rfl _ _ _ rfl x1.heap.size (peerA p s1) rfl rfl 45 zeroA (heap_alloc_new x1 _) (by kernel_rfl) rfl (peerA_one HO1.out.1) ?_; intro y1 hg hk hz; have hb1 : Below x1.heap.size x1 y1 := made_below hg; have HY1 : Hid (Bx3 w y1 x1.heap.size (peerA p s) zeroA (peerA p s1)) := ⟨bt HC.out.1 (bt HB1.out hb1), (hb1.block _ (by have := HB1.out.size; have := HWS.out; omega)).trans ((HB1.out.block _ (by have := HWS.out; omega)).trans HC.out.2.1), (hb1.block _ (by have := HB1.out.size; have := HWS.out; omega)).trans ((HB1.out.block _ (by have := HWS.out; omega)).trans HC.out.2.2), hk, (by have := HB1.out.size; have := HWS.out; omega)⟩; have HD1 : Hid (OwnD W.heap.size x1.heap.size y1 p s1) := HO1.out.below hb1; clear hg hk hz hb1 HO1; have c1 := blk_cell HY1.out.box 1 (.int .i64 p.view) rfl)
      | (refine wpList_store_cell rfl _ _ _ rfl x1.heap.size 1 (.int .i64 view) rfl rfl _ _ HY1.out.out (by kernel_rfl) (by simp [peerA]) rfl (peerA { p with view := view } s1) rfl ?_; intro y2 hg hk; have HY2 : Hid (Bx3 w y2 x1.heap.size (peerA p s) zeroA (peerA { p with view := view } s1)) := HY1.out.put hg hk; have HD2 : Hid (OwnD W.heap.size x1.heap.size y2 p s1) := HD1.out.far hg (Or.inr (Nat.le_refl _)); clear hg hk HY1 HD1 c1)
      | (refine wpList_store_cell rfl _ _ _ rfl x1.heap.size 18 (.slice (some ⟨y2.heap.size, 0, none⟩) 0 0) rfl rfl _ _ (HY2.out.more ((Below.refl _ _).alloc (Nat.le_refl _) (.cells #[] 39))).out (by kernel_rfl) (by simp [peerA]) rfl (peerA { p with view := view } { s1 with votes := .slice (some ⟨y2.heap.size, 0, none⟩) 0 0 }) rfl ?_; intro y3 hg hk; have HY3 : Hid (Bx3 w y3 x1.heap.size (peerA p s) zeroA (peerA { p with view := view } { s1 with votes := .slice (some ⟨y2.heap.size, 0, none⟩) 0 0 })) := (HY2.out.more ((Below.refl _ _).alloc (Nat.le_refl _) _)).put hg hk; have HD3 : Hid (OwnD W.heap.size x1.heap.size y3 p s1) := (HD2.out.below ((Below.refl _ _).alloc (Nat.le_refl _) _)).far hg (Or.inr (Nat.le_refl _)); have HV3 : Hid (y3.ownsRow y2.heap.size 39 4 (.slice (some ⟨y2.heap.size, 0, none⟩) 0 0) 0 []) := World.ownsRow.kept (own_new y2 _ _) hg (Or.inr (fun e => by have e := Option.some.inj e; have := HY2.out.lt; simp at e; omega)); have HL3 : Hid (x1.heap.size < y2.heap.size ∧ y2.heap.size < y3.heap.size) := ⟨HY2.out.lt, Nat.lt_of_lt_of_le (by simp) hg.size⟩; clear hg hk HY2 HD2)
      | (refine wpList_store_cell rfl _ _ _ rfl x1.heap.size 19 (.slice (some ⟨y3.heap.size, 0, none⟩) 0 0) rfl rfl _ _ (HY3.out.more ((Below.refl _ _).alloc (Nat.le_refl _) (.cells #[] 52))).out (by kernel_rfl) (by simp [peerA]) rfl (peerA { p with view := view } { s1 with votes := .slice (some ⟨y2.heap.size, 0, none⟩) 0 0, news := .slice (some ⟨y3.heap.size, 0, none⟩) 0 0 }) rfl ?_; intro y4 hg hk; have HY4 : Hid (Bx3 w y4 x1.heap.size (peerA p s) zeroA (peerA { p with view := view } { s1 with votes := .slice (some ⟨y2.heap.size, 0, none⟩) 0 0, news := .slice (some ⟨y3.heap.size, 0, none⟩) 0 0 })) := (HY3.out.more ((Below.refl _ _).alloc (Nat.le_refl _) _)).put hg hk; have HD4 : Hid (OwnD W.heap.size x1.heap.size y4 p s1) := (HD3.out.below ((Below.refl _ _).alloc (Nat.le_refl _) _)).far hg (Or.inr (Nat.le_refl _)); have HV4 : Hid (y4.ownsRow y2.heap.size 39 4 (.slice (some ⟨y2.heap.size, 0, none⟩) 0 0) 0 []) := World.ownsRow.kept (HV3.out.alloc _) hg (Or.inr (fun e => by have e := Option.some.inj e; have := HL3.out; simp at e; omega)); have HN4 : Hid (y4.ownsRow y3.heap.size 52 13 (.slice (some ⟨y3.heap.size, 0, none⟩) 0 0) 0 []) := World.ownsRow.kept (own_new y3 _ _) hg (Or.inr (fun e => by have e := Option.some.inj e; have := HL3.out; simp at e; omega)); have HL4 : Hid (y3.heap.size < y4.heap.size) := Nat.lt_of_lt_of_le (by simp) hg.size; have HF4 : Hid (OwnD W.heap.size y4.heap.size y4 { p with view := view, votes := [], news := [] } { s1 with votes := .slice (some ⟨y2.heap.size, 0, none⟩) 0 0, news := .slice (some ⟨y3.heap.size, 0, none⟩) 0 0 }) := OwnD.setNews (l := []) (OwnD.setVotes (l := []) (hi' := y3.heap.size) (HD4.out.other (q := { p with view := view }) rfl rfl rfl rfl rfl rfl) (by have := HL3.out; omega) (by have := HL4.out; omega) (own_base HV4.out (by have := HB1.out.size; have := HL3.out; omega)) (fun g e => by cases e; exact HL3.out.2) (fun g e => by cases e; exact Or.inr (Nat.le_of_lt HL3.out.1))) (by have := HL4.out; omega) (Nat.le_refl _) (own_base HN4.out (by have := HB1.out.size; have := HL3.out; omega)) (fun g e => by cases e; exact HL4.out) (fun g e => by cases e; exact Or.inr (Nat.le_refl _)); clear hg hk HY3 HD3 HV3)
      | (refine wpList_load_row rfl _ _ rfl x1.heap.size rfl 45 _ (0, 0) _ HY4.out.out Tryz.underlying45 rfl (by kernel_rfl) ?_)
      | (refine wpList_store_blk rfl _ _ _ rfl (w.heap.size + 1) (peerA { p with view := view, votes := [], news := [] } { s1 with votes := .slice (some ⟨y2.heap.size, 0, none⟩) 0 0, news := .slice (some ⟨y3.heap.size, 0, none⟩) 0 0 }) rfl rfl 45 zeroA HY4.out.zero (by kernel_rfl) rfl (peerA_one HF4.out.1) ?_; intro z hg hk hz; have HBz : Hid (Below w.heap.size w z) := HY4.out.below.grown hg HY4.out.below.size (fun k hk => by cases hk; omega); have HKz : Hid (z.heap[w.heap.size + 1]? = Option.some (.cells (peerA { p with view := view, votes := [], news := [] } { s1 with votes := .slice (some ⟨y2.heap.size, 0, none⟩) 0 0, news := .slice (some ⟨y3.heap.size, 0, none⟩) 0 0 }) 45 (0, 0))) := hk; have HFz : Hid (OwnD W.heap.size y4.heap.size z { p with view := view, votes := [], news := [] } { s1 with votes := .slice (some ⟨y2.heap.size, 0, none⟩) 0 0, news := .slice (some ⟨y3.heap.size, 0, none⟩) 0 0 }) := HF4.out.far hg (Or.inl (by have := HWS.out; omega)); have HSz : Hid (y4.heap.size ≤ z.heap.size) := hg.size; clear hg hk hz HY4 HF4))
    refine bodyPost_ret (v := .agg (peerA { p with view := view, votes := [], news := [] } { s1 with votes := .slice (some ⟨y2.heap.size, 0, none⟩) 0 0, news := .slice (some ⟨y3.heap.size, 0, none⟩) 0 0 })) (results_cell_row Tryz.results42 _ _ (w.heap.size + 1) 45 _ (0, 0) _ rfl HKz.out Tryz.underlying45 rfl (by kernel_rfl)) rfl ?_
    rw [HE.out]
    exact ⟨_, rfl, (HFz.out.wide HSz.out (Nat.le_refl _)).low HC.out.1.size, HBz.out⟩
  · have HE : Hid (enterP p view = p) := (by unfold enterP; rw [if_neg hin] : enterP p view = p)
    by_cases h1 : p.view < view
    · have h2 : ¬ view ≤ 900 := fun h => hin ⟨h1, h⟩
      clear hin
      go_wp2_with (first
        | (refine wpList_store_blk rfl _ _ _ rfl x1.heap.size (peerA p s1) rfl rfl 45 zeroA (heap_alloc_new x1 _) (by kernel_rfl) rfl (peerA_one HO1.out.1) ?_; intro y1 hg hk hz; have hb1 : Below x1.heap.size x1 y1 := made_below hg; have HY1 : Hid (Bx3 w y1 x1.heap.size (peerA p s) zeroA (peerA p s1)) := ⟨bt HC.out.1 (bt HB1.out hb1), (hb1.block _ (by have := HB1.out.size; have := HWS.out; omega)).trans ((HB1.out.block _ (by have := HWS.out; omega)).trans HC.out.2.1), (hb1.block _ (by have := HB1.out.size; have := HWS.out; omega)).trans ((HB1.out.block _ (by have := HWS.out; omega)).trans HC.out.2.2), hk, (by have := HB1.out.size; have := HWS.out; omega)⟩; have HD1 : Hid (OwnD W.heap.size x1.heap.size y1 p s1) := HO1.out.below hb1; clear hg hk hz hb1 HO1; have c1 := blk_cell HY1.out.box 1 (.int .i64 p.view) rfl)
        | (refine wpList_load_row rfl _ _ rfl x1.heap.size rfl 45 _ (0, 0) _ HY1.out.out Tryz.underlying45 rfl (by kernel_rfl) ?_)
        | (refine wpList_store_blk rfl _ _ _ rfl (w.heap.size + 1) (peerA p s1) rfl rfl 45 zeroA HY1.out.zero (by kernel_rfl) rfl (peerA_one HD1.out.1) ?_; intro z hg hk hz; have HBz : Hid (Below w.heap.size w z) := HY1.out.below.grown hg HY1.out.below.size (fun k hk => by cases hk; omega); have HKz : Hid (z.heap[w.heap.size + 1]? = Option.some (.cells (peerA p s1) 45 (0, 0))) := hk; have HFz : Hid (OwnD W.heap.size x1.heap.size z p s1) := HD1.out.far hg (Or.inl (by have := HWS.out; omega)); have HSz : Hid (x1.heap.size ≤ z.heap.size) := Nat.le_trans (Nat.le_of_lt HY1.out.lt) hg.size; clear hg hk hz HY1 HD1))
      refine bodyPost_ret (v := .agg (peerA p s1)) (results_cell_row Tryz.results42 _ _ (w.heap.size + 1) 45 _ (0, 0) _ rfl HKz.out Tryz.underlying45 rfl (by kernel_rfl)) rfl ?_
      rw [HE.out]
      exact ⟨_, rfl, (HFz.out.wide HSz.out (Nat.le_refl _)).low HC.out.1.size, HBz.out⟩
    · clear hin
      go_wp2_with (first
        | (refine wpList_store_blk rfl _ _ _ rfl x1.heap.size (peerA p s1) rfl rfl 45 zeroA (heap_alloc_new x1 _) (by kernel_rfl) rfl (peerA_one HO1.out.1) ?_; intro y1 hg hk hz; have hb1 : Below x1.heap.size x1 y1 := made_below hg; have HY1 : Hid (Bx3 w y1 x1.heap.size (peerA p s) zeroA (peerA p s1)) := ⟨bt HC.out.1 (bt HB1.out hb1), (hb1.block _ (by have := HB1.out.size; have := HWS.out; omega)).trans ((HB1.out.block _ (by have := HWS.out; omega)).trans HC.out.2.1), (hb1.block _ (by have := HB1.out.size; have := HWS.out; omega)).trans ((HB1.out.block _ (by have := HWS.out; omega)).trans HC.out.2.2), hk, (by have := HB1.out.size; have := HWS.out; omega)⟩; have HD1 : Hid (OwnD W.heap.size x1.heap.size y1 p s1) := HO1.out.below hb1; clear hg hk hz hb1 HO1; have c1 := blk_cell HY1.out.box 1 (.int .i64 p.view) rfl)
        | (refine wpList_load_row rfl _ _ rfl x1.heap.size rfl 45 _ (0, 0) _ HY1.out.out Tryz.underlying45 rfl (by kernel_rfl) ?_)
        | (refine wpList_store_blk rfl _ _ _ rfl (w.heap.size + 1) (peerA p s1) rfl rfl 45 zeroA HY1.out.zero (by kernel_rfl) rfl (peerA_one HD1.out.1) ?_; intro z hg hk hz; have HBz : Hid (Below w.heap.size w z) := HY1.out.below.grown hg HY1.out.below.size (fun k hk => by cases hk; omega); have HKz : Hid (z.heap[w.heap.size + 1]? = Option.some (.cells (peerA p s1) 45 (0, 0))) := hk; have HFz : Hid (OwnD W.heap.size x1.heap.size z p s1) := HD1.out.far hg (Or.inl (by have := HWS.out; omega)); have HSz : Hid (x1.heap.size ≤ z.heap.size) := Nat.le_trans (Nat.le_of_lt HY1.out.lt) hg.size; clear hg hk hz HY1 HD1))
      refine bodyPost_ret (v := .agg (peerA p s1)) (results_cell_row Tryz.results42 _ _ (w.heap.size + 1) 45 _ (0, 0) _ rfl HKz.out Tryz.underlying45 rfl (by kernel_rfl)) rfl ?_
      rw [HE.out]
      exact ⟨_, rfl, (HFz.out.wide HSz.out (Nat.le_refl _)).low HC.out.1.size, HBz.out⟩

end Go.Proofs.YtjdddcldbfhbiasGreat

namespace Go.Proofs.YtjdddcldbfhbiasGreat
open Go.RowKit Num

theorem numOk_i (n : Int) (w : World) : Calls Tryz.prog 211 #[.int .i64 n] w fun e w' => e = .returned (.bool (numB n)) ∧ w' = w := by
  by_cases h1 : 0 ≤ n
  · by_cases h2 : n ≤ 1000000000
    · rw [numB, inB_yes ⟨h1, h2⟩]
      go_enter Tryz.func211, Tryz.ntmps211
      go_wp2
      go_ret
      exact ⟨rfl, rfl⟩
    · rw [numB, inB_no (by omega)]
      go_enter Tryz.func211, Tryz.ntmps211
      go_wp2
      go_ret
      exact ⟨rfl, rfl⟩
  · rw [numB, inB_no (by omega)]
    go_enter Tryz.func211, Tryz.ntmps211
    go_wp2
    go_ret
    exact ⟨rfl, rfl⟩

theorem keyB_len {k : ByteArray} (h : ¬ (1 ≤ (k.size : Int) ∧ (k.size : Int) ≤ 3)) : keyB k = false := by
  unfold keyB; rw [inB_no h, Bool.and_false]
theorem keyB_yes {k : ByteArray} (h : keyTo k k.size) (h2 : 1 ≤ (k.size : Int) ∧ (k.size : Int) ≤ 3) : keyB k = true := by
  rw [keyB_all h, inB_yes h2]

theorem ba_none {k : ByteArray} (h : k.size = 0) : k = ByteArray.empty := by
  apply ByteArray.ext
  have : k.data.size = 0 := h
  exact Array.eq_empty_of_size_eq_zero this

set_option maxHeartbeats 1000000 in
theorem key_i (k : ByteArray) (w : World) (hk : (k.size : Int) ≤ 1048576) :
    Calls Tryz.prog 210 #[.string k] w fun e w' => e = .returned (.bool (keyB k)) ∧ w' = w := by
  by_cases h0 : k.size = 0
  · obtain rfl := ba_none h0
    have e : keyB ByteArray.empty = false := keyB_len (by simp)
    rw [e]
    go_enter Tryz.func210, Tryz.ntmps210
    go_wp2
    go_ret
    exact ⟨rfl, rfl⟩
  · have hn1 : ¬ k.toList = [] := fun e => h0 (by
      have : k.data.toList.length = 0 := by rw [← ByteArray.toList_eq, e]; rfl
      simpa using this)
    have hn2 : k.toList.isEmpty = false := by cases h : k.toList with
      | nil => exact absurd h hn1
      | cons _ _ => rfl
    by_cases h3 : 3 < (k.size : Int)
    · rw [keyB_len (by omega)]
      go_enter Tryz.func210, Tryz.ntmps210
      go_wp2
      go_ret
      exact ⟨rfl, rfl⟩
    · go_enter Tryz.func210, Tryz.ntmps210
      go_wp2
      go_loop [13] (fun i => ∃ j : Nat, j ≤ k.size ∧ i = .int .i64 (j : Int) ∧ Hid (keyTo k j)) (fun i => k.size - (intOf i).toNat)
      case atStart => exact ⟨0, Nat.zero_le _, rfl, fun j _ h => by omega⟩
      case round =>
        obtain ⟨j, hj, rfl, HK⟩ := hrel
        by_cases hlt : (j : Int) < k.size
        · have hjn : j < k.size := by omega
          have hb := byte_le k[j]
          have q0 : (0 : Int) ≤ (j : Int) := by omega
          by_cases h1 : (k[j].toNat : Int) < 97
          · go_wp2
            go_ret
            exact ⟨ret_bool (keyB_no hjn (by omega)).symm, rfl⟩
          · by_cases h2 : 122 < (k[j].toNat : Int)
            · go_wp2
              go_ret
              exact ⟨ret_bool (keyB_no hjn (by omega)).symm, rfl⟩
            · have HN : Hid (keyTo k (j + 1)) := fun i hi hij => by
                by_cases e : i = j
                · subst e; omega
                · exact HK.out i hi (by omega)
              go_wp2
              go_round
              case rel => exact ⟨j + 1, by omega, by go_num, HN.out⟩
              case measure => simp [intOf]; omega
        · have hjn : j = k.size := by omega
          have HJ : Hid (j = k.size) := hjn
          clear hjn
          go_wp2
          go_ret
          have hkt := HK.out
          rw [HJ.out] at hkt
          exact ⟨ret_bool (keyB_yes hkt (by omega)).symm, rfl⟩

end Go.Proofs.YtjdddcldbfhbiasGreat

namespace Go.Proofs.YtjdddcldbfhbiasGreat
open Go.RowKit Num

set_option maxHeartbeats 1000000 in
theorem key_s (k : ByteArray) (w : World) (hk : (k.size : Int) ≤ 1048576) :
    Calls Tryz.prog 188 #[.string k] w fun e w' => e = .returned (.bool (keyB k)) ∧ w' = w := by
  go_enter Tryz.func188, Tryz.ntmps188
  go_wp2
  go_loop [3] (fun i => ∃ j : Nat, j ≤ k.size ∧ i = .int .i64 (j : Int) ∧ Hid (keyTo k j)) (fun i => k.size - (intOf i).toNat)
  case atStart => exact ⟨0, Nat.zero_le _, rfl, fun j _ h => by omega⟩
  case round =>
    obtain ⟨j, hj, rfl, HK⟩ := hrel
    by_cases hlt : (j : Int) < k.size
    · have hjn : j < k.size := by omega
      have hb := byte_le k[j]
      have q0 : (0 : Int) ≤ (j : Int) := by omega
      by_cases h1 : (k[j].toNat : Int) < 97
      · go_wp2
        go_ret
        exact ⟨ret_bool (keyB_no hjn (by omega)).symm, rfl⟩
      · by_cases h2 : 122 < (k[j].toNat : Int)
        · go_wp2
          go_ret
          exact ⟨ret_bool (keyB_no hjn (by omega)).symm, rfl⟩
        · have HN : Hid (keyTo k (j + 1)) := fun i hi hij => by
            by_cases e : i = j
            · subst e; omega
            · exact HK.out i hi (by omega)
          go_wp2
          go_round
          case rel => exact ⟨j + 1, by omega, by go_num, HN.out⟩
          case measure => simp [intOf]; omega
    · have hjn : j = k.size := by omega
      have HJ : Hid (j = k.size) := hjn
      clear hjn
      go_wp2_with fail
      refine (in_any (k.size : Int) 1 3 w).mono ?_
      rintro e w1 ⟨rfl, rfl⟩
      go_wp2
      go_ret
      have hkt := HK.out
      rw [HJ.out] at hkt
      exact ⟨ret_bool (keyB_all hkt).symm, rfl⟩

set_option maxHeartbeats 1000000 in
theorem cellAt_s (cs : CL) (v : Value) (key : ByteArray) (w : World) (hv : Cells w v cs) (hl : (cs.length : Int) ≤ 1048576) :
    Calls Tryz.prog 194 #[v, .string key] w fun e w' => e = .returned (.int .i64 (cellAt cs key)) ∧ w' = w := by
  obtain ⟨a, cap, rfl, hr⟩ := hv
  have HR : Hid (0 < cs.length → _) := hr
  clear hr
  go_enter Tryz.func194, Tryz.ntmps194
  go_wp2
  go_loop [5] (fun i => ∃ k : Nat, k ≤ cs.length ∧ i = .int .i64 (k : Int) ∧ Hid (cellAt cs key = cellAtFrom key (cs.drop k) k)) (fun i => cs.length - (intOf i).toNat)
  case atStart => exact ⟨0, Nat.zero_le _, rfl, rfl⟩
  case round =>
    obtain ⟨k, hk, rfl, HC⟩ := hrel
    by_cases hlt : (k : Int) < cs.length
    · have hkn : k < cs.length := by omega
      obtain ⟨g, off, rfl, hg, hc⟩ := HR.out (by omega)
      obtain ⟨hc0, hc1⟩ := hc k hkn
      have q0 : (0 : Int) ≤ (k : Int) := by omega
      have HS : Hid (cellAtFrom key (cs.drop k) k = _) := cellAt_drop cs key k hkn
      clear hc
      by_cases he : cs[k].1 = key
      · have heq := ba_eq he
        go_wp2
        go_ret
        exact ⟨ret_int (by rw [HC.out, HS.out, if_pos he]), rfl⟩
      · have heq := ba_ne he
        have HE : Hid (¬ cs[k].1 = key) := he
        clear he
        go_wp2
        go_round
        case rel => exact ⟨k + 1, by omega, by go_num, (show cellAt cs key = _ from by rw [HC.out, HS.out, if_neg HE.out])⟩
        case measure => simp [intOf]; omega
    · have hkl : k = cs.length := by omega
      have HK : Hid (k = cs.length) := hkl
      clear hkl
      go_wp2
      go_ret
      exact ⟨ret_int (by rw [HC.out, HK.out, List.drop_length]; rfl), rfl⟩

end Go.Proofs.YtjdddcldbfhbiasGreat

namespace Go.Proofs.YtjdddcldbfhbiasGreat
open Go.RowKit Num

/-- a command as a value -/
def cmdV (c : CM) : Value := .agg #[.int .i64 c.1, .string c.2.1, .int .i64 c.2.2]

theorem cmdB_kind {c : CM} (h : ¬ (1 ≤ c.1 ∧ c.1 ≤ 3)) : cmdB c = false := by unfold cmdB; rw [inB_no h]; rfl
theorem cmdB_key {c : CM} (h : keyB c.2.1 = false) : cmdB c = false := by unfold cmdB; rw [h, Bool.false_and, Bool.and_false]
theorem cmdB_rest {c : CM} (h : 1 ≤ c.1 ∧ c.1 ≤ 3) (h2 : keyB c.2.1 = true) : cmdB c = numB c.2.2 := by unfold cmdB; rw [inB_yes h, h2]; rfl

set_option maxHeartbeats 1000000 in
theorem cmd_i (c : CM) (w : World) (hk : (c.2.1.size : Int) ≤ 1048576) :
    Calls Tryz.prog 190 #[cmdV c] w fun e w' => e = .returned (.bool (cmdB c)) ∧ Below w.heap.size w w' := by
  obtain ⟨kd, k, n⟩ := c
  simp only [cmdV] at hk ⊢
  by_cases h1 : 1 ≤ kd
  · by_cases h2 : kd ≤ 3
    · cases hkb : keyB k with
      | false =>
        rw [cmdB_key hkb]
        go_enter Tryz.func190, Tryz.ntmps190
        go_wp2_with (first
          | (go_at_call 210; refine (key_i _ _ hk).mono ?_; rintro e w' ⟨rfl, rfl⟩; rw [hkb])
          | (go_at_call 211; refine (numOk_i _ _).mono ?_; rintro e w' ⟨rfl, rfl⟩))
        go_ret
        exact ⟨rfl, ba (Below.refl _ _) _⟩
      | true =>
        rw [cmdB_rest ⟨h1, h2⟩ hkb]
        go_enter Tryz.func190, Tryz.ntmps190
        go_wp2_with (first
          | (go_at_call 210; refine (key_i _ _ hk).mono ?_; rintro e w' ⟨rfl, rfl⟩; rw [hkb])
          | (go_at_call 211; refine (numOk_i _ _).mono ?_; rintro e w' ⟨rfl, rfl⟩))
        go_ret
        exact ⟨rfl, ba (Below.refl _ _) _⟩
    · rw [cmdB_kind (by simp only; omega)]
      go_enter Tryz.func190, Tryz.ntmps190
      go_wp2
      go_ret
      exact ⟨rfl, ba (Below.refl _ _) _⟩
  · rw [cmdB_kind (by simp only; omega)]
    go_enter Tryz.func190, Tryz.ntmps190
    go_wp2
    go_ret
    exact ⟨rfl, ba (Below.refl _ _) _⟩

set_option maxHeartbeats 1000000 in
theorem cmd_s (c : CM) (w : World) (hk : (c.2.1.size : Int) ≤ 1048576) :
    Calls Tryz.prog 157 #[cmdV c] w fun e w' => e = .returned (.bool (cmdB c)) ∧ Below w.heap.size w w' := by
  obtain ⟨kd, k, n⟩ := c
  simp only [cmdV] at hk ⊢
  by_cases h : 1 ≤ kd ∧ kd ≤ 3
  · have hi := inB_yes h
    cases hkb : keyB k with
    | false =>
      rw [cmdB_key hkb]
      go_enter Tryz.func157, Tryz.ntmps157
      go_wp2_with (first
        | (go_at_call 188; refine (key_s _ _ hk).mono ?_; rintro e w' ⟨rfl, rfl⟩; rw [hkb])
        | (go_at_call 83; refine (in_any _ _ _ _).mono ?_; rintro e w' ⟨rfl, rfl⟩; try rw [hi]))
      go_ret
      exact ⟨rfl, ba (Below.refl _ _) _⟩
    | true =>
      rw [cmdB_rest h hkb]
      go_enter Tryz.func157, Tryz.ntmps157
      go_wp2_with (first
        | (go_at_call 188; refine (key_s _ _ hk).mono ?_; rintro e w' ⟨rfl, rfl⟩; rw [hkb])
        | (go_at_call 83; refine (in_any _ _ _ _).mono ?_; rintro e w' ⟨rfl, rfl⟩; try rw [hi]))
      go_ret
      exact ⟨rfl, ba (Below.refl _ _) _⟩
  · have hi := inB_no h
    rw [cmdB_kind h]
    go_enter Tryz.func157, Tryz.ntmps157
    go_wp2_with (first
      | (go_at_call 188; refine (key_s _ _ hk).mono ?_; rintro e w' ⟨rfl, rfl⟩)
      | (go_at_call 83; refine (in_any _ _ _ _).mono ?_; rintro e w' ⟨rfl, rfl⟩; try rw [hi]))
    go_ret
    exact ⟨rfl, ba (Below.refl _ _) _⟩


end Go.Proofs.YtjdddcldbfhbiasGreat

namespace Go.Proofs.YtjdddcldbfhbiasGreat
open Go.RowKit Num

/-- a command, three cells -/
def cmdF (c : CM) : List Value := [.int .i64 c.1, .string c.2.1, .int .i64 c.2.2]
theorem cmdF_len (c : CM) : (cmdF c).length = 3 := rfl

end Go.Proofs.YtjdddcldbfhbiasGreat

namespace Go.Proofs.YtjdddcldbfhbiasGreat
open Go.RowKit Num

/-- a block as a value: cv the row of its commands -/
def blkV (b : BK) (cv : Value) : Value := .agg #[.int .i64 b.1.1, .int .i64 b.1.2, cv, .int .i64 b.2.2.1, .int .i64 b.2.2.2.1, .int .i64 b.2.2.2.2.1, .int .i64 b.2.2.2.2.2]
/-- .. as seven cells -/
def blkF (p : BK × Value) : List Value := [.int .i64 p.1.1.1, .int .i64 p.1.1.2, p.2, .int .i64 p.1.2.2.1, .int .i64 p.1.2.2.2.1, .int .i64 p.1.2.2.2.2.1, .int .i64 p.1.2.2.2.2.2]
theorem blkF_len (p : BK × Value) : (blkF p).length = 7 := rfl
/-- .. as an array of cells -/
abbrev blkA (b : BK) (cv : Value) : Array Value := #[.int .i64 b.1.1, .int .i64 b.1.2, cv, .int .i64 b.2.2.1, .int .i64 b.2.2.2.1, .int .i64 b.2.2.2.2.1, .int .i64 b.2.2.2.2.2]

/-- blocks, each with the row of its commands -/
abbrev TL := List (BK × Value)
def bks (ps : TL) : List BK := ps.map Prod.fst
theorem bks_len (ps : TL) : (bks ps).length = ps.length := by simp [bks]
theorem bks_at {ps : TL} {i : Nat} (h : i < ps.length) : (bks ps)[i]'(by rw [bks_len]; exact h) = ps[i].1 := by simp [bks]
theorem bks_take (ps : TL) (k : Nat) : bks (ps.take k) = (bks ps).take k := by simp [bks, List.map_take]

/-- blocks that can be read -/
def TreeQ (w : World) (v : Value) (ps : TL) : Prop := RowsR w v 7 blkF ps ∧ ∀ p ∈ ps, RowsR w p.2 3 cmdF p.1.2.1
theorem TreeQ.below {w w' : World} {v : Value} {ps : TL} (h : TreeQ w v ps) (hb : Below w.heap.size w w') : TreeQ w' v ps := ⟨h.1.below hb, fun p hp => (h.2 p hp).below hb⟩
/-- a slice's room is no less than its length -/
def capOk (v : Value) : Prop := ∀ a n cap, v = .slice a n cap → n ≤ cap
theorem capOk_own {w : World} {base m n : Nat} {e : TypeId} {v : Value} {xs : List Value} (h : w.ownsRow base e m v n xs) : capOk v := by
  obtain ⟨_, ⟨rfl, _⟩ | ⟨g, cap, cur, rfl, _, _, hn, _⟩⟩ := h
  · intro a n cap e; injection e with _ e2 e3; omega
  · intro a n' cap' e; injection e with _ e2 e3; omega
/-- a tree that can be read -/
structure TreeR (w : World) (v : Value) (ps : TL) : Prop where
  row : RowsR w v 7 blkF ps
  cmds : ∀ p ∈ ps, RowsR w p.2 3 cmdF p.1.2.1
  cap : capOk v
theorem TreeR.below {w w' : World} {v : Value} {ps : TL} (h : TreeR w v ps) (hb : Below w.heap.size w w') : TreeR w' v ps := ⟨h.row.below hb, fun p hp => (h.cmds p hp).below hb, h.cap⟩
theorem TreeR.q {w : World} {v : Value} {ps : TL} (h : TreeR w v ps) : TreeQ w v ps := ⟨h.row, h.cmds⟩
theorem RowsR.take {α : Type} {f : α → List Value} {m : Nat} {w : World} {a : Option Addr} {n cap : Nat} {xs : List α} (h : RowsR w (.slice a n cap) m f xs) (k : Nat) (hk : k ≤ xs.length) (c : Nat) : RowsR w (.slice a k c) m f (xs.take k) := by
  obtain ⟨a', cap', e, hr⟩ := h
  injection e with e1 e2 e3
  subst e1
  refine ⟨a, c, by rw [List.length_take, Nat.min_eq_left hk], fun h0 => ?_⟩
  rw [List.length_take] at h0
  obtain ⟨g, off, rfl, hg, hc⟩ := hr (by omega)
  refine ⟨g, off, rfl, hg, fun i hi j hj => ?_⟩
  rw [List.length_take] at hi
  rw [List.getElem_take]
  exact hc i (by omega) j hj
theorem TreeR.take {w : World} {a : Option Addr} {n cap : Nat} {ps : TL} (h : TreeR w (.slice a n cap) ps) (k : Nat) (hk : k ≤ ps.length) (c : Nat) (hc : k ≤ c) : TreeR w (.slice a k c) (ps.take k) :=
  ⟨h.row.take k hk c, fun p hp => h.cmds p (List.mem_of_mem_take hp), fun a' n' c' e => by injection e with _ e2 e3; omega⟩

/-- the seven cells of a block of a tree -/
theorem treeq_cells {w : World} {v : Value} {ps : TL} (h : TreeQ w v ps) : ∃ a cap, v = .slice a ps.length cap ∧ (0 < ps.length → ∃ g off, a = some ⟨g, off, none⟩ ∧ g < w.heap.size ∧ ∀ i (hi : i < ps.length),
    w.cell? ⟨g, off + i * 7, none⟩ = some (.int .i64 ps[i].1.1.1) ∧ w.cell? ⟨g, off + i * 7 + 1, none⟩ = some (.int .i64 ps[i].1.1.2) ∧ w.cell? ⟨g, off + i * 7 + 2, none⟩ = some ps[i].2 ∧ w.cell? ⟨g, off + i * 7 + 3, none⟩ = some (.int .i64 ps[i].1.2.2.1) ∧
    w.cell? ⟨g, off + i * 7 + 4, none⟩ = some (.int .i64 ps[i].1.2.2.2.1) ∧ w.cell? ⟨g, off + i * 7 + 5, none⟩ = some (.int .i64 ps[i].1.2.2.2.2.1) ∧ w.cell? ⟨g, off + i * 7 + 6, none⟩ = some (.int .i64 ps[i].1.2.2.2.2.2)) := by
  obtain ⟨a, cap, rfl, hr⟩ := h.1
  refine ⟨a, cap, rfl, fun h0 => ?_⟩
  obtain ⟨g, off, rfl, hg, hc⟩ := hr h0
  refine ⟨g, off, rfl, hg, fun i hi => ⟨?_, ?_, ?_, ?_, ?_, ?_, ?_⟩⟩
  · exact hc i hi 0 (by omega)
  · exact hc i hi 1 (by omega)
  · exact hc i hi 2 (by omega)
  · exact hc i hi 3 (by omega)
  · exact hc i hi 4 (by omega)
  · exact hc i hi 5 (by omega)
  · exact hc i hi 6 (by omega)
theorem tree_cells {w : World} {v : Value} {ps : TL} (h : TreeR w v ps) : ∃ a cap, v = .slice a ps.length cap ∧ ps.length ≤ cap ∧ (0 < ps.length → ∃ g off, a = some ⟨g, off, none⟩ ∧ g < w.heap.size ∧ ∀ i (hi : i < ps.length),
    w.cell? ⟨g, off + i * 7, none⟩ = some (.int .i64 ps[i].1.1.1) ∧ w.cell? ⟨g, off + i * 7 + 1, none⟩ = some (.int .i64 ps[i].1.1.2) ∧ w.cell? ⟨g, off + i * 7 + 2, none⟩ = some ps[i].2 ∧ w.cell? ⟨g, off + i * 7 + 3, none⟩ = some (.int .i64 ps[i].1.2.2.1) ∧
    w.cell? ⟨g, off + i * 7 + 4, none⟩ = some (.int .i64 ps[i].1.2.2.2.1) ∧ w.cell? ⟨g, off + i * 7 + 5, none⟩ = some (.int .i64 ps[i].1.2.2.2.2.1) ∧ w.cell? ⟨g, off + i * 7 + 6, none⟩ = some (.int .i64 ps[i].1.2.2.2.2.2)) := by
  have hcap := h.cap
  obtain ⟨a, cap, rfl, hr⟩ := treeq_cells h.q
  exact ⟨a, cap, rfl, hcap _ _ _ rfl, hr⟩

/-- a row of commands is a slice of this many -/
theorem rows_form {α : Type} {f : α → List Value} {m : Nat} {w : World} {v : Value} {xs : List α} (h : RowsR w v m f xs) : ∃ a cap, v = .slice a xs.length cap := by
  obtain ⟨a, cap, rfl, _⟩ := h; exact ⟨a, cap, rfl⟩

/-- a block just boxed: its seven cells -/
theorem box_cells {w w' : World} {A : Array Value} {t : TypeId} (h : Below (w.alloc (.cells A t)).heap.size (w.alloc (.cells A t)) w') : w'.heap[w.heap.size]? = some (.cells A t (0, 0)) := (h.block w.heap.size (by simp)).trans (heap_alloc_new w _)

/-- what is owned stays, where its block is as it was -/
theorem own_same {w w' : World} {base m n : Nat} {e : TypeId} {v : Value} {xs : List Value} (h : w.ownsRow base e m v n xs) (hk : ∀ g, v.ownBlock = some g → w'.heap[g]? = w.heap[g]?) : w'.ownsRow base e m v n xs := by
  obtain ⟨hl, h0 | ⟨g, cap, cur, rfl, hb, hh, r⟩⟩ := h
  · exact ⟨hl, Or.inl h0⟩
  · exact ⟨hl, Or.inr ⟨g, cap, cur, rfl, hb, (hk g rfl).trans hh, r⟩⟩

/-- only blocks from lo on, up to hi, are other than they were -/
structure Wn (lo hi : Nat) (w w' : World) : Prop where
  os : w'.os = w.os
  tape : w'.tape = w.tape
  output : w'.output = w.output
  size : w.heap.size ≤ w'.heap.size
  block : ∀ k, k < w.heap.size → (k < lo ∨ hi ≤ k) → w'.heap[k]? = w.heap[k]?
theorem Wn.of_below {lo hi : Nat} {w w' : World} (h : Below w.heap.size w w') : Wn lo hi w w' := ⟨h.os, h.tape, h.output, h.size, fun k hk _ => h.block k hk⟩
theorem Wn.of_grown {lo hi : Nat} {w w' : World} {r : Option Nat} (h : w.grownBy w' r) (hr : ∀ g, r = some g → lo ≤ g ∧ g < hi) : Wn lo hi w w' :=
  ⟨h.os, h.tape, h.output, h.size, fun k hk hne => h.block k hk fun e => by have := hr k e.symm; omega⟩
theorem Wn.trans {lo hi : Nat} {a b c : World} (h : Wn lo hi a b) (k : Wn lo hi b c) : Wn lo hi a c :=
  ⟨k.os.trans h.os, k.tape.trans h.tape, k.output.trans h.output, Nat.le_trans h.size k.size, fun i hi' hne => (k.block i (Nat.lt_of_lt_of_le hi' h.size) hne).trans (h.block i hi' hne)⟩
theorem Wn.below {lo hi n : Nat} {w w1 w2 : World} (hb : Below n w w1) (h : Wn lo hi w1 w2) (hn : n ≤ lo) (hs : n ≤ w1.heap.size) : Below n w w2 :=
  ⟨h.os.trans hb.os, h.tape.trans hb.tape, h.output.trans hb.output, Nat.le_trans hb.size h.size, fun k hk => (h.block k (by omega) (by omega)).trans (hb.block k hk)⟩

/-- a tree of the call's own -/
structure OwnT (w : World) (base : Nat) (v : Value) (ps : TL) : Prop where
  row : w.ownsRow base 89 7 v ps.length (flatR blkF ps)
  cmds : ∀ p ∈ ps, w.ownsRow base 116 3 p.2 p.1.2.1.length (flatR cmdF p.1.2.1)
  apart : ps.Pairwise fun p q => q.2.ownBlock = none ∨ q.2.ownBlock ≠ p.2.ownBlock
theorem OwnT.read {w : World} {base : Nat} {v : Value} {ps : TL} (h : OwnT w base v ps) : TreeR w v ps := ⟨rows_of_own blkF_len h.row, fun p hp => rows_of_own cmdF_len (h.cmds p hp), capOk_own h.row⟩
theorem OwnT.same {w w' : World} {base : Nat} {v : Value} {ps : TL} (h : OwnT w base v ps) (hk : ∀ g, base ≤ g → g < w.heap.size → w'.heap[g]? = w.heap[g]?) : OwnT w' base v ps :=
  ⟨own_same h.row fun g hg => hk g (h.row.lt g hg).1 (h.row.lt g hg).2, fun p hp => own_same (h.cmds p hp) fun g hg => hk g ((h.cmds p hp).lt g hg).1 ((h.cmds p hp).lt g hg).2, h.apart⟩
theorem OwnT.below {w w' : World} {base : Nat} {v : Value} {ps : TL} (h : OwnT w base v ps) (hb : Below w.heap.size w w') : OwnT w' base v ps := h.same fun g _ hg => hb.block g hg
theorem OwnT.base {w : World} {base base' : Nat} {v : Value} {ps : TL} (h : OwnT w base v ps) (hb : base' ≤ base) : OwnT w base' v ps := ⟨own_base h.row hb, fun p hp => own_base (h.cmds p hp) hb, h.apart⟩

end Go.Proofs.YtjdddcldbfhbiasGreat

namespace Go.Proofs.YtjdddcldbfhbiasGreat
open Go.RowKit Num

theorem eqQ (q r : QC) (w : World) : (Op.equalIn 10000 38 (.agg #[.int .i64 q.1, .int .i64 q.2.1, .int .i64 q.2.2.1, .int .i64 q.2.2.2]) (.agg #[.int .i64 r.1, .int .i64 r.2.1, .int .i64 r.2.2.1, .int .i64 r.2.2.2])).run Tryz.prog w = .ok (decide (q = r)) w := by
  have u3 := Tryz.underlying3
  have hS : Tryz.prog.underlying 38 = some (.struct (Tryz.prog.fieldsOf 38)) := by kernel_rfl
  have hp : Tryz.prog.stoodInHeld 38 = false := by kernel_rfl
  rw [show (10000 : Nat) = 9999 + 1 from rfl, run_equalIn_agg w 9999 38 _ _ hS hp]
  simp only [Program.fieldsOf, Tryz.underlying38]
  go_simp
  obtain ⟨a, b, c, d⟩ := q
  obtain ⟨a', b', c', d'⟩ := r
  simp only [Prod.mk.injEq]
  by_cases h1 : a = a' <;> by_cases h2 : b = b' <;> by_cases h3 : c = c' <;> by_cases h4 : d = d' <;> simp [h1, h2, h3, h4]
theorem guardQ : Tryz.prog.eqGuardType Tryz.prog.depth 38 = false := by kernel_rfl

theorem eqM (c d : CM) (w : World) : (Op.equalIn 10000 116 (.agg #[.int .i64 c.1, .string c.2.1, .int .i64 c.2.2]) (.agg #[.int .i64 d.1, .string d.2.1, .int .i64 d.2.2])).run Tryz.prog w = .ok (decide (c = d)) w := by
  have u3 := Tryz.underlying3
  have u9 := Tryz.underlying9
  have hS : Tryz.prog.underlying 116 = some (.struct (Tryz.prog.fieldsOf 116)) := by kernel_rfl
  have hp : Tryz.prog.stoodInHeld 116 = false := by kernel_rfl
  rw [show (10000 : Nat) = 9999 + 1 from rfl, run_equalIn_agg w 9999 116 _ _ hS hp]
  simp only [Program.fieldsOf, Tryz.underlying116]
  go_simp
  obtain ⟨k, s, n⟩ := c
  obtain ⟨k', s', n'⟩ := d
  simp only [Prod.mk.injEq]
  by_cases h1 : k = k'
  · by_cases h2 : s = s'
    · by_cases h3 : n = n' <;> simp [h1, h2, h3]
    · have e2 : ¬ s.toList = s'.toList := beq_eq_false_iff_ne.1 (ba_ne h2)
      simp [h1, h2, e2]
  · simp [h1]
theorem guardM : Tryz.prog.eqGuardType Tryz.prog.depth 116 = false := by kernel_rfl

end Go.Proofs.YtjdddcldbfhbiasGreat

namespace Go.Proofs.YtjdddcldbfhbiasGreat
open Go.RowKit Num


/-- as far as place k two rows of commands are the same -/
def sameTo (l l' : List CM) (k : Nat) : Prop := ∀ j (h : j < l.length) (h' : j < l'.length), j < k → l[j] = l'[j]
theorem sameTo_all {l l' : List CM} (hl : l.length = l'.length) (h : sameTo l l' l.length) : l = l' :=
  List.ext_getElem hl fun i h1 h2 => h i h1 h2 h1
theorem sameTo_next {l l' : List CM} {k : Nat} (h : sameTo l l' k) (hk : k < l.length) (hk' : k < l'.length) (e : l[k] = l'[k]) : sameTo l l' (k + 1) := fun j hj hj' hjk => by
  by_cases hh : j = k
  · subst hh; exact e
  · exact h j hj hj' (by omega)
theorem bk_ne1 {a b : BK} (h : a.1.1 ≠ b.1.1) : decide (a = b) = false := decide_eq_false fun e => h (by rw [e])
theorem bk_ne2 {a b : BK} (h : a.1.2 ≠ b.1.2) : decide (a = b) = false := decide_eq_false fun e => h (by rw [e])
theorem bk_ne3 {a b : BK} (h : a.2.2 ≠ b.2.2) : decide (a = b) = false := decide_eq_false fun e => h (by rw [e])
theorem bk_ne4 {a b : BK} (h : a.2.1.length ≠ b.2.1.length) : decide (a = b) = false := decide_eq_false fun e => h (by rw [e])
theorem bk_ne5 {a b : BK} {k : Nat} (hk : k < a.2.1.length) (hk' : k < b.2.1.length) (h : a.2.1[k] ≠ b.2.1[k]) : decide (a = b) = false := decide_eq_false fun e => h (by simp only [e])
theorem bk_eq {a b : BK} (h1 : a.1.1 = b.1.1) (h2 : a.1.2 = b.1.2) (h3 : a.2.2 = b.2.2) (h4 : a.2.1 = b.2.1) : decide (a = b) = true := decide_eq_true (Prod.ext (Prod.ext h1 h2) (Prod.ext h4 h3))

/-- the seven cells of a boxed block -/
theorem blk_cells {w : World} {n : Nat} {b : BK} {cv : Value} {t : TypeId} (h : w.heap[n]? = some (.cells (blkA b cv) t (0, 0))) :
    w.cell? ⟨n, 0, none⟩ = some (.int .i64 b.1.1) ∧ w.cell? ⟨n, 1, none⟩ = some (.int .i64 b.1.2) ∧ w.cell? ⟨n, 2, none⟩ = some cv ∧ w.cell? ⟨n, 3, none⟩ = some (.int .i64 b.2.2.1) ∧ w.cell? ⟨n, 4, none⟩ = some (.int .i64 b.2.2.2.1) ∧ w.cell? ⟨n, 5, none⟩ = some (.int .i64 b.2.2.2.2.1) ∧ w.cell? ⟨n, 6, none⟩ = some (.int .i64 b.2.2.2.2.2) := by
  refine ⟨?_, ?_, ?_, ?_, ?_, ?_, ?_⟩ <;> rw [cell_of_row w n _ _ _ (0, 0) h] <;> rfl

set_option maxRecDepth 100000 in
set_option maxHeartbeats 4000000 in
theorem same_s (a b : BK) (ca cb : Value) (w : World) (ha : RowsR w ca 3 cmdF a.2.1) (hb : RowsR w cb 3 cmdF b.2.1) (hla : (a.2.1.length : Int) ≤ 1048576) (hlb : (b.2.1.length : Int) ≤ 1048576) :
    Calls Tryz.prog 156 #[blkV a ca, blkV b cb] w fun e w' => e = .returned (.bool (decide (a = b))) ∧ Below w.heap.size w w' := by
  obtain ⟨aa, na, rfl, hra⟩ := ha
  obtain ⟨ab, nb, rfl, hrb⟩ := hb
  have HA : Hid (0 < a.2.1.length → _) := hra
  have HB : Hid (0 < b.2.1.length → _) := hrb
  have E1 := eqQ a.2.2 b.2.2
  have E2 := guardQ
  clear hra hrb
  unfold blkV
  by_cases h1 : a.1.1 = b.1.1
  · have h1' : (a.1.1 != b.1.1) = false := by simp [h1]
    by_cases h2 : a.1.2 = b.1.2
    · have h2' : (a.1.2 != b.1.2) = false := by simp [h2]
      by_cases h3 : a.2.2 = b.2.2
      · have h3' : decide (a.2.2 = b.2.2) = true := decide_eq_true h3
        rw [h3'] at E1
        by_cases h4 : a.2.1.length = b.2.1.length
        · have h4' : ((a.2.1.length : Int) != (b.2.1.length : Int)) = false := by simp [h4]
          have HE : Hid (a.1.1 = b.1.1 ∧ a.1.2 = b.1.2 ∧ a.2.2 = b.2.2 ∧ a.2.1.length = b.2.1.length) := ⟨h1, h2, h3, h4⟩
          clear h1 h2 h3 h4 h3'
          go_enter Tryz.func156, Tryz.ntmps156
          go_wp2
          obtain ⟨W1, hW1⟩ : ∃ W1, W1 = (w.alloc (.cells (blkA a (.slice aa a.2.1.length na)) 89)).alloc (.cells (blkA b (.slice ab b.2.1.length nb)) 89) := ⟨_, rfl⟩
          have HW : Hid (W1.heap[w.heap.size]? = some (.cells (blkA a (.slice aa a.2.1.length na)) 89 (0, 0)) ∧ W1.heap[w.heap.size + 1]? = some (.cells (blkA b (.slice ab b.2.1.length nb)) 89 (0, 0)) ∧ Below w.heap.size w W1) := (by
            rw [hW1]
            refine ⟨box_cells (ba (Below.refl _ _) _), ?_, ba (ba (Below.refl _ _) _) _⟩
            have := heap_alloc_new (w.alloc (.cells (blkA a (.slice aa a.2.1.length na)) 89)) (.cells (blkA b (.slice ab b.2.1.length nb)) 89)
            rw [show (w.alloc (.cells (blkA a (.slice aa a.2.1.length na)) 89)).heap.size = w.heap.size + 1 by simp] at this
            exact this : W1.heap[w.heap.size]? = some (.cells (blkA a (.slice aa a.2.1.length na)) 89 (0, 0)) ∧ W1.heap[w.heap.size + 1]? = some (.cells (blkA b (.slice ab b.2.1.length nb)) 89 (0, 0)) ∧ Below w.heap.size w W1)
          rw [← hW1]
          clear hW1 E1 E2 h1' h2' h4'
          go_loopw [5] (fun i wr => ∃ k : Nat, k ≤ a.2.1.length ∧ i = .int .i64 (k : Int) ∧ Hid (sameTo a.2.1 b.2.1 k) ∧ Below W1.heap.size W1 wr) (fun i _ => a.2.1.length - (intOf i).toNat)
          case atStart => exact ⟨0, Nat.zero_le _, rfl, fun j _ _ h => by omega, Below.refl _ _⟩
          case round =>
            obtain ⟨k, hk, rfl, HS, hbel⟩ := hrel
            have l0 : w.heap.size < W1.heap.size := (Array.getElem?_eq_some_iff.1 HW.out.1).1
            have l1 : w.heap.size + 1 < W1.heap.size := (Array.getElem?_eq_some_iff.1 HW.out.2.1).1
            have x0 : ∀ x : Bw wr, x.to.cell? ⟨w.heap.size, 2, none⟩ = some (.slice aa a.2.1.length na) := fun x => (blk_cells (((bt hbel x.below).block _ l0).trans HW.out.1)).2.2.1
            have x1 : ∀ x : Bw wr, x.to.cell? ⟨w.heap.size + 1, 2, none⟩ = some (.slice ab b.2.1.length nb) := fun x => (blk_cells (((bt hbel x.below).block _ l1).trans HW.out.2.1)).2.2.1
            have y0 : wr.cell? ⟨w.heap.size, 2, none⟩ = some (.slice aa a.2.1.length na) := x0 ⟨wr, Below.refl _ _⟩
            by_cases hlt : (k : Int) < a.2.1.length
            · have hkn : k < a.2.1.length := by omega
              have hkb : k < b.2.1.length := by rw [← HE.out.2.2.2]; exact hkn
              have q0 : (0 : Int) ≤ (k : Int) := by omega
              have q1 : (k : Int) < b.2.1.length := by omega
              obtain ⟨ga, oa, rfl, hga, hca⟩ := HA.out (by omega)
              obtain ⟨gb, ob, rfl, hgb, hcb⟩ := HB.out (by omega)
              have hne := bw_some wr
              have BB : ∀ x : Bw wr, Below w.heap.size w x.to := fun x => bt HW.out.2.2 (bt hbel x.below)
              have c0 : ∀ x : Bw wr, x.to.cell? ⟨ga, oa + k * 3, none⟩ = some (.int .i64 a.2.1[k].1) := fun x => by rw [(BB x).cell (by exact hga)]; exact hca k hkn 0 (by omega)
              have c1 : ∀ x : Bw wr, x.to.cell? ⟨ga, oa + k * 3 + 1, none⟩ = some (.string a.2.1[k].2.1) := fun x => by rw [(BB x).cell (by exact hga)]; exact hca k hkn 1 (by omega)
              have c2 : ∀ x : Bw wr, x.to.cell? ⟨ga, oa + k * 3 + 2, none⟩ = some (.int .i64 a.2.1[k].2.2) := fun x => by rw [(BB x).cell (by exact hga)]; exact hca k hkn 2 (by omega)
              have d0 : ∀ x : Bw wr, x.to.cell? ⟨gb, ob + k * 3, none⟩ = some (.int .i64 b.2.1[k].1) := fun x => by rw [(BB x).cell (by exact hgb)]; exact hcb k hkb 0 (by omega)
              have d1 : ∀ x : Bw wr, x.to.cell? ⟨gb, ob + k * 3 + 1, none⟩ = some (.string b.2.1[k].2.1) := fun x => by rw [(BB x).cell (by exact hgb)]; exact hcb k hkb 1 (by omega)
              have d2 : ∀ x : Bw wr, x.to.cell? ⟨gb, ob + k * 3 + 2, none⟩ = some (.int .i64 b.2.1[k].2.2) := fun x => by rw [(BB x).cell (by exact hgb)]; exact hcb k hkb 2 (by omega)
              have E3 := eqM a.2.1[k] b.2.1[k]
              have E4 := guardM
              clear hca hcb BB
              by_cases he : a.2.1[k] = b.2.1[k]
              · rw [decide_eq_true he] at E3
                have HT : Hid (sameTo a.2.1 b.2.1 (k + 1)) := sameTo_next HS.out hkn hkb he
                clear he
                go_wp2
                refine wp_region_bw (by kernel_rfl) (by kernel_rfl) ?_
                repeat (go_big_quiet_step (fail))
                refine wpQuiet_nil ?_
                intro _ hw'
                obtain ⟨x, rfl⟩ := hw'
                go_wp2
                go_roundw
                case rel => exact ⟨k + 1, by omega, by go_num, HT, bt hbel x.below⟩
                case measure => simp [intOf]; omega
              · rw [decide_eq_false he] at E3
                have HT : Hid (decide (a = b) = false) := bk_ne5 hkn hkb he
                clear he
                go_wp2
                refine wp_region_bw (by kernel_rfl) (by kernel_rfl) ?_
                repeat (go_big_quiet_step (fail))
                refine wpQuiet_nil ?_
                intro _ hw'
                obtain ⟨x, rfl⟩ := hw'
                go_wp2
                go_ret
                exact ⟨ret_bool HT.out.symm, bt HW.out.2.2 (bt hbel x.below)⟩
            · have hkl : k = a.2.1.length := by omega
              have HT : Hid (decide (a = b) = true) := bk_eq HE.out.1 HE.out.2.1 HE.out.2.2.1 (sameTo_all HE.out.2.2.2 (by have := HS.out; rw [hkl] at this; exact this))
              clear hkl
              go_wp2
              go_ret
              exact ⟨ret_bool HT.out.symm, bt HW.out.2.2 hbel⟩
        · have h4' : ((a.2.1.length : Int) != (b.2.1.length : Int)) = true := by simpa using fun e : (a.2.1.length : Int) = b.2.1.length => h4 (by omega)
          rw [bk_ne4 h4]
          clear h4
          go_enter Tryz.func156, Tryz.ntmps156
          go_wp2
          go_ret
          exact ⟨rfl, ba (ba (Below.refl _ _) _) _⟩
      · rw [decide_eq_false h3] at E1
        rw [bk_ne3 h3]
        clear h3
        go_enter Tryz.func156, Tryz.ntmps156
        go_wp2
        go_ret
        exact ⟨rfl, ba (ba (Below.refl _ _) _) _⟩
    · have h2' : (a.1.2 != b.1.2) = true := by simpa using h2
      rw [bk_ne2 h2]
      clear h2
      go_enter Tryz.func156, Tryz.ntmps156
      go_wp2
      go_ret
      exact ⟨rfl, ba (ba (Below.refl _ _) _) _⟩
  · have h1' : (a.1.1 != b.1.1) = true := by simpa using h1
    rw [bk_ne1 h1]
    clear h1
    go_enter Tryz.func156, Tryz.ntmps156
    go_wp2
    go_ret
    exact ⟨rfl, ba (ba (Below.refl _ _) _) _⟩

end Go.Proofs.YtjdddcldbfhbiasGreat

namespace Go.Proofs.YtjdddcldbfhbiasGreat
open Go.RowKit Num

/-- a tree of a size that is met -/
def okT (t : List BK) : Prop := (t.length : Int) ≤ 1048576 ∧ ∀ b ∈ t, (b.2.1.length : Int) ≤ 1048576 ∧ ∀ c ∈ b.2.1, (c.2.1.size : Int) ≤ 1048576
/-- .. a block -/
def okB (b : BK) : Prop := (b.2.1.length : Int) ≤ 1048576 ∧ ∀ c ∈ b.2.1, (c.2.1.size : Int) ≤ 1048576
theorem okT_at {ps : TL} (h : okT (bks ps)) {i : Nat} (hi : i < ps.length) : okB ps[i].1 := h.2 _ (List.mem_map.2 ⟨ps[i], List.getElem_mem hi, rfl⟩)
theorem inB_eq {x lo hi : Int} (h : inB x lo hi = true) : lo ≤ x ∧ x ≤ hi := by unfold inB at h; simpa using h
theorem inB_not {x lo hi : Int} (h : inB x lo hi = false) : ¬ (lo ≤ x ∧ x ≤ hi) := fun e => by rw [inB_yes e] at h; cases h

set_option maxRecDepth 100000 in
set_option maxHeartbeats 4000000 in
theorem blockOk_s (ps : TL) (v : Value) (b : BK) (cv : Value) (w : World) (hT : TreeR w v ps) (hB : RowsR w cv 3 cmdF b.2.1) (hl : (ps.length : Int) ≤ 1048576) (hk : okB b) :
    Calls Tryz.prog 118 #[v, blkV b cv] w fun e w' => e = .returned (.bool (blockB (bks ps) b)) ∧ Below w.heap.size w w' := by
  obtain ⟨a, cap, rfl, _, hr⟩ := tree_cells hT
  obtain ⟨ac, cc, rfl, hrc⟩ := hB
  have HR : Hid (0 < ps.length → _) := hr
  have HC : Hid (0 < b.2.1.length → _) := hrc
  have hbl := bks_len ps
  obtain ⟨⟨par, vw⟩, ⟨cmds, ph, jv, jb, sg⟩⟩ := b
  simp only at HC hk
  have hk1 := hk.1
  have HK : Hid (∀ c ∈ cmds, (c.2.1.size : Int) ≤ 1048576) := hk.2
  simp only at hk1
  unfold blkV
  simp only
  obtain ⟨W1, hW1⟩ : ∃ W1, W1 = w.alloc (.cells #[.int .i64 par, .int .i64 vw, .slice ac cmds.length cc, .int .i64 ph, .int .i64 jv, .int .i64 jb, .int .i64 sg] 89) := ⟨_, rfl⟩
  have HW : Hid (W1.heap[w.heap.size]? = some (.cells (blkA ((par, vw), (cmds, ph, jv, jb, sg)) (.slice ac cmds.length cc)) 89 (0, 0)) ∧ Below w.heap.size w W1) := by
    rw [hW1]; exact ⟨heap_alloc_new w _, ba (Below.refl _ _) _⟩
  have l0 : w.heap.size < W1.heap.size := (Array.getElem?_eq_some_iff.1 HW.out.1).1
  have HX : Hid (∀ w', Below W1.heap.size W1 w' → w'.heap[w.heap.size]? = some (.cells (blkA ((par, vw), (cmds, ph, jv, jb, sg)) (.slice ac cmds.length cc)) 89 (0, 0))) := fun w' h' => (h'.block _ l0).trans HW.out.1
  have hne := bw_some W1
  have y0 : ∀ x : Bw W1, x.to.cell? ⟨w.heap.size, 0, none⟩ = some (.int .i64 par) := fun x => (blk_cells (HX.out _ x.below)).1
  have y1 : ∀ x : Bw W1, x.to.cell? ⟨w.heap.size, 1, none⟩ = some (.int .i64 vw) := fun x => (blk_cells (HX.out _ x.below)).2.1
  have y2 : ∀ x : Bw W1, x.to.cell? ⟨w.heap.size, 2, none⟩ = some (.slice ac cmds.length cc) := fun x => (blk_cells (HX.out _ x.below)).2.2.1
  clear hr hrc hT hk
  cases hp : inB par 0 ((ps.length : Int) - 1) with
  | false =>
    have HE : Hid (blockB (bks ps) ((par, vw), (cmds, ph, jv, jb, sg)) = false) := blockB_par (by simp only; rw [hbl]; exact hp)
    go_enter Tryz.func118, Tryz.ntmps118
    go_wp2
    rw [← hW1]
    clear hW1
    refine wp_region_bw (by kernel_rfl) (by kernel_rfl) ?_
    repeat (go_big_quiet_step (refine calls_bw_same (in_any _ _ _ _)))
    refine wpQuiet_nil ?_
    intro _ hw'
    obtain ⟨x, rfl⟩ := hw'
    go_wp2
    go_ret
    exact ⟨ret_bool HE.out.symm, bt HW.out.2 x.below⟩
  | true =>
    obtain ⟨p0, p1⟩ := inB_eq hp
    obtain ⟨j, rfl⟩ := Int.eq_ofNat_of_zero_le p0
    have hj : j < ps.length := by omega
    have q1 : (j : Int) < ps.length := by omega
    obtain ⟨g, off, rfl, hg, hc⟩ := HR.out (by omega)
    have HV : Hid (viewAt (bks ps) (j : Int) = ps[j].1.1.2) := (by rw [viewAt_at (by rw [hbl]; exact hj), bks_at hj] : viewAt (bks ps) (j : Int) = ps[j].1.1.2)
    have z1 : ∀ x : Bw W1, x.to.cell? ⟨g, off + j * 7 + 1, none⟩ = some (.int .i64 ps[j].1.1.2) := fun x => by rw [(bt HW.out.2 x.below).cell (by exact hg)]; exact (hc j hj).2.1
    clear hc
    by_cases hlow : ps[j].1.1.2 < vw
    · have d1 : decide (vw ≤ ps[j].1.1.2) = false := decide_eq_false (by omega)
      by_cases hhigh : vw ≤ 900
      · have d2 : decide (900 < vw) = false := decide_eq_false (by omega)
        by_cases hmany : (cmds.length : Int) ≤ 4
        · have d3 : decide (4 < (cmds.length : Int)) = false := decide_eq_false (by omega)
          have HB : Hid (∀ (_ : cmdsTo cmds cmds.length), blockB (bks ps) (((j : Int), vw), (cmds, ph, jv, jb, sg)) = (decide (jb = (j : Int)) && decide (jv = ps[j].1.1.2))) := fun h4 => by
            have := blockB_all (t := bks ps) (b := (((j : Int), vw), (cmds, ph, jv, jb, sg))) (by simp only; rw [hbl]; exact hp) (by simp only; rw [HV.out]; exact hlow) hhigh (by simp only; omega) h4
            rw [this]; simp only; rw [HV.out]
          have HN : Hid (∀ i (hi : i < cmds.length), cmdB cmds[i] = false → blockB (bks ps) (((j : Int), vw), (cmds, ph, jv, jb, sg)) = false) := fun i hi hc => blockB_cmd (b := (((j : Int), vw), (cmds, ph, jv, jb, sg))) hi hc
          go_enter Tryz.func118, Tryz.ntmps118
          go_wp2
          rw [← hW1]
          clear hW1
          refine wp_region_bw (by kernel_rfl) (by kernel_rfl) ?_
          repeat (go_big_quiet_step (refine calls_bw_same (in_any _ _ _ _)))
          refine wpQuiet_nil ?_
          intro _ hw'
          obtain ⟨x, rfl⟩ := hw'
          have HXB : Hid (Below W1.heap.size W1 x.to) := x.below
          go_wp2
          clear d1 d2 d3 hlow hhigh hmany hp
          go_loopw [5] (fun i wr => ∃ k : Nat, k ≤ cmds.length ∧ i = .int .i64 (k : Int) ∧ Hid (cmdsTo cmds k) ∧ Below W1.heap.size W1 wr) (fun i _ => cmds.length - (intOf i).toNat)
          case atStart => exact ⟨0, Nat.zero_le _, rfl, fun i _ h => by omega, HXB.out⟩
          case round =>
            obtain ⟨k, hk, rfl, HS, hbel⟩ := hrel
            have u2 : wr.cell? ⟨w.heap.size, 2, none⟩ = some (.slice ac cmds.length cc) := (blk_cells (HX.out _ hbel)).2.2.1
            by_cases hlt : (k : Int) < cmds.length
            · have hkn : k < cmds.length := by omega
              have q0 : (0 : Int) ≤ (k : Int) := by omega
              obtain ⟨gc, oc, rfl, hgc, hcc⟩ := HC.out (by omega)
              have c0 : wr.cell? ⟨gc, oc + k * 3, none⟩ = some (.int .i64 cmds[k].1) := by rw [(bt HW.out.2 hbel).cell (by exact hgc)]; exact hcc k hkn 0 (by omega)
              have c1 : wr.cell? ⟨gc, oc + k * 3 + 1, none⟩ = some (.string cmds[k].2.1) := by rw [(bt HW.out.2 hbel).cell (by exact hgc)]; exact hcc k hkn 1 (by omega)
              have c2 : wr.cell? ⟨gc, oc + k * 3 + 2, none⟩ = some (.int .i64 cmds[k].2.2) := by rw [(bt HW.out.2 hbel).cell (by exact hgc)]; exact hcc k hkn 2 (by omega)
              clear hcc
              go_wp2_with fail
              refine (cmd_s cmds[k] wr (HK.out _ (List.getElem_mem hkn))).mono ?_
              rintro e w2 ⟨rfl, hb2⟩
              cases hcb : cmdB cmds[k] with
              | false =>
                have HF := HN.out k hkn hcb
                have HFF : Hid (blockB (bks ps) (((j : Int), vw), (cmds, ph, jv, jb, sg)) = false) := HF
                clear HF
                go_wp2
                go_ret
                exact ⟨ret_bool HFF.out.symm, bt HW.out.2 (bt hbel hb2)⟩
              | true =>
                have HT : Hid (cmdsTo cmds (k + 1)) := cmdsTo_next HS.out hkn hcb
                go_wp2
                go_roundw
                case rel => exact ⟨k + 1, by omega, by go_num, HT, bt hbel hb2⟩
                case measure => simp [intOf]; omega
            · have hkl : k = cmds.length := by omega
              have HF : Hid (blockB (bks ps) (((j : Int), vw), (cmds, ph, jv, jb, sg)) = (decide (jb = (j : Int)) && decide (jv = ps[j].1.1.2))) := HB.out (by have := HS.out; rw [hkl] at this; exact this)
              have hne2 := bw_some wr
              have t0 : ∀ x : Bw wr, x.to.cell? ⟨w.heap.size, 0, none⟩ = some (.int .i64 (j : Int)) := fun x => (blk_cells (HX.out _ (bt hbel x.below))).1
              have t4 : ∀ x : Bw wr, x.to.cell? ⟨w.heap.size, 4, none⟩ = some (.int .i64 jv) := fun x => (blk_cells (HX.out _ (bt hbel x.below))).2.2.2.2.1
              have t5 : ∀ x : Bw wr, x.to.cell? ⟨w.heap.size, 5, none⟩ = some (.int .i64 jb) := fun x => (blk_cells (HX.out _ (bt hbel x.below))).2.2.2.2.2.1
              have tz : ∀ x : Bw wr, x.to.cell? ⟨g, off + j * 7 + 1, none⟩ = some (.int .i64 ps[j].1.1.2) := fun x => z1 ⟨x.to, bt hbel x.below⟩
              clear hkl
              by_cases e1 : jb = (j : Int)
              · have e1' : (jb == (j : Int)) = true := by simpa using e1
                have HF2 : Hid (blockB (bks ps) (((j : Int), vw), (cmds, ph, jv, jb, sg)) = (jv == ps[j].1.1.2)) := (by rw [HF.out, decide_eq_true e1, Bool.true_and]; rfl : blockB (bks ps) (((j : Int), vw), (cmds, ph, jv, jb, sg)) = (jv == ps[j].1.1.2))
                clear e1
                go_wp2
                refine wp_region_bw (by kernel_rfl) (by kernel_rfl) ?_
                repeat (go_big_quiet_step (fail))
                refine wpQuiet_nil ?_
                intro _ hw'
                obtain ⟨y, rfl⟩ := hw'
                go_wp2
                go_ret
                exact ⟨ret_bool HF2.out.symm, bt HW.out.2 (bt hbel y.below)⟩
              · have e1' : (jb == (j : Int)) = false := by simpa using e1
                have HF2 : Hid (blockB (bks ps) (((j : Int), vw), (cmds, ph, jv, jb, sg)) = false) := (by rw [HF.out, decide_eq_false e1, Bool.false_and] : blockB (bks ps) (((j : Int), vw), (cmds, ph, jv, jb, sg)) = false)
                clear e1
                go_wp2
                refine wp_region_bw (by kernel_rfl) (by kernel_rfl) ?_
                repeat (go_big_quiet_step (fail))
                refine wpQuiet_nil ?_
                intro _ hw'
                obtain ⟨y, rfl⟩ := hw'
                go_wp2
                go_ret
                exact ⟨ret_bool HF2.out.symm, bt HW.out.2 (bt hbel y.below)⟩
        · have HE : Hid (blockB (bks ps) (((j : Int), vw), (cmds, ph, jv, jb, sg)) = false) := blockB_many (by simp only; omega)
          go_enter Tryz.func118, Tryz.ntmps118
          go_wp2
          rw [← hW1]
          clear hW1
          refine wp_region_bw (by kernel_rfl) (by kernel_rfl) ?_
          repeat (go_big_quiet_step (refine calls_bw_same (in_any _ _ _ _)))
          refine wpQuiet_nil ?_
          intro _ hw'
          obtain ⟨x, rfl⟩ := hw'
          go_wp2
          go_ret
          exact ⟨ret_bool HE.out.symm, bt HW.out.2 x.below⟩
      · have HE : Hid (blockB (bks ps) (((j : Int), vw), (cmds, ph, jv, jb, sg)) = false) := blockB_high (by simp only; omega)
        go_enter Tryz.func118, Tryz.ntmps118
        go_wp2
        rw [← hW1]
        clear hW1
        refine wp_region_bw (by kernel_rfl) (by kernel_rfl) ?_
        repeat (go_big_quiet_step (refine calls_bw_same (in_any _ _ _ _)))
        refine wpQuiet_nil ?_
        intro _ hw'
        obtain ⟨x, rfl⟩ := hw'
        go_wp2
        go_ret
        exact ⟨ret_bool HE.out.symm, bt HW.out.2 x.below⟩
    · have HE : Hid (blockB (bks ps) (((j : Int), vw), (cmds, ph, jv, jb, sg)) = false) := blockB_low (by simp only; rw [HV.out]; exact hlow)
      have hlow' : vw ≤ ps[j].1.1.2 := Int.not_lt.1 hlow
      go_enter Tryz.func118, Tryz.ntmps118
      go_wp2
      rw [← hW1]
      clear hW1
      refine wp_region_bw (by kernel_rfl) (by kernel_rfl) ?_
      repeat (go_big_quiet_step (refine calls_bw_same (in_any _ _ _ _)))
      refine wpQuiet_nil ?_
      intro _ hw'
      obtain ⟨x, rfl⟩ := hw'
      go_wp2
      go_ret
      exact ⟨ret_bool HE.out.symm, bt HW.out.2 x.below⟩

set_option maxRecDepth 100000 in
set_option maxHeartbeats 4000000 in
theorem blockAt_s (ps : TL) (v : Value) (b : BK) (cv : Value) (w : World) (hT : TreeR w v ps) (hB : RowsR w cv 3 cmdF b.2.1) (hk : okT (bks ps)) (hkb : okB b) :
    Calls Tryz.prog 117 #[v, blkV b cv] w fun e w' => e = .returned (.int .i64 (blockAt (bks ps) b)) ∧ Below w.heap.size w w' := by
  have HT : Hid (TreeR w v ps) := hT
  have HB : Hid (RowsR w cv 3 cmdF b.2.1) := hB
  have HK : Hid (okT (bks ps)) := hk
  have HKB : Hid (okB b) := hkb
  obtain ⟨a, cap, rfl, _, hr⟩ := tree_cells hT
  have HR : Hid (0 < ps.length → _) := hr
  have hbl := bks_len ps
  have hl : (ps.length : Int) ≤ 1048576 := by have := hk.1; rw [hbl] at this; exact this
  unfold blkV
  obtain ⟨W1, hW1⟩ : ∃ W1, W1 = w.alloc (.cells (blkA b cv) 89) := ⟨_, rfl⟩
  have HW : Hid (W1.heap[w.heap.size]? = some (.cells (blkA b cv) 89 (0, 0)) ∧ Below w.heap.size w W1) := by
    rw [hW1]; exact ⟨heap_alloc_new w _, ba (Below.refl _ _) _⟩
  have l0 : w.heap.size < W1.heap.size := (Array.getElem?_eq_some_iff.1 HW.out.1).1
  have HX : Hid (∀ w', Below W1.heap.size W1 w' → w'.heap[w.heap.size]? = some (.cells (blkA b cv) 89 (0, 0))) := fun w' h' => (h'.block _ l0).trans HW.out.1
  clear hr hT hB hk hkb
  go_enter Tryz.func117, Tryz.ntmps117
  go_wp2
  rw [← hW1]
  clear hW1
  go_loopw [5] (fun i wr => ∃ k : Nat, k ≤ ps.length ∧ i = .int .i64 (k : Int) ∧ Hid (blockAt (bks ps) b = blockAtFrom b ((bks ps).drop k) k) ∧ Below W1.heap.size W1 wr) (fun i _ => ps.length - (intOf i).toNat)
  case atStart => exact ⟨0, Nat.zero_le _, rfl, rfl, Below.refl _ _⟩
  case round =>
    obtain ⟨k, hk, rfl, HS, hbel⟩ := hrel
    by_cases hlt : (k : Int) < ps.length
    · have hkn : k < ps.length := by omega
      have q0 : (0 : Int) ≤ (k : Int) := by omega
      obtain ⟨g, off, rfl, hg, hc⟩ := HR.out (by omega)
      have hne := bw_some wr
      have BB : ∀ x : Bw wr, Below w.heap.size w x.to := fun x => bt HW.out.2 (bt hbel x.below)
      have c0 : ∀ x : Bw wr, x.to.cell? ⟨g, off + k * 7, none⟩ = some (.int .i64 ps[k].1.1.1) := fun x => by rw [(BB x).cell (by exact hg)]; exact (hc k hkn).1
      have c1 : ∀ x : Bw wr, x.to.cell? ⟨g, off + k * 7 + 1, none⟩ = some (.int .i64 ps[k].1.1.2) := fun x => by rw [(BB x).cell (by exact hg)]; exact (hc k hkn).2.1
      have c2 : ∀ x : Bw wr, x.to.cell? ⟨g, off + k * 7 + 2, none⟩ = some ps[k].2 := fun x => by rw [(BB x).cell (by exact hg)]; exact (hc k hkn).2.2.1
      have c3 : ∀ x : Bw wr, x.to.cell? ⟨g, off + k * 7 + 3, none⟩ = some (.int .i64 ps[k].1.2.2.1) := fun x => by rw [(BB x).cell (by exact hg)]; exact (hc k hkn).2.2.2.1
      have c4 : ∀ x : Bw wr, x.to.cell? ⟨g, off + k * 7 + 4, none⟩ = some (.int .i64 ps[k].1.2.2.2.1) := fun x => by rw [(BB x).cell (by exact hg)]; exact (hc k hkn).2.2.2.2.1
      have c5 : ∀ x : Bw wr, x.to.cell? ⟨g, off + k * 7 + 5, none⟩ = some (.int .i64 ps[k].1.2.2.2.2.1) := fun x => by rw [(BB x).cell (by exact hg)]; exact (hc k hkn).2.2.2.2.2.1
      have c6 : ∀ x : Bw wr, x.to.cell? ⟨g, off + k * 7 + 6, none⟩ = some (.int .i64 ps[k].1.2.2.2.2.2) := fun x => by rw [(BB x).cell (by exact hg)]; exact (hc k hkn).2.2.2.2.2.2
      have y0 : ∀ x : Bw wr, x.to.cell? ⟨w.heap.size, 0, none⟩ = some (.int .i64 b.1.1) := fun x => (blk_cells (HX.out _ (bt hbel x.below))).1
      have y1 : ∀ x : Bw wr, x.to.cell? ⟨w.heap.size, 1, none⟩ = some (.int .i64 b.1.2) := fun x => (blk_cells (HX.out _ (bt hbel x.below))).2.1
      have y2 : ∀ x : Bw wr, x.to.cell? ⟨w.heap.size, 2, none⟩ = some cv := fun x => (blk_cells (HX.out _ (bt hbel x.below))).2.2.1
      have y3 : ∀ x : Bw wr, x.to.cell? ⟨w.heap.size, 3, none⟩ = some (.int .i64 b.2.2.1) := fun x => (blk_cells (HX.out _ (bt hbel x.below))).2.2.2.1
      have y4 : ∀ x : Bw wr, x.to.cell? ⟨w.heap.size, 4, none⟩ = some (.int .i64 b.2.2.2.1) := fun x => (blk_cells (HX.out _ (bt hbel x.below))).2.2.2.2.1
      have y5 : ∀ x : Bw wr, x.to.cell? ⟨w.heap.size, 5, none⟩ = some (.int .i64 b.2.2.2.2.1) := fun x => (blk_cells (HX.out _ (bt hbel x.below))).2.2.2.2.2.1
      have y6 : ∀ x : Bw wr, x.to.cell? ⟨w.heap.size, 6, none⟩ = some (.int .i64 b.2.2.2.2.2) := fun x => (blk_cells (HX.out _ (bt hbel x.below))).2.2.2.2.2.2
      have HQ : Hid (∀ x : Bw wr, Calls Tryz.prog 156 #[.agg (blkA ps[k].1 ps[k].2), .agg (blkA b cv)] x.to fun e w' => e = .returned (.bool (decide (ps[k].1 = b))) ∧ Below x.to.heap.size x.to w') := fun x => same_s ps[k].1 b ps[k].2 cv x.to ((HT.out.cmds _ (List.getElem_mem hkn)).below (BB x)) (HB.out.below (BB x)) (okT_at HK.out hkn).1 HKB.out.1
      have HD : Hid (blockAtFrom b ((bks ps).drop k) k = if ps[k].1 = b then (k : Int) else blockAtFrom b ((bks ps).drop (k + 1)) (k + 1)) := (by rw [blockAt_drop (bks ps) b k (by rw [hbl]; exact hkn), bks_at hkn] : blockAtFrom b ((bks ps).drop k) k = if ps[k].1 = b then (k : Int) else blockAtFrom b ((bks ps).drop (k + 1)) (k + 1))
      clear hc BB
      by_cases he : ps[k].1 = b
      · have he' : decide (ps[k].1 = b) = true := decide_eq_true he
        rw [he'] at HQ
        have HF : Hid (blockAt (bks ps) b = (k : Int)) := (by rw [HS.out, HD.out, if_pos he] : blockAt (bks ps) b = (k : Int))
        clear he he' HD
        go_wp2
        refine wp_region_bw (by kernel_rfl) (by kernel_rfl) ?_
        repeat (go_big_quiet_step (refine calls_bw (HQ.out _)))
        refine wpQuiet_nil ?_
        intro _ hw'
        obtain ⟨x, rfl⟩ := hw'
        go_wp2
        go_ret
        exact ⟨ret_int HF.out.symm, bt HW.out.2 (bt hbel x.below)⟩
      · have he' : decide (ps[k].1 = b) = false := decide_eq_false he
        rw [he'] at HQ
        have HF : Hid (blockAt (bks ps) b = blockAtFrom b ((bks ps).drop (k + 1)) (k + 1)) := (by rw [HS.out, HD.out, if_neg he] : blockAt (bks ps) b = blockAtFrom b ((bks ps).drop (k + 1)) (k + 1))
        clear he he' HD
        go_wp2
        refine wp_region_bw (by kernel_rfl) (by kernel_rfl) ?_
        repeat (go_big_quiet_step (refine calls_bw (HQ.out _)))
        refine wpQuiet_nil ?_
        intro _ hw'
        obtain ⟨x, rfl⟩ := hw'
        go_wp2
        go_roundw
        case rel => exact ⟨k + 1, by omega, by go_num, HF, bt hbel x.below⟩
        case measure => simp [intOf]; omega
    · have hkl : k = ps.length := by omega
      have HF : Hid (blockAt (bks ps) b = -1) := (by rw [HS.out, hkl, List.drop_eq_nil_of_le (by rw [hbl]; exact Nat.le_refl _)]; rfl : blockAt (bks ps) b = -1)
      clear hkl
      go_wp2
      go_ret
      exact ⟨ret_int HF.out.symm, bt HW.out.2 hbel⟩

end Go.Proofs.YtjdddcldbfhbiasGreat
