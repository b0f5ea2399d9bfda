/-
  Rows appended to rows; a block of seven cells, written cell by cell.
-/
import Derived.Test.YtfnneillakdopabBlkX
import Derived.Laws.AppendOwn
import Derived.OwnWalk
namespace Go.Proofs.Ytfnneillakdopab
open Go.RowKit Num

set_option maxRecDepth 100000 in
theorem blk_seven {w : World} {N : Nat} {u0 u1 u2 u3 u4 u5 u6 : Value} {t : TypeId} (h0 : w.heap[N]? = some (.cells #[u0, u1, u2, u3, u4, u5, u6] t (0, 0))) (a b c d e f g : Value) :
    (w.cell? ⟨N, 0, none⟩ = some u0 ∧ w.frozen? ⟨N, 0, none⟩ = false) ∧
      ((w.setCell ⟨N, 0, none⟩ a).cell? ⟨N, 1, none⟩ = some u1 ∧ (w.setCell ⟨N, 0, none⟩ a).frozen? ⟨N, 1, none⟩ = false) ∧
      (((w.setCell ⟨N, 0, none⟩ a).setCell ⟨N, 1, none⟩ b).cell? ⟨N, 2, none⟩ = some u2 ∧ ((w.setCell ⟨N, 0, none⟩ a).setCell ⟨N, 1, none⟩ b).frozen? ⟨N, 2, none⟩ = false) ∧
      ((((w.setCell ⟨N, 0, none⟩ a).setCell ⟨N, 1, none⟩ b).setCell ⟨N, 2, none⟩ c).cell? ⟨N, 3, none⟩ = some u3 ∧ (((w.setCell ⟨N, 0, none⟩ a).setCell ⟨N, 1, none⟩ b).setCell ⟨N, 2, none⟩ c).frozen? ⟨N, 3, none⟩ = false) ∧
      (((((w.setCell ⟨N, 0, none⟩ a).setCell ⟨N, 1, none⟩ b).setCell ⟨N, 2, none⟩ c).setCell ⟨N, 3, none⟩ d).cell? ⟨N, 4, none⟩ = some u4 ∧ ((((w.setCell ⟨N, 0, none⟩ a).setCell ⟨N, 1, none⟩ b).setCell ⟨N, 2, none⟩ c).setCell ⟨N, 3, none⟩ d).frozen? ⟨N, 4, none⟩ = false) ∧
      ((((((w.setCell ⟨N, 0, none⟩ a).setCell ⟨N, 1, none⟩ b).setCell ⟨N, 2, none⟩ c).setCell ⟨N, 3, none⟩ d).setCell ⟨N, 4, none⟩ e).cell? ⟨N, 5, none⟩ = some u5 ∧ (((((w.setCell ⟨N, 0, none⟩ a).setCell ⟨N, 1, none⟩ b).setCell ⟨N, 2, none⟩ c).setCell ⟨N, 3, none⟩ d).setCell ⟨N, 4, none⟩ e).frozen? ⟨N, 5, none⟩ = false) ∧
      (((((((w.setCell ⟨N, 0, none⟩ a).setCell ⟨N, 1, none⟩ b).setCell ⟨N, 2, none⟩ c).setCell ⟨N, 3, none⟩ d).setCell ⟨N, 4, none⟩ e).setCell ⟨N, 5, none⟩ f).cell? ⟨N, 6, none⟩ = some u6 ∧ ((((((w.setCell ⟨N, 0, none⟩ a).setCell ⟨N, 1, none⟩ b).setCell ⟨N, 2, none⟩ c).setCell ⟨N, 3, none⟩ d).setCell ⟨N, 4, none⟩ e).setCell ⟨N, 5, none⟩ f).frozen? ⟨N, 6, none⟩ = false) ∧
      (((((((w.setCell ⟨N, 0, none⟩ a).setCell ⟨N, 1, none⟩ b).setCell ⟨N, 2, none⟩ c).setCell ⟨N, 3, none⟩ d).setCell ⟨N, 4, none⟩ e).setCell ⟨N, 5, none⟩ f).setCell ⟨N, 6, none⟩ g).heap[N]? = some (.cells #[a, b, c, d, e, f, g] t (0, 0)) ∧ w.grownBy (((((((w.setCell ⟨N, 0, none⟩ a).setCell ⟨N, 1, none⟩ b).setCell ⟨N, 2, none⟩ c).setCell ⟨N, 3, none⟩ d).setCell ⟨N, 4, none⟩ e).setCell ⟨N, 5, none⟩ f).setCell ⟨N, 6, none⟩ g) (some N) := by
  have h1 : (w.setCell ⟨N, 0, none⟩ a).heap[N]? = some (.cells #[a, u1, u2, u3, u4, u5, u6] t (0, 0)) := heap_setCell_same _ N 0 _ t a h0
  have h2 : ((w.setCell ⟨N, 0, none⟩ a).setCell ⟨N, 1, none⟩ b).heap[N]? = some (.cells #[a, b, u2, u3, u4, u5, u6] t (0, 0)) := heap_setCell_same _ N 1 _ t b h1
  have h3 : (((w.setCell ⟨N, 0, none⟩ a).setCell ⟨N, 1, none⟩ b).setCell ⟨N, 2, none⟩ c).heap[N]? = some (.cells #[a, b, c, u3, u4, u5, u6] t (0, 0)) := heap_setCell_same _ N 2 _ t c h2
  have h4 : ((((w.setCell ⟨N, 0, none⟩ a).setCell ⟨N, 1, none⟩ b).setCell ⟨N, 2, none⟩ c).setCell ⟨N, 3, none⟩ d).heap[N]? = some (.cells #[a, b, c, d, u4, u5, u6] t (0, 0)) := heap_setCell_same _ N 3 _ t d h3
  have h5 : (((((w.setCell ⟨N, 0, none⟩ a).setCell ⟨N, 1, none⟩ b).setCell ⟨N, 2, none⟩ c).setCell ⟨N, 3, none⟩ d).setCell ⟨N, 4, none⟩ e).heap[N]? = some (.cells #[a, b, c, d, e, u5, u6] t (0, 0)) := heap_setCell_same _ N 4 _ t e h4
  have h6 : ((((((w.setCell ⟨N, 0, none⟩ a).setCell ⟨N, 1, none⟩ b).setCell ⟨N, 2, none⟩ c).setCell ⟨N, 3, none⟩ d).setCell ⟨N, 4, none⟩ e).setCell ⟨N, 5, none⟩ f).heap[N]? = some (.cells #[a, b, c, d, e, f, u6] t (0, 0)) := heap_setCell_same _ N 5 _ t f h5
  have h7 : (((((((w.setCell ⟨N, 0, none⟩ a).setCell ⟨N, 1, none⟩ b).setCell ⟨N, 2, none⟩ c).setCell ⟨N, 3, none⟩ d).setCell ⟨N, 4, none⟩ e).setCell ⟨N, 5, none⟩ f).setCell ⟨N, 6, none⟩ g).heap[N]? = some (.cells #[a, b, c, d, e, f, g] t (0, 0)) := heap_setCell_same _ N 6 _ t g h6
  refine ⟨⟨?_, frozen_of_row _ N 0 _ _ h0⟩, ⟨?_, frozen_of_row _ N 1 _ _ h1⟩, ⟨?_, frozen_of_row _ N 2 _ _ h2⟩, ⟨?_, frozen_of_row _ N 3 _ _ h3⟩, ⟨?_, frozen_of_row _ N 4 _ _ h4⟩, ⟨?_, frozen_of_row _ N 5 _ _ h5⟩, ⟨?_, frozen_of_row _ N 6 _ _ h6⟩, h7, grown_trans (grown_trans (grown_trans (grown_trans (grown_trans (grown_trans (set_grown w N 0 a) (set_grown _ N 1 b)) (set_grown _ N 2 c)) (set_grown _ N 3 d)) (set_grown _ N 4 e)) (set_grown _ N 5 f)) (set_grown _ N 6 g)⟩
  · rw [cell_of_row _ N 0 _ _ (0, 0) h0]; rfl
  · rw [cell_of_row _ N 1 _ _ (0, 0) h1]; rfl
  · rw [cell_of_row _ N 2 _ _ (0, 0) h2]; rfl
  · rw [cell_of_row _ N 3 _ _ (0, 0) h3]; rfl
  · rw [cell_of_row _ N 4 _ _ (0, 0) h4]; rfl
  · rw [cell_of_row _ N 5 _ _ (0, 0) h5]; rfl
  · rw [cell_of_row _ N 6 _ _ (0, 0) h6]; rfl

set_option maxRecDepth 100000 in
theorem blk_tail {w : World} {N : Nat} {u0 u1 u2 u3 u4 u5 u6 : Value} {t : TypeId} (h3 : w.heap[N]? = some (.cells #[u0, u1, u2, u3, u4, u5, u6] t (0, 0))) (d e f g : Value) :
    (w.cell? ⟨N, 3, none⟩ = some u3 ∧ w.frozen? ⟨N, 3, none⟩ = false) ∧
      ((w.setCell ⟨N, 3, none⟩ d).cell? ⟨N, 4, none⟩ = some u4 ∧ (w.setCell ⟨N, 3, none⟩ d).frozen? ⟨N, 4, none⟩ = false) ∧
      (((w.setCell ⟨N, 3, none⟩ d).setCell ⟨N, 4, none⟩ e).cell? ⟨N, 5, none⟩ = some u5 ∧ ((w.setCell ⟨N, 3, none⟩ d).setCell ⟨N, 4, none⟩ e).frozen? ⟨N, 5, none⟩ = false) ∧
      ((((w.setCell ⟨N, 3, none⟩ d).setCell ⟨N, 4, none⟩ e).setCell ⟨N, 5, none⟩ f).cell? ⟨N, 6, none⟩ = some u6 ∧ (((w.setCell ⟨N, 3, none⟩ d).setCell ⟨N, 4, none⟩ e).setCell ⟨N, 5, none⟩ f).frozen? ⟨N, 6, none⟩ = false) ∧
      ((((w.setCell ⟨N, 3, none⟩ d).setCell ⟨N, 4, none⟩ e).setCell ⟨N, 5, none⟩ f).setCell ⟨N, 6, none⟩ g).heap[N]? = some (.cells #[u0, u1, u2, d, e, f, g] t (0, 0)) ∧ w.grownBy ((((w.setCell ⟨N, 3, none⟩ d).setCell ⟨N, 4, none⟩ e).setCell ⟨N, 5, none⟩ f).setCell ⟨N, 6, none⟩ g) (some N) := by
  have h4 : (w.setCell ⟨N, 3, none⟩ d).heap[N]? = some (.cells #[u0, u1, u2, d, u4, u5, u6] t (0, 0)) := heap_setCell_same _ N 3 _ t d h3
  have h5 : ((w.setCell ⟨N, 3, none⟩ d).setCell ⟨N, 4, none⟩ e).heap[N]? = some (.cells #[u0, u1, u2, d, e, u5, u6] t (0, 0)) := heap_setCell_same _ N 4 _ t e h4
  have h6 : (((w.setCell ⟨N, 3, none⟩ d).setCell ⟨N, 4, none⟩ e).setCell ⟨N, 5, none⟩ f).heap[N]? = some (.cells #[u0, u1, u2, d, e, f, u6] t (0, 0)) := heap_setCell_same _ N 5 _ t f h5
  have h7 : ((((w.setCell ⟨N, 3, none⟩ d).setCell ⟨N, 4, none⟩ e).setCell ⟨N, 5, none⟩ f).setCell ⟨N, 6, none⟩ g).heap[N]? = some (.cells #[u0, u1, u2, d, e, f, g] t (0, 0)) := heap_setCell_same _ N 6 _ t g h6
  refine ⟨⟨?_, frozen_of_row _ N 3 _ _ h3⟩, ⟨?_, frozen_of_row _ N 4 _ _ h4⟩, ⟨?_, frozen_of_row _ N 5 _ _ h5⟩, ⟨?_, frozen_of_row _ N 6 _ _ h6⟩, h7, grown_trans (grown_trans (grown_trans (set_grown w N 3 d) (set_grown _ N 4 e)) (set_grown _ N 5 f)) (set_grown _ N 6 g)⟩
  · rw [cell_of_row _ N 3 _ _ (0, 0) h3]; rfl
  · rw [cell_of_row _ N 4 _ _ (0, 0) h4]; rfl
  · rw [cell_of_row _ N 5 _ _ (0, 0) h5]; rfl
  · rw [cell_of_row _ N 6 _ _ (0, 0) h6]; rfl

/-- nothing is appended -/
theorem run_append_no {P : Program} {t ty e : TypeId} {i : TypeInfo} (ht : P.underlying t = some (.slice e)) (hi : P.info? e = some i) (w : World) {base : Nat} {v : Value} {n : Nat} {xs : List Value} {m : Nat} (hown : w.ownsRow base e m v n xs) (c : Nat) :
    (Builtin.append_ #[t, t] ty #[v, .slice none 0 c]).run P w = .ok v w := by
  obtain ⟨hl, ⟨rfl, h0⟩ | ⟨g, cap, cur, rfl, hb, hh, hn, hc, hs, htk⟩⟩ := hown
  · simp [Builtin.append_, run_underlying ht, sizeOf, typeInfo, hi, Builtin.lenOf, Builtin.firstCells]
  · have : n ≤ cap := by omega
    simp [Builtin.append_, run_underlying ht, sizeOf, typeInfo, hi, Builtin.lenOf, Builtin.firstCells, storeCells, this]

/-- 'append(out, list...)': out is the call's own, list can be read -/
theorem wpList_append_rows {α : Type} {f : α → List Value} {m : Nat} (w : World) {ops : Array Oper} {rest : List Oper} {o : Oper} {a : Act} {Q : Exit → Act → World → Prop} (hgd : o.guard = none) (s x : Operand) (t : TypeId)
    (ho : o.op = .call { callee := .builtin .append, args := #[s, x], argTypes := #[t, t] })
    (base : Nat) (e : TypeId) (i : TypeInfo) (z : Value) (bytes : Nat) (ht : Try.prog.underlying t = some (.slice e)) (hi : Try.prog.info? e = some i) (hz : i.zero = some z) (hsize : i.size = m) (hby : i.bytes = bytes) (hzs : z.cells.size = m) (hsz : 0 < m)
    (hm : ∀ y, (f y).length = m) (hone : ∀ y, ∀ u ∈ f y, u.oneCell' = true)
    (v : Value) (xs : List α) (hs : a.eval s = v) (hown : w.ownsRow base e m v xs.length (flatR f xs))
    (src : Value) (cs : List α) (hx : a.eval x = src) (hsrc : RowsR w src m f cs) (h63 : xs.length + cs.length ≤ maxLen) (hbytes : (xs.length + cs.length) * bytes ≤ 140737488355328) (hbase : base ≤ w.heap.size)
    (h : ∀ v' w', w'.ownsRow base e m v' (xs ++ cs).length (flatR f (xs ++ cs)) → w.grownBy w' v.ownBlock → wpList Try.prog ops Q rest (a.put o.dst v') w') : wpList Try.prog ops Q (o :: rest) a w := by
  obtain ⟨ad, cap, rfl, hr⟩ := hsrc
  cases ad with
  | none =>
    have h0 : cs.length = 0 := by
      rcases Nat.eq_zero_or_pos cs.length with h | h
      · exact h
      · obtain ⟨_, _, e, _⟩ := hr h; cases e
    obtain rfl : cs = [] := List.eq_nil_of_length_eq_zero h0
    refine wpList_plain hgd fun K' hK' => ?_
    have hrun := run_append_no (ty := o.type) ht hi w hown cap
    unfold Oper.wp execOp
    simp only [ho, resolve, invoke, builtin, Sem.run_bind, Sem.run_pure, Result.andThen_ok, List.map_toArray, List.map_cons, List.map_nil, hs, hx, List.length_nil, hrun]
    exact hK' _ _ (h v w (by simpa using hown) ⟨rfl, rfl, rfl, Nat.le_refl _, fun _ _ _ => rfl⟩)
  | some ad =>
    refine wpList_append_own _ hgd s x t ho base e i z m bytes ht hi hz hsize hby hzs hsz v _ _ hs hown ad cs.length cap (flatR f cs) hx (flatR_len hm cs) ?_ (fun u hu => ?_) h63 hbytes hbase fun v' w' h1 h2 _ => h v' w' (by rw [List.length_append, flatR_append]; exact h1) h2
    · intro j u hj
      have hjl : j < cs.length * m := by
        rw [← flatR_len hm]
        exact (List.getElem?_eq_some_iff.1 hj).1
      have h0 : 0 < cs.length := by
        rcases Nat.eq_zero_or_pos cs.length with h | h
        · rw [h] at hjl; omega
        · exact h
      obtain ⟨g, off, rfl0, hg, hc⟩ := hr h0
      cases rfl0
      have hp : (⟨g, off, none⟩ : Addr).add j = ⟨g, off + j, none⟩ := by unfold Addr.add; split <;> simp_all
      have hd : j / m < cs.length := Nat.div_lt_of_lt_mul (by rw [Nat.mul_comm]; exact hjl)
      have hr : j % m < m := Nat.mod_lt _ hsz
      have e : j = j / m * m + j % m := by rw [Nat.mul_comm]; exact (Nat.div_add_mod j m).symm
      have hf := flatR_at hm cs (j / m) hd (j % m) hr
      rw [← e] at hf
      rw [hp, show off + j = off + j / m * m + j % m by omega, hc (j / m) hd (j % m) hr, ← hf, hj]
    · obtain ⟨y, _, hy⟩ := List.mem_flatMap.1 hu
      exact hone y u hy

theorem cmdF_one (c : CM) : ∀ u ∈ cmdF c, u.oneCell' = true := by
  intro u hu; unfold cmdF at hu; simp at hu; rcases hu with h | h | h <;> subst h <;> rfl
theorem infoCm3 : (Try.prog.info? 103).map (fun i => (i.zero, i.size, i.bytes)) = some (some (.agg #[.int .i64 0, .string ByteArray.empty, .int .i64 0]), 3, 32) := by kernel_rfl
theorem infoBlk : (Try.prog.info? 33).map (fun i => (i.zero, i.size, i.bytes)) = some (some (.agg #[.int .i64 0, .int .i64 0, .slice none 0 0, .int .i64 0, .int .i64 0, .int .i64 0, .int .i64 0]), 7, 72) := by kernel_rfl

end Go.Proofs.Ytfnneillakdopab
