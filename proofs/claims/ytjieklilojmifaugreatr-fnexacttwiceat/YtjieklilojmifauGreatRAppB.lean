/-
  A list that can be read, appended to a row of the call's own: it lies where it lay, or in a block that was made.
-/
import Derived.Test.YtjieklilojmifauGreatRAppA
import Derived.Deep.AppendLies
namespace Go.Proofs.YtjieklilojmifauGreatR
open Go.RowKit Num

theorem run_append_zero {P : Program} {t ty e : TypeId} {i : TypeInfo} (ht : P.underlying t = some (.slice e)) (hi : P.info? e = some i) (w : World) {base : Nat} {v : Value} {n : Nat} {xs : List Value} {m : Nat} (hown : w.ownsRow base e m v n xs) (o : Option Addr) (c : Nat) :
    (Builtin.append_ #[t, t] ty #[v, .slice o 0 c]).run P w = .ok v w := by
  obtain ⟨hl, ⟨rfl, h0⟩ | ⟨g, cap, cur, rfl, hb, hh, hn, hc, hs, htk⟩⟩ := hown
  · cases o <;> simp [Builtin.append_, run_underlying ht, sizeOf, typeInfo, hi, Builtin.lenOf, Builtin.firstCells, loadCells, loadCellsFrom]
  · have : n ≤ cap := by omega
    cases o <;> simp [Builtin.append_, run_underlying ht, sizeOf, typeInfo, hi, Builtin.lenOf, Builtin.firstCells, loadCells, loadCellsFrom, storeCells, this]
theorem wpList_append_b {α : Type} {f : α → List Value} {m : Nat} (w : World) {ops : Array Oper} {rest : List Oper} {o : Oper} {a : Act} {Q : Exit → Act → World → Prop} (hgd : o.guard = none) (s x : Operand) (t : TypeId)
    (ho : o.op = .call { callee := .builtin .append, args := #[s, x], argTypes := #[t, t] })
    (base : Nat) (e : TypeId) (i : TypeInfo) (z : Value) (bytes : Nat) (ht : Tryz.prog.underlying t = some (.slice e)) (hi : Tryz.prog.info? e = some i) (hz : i.zero = some z) (hsize : i.size = m) (hby : i.bytes = bytes) (hzs : z.cells.size = m) (hsz : 0 < m)
    (hm : ∀ y, (f y).length = m) (hone : ∀ y, ∀ u ∈ f y, u.oneCell' = true)
    (v : Value) (xs : List α) (hs : a.eval s = v) (hown : w.ownsRow base e m v xs.length (flatR f xs))
    (src : Value) (cs : List α) (hx : a.eval x = src) (hsrc : RowsR w src m f cs) (h63 : xs.length + cs.length ≤ maxLen) (hbytes : (xs.length + cs.length) * bytes ≤ 140737488355328) (hbase : base ≤ w.heap.size)
    (h : ∀ v' w', w'.ownsRow base e m v' (xs ++ cs).length (flatR f (xs ++ cs)) → w.grownBy w' v.ownBlock → (∀ g, v'.ownBlock = some g → v.ownBlock = some g ∨ g = w.heap.size) → wpList Tryz.prog ops Q rest (a.put o.dst v') w') : wpList Tryz.prog ops Q (o :: rest) a w := by
  obtain ⟨ad, cap, rfl, hr⟩ := hsrc
  rcases Nat.eq_zero_or_pos cs.length with h0 | h0
  · obtain rfl : cs = [] := List.eq_nil_of_length_eq_zero h0
    refine wpList_plain hgd fun K' hK' => ?_
    have hrun := run_append_zero (ty := o.type) ht hi w hown ad cap
    unfold Oper.wp execOp
    simp only [ho, resolve, invoke, builtin, Sem.run_bind, Sem.run_pure, Result.andThen_ok, List.map_toArray, List.map_cons, List.map_nil, hs, hx, List.length_nil, hrun]
    exact hK' _ _ (h v w (by simpa using hown) ⟨rfl, rfl, rfl, Nat.le_refl _, fun _ _ _ => rfl⟩ (fun g hg => Or.inl hg))
  · obtain ⟨g, off, rfl, hg, hc⟩ := hr h0
    refine wpList_append_lies _ hgd s x t ho base e i z m bytes ht hi hz hsize hby hzs hsz v _ _ hs hown ⟨g, off, none⟩ cs.length cap (flatR f cs) hx (flatR_len hm cs) ?_ (fun u hu => ?_) h0 h63 hbytes hbase w.heap.size rfl fun g2 cap2 w' h1 h2 h3 h4 => h _ w' (by rw [List.length_append, flatR_append]; exact h1) h2 (fun g3 e3 => by cases e3; exact h3)
    · intro j u hj
      have hjl : j < cs.length * m := by
        rw [← flatR_len hm]
        exact (List.getElem?_eq_some_iff.1 hj).1
      have hp : (⟨g, off, none⟩ : Addr).add j = ⟨g, off + j, none⟩ := by unfold Addr.add; split <;> simp_all
      have hd : j / m < cs.length := Nat.div_lt_of_lt_mul (by rw [Nat.mul_comm]; exact hjl)
      have hr : j % m < m := Nat.mod_lt _ hsz
      have e : j = j / m * m + j % m := by rw [Nat.mul_comm]; exact (Nat.div_add_mod j m).symm
      have hf := flatR_at hm cs (j / m) hd (j % m) hr
      rw [← e] at hf
      rw [hp, show off + j = off + j / m * m + j % m by omega, hc (j / m) hd (j % m) hr, ← hf, hj]
    · obtain ⟨y, _, hy⟩ := List.mem_flatMap.1 hu
      exact hone y u hy

end Go.Proofs.YtjieklilojmifauGreatR
