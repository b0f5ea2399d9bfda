/-
  A list that can be read, appended to a row of the call's own; rows of votes, letters, accounts and what takes back, one cell a value.
-/
import Derived.Test.YtcfgfhodbjakoavJ1
import Derived.Laws.AppendOwn
import Derived.OwnWalk
namespace Go.Proofs.Ytcfgfhodbjakoav
open Go.RowKit Num

/-- nothing is appended -/
theorem run_append_nil {P : Program} {t ty e : TypeId} {i : TypeInfo} (ht : P.underlying t = some (.slice e)) (hi : P.info? e = some i) (w : World) {base : Nat} {v : Value} {n : Nat} {xs : List Value} {m : Nat} (hown : w.ownsRow base e m v n xs) (c : Nat) :
    (Builtin.append_ #[t, t] ty #[v, .slice none 0 c]).run P w = .ok v w := by
  obtain ⟨hl, ⟨rfl, h0⟩ | ⟨g, cap, cur, rfl, hb, hh, hn, hc, hs, htk⟩⟩ := hown
  · simp [Builtin.append_, run_underlying ht, sizeOf, typeInfo, hi, Builtin.lenOf, Builtin.firstCells]
  · have : n ≤ cap := by omega
    simp [Builtin.append_, run_underlying ht, sizeOf, typeInfo, hi, Builtin.lenOf, Builtin.firstCells, storeCells, this]

/-- 'append(out, list...)': out is the call's own, list can be read -/
theorem wpList_append_a {α : Type} {f : α → List Value} {m : Nat} (w : World) {ops : Array Oper} {rest : List Oper} {o : Oper} {a : Act} {Q : Exit → Act → World → Prop} (hgd : o.guard = none) (s x : Operand) (t : TypeId)
    (ho : o.op = .call { callee := .builtin .append, args := #[s, x], argTypes := #[t, t] })
    (base : Nat) (e : TypeId) (i : TypeInfo) (z : Value) (bytes : Nat) (ht : Try.prog.underlying t = some (.slice e)) (hi : Try.prog.info? e = some i) (hz : i.zero = some z) (hsize : i.size = m) (hby : i.bytes = bytes) (hzs : z.cells.size = m) (hsz : 0 < m)
    (hm : ∀ y, (f y).length = m) (hone : ∀ y, ∀ u ∈ f y, u.oneCell' = true)
    (v : Value) (xs : List α) (hs : a.eval s = v) (hown : w.ownsRow base e m v xs.length (flatR f xs))
    (src : Value) (cs : List α) (hx : a.eval x = src) (hsrc : RowsR w src m f cs) (h63 : xs.length + cs.length ≤ maxLen) (hbytes : (xs.length + cs.length) * bytes ≤ 140737488355328) (hbase : base ≤ w.heap.size)
    (h : ∀ v' w', w'.ownsRow base e m v' (xs ++ cs).length (flatR f (xs ++ cs)) → w.grownBy w' v.ownBlock → wpList Try.prog ops Q rest (a.put o.dst v') w') : wpList Try.prog ops Q (o :: rest) a w := by
  obtain ⟨ad, cap, rfl, hr⟩ := hsrc
  cases ad with
  | none =>
    have h0 : cs.length = 0 := by
      rcases Nat.eq_zero_or_pos cs.length with h | h
      · exact h
      · obtain ⟨_, _, e, _⟩ := hr h; cases e
    obtain rfl : cs = [] := List.eq_nil_of_length_eq_zero h0
    refine wpList_plain hgd fun K' hK' => ?_
    have hrun := run_append_nil (ty := o.type) ht hi w hown cap
    unfold Oper.wp execOp
    simp only [ho, resolve, invoke, builtin, Sem.run_bind, Sem.run_pure, Result.andThen_ok, List.map_toArray, List.map_cons, List.map_nil, hs, hx, List.length_nil, hrun]
    exact hK' _ _ (h v w (by simpa using hown) ⟨rfl, rfl, rfl, Nat.le_refl _, fun _ _ _ => rfl⟩)
  | some ad =>
    refine wpList_append_own _ hgd s x t ho base e i z m bytes ht hi hz hsize hby hzs hsz v _ _ hs hown ad cs.length cap (flatR f cs) hx (flatR_len hm cs) ?_ (fun u hu => ?_) h63 hbytes hbase fun v' w' h1 h2 _ => h v' w' (by rw [List.length_append, flatR_append]; exact h1) h2
    · intro j u hj
      have hjl : j < cs.length * m := by
        rw [← flatR_len hm]
        exact (List.getElem?_eq_some_iff.1 hj).1
      have h0 : 0 < cs.length := by
        rcases Nat.eq_zero_or_pos cs.length with h | h
        · rw [h] at hjl; omega
        · exact h
      obtain ⟨g, off, rfl0, hg, hc⟩ := hr h0
      cases rfl0
      have hp : (⟨g, off, none⟩ : Addr).add j = ⟨g, off + j, none⟩ := by unfold Addr.add; split <;> simp_all
      have hd : j / m < cs.length := Nat.div_lt_of_lt_mul (by rw [Nat.mul_comm]; exact hjl)
      have hr : j % m < m := Nat.mod_lt _ hsz
      have e : j = j / m * m + j % m := by rw [Nat.mul_comm]; exact (Nat.div_add_mod j m).symm
      have hf := flatR_at hm cs (j / m) hd (j % m) hr
      rw [← e] at hf
      rw [hp, show off + j = off + j / m * m + j % m by omega, hc (j / m) hd (j % m) hr, ← hf, hj]
    · obtain ⟨y, _, hy⟩ := List.mem_flatMap.1 hu
      exact hone y u hy

theorem intF_one_a (n : Int) : ∀ u ∈ intF n, u.oneCell' = true := by intro u hu; simp [intF] at hu; subst hu; rfl
theorem undoF_one (n : UN) : ∀ u ∈ undoF n, u.oneCell' = true := by intro u hu; simp [undoF] at hu; rcases hu with h | h | h <;> subst h <;> rfl
theorem letF_one (n : LT) : ∀ u ∈ letF n, u.oneCell' = true := by
  intro u hu; simp [letF] at hu
  rcases hu with h | h | h | h | h | h | h | h | h | h | h | h | h <;> subst h <;> rfl
/-- an account's cells -/
def cellF (c : ByteArray × Int) : List Value := [.string c.1, .int .i64 c.2]
theorem cellF_len (c : ByteArray × Int) : (cellF c).length = 2 := rfl
theorem cellF_one (c : ByteArray × Int) : ∀ u ∈ cellF c, u.oneCell' = true := by intro u hu; simp [cellF] at hu; rcases hu with h | h <;> subst h <;> rfl
theorem flat_cellF (cs : CL) : flatR cellF cs = flat cs := rfl
theorem rows_cells {w : World} {v : Value} {cs : CL} (h : Cells w v cs) : RowsR w v 2 cellF cs := by
  obtain ⟨a, cap, rfl, hr⟩ := h
  refine ⟨a, cap, rfl, fun h0 => ?_⟩
  obtain ⟨g, off, rfl, hg, hc⟩ := hr h0
  refine ⟨g, off, rfl, hg, fun i hi j hj => ?_⟩
  have := hc i hi
  match j, hj with
  | 0, _ => exact this.1
  | 1, _ => exact this.2
/-- memory that was made, and a row that grew in it -/
theorem made_below {y x : World} {o : Obj} (hg : (y.alloc o).grownBy x (some y.heap.size)) : Below y.heap.size y x :=
  ((Below.refl y.heap.size y).alloc (Nat.le_refl _) o).grown hg (by simp) (fun k hk => by cases hk; exact Nat.le_refl _)

end Go.Proofs.Ytcfgfhodbjakoav
