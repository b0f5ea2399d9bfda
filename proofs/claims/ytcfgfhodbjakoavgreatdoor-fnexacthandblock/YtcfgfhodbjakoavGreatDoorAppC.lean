/-
  Appending accounts to a row of the call's own.
-/
import Derived.Test.YtcfgfhodbjakoavGreatDoorJ0
import Derived.Laws.AppendOwn
import Derived.OwnWalk
namespace Go.Proofs.YtcfgfhodbjakoavGreatDoor
open Go.RowKit Num

theorem infoC : (Tryz.prog.info? 195).map (fun i => (i.zero, i.size, i.bytes)) = some (some (.agg #[.string ByteArray.empty, .int .i64 0]), 2, 24) := by kernel_rfl

/-- nothing is appended -/
theorem run_append_none {P : Program} {t ty e : TypeId} {i : TypeInfo} (ht : P.underlying t = some (.slice e)) (hi : P.info? e = some i) (w : World) {base : Nat} {v : Value} {n : Nat} {xs : List Value} {m : Nat} (hown : w.ownsRow base e m v n xs) (c : Nat) :
    (Builtin.append_ #[t, t] ty #[v, .slice none 0 c]).run P w = .ok v w := by
  obtain ⟨hl, ⟨rfl, h0⟩ | ⟨g, cap, cur, rfl, hb, hh, hn, hc, hs, htk⟩⟩ := hown
  · simp [Builtin.append_, run_underlying ht, sizeOf, typeInfo, hi, Builtin.lenOf, Builtin.firstCells]
  · have : n ≤ cap := by omega
    simp [Builtin.append_, run_underlying ht, sizeOf, typeInfo, hi, Builtin.lenOf, Builtin.firstCells, storeCells, this]

theorem flat_one {cs : CL} : ∀ u ∈ flat cs, u.oneCell' = true := by
  intro u hu
  obtain ⟨c, _, hc⟩ := List.mem_flatMap.1 hu
  simp at hc
  rcases hc with rfl | rfl <;> rfl

/-- 'append(out, list...)' at accounts: out is the call's own, list can be read -/
theorem wpList_append_cells (w : World) {ops : Array Oper} {rest : List Oper} {o : Oper} {a : Act} {Q : Exit → Act → World → Prop} (hgd : o.guard = none) (s x : Operand)
    (ho : o.op = .call { callee := .builtin .append, args := #[s, x], argTypes := #[121, 121] })
    (base : Nat) (v : Value) (xs : CL) (hs : a.eval s = v) (hown : w.ownsRow base 195 2 v xs.length (flat xs))
    (src : Value) (cs : CL) (hx : a.eval x = src) (hsrc : Cells w src cs) (h63 : xs.length + cs.length ≤ 4194304) (hbase : base ≤ w.heap.size)
    (h : ∀ v' w', w'.ownsRow base 195 2 v' (xs ++ cs).length (flat (xs ++ cs)) → w.grownBy w' v.ownBlock → wpList Tryz.prog ops Q rest (a.put o.dst v') w') : wpList Tryz.prog ops Q (o :: rest) a w := by
  obtain ⟨i0, hi, hz0, hz1, hz2⟩ := info_parts infoC
  obtain ⟨ad, cap, rfl, hr⟩ := hsrc
  cases ad with
  | none =>
    have h0 : cs.length = 0 := by
      rcases Nat.eq_zero_or_pos cs.length with h | h
      · exact h
      · obtain ⟨_, _, e, _⟩ := hr h; cases e
    obtain rfl : cs = [] := List.eq_nil_of_length_eq_zero h0
    refine wpList_plain hgd fun K' hK' => ?_
    have hrun := run_append_none (ty := o.type) Tryz.underlying121 hi w hown cap
    unfold Oper.wp execOp
    simp only [ho, resolve, invoke, builtin, Sem.run_bind, Sem.run_pure, Result.andThen_ok, List.map_toArray, List.map_cons, List.map_nil, hs, hx, List.length_nil, hrun]
    exact hK' _ _ (h v w (by simpa using hown) ⟨rfl, rfl, rfl, Nat.le_refl _, fun _ _ _ => rfl⟩)
  | some ad =>
    refine wpList_append_own _ hgd s x 121 ho base 195 i0 _ 2 24 Tryz.underlying121 hi hz0 hz1 hz2 rfl (by decide) v _ _ hs hown ad cs.length cap (flat cs) hx (flat_len cs) ?_ flat_one (by unfold maxLen; omega) (by omega) hbase fun v' w' h1 h2 _ => h v' w' (by rw [List.length_append, flat_append]; exact h1) h2
    intro j u hj
    have hjl : j < cs.length * 2 := by
      rw [← flat_len]
      exact (List.getElem?_eq_some_iff.1 hj).1
    obtain ⟨g, off, rfl0, hg, hc⟩ := hr (by omega)
    cases rfl0
    have hp : (⟨g, off, none⟩ : Addr).add j = ⟨g, off + j, none⟩ := by unfold Addr.add; split <;> simp_all
    rw [hp]
    have hf := flat_at cs (j / 2) (by omega)
    have hcc := hc (j / 2) (by omega)
    by_cases hev : j % 2 = 0
    · have e : j = j / 2 * 2 := by omega
      rw [← e] at hf hcc
      rw [hcc.1, ← hf.1, hj]
    · have e : j = j / 2 * 2 + 1 := by omega
      have e' : off + j = off + j / 2 * 2 + 1 := by omega
      rw [← e] at hf
      rw [e', hcc.2, ← hf.2, hj]

/-- the one account that is appended, as a row that can be read -/
theorem one_cell (W : World) (c : ByteArray × Int) (t : TypeId) : Cells (W.alloc (.cells #[.string c.1, .int .i64 c.2] t)) (.slice (some ⟨W.heap.size, 0, none⟩) 1 1) [c] := by
  refine ⟨_, 1, rfl, fun _ => ⟨W.heap.size, 0, rfl, by simp, fun i hi => ?_⟩⟩
  have : i = 0 := by simp at hi; omega
  subst this
  simp

end Go.Proofs.YtcfgfhodbjakoavGreatDoor
