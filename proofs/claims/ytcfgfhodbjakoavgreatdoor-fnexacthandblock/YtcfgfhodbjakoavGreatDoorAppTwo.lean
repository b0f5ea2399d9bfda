/-
  Regions that draw and make memory twice ('append(append([]T{}, list...), x)'): an operation at a time, where several may come next.
-/
import Derived.Test.YtcfgfhodbjakoavGreatDoorPartP
import Derived.Test.YtcfgfhodbjakoavGreatDoorJ3
import Derived.Deep.AppendLies
import Derived.Maps.AppendAt
namespace Go.Proofs.YtcfgfhodbjakoavGreatDoor
open Go.RowKit Num
section
variable {P : Program} {ops : Array Oper} {Q : Exit → Act → World → Prop} {md : Region.Mode} {C : World → Prop} {pend : Nat → Bool}

/-- the operation s comes next -/
def StepP (P : Program) (md : Region.Mode) (ops : Array Oper) (Q : Exit → Act → World → Prop) (C : World → Prop) (pend : Nat → Bool) (f : Nat) (L : Array Bool) (a : Act) (w : World) (s : Nat) : Prop :=
  wpOp P ops Q s (fun a' w' => (pend s = true → C w') ∧ wpAnyP P md ops Q C pend f (L.setIfInBounds s true) a' w') a w
theorem p_two {i j f : Nat} {L : Array Bool} {a : Act} {w : World} (hr : Region.ready md ops L = [i, j]) (h1 : StepP P md ops Q C pend f L a w i) (h2 : StepP P md ops Q C pend f L a w j) : wpAnyP P md ops Q C pend (f + 1) L a w := by
  refine ⟨fun h0 => (by rw [hr] at h0; cases h0), fun k hk => ?_⟩
  rw [hr] at hk
  rcases List.mem_cons.1 hk with rfl | hk
  · exact h1
  · obtain rfl : k = j := by simpa using hk
    exact h2
theorem p_one {i f : Nat} {L : Array Bool} {a : Act} {w : World} (hr : Region.ready md ops L = [i]) (h1 : StepP P md ops Q C pend f L a w i) : wpAnyP P md ops Q C pend (f + 1) L a w := by
  refine ⟨fun h0 => (by rw [hr] at h0; cases h0), fun k hk => ?_⟩
  rw [hr] at hk
  obtain rfl : k = i := by simpa using hk
  exact h1
theorem s_run {s : Nat} {os : Oper} {e' : Option Tmp} {f : Nat} {L : Array Bool} {a : Act} {w : World} (ho : ops[s]? = some os) (he : os.dst = e') (hgd : os.guard = none)
    (v : Value) (w' : World) (hrun : (execOp a.eval os).run P w = .ok (.value v) w') (h : (pend s = true → C w') ∧ wpAnyP P md ops Q C pend f (L.setIfInBounds s true) (a.put e' v) w') : StepP P md ops Q C pend f L a w s := by
  subst he
  unfold StepP wpOp
  simp only [ho]
  rw [if_pos (by simp [Region.wanted, hgd])]
  refine Or.inl ?_
  unfold Oper.wp
  rw [hrun]
  exact h
/-- a list that can be read, behind a row of the call's own -/
theorem s_append_a {α : Type} {g : α → List Value} {m : Nat} {s : Nat} {os : Oper} {e' : Option Tmp} {f : Nat} {L : Array Bool} {a : Act} {w : World} (ho : ops[s]? = some os) (he : os.dst = e') (hgd : os.guard = none) (x y : Operand) (t : TypeId) (hop : os.op = .call { callee := .builtin .append, args := #[x, y], argTypes := #[t, t] })
    (base : Nat) (e : TypeId) (i : TypeInfo) (z : Value) (bytes : Nat) (ht : P.underlying t = some (.slice e)) (hi : P.info? e = some i) (hz : i.zero = some z) (hsize : i.size = m) (hby : i.bytes = bytes) (hzs : z.cells.size = m) (hsz : 0 < m)
    (hm : ∀ y, (g y).length = m) (hone : ∀ y, ∀ u ∈ g y, u.oneCell' = true)
    (v : Value) (xs : List α) (hs : a.eval x = v) (hown : w.ownsRow base e m v xs.length (flatR g xs))
    (src : Value) (cs : List α) (hx : a.eval y = src) (hsrc : RowsR w src m g cs) (h63 : xs.length + cs.length ≤ maxLen) (hbytes : (xs.length + cs.length) * bytes ≤ 140737488355328) (hbase : base ≤ w.heap.size)
    (h : ∀ v' w', w'.ownsRow base e m v' (xs ++ cs).length (flatR g (xs ++ cs)) → w.grownBy w' v.ownBlock → (v'.ownBlock = v.ownBlock ∨ v'.ownBlock = some w.heap.size) → (pend s = true → C w') ∧ wpAnyP P md ops Q C pend f (L.setIfInBounds s true) (a.put e' v') w') : StepP P md ops Q C pend f L a w s := by
  subst he
  unfold StepP wpOp
  simp only [ho]
  rw [if_pos (by simp [Region.wanted, hgd])]
  refine Or.inl ?_
  obtain ⟨ad, cap, rfl, hr⟩ := hsrc
  cases ad with
  | none =>
    have h0 : cs.length = 0 := by
      rcases Nat.eq_zero_or_pos cs.length with h | h
      · exact h
      · obtain ⟨_, _, e, _⟩ := hr h; cases e
    obtain rfl : cs = [] := List.eq_nil_of_length_eq_zero h0
    have hrun := run_append_nil (ty := os.type) ht hi w hown cap
    unfold Oper.wp execOp
    simp only [hop, resolve, invoke, builtin, Sem.run_bind, Sem.run_pure, Result.andThen_ok, List.map_toArray, List.map_cons, List.map_nil, hs, hx, List.length_nil, hrun]
    exact h v w (by simpa using hown) ⟨rfl, rfl, rfl, Nat.le_refl _, fun _ _ _ => rfl⟩ (Or.inl rfl)
  | some ad =>
    have hnews : ∀ j u, (flatR g cs)[j]? = some u → w.cell? (ad.add j) = some u := by
      intro j u hj
      have hjl : j < cs.length * m := by
        rw [← flatR_len hm]
        exact (List.getElem?_eq_some_iff.1 hj).1
      have h0 : 0 < cs.length := by
        rcases Nat.eq_zero_or_pos cs.length with h | h
        · rw [h] at hjl; omega
        · exact h
      obtain ⟨g', off, rfl0, hg, hc⟩ := hr h0
      cases rfl0
      have hp : (⟨g', off, none⟩ : Addr).add j = ⟨g', off + j, none⟩ := by unfold Addr.add; split <;> simp_all
      have hd : j / m < cs.length := Nat.div_lt_of_lt_mul (by rw [Nat.mul_comm]; exact hjl)
      have hr : j % m < m := Nat.mod_lt _ hsz
      have e : j = j / m * m + j % m := by rw [Nat.mul_comm]; exact (Nat.div_add_mod j m).symm
      have hf := flatR_at hm cs (j / m) hd (j % m) hr
      rw [← e] at hf
      rw [hp, show off + j = off + j / m * m + j % m by omega, hc (j / m) hd (j % m) hr, ← hf, hj]
    have h1 : ∀ u ∈ flatR g cs, u.oneCell' = true := fun u hu => by
      obtain ⟨y, _, hy⟩ := List.mem_flatMap.1 hu
      exact hone y u hy
    obtain ⟨v', w', hrun, h2, h3, _, h5⟩ := run_append_own_at (P := P) w base t os.type e i z m bytes ht hi hz hsize hby hzs hsz v _ _ hown ad cs.length cap (flatR g cs) (flatR_len hm cs) hnews h1 h63 hbytes hbase
    unfold Oper.wp execOp
    simp only [hop, resolve, invoke, builtin, Sem.run_bind, Sem.run_pure, Result.andThen_ok, List.map_toArray, List.map_cons, List.map_nil, hs, hx, hrun]
    exact h v' w' (by rw [List.length_append, flatR_append]; exact h2) h3 h5
end
end Go.Proofs.YtcfgfhodbjakoavGreatDoor
