/-
  Operations that come up alone in a region that draws: a cell stored into a block that is known, a row made, a row appended to a row of the call's own.
-/
import Derived.Test.YtcfgfhodbjakoavGreatDoorJ1
import Derived.Test.YtcfgfhodbjakoavGreatDoorJ3
import Derived.Deep.AppendLies
namespace Go.Proofs.YtcfgfhodbjakoavGreatDoor
open Go.RowKit Num

section
variable {P : Program} {ops : Array Oper} {Q : Exit → Act → World → Prop} {md : Region.Mode} {S : World → Prop}

/-- one cell of a block -/
theorem h_cell {s : Nat} {os : Oper} {f : Nat} {L : Array Bool} {a : Act} {w : World} {ty t : TypeId} {x y : Operand} {N o : Nat} {u : Value} {old new : Array Value} (ho : ops[s]? = some os) (hgd : os.guard = none) (hop : os.op = .store ty x y) (hd : os.dst = none) (hr : Region.ready md ops L = [s])
    (hx : a.eval x = .pointer (some ⟨N, o, none⟩)) (hy : a.eval y = u) (hg : w.heap[N]? = some (.cells old t (0, 0))) (hi : (P.info? ty).map (·.size) = some 1) (hold : o < old.size) (h1 : u.oneCell' = true) (hn : old.setIfInBounds o u = new)
    (h : ∀ w', w.grownBy w' (some N) → w'.heap[N]? = some (.cells new t (0, 0)) → S w' ∧ wpAnyH P md ops Q S f (L.setIfInBounds s true) a w') : wpAnyH P md ops Q S (f + 1) L a w := by
  subst hn
  refine ⟨fun h0 => (by rw [hr] at h0; cases h0), fun j hj => ?_⟩
  rw [hr] at hj
  obtain rfl : j = s := by simpa using hj
  have hcell : w.cell? ⟨N, o, none⟩ = some old[o] := by rw [cell_of_row _ N o _ _ _ hg]; simp [hold]
  have hfro := frozen_of_row _ N o _ _ hg
  have hrun : (storeVar ty ⟨N, o, none⟩ u).run P w = .ok () (w.setCell ⟨N, o, none⟩ u) := by
    cases hq : P.info? ty with
    | none => simp [hq] at hi
    | some i =>
      have hsz : i.size = 1 := by simpa [hq] using hi
      have huc : u.cells = #[u] := by cases u <;> first | rfl | simp [Value.oneCell'] at h1
      have hadd : (⟨N, o, none⟩ : Addr).add 0 = ⟨N, o, none⟩ := by unfold Addr.add; split <;> simp_all
      simp [storeVar, sizeOf, typeInfo, hq, hsz, huc, storeCells, hadd, run_store P w _ u _ h1, hcell, hfro]
  unfold wpOp
  simp only [ho]
  rw [if_pos (by simp [Region.wanted, hgd])]
  refine Or.inl ?_
  unfold Oper.wp execOp
  simp only [hop, hx, hy, Instr.storeAt, Instr.sureAddr, Sem.run_bind, Sem.run_pure, Result.andThen_ok, hrun]
  unfold Oper.upon
  simp only [hd]
  exact h _ ⟨rfl, rfl, rfl, by simp, fun k _ hk => heap_setCell_other w ⟨N, o, none⟩ k u (fun e => hk (by simp [e]))⟩ (heap_setCell_same w N o old t u hg)

/-- a row appended to a row of the call's own -/
theorem h_append {s : Nat} {os : Oper} {e' : Option Tmp} {f : Nat} {L : Array Bool} {a : Act} {w : World} (ho : ops[s]? = some os) (he : os.dst = e') (hgd : os.guard = none) (x y : Operand) (t : TypeId) (hop : os.op = .call { callee := .builtin .append, args := #[x, y], argTypes := #[t, t] }) (hr : Region.ready md ops L = [s])
    (base : Nat) (e : TypeId) (i : TypeInfo) (z : Value) (size bytes : Nat) (ht : P.underlying t = some (.slice e)) (hi : P.info? e = some i) (hz : i.zero = some z) (hsize : i.size = size) (hby : i.bytes = bytes) (hzs : z.cells.size = size) (hsz : 0 < size)
    (v : Value) (n : Nat) (xs : List Value) (hs : a.eval x = v) (hown : w.ownsRow base e size v n xs)
    (ad : Addr) (m c : Nat) (news : List Value) (hx : a.eval y = .slice (some ad) m c) (hl : news.length = m * size) (hnews : ∀ j u, news[j]? = some u → w.cell? (ad.add j) = some u) (h1 : ∀ u ∈ news, u.oneCell' = true)
    (h63 : n + m ≤ maxLen) (hbytes : (n + m) * bytes ≤ 140737488355328) (hbase : base ≤ w.heap.size)
    (h : ∀ v' w', w'.ownsRow base e size v' (n + m) (xs ++ news) → w.grownBy w' v.ownBlock → S w' ∧ wpAnyH P md ops Q S f (L.setIfInBounds s true) (a.put e' v') w') : wpAnyH P md ops Q S (f + 1) L a w := by
  subst he
  refine ⟨fun h0 => (by rw [hr] at h0; cases h0), fun j hj => ?_⟩
  rw [hr] at hj
  obtain rfl : j = s := by simpa using hj
  unfold wpOp
  simp only [ho]
  rw [if_pos (by simp [Region.wanted, hgd])]
  exact Or.inl (wp_append_own w x y t hop base e i z size bytes ht hi hz hsize hby hzs hsz v n xs hs hown ad m c news hx hl hnews h1 h63 hbytes hbase fun v' w' h2 h3 _ => h v' w' h2 h3)

/-- an operation that makes memory: what it does is told outright -/
theorem h_run {s : Nat} {os : Oper} {e' : Option Tmp} {f : Nat} {L : Array Bool} {a : Act} {w : World} (ho : ops[s]? = some os) (he : os.dst = e') (hgd : os.guard = none) (hr : Region.ready md ops L = [s])
    (v : Value) (w' : World) (hrun : (execOp a.eval os).run P w = .ok (.value v) w') (h : S w' ∧ wpAnyH P md ops Q S f (L.setIfInBounds s true) (a.put e' v) w') : wpAnyH P md ops Q S (f + 1) L a w := by
  subst he
  refine ⟨fun h0 => (by rw [hr] at h0; cases h0), fun j hj => ?_⟩
  rw [hr] at hj
  obtain rfl : j = s := by simpa using hj
  unfold wpOp
  simp only [ho]
  rw [if_pos (by simp [Region.wanted, hgd])]
  refine Or.inl ?_
  unfold Oper.wp
  rw [hrun]
  exact h
end

section
variable {P : Program} {ops : Array Oper} {Q : Exit → Act → World → Prop} {md : Region.Mode} {C : World → Prop} {pend : Nat → Bool}

/-- one cell of a block -/
theorem p_cell {s : Nat} {os : Oper} {f : Nat} {L : Array Bool} {a : Act} {w : World} {ty t : TypeId} {x y : Operand} {N o : Nat} {u : Value} {old new : Array Value} (ho : ops[s]? = some os) (hgd : os.guard = none) (hop : os.op = .store ty x y) (hd : os.dst = none) (hr : Region.ready md ops L = [s])
    (hx : a.eval x = .pointer (some ⟨N, o, none⟩)) (hy : a.eval y = u) (hg : w.heap[N]? = some (.cells old t (0, 0))) (hi : (P.info? ty).map (·.size) = some 1) (hold : o < old.size) (h1 : u.oneCell' = true) (hn : old.setIfInBounds o u = new)
    (h : ∀ w', w.grownBy w' (some N) → w'.heap[N]? = some (.cells new t (0, 0)) → (pend s = true → C w') ∧ wpAnyP P md ops Q C pend f (L.setIfInBounds s true) a w') : wpAnyP P md ops Q C pend (f + 1) L a w := by
  subst hn
  refine ⟨fun h0 => (by rw [hr] at h0; cases h0), fun j hj => ?_⟩
  rw [hr] at hj
  obtain rfl : j = s := by simpa using hj
  have hcell : w.cell? ⟨N, o, none⟩ = some old[o] := by rw [cell_of_row _ N o _ _ _ hg]; simp [hold]
  have hfro := frozen_of_row _ N o _ _ hg
  have hrun : (storeVar ty ⟨N, o, none⟩ u).run P w = .ok () (w.setCell ⟨N, o, none⟩ u) := by
    cases hq : P.info? ty with
    | none => simp [hq] at hi
    | some i =>
      have hsz : i.size = 1 := by simpa [hq] using hi
      have huc : u.cells = #[u] := by cases u <;> first | rfl | simp [Value.oneCell'] at h1
      have hadd : (⟨N, o, none⟩ : Addr).add 0 = ⟨N, o, none⟩ := by unfold Addr.add; split <;> simp_all
      simp [storeVar, sizeOf, typeInfo, hq, hsz, huc, storeCells, hadd, run_store P w _ u _ h1, hcell, hfro]
  unfold wpOp
  simp only [ho]
  rw [if_pos (by simp [Region.wanted, hgd])]
  refine Or.inl ?_
  unfold Oper.wp execOp
  simp only [hop, hx, hy, Instr.storeAt, Instr.sureAddr, Sem.run_bind, Sem.run_pure, Result.andThen_ok, hrun]
  unfold Oper.upon
  simp only [hd]
  exact h _ ⟨rfl, rfl, rfl, by simp, fun k _ hk => heap_setCell_other w ⟨N, o, none⟩ k u (fun e => hk (by simp [e]))⟩ (heap_setCell_same w N o old t u hg)

/-- a row appended to a row of the call's own -/
theorem p_append {s : Nat} {os : Oper} {e' : Option Tmp} {f : Nat} {L : Array Bool} {a : Act} {w : World} (ho : ops[s]? = some os) (he : os.dst = e') (hgd : os.guard = none) (x y : Operand) (t : TypeId) (hop : os.op = .call { callee := .builtin .append, args := #[x, y], argTypes := #[t, t] }) (hr : Region.ready md ops L = [s])
    (base : Nat) (e : TypeId) (i : TypeInfo) (z : Value) (size bytes : Nat) (ht : P.underlying t = some (.slice e)) (hi : P.info? e = some i) (hz : i.zero = some z) (hsize : i.size = size) (hby : i.bytes = bytes) (hzs : z.cells.size = size) (hsz : 0 < size)
    (v : Value) (n : Nat) (xs : List Value) (hs : a.eval x = v) (hown : w.ownsRow base e size v n xs)
    (ad : Addr) (m c : Nat) (news : List Value) (hx : a.eval y = .slice (some ad) m c) (hl : news.length = m * size) (hnews : ∀ j u, news[j]? = some u → w.cell? (ad.add j) = some u) (h1 : ∀ u ∈ news, u.oneCell' = true)
    (h63 : n + m ≤ maxLen) (hbytes : (n + m) * bytes ≤ 140737488355328) (hbase : base ≤ w.heap.size)
    (h : ∀ v' w', w'.ownsRow base e size v' (n + m) (xs ++ news) → w.grownBy w' v.ownBlock → (pend s = true → C w') ∧ wpAnyP P md ops Q C pend f (L.setIfInBounds s true) (a.put e' v') w') : wpAnyP P md ops Q C pend (f + 1) L a w := by
  subst he
  refine ⟨fun h0 => (by rw [hr] at h0; cases h0), fun j hj => ?_⟩
  rw [hr] at hj
  obtain rfl : j = s := by simpa using hj
  unfold wpOp
  simp only [ho]
  rw [if_pos (by simp [Region.wanted, hgd])]
  exact Or.inl (wp_append_own w x y t hop base e i z size bytes ht hi hz hsize hby hzs hsz v n xs hs hown ad m c news hx hl hnews h1 h63 hbytes hbase fun v' w' h2 h3 _ => h v' w' h2 h3)

/-- an operation that makes memory: what it does is told outright -/
theorem p_run {s : Nat} {os : Oper} {e' : Option Tmp} {f : Nat} {L : Array Bool} {a : Act} {w : World} (ho : ops[s]? = some os) (he : os.dst = e') (hgd : os.guard = none) (hr : Region.ready md ops L = [s])
    (v : Value) (w' : World) (hrun : (execOp a.eval os).run P w = .ok (.value v) w') (h : (pend s = true → C w') ∧ wpAnyP P md ops Q C pend f (L.setIfInBounds s true) (a.put e' v) w') : wpAnyP P md ops Q C pend (f + 1) L a w := by
  subst he
  refine ⟨fun h0 => (by rw [hr] at h0; cases h0), fun j hj => ?_⟩
  rw [hr] at hj
  obtain rfl : j = s := by simpa using hj
  unfold wpOp
  simp only [ho]
  rw [if_pos (by simp [Region.wanted, hgd])]
  refine Or.inl ?_
  unfold Oper.wp
  rw [hrun]
  exact h

/-- something appended to a row of the call's own: where the row lies behind it -/
theorem p_lies {s : Nat} {os : Oper} {e' : Option Tmp} {f : Nat} {L : Array Bool} {a : Act} {w : World} (ho : ops[s]? = some os) (he : os.dst = e') (hgd : os.guard = none) (x y : Operand) (t : TypeId) (hop : os.op = .call { callee := .builtin .append, args := #[x, y], argTypes := #[t, t] }) (hr : Region.ready md ops L = [s])
    (base : Nat) (e : TypeId) (i : TypeInfo) (z : Value) (size bytes : Nat) (ht : P.underlying t = some (.slice e)) (hi : P.info? e = some i) (hz : i.zero = some z) (hsize : i.size = size) (hby : i.bytes = bytes) (hzs : z.cells.size = size) (hsz : 0 < size)
    (v : Value) (n : Nat) (xs : List Value) (hs : a.eval x = v) (hown : w.ownsRow base e size v n xs)
    (ad : Addr) (m c : Nat) (news : List Value) (hx : a.eval y = .slice (some ad) m c) (hl : news.length = m * size) (hnews : ∀ j u, news[j]? = some u → w.cell? (ad.add j) = some u) (h1 : ∀ u ∈ news, u.oneCell' = true)
    (hm : 0 < m) (h63 : n + m ≤ maxLen) (hbytes : (n + m) * bytes ≤ 140737488355328) (hbase : base ≤ w.heap.size) (H : Nat) (hH : w.heap.size = H)
    (h : ∀ g cap w', w'.ownsRow base e size (.slice (some ⟨g, 0, none⟩) (n + m) cap) (n + m) (xs ++ news) → w.grownBy w' v.ownBlock → (v.ownBlock = some g ∨ g = H) → g < w'.heap.size → (pend s = true → C w') ∧ wpAnyP P md ops Q C pend f (L.setIfInBounds s true) (a.put e' (.slice (some ⟨g, 0, none⟩) (n + m) cap)) w') : wpAnyP P md ops Q C pend (f + 1) L a w := by
  subst he
  refine ⟨fun h0 => (by rw [hr] at h0; cases h0), fun j hj => ?_⟩
  rw [hr] at hj
  obtain rfl : j = s := by simpa using hj
  unfold wpOp
  simp only [ho]
  rw [if_pos (by simp [Region.wanted, hgd])]
  exact Or.inl (wp_append_lies w x y t hop base e i z size bytes ht hi hz hsize hby hzs hsz v n xs hs hown ad m c news hx hl hnews h1 hm h63 hbytes hbase H hH fun g cap w' h2 h3 h4 h5 => h g cap w' h2 h3 h4 h5)
/-- a call -/
theorem p_call {s : Nat} {e' : Option Tmp} {oc : Oper} {f : Nat} {L : Array Bool} {a : Act} {w : World} {fn : FuncId} {args : Array Value} (hc : ops[s]? = some oc) (hce : oc.dst = e') (hr : Region.ready md ops L = [s])
    (hw : Region.wanted oc (yielded ops a.tmps) = true) (hrun : (execOp a.eval oc).run P w = .ok (.enter fn args) w)
    (h : Calls P fn args w fun e w' => ∃ v, e = .returned v ∧ (pend s = true → C w') ∧ wpAnyP P md ops Q C pend f (L.setIfInBounds s true) (a.put e' v) w') : wpAnyP P md ops Q C pend (f + 1) L a w := by
  subst hce
  refine ⟨fun h0 => (by rw [hr] at h0; cases h0), fun j hj => ?_⟩
  rw [hr] at hj
  obtain rfl : j = s := by simpa using hj
  exact wpOp_call hc hw hrun h
/-- an operation that asks nothing of the world, behind all loads -/
theorem wpAnyP_pure {i : Nat} {oi : Oper} {v : Value} (hi : ops[i]? = some oi) (hsel : ∀ (j : Nat) (o : Oper) cs b, ops[j]? = some o → o.op ≠ .select cs b)
    (hQ : ∀ c a w, Q (.panic c) (a.put oi.dst v) w → Q (.panic c) a w) (hp : pend i = false) :
    ∀ (f : Nat) (listed : Array Bool) (a : Act) (w : World),
      (∀ j oj, ops[j]? = some oj → j ≠ i → listed.getD j true = false → (∀ e ∈ oj.after, Region.binds md e = true → e.on ≠ i) → oi.apart ops oj = true) →
      i ∈ Region.ready md ops listed → YieldsIf P ops (fun _ => True) oi v a →
      wpAnyP P md ops Q C pend f (listed.setIfInBounds i true) (a.put oi.dst v) w → wpAnyP P md ops Q C pend (f + 1) listed a w := by
  intro f
  induction f with
  | zero =>
    intro listed a w _ hr hy H
    refine ⟨fun h => (by rw [h] at hr; cases hr), fun j hj => ?_⟩
    by_cases hji : j = i
    · subst hji; exact hy.wpOp hi trivial ⟨fun h => (by rw [hp] at h; cases h), H⟩
    · have := ready_mono hj hji
      rw [H.1] at this
      cases this
  | succ f ih =>
    intro listed a w hfree hr hy H
    refine ⟨fun h => (by rw [h] at hr; cases hr), fun j hj => ?_⟩
    by_cases hji : j = i
    · subst hji; exact hy.wpOp hi trivial ⟨fun h => (by rw [hp] at h; cases h), H⟩
    · have h1 := H.2 j (ready_mono hj hji)
      obtain ⟨hjun, oj, hoj, hall⟩ := mem_ready.1 hj
      have hnot : ∀ e ∈ oj.after, Region.binds md e = true → e.on ≠ i := fun e he hb heq => by
        have h4 := hall e he hb
        rw [heq, off_of (mem_ready.1 hr).1] at h4
        cases h4
      have h2 := wpOp_putIf hoj (hfree j oj hoj hji hjun hnot) (fun cs b => hsel i oi cs b hi) (fun cs b => hsel j oj cs b hoj) hQ hy h1
      have hfree' := fun k ok hk hki hun hno => hfree k ok hk hki (still_off hjun hun) hno
      refine wpOp_mono (fun a' w' h3 => ⟨h3.2.1, ih (listed.setIfInBounds j true) a' w' hfree' (ready_mono hr (Ne.symm hji)) h3.1 ?_⟩) h2
      rw [Array.setIfInBounds_comm _ _ hji]
      exact h3.2.2
theorem p_pure {j : Nat} {e' : Option Tmp} {oj : Oper} {v : Value} {f : Nat} {L : Array Bool} {a : Act} {w : World} (hj : ops[j]? = some oj) (hje : oj.dst = e') (hsel : Region.noSelect ops = true) (hf : Region.free md ops L j = true) (hr : (Region.ready md ops L).contains j = true)
    (hp : pend j = false) (hQ : ∀ c a w, Q (.panic c) (a.put e' v) w → Q (.panic c) a w) (hy : YieldsIf P ops (fun _ => True) oj v a) (next : wpAnyP P md ops Q C pend f (L.setIfInBounds j true) (a.put e' v) w) : wpAnyP P md ops Q C pend (f + 1) L a w := by
  subst hje
  exact wpAnyP_pure hj (Region.noSelect_spec hsel) hQ hp f L a w (Region.free_spec hj hf) (by simpa using hr) hy next
/-- an operation that asks nothing of the world but C, taken first -/
theorem p_take {j : Nat} {e' : Option Tmp} {oj : Oper} {v : Value} {f : Nat} {L : Array Bool} {a : Act} {w : World} (hj : ops[j]? = some oj) (hje : oj.dst = e') (hsel : Region.noSelect ops = true) (hf : Region.free md ops L j = true) (hr : (Region.ready md ops L).contains j = true)
    (hw : waitsB md ops pend j = true) (hl : closedB md ops L = true) (hQ : ∀ c a w, Q (.panic c) (a.put e' v) w → Q (.panic c) a w) (hy : YieldsIf P ops C oj v a) (hC : C w) (next : wpAnyP P md ops Q C pend f (L.setIfInBounds j true) (a.put e' v) w) : wpAnyP P md ops Q C pend (f + 1) L a w := by
  subst hje
  exact wpAnyP_take hj hsel hf hr hw hl hQ hy hC next
end

section
variable {P : Program} {ops : Array Oper} {Q : Exit → Act → World → Prop} {md : Region.Mode} {S : World → Prop}
/-- the store at the end of a region with a block that floats: the block was there -/
theorem fl_end_b {i s : Nat} {d : Option Tmp} {oi os : Oper} {obj : Obj} {base f : Nat} {T : World → Prop} {L : Array Bool} {a : Act} {ty t : TypeId} {x y : Operand} {old cells : Array Value}
    (hi : ops[i]? = some oi) (hdd : oi.dst = d) (hmk : Makes P oi obj) (hb : ∀ w, T w → base ≤ w.heap.size) (hU : Up T) (hTS : ∀ w, T w → S w)
    (ho : ops[s]? = some os) (hg : os.guard = none) (hop : os.op = .store ty x y) (hd : os.dst = none) (hr0 : Region.ready md ops L = [i]) (hr1 : Region.ready md ops (L.setIfInBounds i true) = [s]) (hr2 : Region.ready md ops ((L.setIfInBounds i true).setIfInBounds s true) = [])
    (hx : ∀ N, (a.put d (flP N)).eval x = flP N) (hy : ∀ N, (a.put d (flP N)).eval y = .agg cells) (hobj : obj = .cells old t (0, 0)) (hsz : (P.info? ty).map (·.size) = some cells.size) (hold : old.size = cells.size) (h1 : cells.all (·.oneCell') = true)
    (fin : ∀ N w w', T w → base ≤ N → w.heap[N]? = some (.cells old t (0, 0)) → w.grownBy w' (some N) → w'.heap[N]? = some (.cells cells t (0, 0)) → N < w'.heap.size → S w' ∧ Q .normal (a.put d (flP N)) w') : Fl P md ops Q S i d obj base T (f + 1) L a := by
  subst hdd
  have hsome : ∀ N w, T w → flI obj base w (some N) → wpAnyH P md ops Q S (f + 1) (L.setIfInBounds i true) (a.put oi.dst (flP N)) w := fun N w hT hI => by
    refine ⟨fun h => (by rw [hr1] at h; cases h), fun j hj => ?_⟩
    rw [hr1] at hj
    obtain rfl : j = s := by simpa using hj
    have hI2 : w.heap[N]? = some (.cells old t (0, 0)) := by rw [← hobj]; exact hI.2
    obtain ⟨g1, g2, g3⟩ := setRow_grown (cells := cells) hI2
    have hf := fin N w _ hT hI.1 hI2 g1 g2 (by rw [g3]; exact (Array.getElem?_eq_some_iff.1 hI2).1)
    unfold wpOp
    simp only [ho]
    rw [if_pos (by simp [Region.wanted, hg])]
    refine Or.inl (wp_store_row ty x y hop N cells (hx N) (hy N) t old hI2 hsz hold h1 ?_)
    rw [hd]
    exact ⟨hf.1, wpAnyH_done hr2 hf.2 _⟩
  intro al w hT hI
  cases al with
  | some N => exact hsome N w hT hI
  | none =>
    show wpAnyH P md ops Q S (f + 1 + 1) L a w
    refine ⟨fun h => (by rw [hr0] at h; cases h), fun j hj => ?_⟩
    rw [hr0] at hj
    obtain rfl : j = i := by simpa using hj
    refine wpOp_value hi (by simp [Region.wanted, hmk.1]) (hmk.2 a.eval w) ⟨hTS _ (hU _ _ hT (alloc_below w obj)), ?_⟩
    exact hsome w.heap.size (w.alloc obj) (hU _ _ hT (alloc_below w obj)) ⟨hb w hT, alloc_new w obj⟩
end

end Go.Proofs.YtcfgfhodbjakoavGreatDoor
