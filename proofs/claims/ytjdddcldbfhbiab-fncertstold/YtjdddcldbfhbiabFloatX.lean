/-
  A region that draws its order, with calls that wait for one another, the making of one block, and at its end a store of what was told into that block: the block may be made ahead of any call. One walk, in the order of the text, for all of these orders: what is known of the world is closed under 'more memory', and the block's place is any.
-/
import Derived.Test.YtjdddcldbfhbiabRegP
import Derived.Laws.Tables
namespace Go.Proofs.Ytjdddcldbfhbiab
open Go.RowKit

theorem setRow_grown {w : World} {N : Nat} {old cells : Array Value} {t : TypeId} (h : w.heap[N]? = some (.cells old t (0, 0))) : w.grownBy (w.setRow N cells) (some N) ∧ (w.setRow N cells).heap[N]? = some (.cells cells t (0, 0)) ∧ (w.setRow N cells).heap.size = w.heap.size := by
  refine ⟨⟨rfl, rfl, rfl, by simp [World.setRow], fun k hk hne => ?_⟩, setRow_heap w N old cells t (0, 0) h, by simp [World.setRow]⟩
  have : k ≠ N := fun e => hne (by rw [e])
  simp only [World.setRow]
  rw [Array.getElem?_modify, if_neg (fun e => this e.symm)]

section
variable {P : Program} {ops : Array Oper} {Q : Exit → Act → World → Prop} {md : Region.Mode} {S : World → Prop}

theorem wpOp_call {c : Nat} {oc : Oper} {fn : FuncId} {args : Array Value} {a : Act} {w : World} {K : Act → World → Prop} (hc : ops[c]? = some oc) (hw : Region.wanted oc (yielded ops a.tmps) = true)
    (hrun : (execOp a.eval oc).run P w = .ok (.enter fn args) w) (h : Calls P fn args w fun e w' => ∃ v, e = .returned v ∧ K (a.put oc.dst v) w') : wpOp P ops Q c K a w := by
  unfold wpOp
  simp only [hc, hw, if_true]
  refine Or.inl ?_
  unfold Oper.wp
  rw [hrun]
  exact h.mono fun e w' he => by obtain ⟨v, rfl, hk⟩ := he; exact hk
theorem wpOp_value {c : Nat} {oc : Oper} {v : Value} {a : Act} {w w' : World} {K : Act → World → Prop} (hc : ops[c]? = some oc) (hw : Region.wanted oc (yielded ops a.tmps) = true)
    (hrun : (execOp a.eval oc).run P w = .ok (.value v) w') (h : K (a.put oc.dst v) w') : wpOp P ops Q c K a w := by
  unfold wpOp
  simp only [hc, hw, if_true]
  refine Or.inl ?_
  unfold Oper.wp
  rw [hrun]
  exact h

def flP (N : Nat) : Value := .pointer (some ⟨N, 0, none⟩)
/-- the block is not made yet, or lies at N -/
def flL (i : Nat) (L : Array Bool) : Option Nat → Array Bool
  | none => L
  | some _ => L.setIfInBounds i true
def flA (d : Option Tmp) (a : Act) : Option Nat → Act
  | none => a
  | some N => a.put d (flP N)
def flI (obj : Obj) (base : Nat) (w : World) : Option Nat → Prop
  | none => True
  | some N => base ≤ N ∧ w.heap[N]? = some obj
def flF (f : Nat) : Option Nat → Nat
  | none => f + 1
  | some _ => f
/-- the walk from here on, wherever the block lies -/
def Fl (P : Program) (md : Region.Mode) (ops : Array Oper) (Q : Exit → Act → World → Prop) (S : World → Prop) (i : Nat) (d : Option Tmp) (obj : Obj) (base : Nat) (T : World → Prop) (f : Nat) (L : Array Bool) (a : Act) : Prop :=
  ∀ al w, T w → flI obj base w al → wpAnyH P md ops Q S (flF f al) (flL i L al) (flA d a al) w
/-- more memory harms nothing -/
def Up (T : World → Prop) : Prop := ∀ w w', T w → Below w.heap.size w w' → T w'

/-- what lies from base on is as it was -/
def KpF (base : Nat) (w w' : World) : Prop := ∀ k, base ≤ k → k < w.heap.size → w'.heap[k]? = w.heap[k]?
theorem KpF.below {base : Nat} {w w' : World} (h : Below w.heap.size w w') : KpF base w w' := fun k _ hk => h.block k hk
theorem KpF.grown {base B : Nat} {w w' : World} (h : w.grownBy w' (some B)) (hB : B < base) : KpF base w w' := fun k hk hl => h.block k hl fun e => by have := Option.some.inj e; omega

/-- what an alloc does, in whatever state -/
def Makes (P : Program) (oi : Oper) (obj : Obj) : Prop := oi.guard = none ∧ ∀ (ρ : Operand → Value) (w : World), (execOp ρ oi).run P w = .ok (.value (flP w.heap.size)) (w.alloc obj)

theorem alloc_new (w : World) (obj : Obj) : (w.alloc obj).heap[w.heap.size]? = some obj := by show (w.heap.push obj)[w.heap.size]? = some obj; simp
theorem alloc_below (w : World) (obj : Obj) : Below w.heap.size w (w.alloc obj) := (Below.refl _ _).alloc (Nat.le_refl _) _

theorem fl_in {i : Nat} {d : Option Tmp} {obj : Obj} {base f : Nat} {T : World → Prop} {L : Array Bool} {a : Act} {w : World} (h : Fl P md ops Q S i d obj base T f L a) (hT : T w) : wpAnyH P md ops Q S (f + 1) L a w := h none w hT trivial

theorem fl_call {i c : Nat} {d e' : Option Tmp} {oi oc : Oper} {obj : Obj} {base f : Nat} {T : World → Prop} {T' : Value → World → Prop} {L : Array Bool} {a : Act} {fn : FuncId} {args : Array Value}
    (hi : ops[i]? = some oi) (hdd : oi.dst = d) (hmk : Makes P oi obj) (hb : ∀ w, T w → base ≤ w.heap.size) (hU : Up T) (hTS : ∀ w, T w → S w)
    (hc : ops[c]? = some oc) (hce : oc.dst = e') (hsel : Region.noSelect ops = true) (hr0 : Region.ready md ops L = [c, i] ∨ Region.ready md ops L = [i, c]) (hr1 : Region.ready md ops (L.setIfInBounds i true) = [c]) (hci : c ≠ i) (hap : oi.apart ops oc = true)
    (hw : Region.wanted oc (yielded ops a.tmps) = true) (hrun : ∀ w, (execOp a.eval oc).run P w = .ok (.enter fn args) w)
    (hcon : ∀ w, T w → Calls P fn args w fun e w' => ∃ v, e = .returned v ∧ KpF base w w' ∧ T' v w') (hTS' : ∀ v w, T' v w → S w)
    (next : ∀ v, Fl P md ops Q S i d obj base (T' v) f (L.setIfInBounds c true) (a.put e' v)) : Fl P md ops Q S i d obj base T (f + 1) L a := by
  subst hdd
  subst hce
  obtain ⟨h1, h2, _⟩ := Oper.apart_spec hap
  have hs : ∀ cs b, oc.op ≠ .select cs b := fun cs b => Region.noSelect_spec hsel c oc cs b hc
  have hsome : ∀ N w, T w → flI obj base w (some N) → wpAnyH P md ops Q S (f + 1) (L.setIfInBounds i true) (a.put oi.dst (flP N)) w := fun N w hT hI => by
    refine ⟨fun h => (by rw [hr1] at h; cases h), fun j hj => ?_⟩
    rw [hr1] at hj
    obtain rfl : j = c := by simpa using hj
    refine wpOp_call hc (by rw [wanted_put oc a oi.dst _ h1]; exact hw) (by rw [execOp_put oc hs a oi.dst _ h1]; exact hrun w) ((hcon w hT).mono ?_)
    rintro e w' ⟨v, rfl, hbe, hT'⟩
    refine ⟨v, rfl, hTS' v w' hT', ?_⟩
    have := next v (some N) w' hT' ⟨hI.1, (hbe N hI.1 (Array.getElem?_eq_some_iff.1 hI.2).1).trans hI.2⟩
    rw [Act.put_comm a (flP N) v h2, Array.setIfInBounds_comm _ _ (Ne.symm hci)]
    exact this
  intro al w hT hI
  cases al with
  | some N => exact hsome N w hT hI
  | none =>
    show wpAnyH P md ops Q S (f + 1 + 1) L a w
    refine ⟨fun h => (by rcases hr0 with e | e <;> rw [e] at h <;> cases h), fun j hj => ?_⟩
    have hj' : j = c ∨ j = i := by rcases hr0 with e | e <;> rw [e] at hj <;> simp at hj <;> omega
    rcases hj' with rfl | rfl
    · refine wpOp_call hc hw (hrun w) ((hcon w hT).mono ?_)
      rintro e w' ⟨v, rfl, _, hT'⟩
      exact ⟨v, rfl, hTS' v w' hT', next v none w' hT' trivial⟩
    · refine wpOp_value hi (by simp [Region.wanted, hmk.1]) (hmk.2 a.eval w) ⟨hTS _ (hU _ _ hT (alloc_below w obj)), ?_⟩
      exact hsome w.heap.size (w.alloc obj) (hU _ _ hT (alloc_below w obj)) ⟨hb w hT, alloc_new w obj⟩

/-- an operation that makes memory -/
theorem fl_make {i c : Nat} {d e' : Option Tmp} {oi oc : Oper} {obj : Obj} {base f : Nat} {T : World → Prop} {T' : Value → World → Prop} {L : Array Bool} {a : Act}
    (hi : ops[i]? = some oi) (hdd : oi.dst = d) (hmk : Makes P oi obj) (hb : ∀ w, T w → base ≤ w.heap.size) (hU : Up T) (hTS : ∀ w, T w → S w)
    (hc : ops[c]? = some oc) (hce : oc.dst = e') (hsel : Region.noSelect ops = true) (hr0 : Region.ready md ops L = [c, i] ∨ Region.ready md ops L = [i, c]) (hr1 : Region.ready md ops (L.setIfInBounds i true) = [c]) (hci : c ≠ i) (hap : oi.apart ops oc = true)
    (hw : Region.wanted oc (yielded ops a.tmps) = true) (hrun : ∀ w, T w → ∃ v w', (execOp a.eval oc).run P w = .ok (.value v) w' ∧ KpF base w w' ∧ T' v w') (hTS' : ∀ v w, T' v w → S w)
    (next : ∀ v, Fl P md ops Q S i d obj base (T' v) f (L.setIfInBounds c true) (a.put e' v)) : Fl P md ops Q S i d obj base T (f + 1) L a := by
  subst hdd
  subst hce
  obtain ⟨h1, h2, _⟩ := Oper.apart_spec hap
  have hs : ∀ cs b, oc.op ≠ .select cs b := fun cs b => Region.noSelect_spec hsel c oc cs b hc
  have hsome : ∀ N w, T w → flI obj base w (some N) → wpAnyH P md ops Q S (f + 1) (L.setIfInBounds i true) (a.put oi.dst (flP N)) w := fun N w hT hI => by
    refine ⟨fun h => (by rw [hr1] at h; cases h), fun j hj => ?_⟩
    rw [hr1] at hj
    obtain rfl : j = c := by simpa using hj
    obtain ⟨v, w', hr, hbe, hT'⟩ := hrun w hT
    refine wpOp_value hc (by rw [wanted_put oc a oi.dst _ h1]; exact hw) (by rw [execOp_put oc hs a oi.dst _ h1]; exact hr) ⟨hTS' v w' hT', ?_⟩
    have := next v (some N) w' hT' ⟨hI.1, (hbe N hI.1 (Array.getElem?_eq_some_iff.1 hI.2).1).trans hI.2⟩
    rw [Act.put_comm a (flP N) v h2, Array.setIfInBounds_comm _ _ (Ne.symm hci)]
    exact this
  intro al w hT hI
  cases al with
  | some N => exact hsome N w hT hI
  | none =>
    show wpAnyH P md ops Q S (f + 1 + 1) L a w
    refine ⟨fun h => (by rcases hr0 with e | e <;> rw [e] at h <;> cases h), fun j hj => ?_⟩
    have hj' : j = c ∨ j = i := by rcases hr0 with e | e <;> rw [e] at hj <;> simp at hj <;> omega
    rcases hj' with rfl | rfl
    · obtain ⟨v, w', hr, _, hT'⟩ := hrun w hT
      exact wpOp_value hc hw hr ⟨hTS' v w' hT', next v none w' hT' trivial⟩
    · refine wpOp_value hi (by simp [Region.wanted, hmk.1]) (hmk.2 a.eval w) ⟨hTS _ (hU _ _ hT (alloc_below w obj)), ?_⟩
      exact hsome w.heap.size (w.alloc obj) (hU _ _ hT (alloc_below w obj)) ⟨hb w hT, alloc_new w obj⟩

/-- a call whose answer is known and that makes memory at most -/
theorem fl_call_v {i c : Nat} {d e' : Option Tmp} {oi oc : Oper} {obj : Obj} {base f : Nat} {T : World → Prop} {v : Value} {L : Array Bool} {a : Act} {fn : FuncId} {args : Array Value}
    (hi : ops[i]? = some oi) (hdd : oi.dst = d) (hmk : Makes P oi obj) (hb : ∀ w, T w → base ≤ w.heap.size) (hU : Up T) (hTS : ∀ w, T w → S w)
    (hc : ops[c]? = some oc) (hce : oc.dst = e') (hsel : Region.noSelect ops = true) (hr0 : Region.ready md ops L = [c, i] ∨ Region.ready md ops L = [i, c]) (hr1 : Region.ready md ops (L.setIfInBounds i true) = [c]) (hci : c ≠ i) (hap : oi.apart ops oc = true)
    (hw : Region.wanted oc (yielded ops a.tmps) = true) (hrun : ∀ w, (execOp a.eval oc).run P w = .ok (.enter fn args) w)
    (hcon : ∀ w, T w → Calls P fn args w fun e w' => e = .returned v ∧ Below w.heap.size w w')
    (next : Fl P md ops Q S i d obj base T f (L.setIfInBounds c true) (a.put e' v)) : Fl P md ops Q S i d obj base T (f + 1) L a :=
  fl_call (T' := fun v' w => v' = v ∧ T w) hi hdd hmk hb hU hTS hc hce hsel hr0 hr1 hci hap hw hrun (fun w hT => (hcon w hT).mono fun _ w' ⟨he, hbe⟩ => ⟨v, he, KpF.below hbe, rfl, hU _ _ hT hbe⟩) (fun _ w h => hTS w h.2) (fun _ al w h hI => by obtain ⟨rfl, hT⟩ := h; exact next al w hT hI)

theorem fl_ex {α : Type} {i : Nat} {d : Option Tmp} {obj : Obj} {base f : Nat} {R : α → World → Prop} {L : Array Bool} {a : Act} (h : ∀ x, Fl P md ops Q S i d obj base (R x) f L a) : Fl P md ops Q S i d obj base (fun w => ∃ x, R x w) f L a := fun al w hT hI => by obtain ⟨x, hx⟩ := hT; exact h x al w hx hI
theorem fl_and {p : Prop} {i : Nat} {d : Option Tmp} {obj : Obj} {base f : Nat} {R : World → Prop} {L : Array Bool} {a : Act} (h : p → Fl P md ops Q S i d obj base R f L a) : Fl P md ops Q S i d obj base (fun w => p ∧ R w) f L a := fun al w hT hI => h hT.1 al w hT.2 hI

theorem fl_take {i j : Nat} {d e' : Option Tmp} {oi oj : Oper} {v : Value} {obj : Obj} {base f : Nat} {T : World → Prop} {L : Array Bool} {a : Act} (_ : ops[i]? = some oi) (hdd : oi.dst = d) (hj : ops[j]? = some oj) (hje : oj.dst = e') (hsel : Region.noSelect ops = true)
    (hf0 : Region.free md ops L j = true) (hf1 : Region.free md ops (L.setIfInBounds i true) j = true) (hr0 : (Region.ready md ops L).contains j = true) (hr1 : (Region.ready md ops (L.setIfInBounds i true)).contains j = true) (hji : j ≠ i) (hap : oi.apart ops oj = true)
    (hQ : ∀ c a w, Q (.panic c) (a.put e' v) w → Q (.panic c) a w) (hTS : ∀ w, T w → S w) (hy : YieldsIf P ops S oj v a)
    (next : Fl P md ops Q S i d obj base T f (L.setIfInBounds j true) (a.put e' v)) : Fl P md ops Q S i d obj base T (f + 1) L a := by
  subst hdd
  subst hje
  obtain ⟨h1, h2, _⟩ := Oper.apart_spec hap
  have hs : ∀ cs b, oj.op ≠ .select cs b := fun cs b => Region.noSelect_spec hsel j oj cs b hj
  intro al w hT hI
  cases al with
  | none => exact wpAnyH_take hj hsel hf0 hr0 hQ hy (hTS w hT) (next none w hT trivial)
  | some N =>
    show wpAnyH P md ops Q S (f + 1) (L.setIfInBounds i true) (a.put oi.dst (flP N)) w
    refine wpAnyH_take (v := v) hj hsel hf1 hr1 hQ (hy.of_same (execOp_put oj hs a oi.dst _ h1) (wanted_put oj a oi.dst _ h1)) (hTS w hT) ?_
    have := next (some N) w hT hI
    rw [Act.put_comm a (flP N) v h2, Array.setIfInBounds_comm _ _ (Ne.symm hji)]
    exact this

theorem fl_end {i s : Nat} {d : Option Tmp} {oi os : Oper} {obj : Obj} {base f : Nat} {T : World → Prop} {L : Array Bool} {a : Act} {ty t : TypeId} {x y : Operand} {old cells : Array Value}
    (hi : ops[i]? = some oi) (hdd : oi.dst = d) (hmk : Makes P oi obj) (hb : ∀ w, T w → base ≤ w.heap.size) (hU : Up T) (hTS : ∀ w, T w → S w)
    (ho : ops[s]? = some os) (hg : os.guard = none) (hop : os.op = .store ty x y) (hd : os.dst = none) (hr0 : Region.ready md ops L = [i]) (hr1 : Region.ready md ops (L.setIfInBounds i true) = [s]) (hr2 : Region.ready md ops ((L.setIfInBounds i true).setIfInBounds s true) = [])
    (hx : ∀ N, (a.put d (flP N)).eval x = flP N) (hy : ∀ N, (a.put d (flP N)).eval y = .agg cells) (hobj : obj = .cells old t (0, 0)) (hsz : (P.info? ty).map (·.size) = some cells.size) (hold : old.size = cells.size) (h1 : cells.all (·.oneCell') = true)
    (fin : ∀ N w w', T w → base ≤ N → w.grownBy w' (some N) → w'.heap[N]? = some (.cells cells t (0, 0)) → N < w'.heap.size → S w' ∧ Q .normal (a.put d (flP N)) w') : Fl P md ops Q S i d obj base T (f + 1) L a := by
  subst hdd
  have hsome : ∀ N w, T w → flI obj base w (some N) → wpAnyH P md ops Q S (f + 1) (L.setIfInBounds i true) (a.put oi.dst (flP N)) w := fun N w hT hI => by
    refine ⟨fun h => (by rw [hr1] at h; cases h), fun j hj => ?_⟩
    rw [hr1] at hj
    obtain rfl : j = s := by simpa using hj
    have hI2 : w.heap[N]? = some (.cells old t (0, 0)) := by rw [← hobj]; exact hI.2
    obtain ⟨g1, g2, g3⟩ := setRow_grown (cells := cells) hI2
    have hf := fin N w _ hT hI.1 g1 g2 (by rw [g3]; exact (Array.getElem?_eq_some_iff.1 hI2).1)
    unfold wpOp
    simp only [ho]
    rw [if_pos (by simp [Region.wanted, hg])]
    refine Or.inl (wp_store_row ty x y hop N cells (hx N) (hy N) t old hI2 hsz hold h1 ?_)
    rw [hd]
    exact ⟨hf.1, wpAnyH_done hr2 hf.2 _⟩
  intro al w hT hI
  cases al with
  | some N => exact hsome N w hT hI
  | none =>
    show wpAnyH P md ops Q S (f + 1 + 1) L a w
    refine ⟨fun h => (by rw [hr0] at h; cases h), fun j hj => ?_⟩
    rw [hr0] at hj
    obtain rfl : j = i := by simpa using hj
    refine wpOp_value hi (by simp [Region.wanted, hmk.1]) (hmk.2 a.eval w) ⟨hTS _ (hU _ _ hT (alloc_below w obj)), ?_⟩
    exact hsome w.heap.size (w.alloc obj) (hU _ _ hT (alloc_below w obj)) ⟨hb w hT, alloc_new w obj⟩

/-- a call, where nothing else may come up -/
theorem h_call {c : Nat} {e' : Option Tmp} {oc : Oper} {f : Nat} {L : Array Bool} {a : Act} {w : World} {fn : FuncId} {args : Array Value} (hc : ops[c]? = some oc) (hce : oc.dst = e') (hr : Region.ready md ops L = [c])
    (hw : Region.wanted oc (yielded ops a.tmps) = true) (hrun : (execOp a.eval oc).run P w = .ok (.enter fn args) w)
    (h : Calls P fn args w fun e w' => ∃ v, e = .returned v ∧ S w' ∧ wpAnyH P md ops Q S f (L.setIfInBounds c true) (a.put e' v) w') : wpAnyH P md ops Q S (f + 1) L a w := by
  subst hce
  refine ⟨fun h0 => (by rw [hr] at h0; cases h0), fun j hj => ?_⟩
  rw [hr] at hj
  obtain rfl : j = c := by simpa using hj
  exact wpOp_call hc hw hrun h
/-- a store of a whole struct, where nothing else may come up -/
theorem h_store {s : Nat} {os : Oper} {f : Nat} {L : Array Bool} {a : Act} {w : World} {ty t : TypeId} {x y : Operand} {N : Nat} {old cells : Array Value} (ho : ops[s]? = some os) (hg : os.guard = none) (hop : os.op = .store ty x y) (hd : os.dst = none) (hr : Region.ready md ops L = [s])
    (hx : a.eval x = flP N) (hy : a.eval y = .agg cells) (hb : w.heap[N]? = some (.cells old t (0, 0))) (hsz : (P.info? ty).map (·.size) = some cells.size) (hold : old.size = cells.size) (h1 : cells.all (·.oneCell') = true)
    (h : ∀ w', w.grownBy w' (some N) → w'.heap[N]? = some (.cells cells t (0, 0)) → S w' ∧ wpAnyH P md ops Q S f (L.setIfInBounds s true) a w') : wpAnyH P md ops Q S (f + 1) L a w := by
  refine ⟨fun h0 => (by rw [hr] at h0; cases h0), fun j hj => ?_⟩
  rw [hr] at hj
  obtain rfl : j = s := by simpa using hj
  obtain ⟨g1, g2, _⟩ := setRow_grown (cells := cells) hb
  unfold wpOp
  simp only [ho]
  rw [if_pos (by simp [Region.wanted, hg])]
  refine Or.inl (wp_store_row ty x y hop N cells hx hy t old hb hsz hold h1 ?_)
  rw [hd]
  exact h _ g1 g2
/-- an operation that asks nothing of the world but S, taken first -/
theorem h_take {j : Nat} {e' : Option Tmp} {oj : Oper} {v : Value} {f : Nat} {L : Array Bool} {a : Act} {w : World} (hj : ops[j]? = some oj) (hje : oj.dst = e') (hsel : Region.noSelect ops = true) (hf : Region.free md ops L j = true) (hr : (Region.ready md ops L).contains j = true)
    (hQ : ∀ c a w, Q (.panic c) (a.put e' v) w → Q (.panic c) a w) (hy : YieldsIf P ops S oj v a) (hS : S w) (next : wpAnyH P md ops Q S f (L.setIfInBounds j true) (a.put e' v) w) : wpAnyH P md ops Q S (f + 1) L a w := by
  subst hje
  exact wpAnyH_take hj hsel hf hr hQ hy hS next
end

/- A store of a whole struct into its own block in a plain walk: the world behind it is named anew. -/
section
variable {P : Program} {ops : Array Oper} {rest : List Oper} {o : Oper} {a : Act} {w : World} {Q : Exit → Act → World → Prop}

theorem wpList_store_blk (hgd : o.guard = none) (ty : TypeId) (x y : Operand) (ho : o.op = .store ty x y) (g : Nat) (cells : Array Value) (hx : a.eval x = .pointer (some ⟨g, 0, none⟩)) (hy : a.eval y = .agg cells)
    (t : TypeId) (old : Array Value) (hg : w.heap[g]? = some (.cells old t (0, 0))) (hi : (P.info? ty).map (·.size) = some cells.size) (hold : old.size = cells.size) (h1 : cells.all (·.oneCell') = true)
    (h : ∀ w', w.grownBy w' (some g) → w'.heap[g]? = some (.cells cells t (0, 0)) → w'.heap.size = w.heap.size → wpList P ops Q rest (a.put o.dst undef) w') : wpList P ops Q (o :: rest) a w := by
  obtain ⟨g1, g2, g3⟩ := setRow_grown (cells := cells) hg
  exact wpList_store_row hgd ty x y ho g cells hx hy t old hg hi hold h1 (h _ g1 g2 g3)

end
end Go.Proofs.Ytjdddcldbfhbiab
