/-
  A region that draws its order, in which a load is taken first although a later operation, which waits for the load, writes the very cell: what the load reads need hold only behind those operations that may come before it.
-/
import Derived.Test.YtjdddcldbfhbiabRows
import Derived.WalkKit
import Derived.OrdersHeld
import Derived.Deep.RegionHeld
namespace Go.Proofs.Ytjdddcldbfhbiab
open Go.RowKit

section
variable {P : Program} {ops : Array Oper} {Q : Exit → Act → World → Prop} {md : Region.Mode} {C : World → Prop} {pend : Nat → Bool}

/-- whatever order is picked; behind each operation that may come before the loads, C holds -/
def wpAnyP (P : Program) (md : Region.Mode) (ops : Array Oper) (Q : Exit → Act → World → Prop) (C : World → Prop) (pend : Nat → Bool) : Nat → Array Bool → Act → World → Prop
  | 0, listed, a, w => Region.ready md ops listed = [] ∧ Q .normal a w
  | f + 1, listed, a, w => (Region.ready md ops listed = [] → Q .normal a w) ∧
      ∀ i ∈ Region.ready md ops listed, wpOp P ops Q i (fun a' w' => (pend i = true → C w') ∧ wpAnyP P md ops Q C pend f (listed.setIfInBounds i true) a' w') a w

theorem wpAny_of_P : ∀ (f : Nat) (listed : Array Bool) (a : Act) (w : World), wpAnyP P md ops Q C pend f listed a w → wpAny P md ops Q f listed a w
  | 0, _, _, _, h => h
  | f + 1, _, _, _, h => ⟨h.1, fun i hi => wpOp_mono (fun a' w' h' => wpAny_of_P f _ a' w' h'.2) (h.2 i hi)⟩

/-- more may be asked -/
theorem wpAnyP_mono {C' : World → Prop} (hC : ∀ w, C' w → C w) : ∀ {f : Nat} {listed : Array Bool} {a : Act} {w : World}, wpAnyP P md ops Q C' pend f listed a w → wpAnyP P md ops Q C pend f listed a w
  | 0, _, _, _, h => h
  | _ + 1, _, _, _, h => ⟨h.1, fun i hi => wpOp_mono (fun _ _ h' => ⟨fun hp => hC _ (h'.1 hp), wpAnyP_mono hC h'.2⟩) (h.2 i hi)⟩

/-- number j waits for number i, in at most n steps -/
def chainB (md : Region.Mode) (ops : Array Oper) (i : Nat) : Nat → Nat → Bool
  | 0, _ => false
  | n + 1, j => match ops[j]? with
    | some o => o.after.toList.any fun e => Region.binds md e && (e.on == i || chainB md ops i n e.on)
    | none => false
/-- what has come up came up behind all that it waits for -/
def Closed (md : Region.Mode) (ops : Array Oper) (listed : Array Bool) : Prop :=
  ∀ (k : Nat) (o : Oper), ops[k]? = some o → listed.getD k false = true → ∀ e ∈ o.after, Region.binds md e = true → listed.getD e.on false = true
theorem off_of {listed : Array Bool} {i : Nat} (h : listed.getD i true = false) : listed.getD i false = false := by
  rcases Nat.lt_or_ge i listed.size with h' | h'
  · simp [h'] at h ⊢; exact h
  · simp [Array.getElem?_eq_none h']
/-- what has not come up behind one more had not come up ahead of it -/
theorem still_off {listed : Array Bool} {j k : Nat} (hj : listed.getD j true = false) (h : (listed.setIfInBounds j true).getD k true = false) : listed.getD k true = false := by
  by_cases e : j = k
  · rw [← e]; exact hj
  · rwa [getD_set_ne true e] at h
theorem chain_off {i : Nat} {listed : Array Bool} (hc : Closed md ops listed) (hi : listed.getD i true = false) : ∀ (n j : Nat), chainB md ops i n j = true → listed.getD j false = false ∧ j ∉ Region.ready md ops listed
  | 0, _, h => by cases h
  | n + 1, j, h => by
    unfold chainB at h
    cases ho : ops[j]? with
    | none => rw [ho] at h; cases h
    | some o =>
      rw [ho] at h
      obtain ⟨e, he, h2⟩ := List.any_eq_true.1 h
      have he' : e ∈ o.after := by simpa using he
      simp only [Bool.and_eq_true, Bool.or_eq_true, beq_iff_eq] at h2
      have hoff : listed.getD e.on false = false := by
        rcases h2.2 with h3 | h3
        · rw [h3]; exact off_of hi
        · exact (chain_off hc hi n e.on h3).1
      constructor
      · cases hj : listed.getD j false with
        | false => rfl
        | true => have := hc j o ho hj e he' h2.1; rw [hoff] at this; cases this
      · intro hr
        obtain ⟨_, o', ho', hall⟩ := mem_ready.1 hr
        rw [ho] at ho'
        obtain rfl := Option.some.inj ho'
        have := hall e he' h2.1
        rw [hoff] at this; cases this
theorem Closed.set {listed : Array Bool} {j : Nat} (h : Closed md ops listed) (hj : j ∈ Region.ready md ops listed) : Closed md ops (listed.setIfInBounds j true) := fun k o ho hk e he hb => by
  by_cases hjk : j = k
  · subst hjk
    obtain ⟨_, o', ho', hall⟩ := mem_ready.1 hj
    rw [ho] at ho'
    obtain rfl := Option.some.inj ho'
    exact getD_set_true (hall e he hb)
  · rw [getD_set_ne false hjk] at hk
    exact getD_set_true (h k o ho hk e he hb)

/-- every operation that is not pending waits for number i -/
def WaitsFor (md : Region.Mode) (ops : Array Oper) (pend : Nat → Bool) (i : Nat) : Prop := ∀ j, j < ops.size → pend j = false → ∃ n, chainB md ops i n j = true
theorem pend_of_ready {i j : Nat} {listed : Array Bool} (hw : WaitsFor md ops pend i) (hi : listed.getD i true = false) (hl : Closed md ops listed) (hj : j ∈ Region.ready md ops listed) : pend j = true := by
  cases hp : pend j with
  | true => rfl
  | false =>
    obtain ⟨_, o, ho, _⟩ := mem_ready.1 hj
    obtain ⟨n, hn⟩ := hw j (Array.getElem?_eq_some_iff.1 ho).1 hp
    exact absurd hj (chain_off hl hi n j hn).2

theorem wpAnyP_first {i : Nat} {oi : Oper} {v : Value} (hi : ops[i]? = some oi) (hsel : ∀ (j : Nat) (o : Oper) cs b, ops[j]? = some o → o.op ≠ .select cs b)
    (hQ : ∀ c a w, Q (.panic c) (a.put oi.dst v) w → Q (.panic c) a w) (hw : WaitsFor md ops pend i) :
    ∀ (f : Nat) (listed : Array Bool) (a : Act) (w : World),
      (∀ j oj, ops[j]? = some oj → j ≠ i → listed.getD j true = false → (∀ e ∈ oj.after, Region.binds md e = true → e.on ≠ i) → oi.apart ops oj = true) →
      i ∈ Region.ready md ops listed → Closed md ops listed → YieldsIf P ops C oi v a → C w →
      wpAnyP P md ops Q C pend f (listed.setIfInBounds i true) (a.put oi.dst v) w → wpAnyP P md ops Q C pend (f + 1) listed a w := by
  intro f
  induction f with
  | zero =>
    intro listed a w _ hr _ hy hC H
    refine ⟨fun h => (by rw [h] at hr; cases hr), fun j hj => ?_⟩
    by_cases hji : j = i
    · subst hji; exact hy.wpOp hi hC ⟨fun _ => hC, H⟩
    · have := ready_mono hj hji
      rw [H.1] at this
      cases this
  | succ f ih =>
    intro listed a w hfree hr hl hy hC H
    refine ⟨fun h => (by rw [h] at hr; cases hr), fun j hj => ?_⟩
    by_cases hji : j = i
    · subst hji; exact hy.wpOp hi hC ⟨fun _ => hC, H⟩
    · have h1 := H.2 j (ready_mono hj hji)
      have hpj : pend j = true := pend_of_ready hw (mem_ready.1 hr).1 hl hj
      obtain ⟨hjun, oj, hoj, hall⟩ := mem_ready.1 hj
      have hnot : ∀ e ∈ oj.after, Region.binds md e = true → e.on ≠ i := fun e he hb heq => by
        have h4 := hall e he hb
        rw [heq, off_of (mem_ready.1 hr).1] at h4
        cases h4
      have h2 := wpOp_putIf hoj (hfree j oj hoj hji hjun hnot) (fun cs b => hsel i oi cs b hi) (fun cs b => hsel j oj cs b hoj) hQ hy h1
      have hfree' := fun k ok hk hki hun hno => hfree k ok hk hki (still_off hjun hun) hno
      refine wpOp_mono (fun a' w' h3 => ⟨h3.2.1, ih (listed.setIfInBounds j true) a' w' hfree' (ready_mono hr (Ne.symm hji)) (hl.set hj) h3.1 (h3.2.1 hpj) ?_⟩) h2
      rw [Array.setIfInBounds_comm _ _ hji]
      exact h3.2.2

def waitsB (md : Region.Mode) (ops : Array Oper) (pend : Nat → Bool) (i : Nat) : Bool := (List.range ops.size).all fun j => pend j || chainB md ops i 40 j
theorem waitsB_spec {i : Nat} (h : waitsB md ops pend i = true) : WaitsFor md ops pend i := fun j hj hp => by
  have h1 := List.all_eq_true.1 h j (List.mem_range.2 hj)
  rw [hp, Bool.false_or] at h1
  exact ⟨40, h1⟩
def closedB (md : Region.Mode) (ops : Array Oper) (listed : Array Bool) : Bool := (List.range ops.size).all fun k => !listed.getD k false || (match ops[k]? with
  | some o => o.after.toList.all fun e => !Region.binds md e || listed.getD e.on false
  | none => true)
theorem closedB_spec {listed : Array Bool} (h : closedB md ops listed = true) : Closed md ops listed := fun k o ho hk e he hb => by
  have h1 := List.all_eq_true.1 h k (List.mem_range.2 (Array.getElem?_eq_some_iff.1 ho).1)
  rw [hk, ho, Bool.not_true, Bool.false_or] at h1
  have h2 := List.all_eq_true.1 h1 e (by simpa using he)
  rw [hb, Bool.not_true, Bool.false_or] at h2
  exact h2

/-- number i is taken first: a load, or an operation that asks no world -/
theorem wpAnyP_take {i : Nat} {oi : Oper} {v : Value} {f : Nat} {listed : Array Bool} {a : Act} {w : World} (hi : ops[i]? = some oi)
    (hs : Region.noSelect ops = true) (hf : Region.free md ops listed i = true) (hr : (Region.ready md ops listed).contains i = true) (hw : waitsB md ops pend i = true) (hl : closedB md ops listed = true)
    (hQ : ∀ c a w, Q (.panic c) (a.put oi.dst v) w → Q (.panic c) a w) (hy : YieldsIf P ops C oi v a) (hC : C w)
    (h : wpAnyP P md ops Q C pend f (listed.setIfInBounds i true) (a.put oi.dst v) w) : wpAnyP P md ops Q C pend (f + 1) listed a w :=
  wpAnyP_first hi (Region.noSelect_spec hs) hQ (waitsB_spec hw) f listed a w (Region.free_spec hi hf) (by simpa using hr) (closedB_spec hl) hy hC h

/-- one operation alone may come up -/
theorem wpAnyP_one {i : Nat} {o : Oper} {f : Nat} {listed : Array Bool} {a : Act} {w : World} (hr : Region.ready md ops listed = [i]) (ho : ops[i]? = some o)
    (h : ∀ K' : Act → World → Prop, Shut (∀ a w, (pend i = true → C w) → wpAnyP P md ops Q C pend f (listed.setIfInBounds i true) a w → K' a w) → if Region.wanted o (yielded ops a.tmps) = true then Oper.wp P o a w K' Q else K' (a.put o.dst undef) w) :
    wpAnyP P md ops Q C pend (f + 1) listed a w :=
  ⟨fun h0 => (by rw [hr] at h0; cases h0), fun j hj => by
    rw [hr] at hj
    have hji : j = i := by simpa using hj
    subst hji
    exact wpOp_step ho (fun K' hK => h K' (fun a w hC hW => hK a w ⟨hC, hW⟩))⟩

theorem wpAnyP_done {listed : Array Bool} {a : Act} {w : World} (hr : Region.ready md ops listed = []) (h : Q .normal a w) : ∀ f, wpAnyP P md ops Q C pend f listed a w
  | 0 => ⟨hr, h⟩
  | _ + 1 => ⟨fun _ => h, by rw [hr]; simp⟩

/-- the library's walk with a condition that holds throughout: more may be asked; one operation alone may come up -/
theorem wpAnyH_mono {S S' : World → Prop} (hS : ∀ w, S' w → S w) : ∀ {f : Nat} {listed : Array Bool} {a : Act} {w : World}, wpAnyH P md ops Q S' f listed a w → wpAnyH P md ops Q S f listed a w
  | 0, _, _, _, h => h
  | _ + 1, _, _, _, h => ⟨h.1, fun i hi => wpOp_mono (fun _ _ h' => ⟨hS _ h'.1, wpAnyH_mono hS h'.2⟩) (h.2 i hi)⟩
theorem wpAnyH_one {S : World → Prop} {i : Nat} {o : Oper} {f : Nat} {listed : Array Bool} {a : Act} {w : World} (hr : Region.ready md ops listed = [i]) (ho : ops[i]? = some o)
    (h : ∀ K' : Act → World → Prop, Shut (∀ a w, S w → wpAnyH P md ops Q S f (listed.setIfInBounds i true) a w → K' a w) → if Region.wanted o (yielded ops a.tmps) = true then Oper.wp P o a w K' Q else K' (a.put o.dst undef) w) :
    wpAnyH P md ops Q S (f + 1) listed a w :=
  ⟨fun h0 => (by rw [hr] at h0; cases h0), fun j hj => by
    rw [hr] at hj
    have hji : j = i := by simpa using hj
    subst hji
    exact wpOp_step ho (fun K' hK => h K' (fun a w hC hW => hK a w ⟨hC, hW⟩))⟩
theorem wp_region_H {id : Nat} {a : Act} {w : World} (S : World → Prop) (hm : P.follows .mixedOrders = true)
    (h : wpAnyH P .any ops Q S ops.size (Array.replicate ops.size false) a w.drew) : (Code.region id ops true).wp P Q a w := wp_region_held hm h
theorem wp_region_P {id : Nat} {a : Act} {w : World} (pend : Nat → Bool) (C : World → Prop) (hm : P.follows .mixedOrders = true)
    (h : wpAnyP P .any ops Q C pend ops.size (Array.replicate ops.size false) a w.drew) : (Code.region id ops true).wp P Q a w :=
  wp_region_any hm (wpAny_of_P _ _ _ _ h)
end
end Go.Proofs.Ytjdddcldbfhbiab
