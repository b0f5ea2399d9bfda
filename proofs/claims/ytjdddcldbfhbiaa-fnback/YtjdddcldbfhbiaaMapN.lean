/-
  A map of accounts, and what it holds: told by the list of the accounts, in the order of their keys.
-/
import Derived.Test.YtjdddcldbfhbiaaDoneN
import Derived.Test.YtjdddcldbfhbiaaOwn
import Derived.Maps.OwnSet
import Derived.Sort.KeysCollected
namespace Go.Proofs.Ytjdddcldbfhbiaa
open Go.RowKit Num Go.Maps

theorem keyedS : Keyed Try.prog 9 := string_keyed Try.underlying9

/-- a key as a map has it -/
def lk (k : ByteArray) : Lit := .string k.data.toList
theorem lk_inj {a b : ByteArray} (h : lk a = lk b) : a = b := by
  apply ByteArray.ext; apply Array.ext'; unfold lk at h; injection h
theorem lk_key (k : ByteArray) : WideAt.IsKeyLit (lk k) := trivial
def i64D (n : Int) : DataW Unit := .lit (.int .i64 n)

/-- the map's datum tells these accounts -/
def Rep (D : DataW Unit) (cs : CL) : Prop := Maps.size D = cs.length ∧ (∀ k, Maps.has D (lk k) = hasK cs k) ∧ ∀ c ∈ cs, D.atKey (lk c.1) (i64D 0) = i64D c.2

theorem rep_nil : Rep (.map []) [] := ⟨rfl, fun _ => rfl, fun c h => by cases h⟩
theorem rep_put {D : DataW Unit} {cs : CL} (hD : Tidy D) (h : Rep D cs) (hA : Asc cs) (x : ByteArray × Int) : Rep (D.put (lk x.1) (i64D x.2)) (putC cs x) := by
  obtain ⟨hs, hh, ha⟩ := h
  refine ⟨?_, fun k => ?_, fun c hc => ?_⟩
  · rw [size_put hD, hh, hs]
    have := len_putC (x := x) hA
    cases hb : hasK cs x.1 with
    | true => rw [hb] at this; simp at this ⊢; omega
    | false => rw [hb] at this; simp at this ⊢; omega
  · rw [hasK_putC]
    by_cases e : x.1 = k
    · subst e; rw [has_put_same hD.isMap (lk_key _)]; simp
    · rw [has_put_other (fun e' => e (lk_inj e').symm), hh]; simp [e]
  · rcases mem_putC.1 hc with rfl | ⟨hc, hn⟩
    · exact atKey_put_same hD.isMap (lk_key _) _ _
    · rw [atKey_put_other (fun e' => hn (lk_inj e'))]; exact ha c hc
theorem rep_undo {D : DataW Unit} {cs : CL} (hD : Tidy D) (h : Rep D cs) {k : ByteArray} (hn : hasK cs k = false) (d : DataW Unit) : Rep ((D.put (lk k) d).del (lk k)) cs := by
  obtain ⟨hs, hh, ha⟩ := h
  have hT := hD.put (k := lk k) (lk_key _) d
  refine ⟨?_, fun j => ?_, fun c hc => ?_⟩
  · have h1 := size_del (k := lk k) hT
    have h2 := size_put (k := lk k) hD d
    rw [has_put_same hD.isMap (lk_key _)] at h1
    rw [hh, hn] at h2
    simp at h1 h2
    omega
  · by_cases e : j = k
    · subst e; rw [has_del_same, hn]
    · rw [has_del_other (fun e' => e (lk_inj e')), has_put_other (fun e' => e (lk_inj e')), hh]
  · have e : c.1 ≠ k := hasK_no.1 hn c hc
    rw [atKey_del_other (fun e' => e (lk_inj e')), atKey_put_other (fun e' => e (lk_inj e'))]; exact ha c hc
theorem rep_same {D : DataW Unit} {cs : CL} (h : Rep D cs) {j : Nat} (hj : j < cs.length) : D.atKey (lk cs[j].1) (i64D 0) = i64D cs[j].2 := h.2.2 _ (List.getElem_mem hj)

/-- block b is a map of these accounts -/
def MapIs (w : World) (b : Nat) (cs : CL) : Prop := ∃ D : DataW Unit, w.ownsMap Try.prog 9 (plainElem Try.prog 3) b cs.length D ∧ Rep D cs
theorem tight {w : World} {b n : Nat} {D : DataW Unit} {cs : CL} (h : w.ownsMap Try.prog 9 (plainElem Try.prog 3) b n D) (hr : Rep D cs) : MapIs w b cs := by
  refine ⟨D, ?_, hr⟩
  have hs := hr.1
  obtain ⟨es, clock, hb, F, _, rfl⟩ := h
  refine ⟨es, clock, hb, F, ?_, rfl⟩
  rw [size_eq, length_sorted] at hs
  simp at hs
  omega
theorem MapIs.kept {w w' : World} {b : Nat} {cs : CL} {r : Option Nat} (h : MapIs w b cs) (hg : w.grownBy w' r) (hne : some b ≠ r) : MapIs w' b cs := by
  obtain ⟨D, hD, hr⟩ := h
  exact ⟨D, hD.kept hg hne, hr⟩
theorem MapIs.below {w w' : World} {b : Nat} {cs : CL} (h : MapIs w b cs) (hb : Below w.heap.size w w') : MapIs w' b cs := h.kept (below_grown hb) (by simp)
theorem MapIs.lt {w : World} {b : Nat} {cs : CL} (h : MapIs w b cs) : b < w.heap.size := by obtain ⟨D, hD, _⟩ := h; exact hD.lt
/-- a row of the call's own is no map -/
theorem row_not_map {w : World} {base n m b : Nat} {e : TypeId} {v : Value} {xs : List Value} {cs : CL} (h : w.ownsRow base e m v n xs) (hm : MapIs w b cs) : some b ≠ v.ownBlock := by
  intro he
  obtain ⟨D, ⟨es, clock, hb, _⟩, _⟩ := hm
  obtain ⟨_, ⟨rfl, _⟩ | ⟨g, cap, cur, rfl, _, hh, _⟩⟩ := h
  · simp [Value.ownBlock] at he
  · have : b = g := by simpa [Value.ownBlock] using he
    subst this
    rw [hb] at hh; cases hh
/-- an account that is gone -/
theorem rep_del {D : DataW Unit} {cs : CL} (hD : Tidy D) (h : Rep D cs) (hA : Asc cs) (k : ByteArray) : Rep (D.del (lk k)) (cs.filter fun c => decide (c.1 ≠ k)) := by
  obtain ⟨hs, hh, ha⟩ := h
  have hhas : ∀ j, hasK (cs.filter fun c => decide (c.1 ≠ k)) j = (decide (j ≠ k) && hasK cs j) := fun j => by
    rw [Bool.eq_iff_iff, hasK_iff, Bool.and_eq_true, hasK_iff]
    constructor
    · rintro ⟨c, hc, rfl⟩
      have := List.mem_filter.1 hc
      exact ⟨this.2, c, this.1, rfl⟩
    · rintro ⟨hj, c, hc, rfl⟩
      exact ⟨c, List.mem_filter.2 ⟨hc, hj⟩, rfl⟩
  refine ⟨?_, fun j => ?_, fun c hc => ?_⟩
  · have h1 := size_del (k := lk k) hD
    rw [hh, hs] at h1
    have h2 := len_drop (k := k) hA
    split at h1
    · rename_i hy; rw [hy] at h2; simp only [if_true] at h2; omega
    · rename_i hy; rw [if_neg hy] at h2; omega
  · rw [hhas]
    by_cases e : j = k
    · subst e; rw [has_del_same]; simp
    · rw [has_del_other (fun e' => e (lk_inj e')), hh]; simp [e]
  · have := List.mem_filter.1 hc
    have e : c.1 ≠ k := by simpa using this.2
    rw [atKey_del_other (fun e' => e (lk_inj e'))]; exact ha c this.1
theorem map_made (w : World) : MapIs (w.alloc (.map #[] 0)) w.heap.size [] := ⟨.map [], World.ownsMap_made w _ _ _, rep_nil⟩

theorem putC_last {xs : CL} {x : ByteArray × Int} (h : ∀ c ∈ xs, kLt c.1 x.1 = true) : putC xs x = xs ++ [x] := by
  unfold putC
  rw [List.filter_eq_self.2 h, List.filter_eq_nil_iff.2 fun c hc => by rw [kLt_asym (h c hc)]; simp]
theorem putC_take {cs : CL} (hA : Asc cs) {k : Nat} (hk : k < cs.length) : putC (cs.take k) cs[k] = cs.take (k + 1) := by
  rw [putC_last, List.take_add_one, List.getElem?_eq_getElem hk]; · rfl
  intro c hc
  obtain ⟨i, hi, rfl⟩ := List.mem_iff_getElem.1 hc
  rw [List.length_take] at hi
  rw [List.getElem_take]
  exact List.pairwise_iff_getElem.1 hA i k (by omega) hk (by omega)
theorem asc_take {cs : CL} (hA : Asc cs) (k : Nat) : Asc (cs.take k) := List.Pairwise.sublist (List.take_sublist _ _) hA

/-- the keys of a map of accounts, sorted, are the accounts' keys -/
theorem keys_sorted {w : World} {b n : Nat} {D : DataW Unit} {cs : CL} (h : w.ownsMap Try.prog 9 (plainElem Try.prog 3) b n D) (hr : Rep D cs) (hA : Asc cs) {ss : List (List UInt8)} (hp : ss.Perm (strKeys D)) :
    ss.mergeSort (fun x y => decide (x ≤ y)) = cs.map fun c => c.1.data.toList := by
  have hnd : (cs.map fun c => c.1.data.toList).Nodup := by
    refine List.pairwise_map.2 (hA.imp fun {a b} hab e => ?_)
    have := kLt_iff.1 hab
    rw [e] at this
    exact List.lt_irrefl _ this
  have hc : Collected D (fun _ => false) (cs.map fun c => c.1.data.toList) := by
    refine ⟨hnd, fun x => ?_⟩
    have e : Maps.has D (.string x) = hasK cs ⟨x.toArray⟩ := hr.2.1 ⟨x.toArray⟩
    rw [e, hasK_iff]
    constructor
    · intro hx
      obtain ⟨c, hc, rfl⟩ := List.mem_map.1 hx
      exact ⟨⟨c, hc, by apply ByteArray.ext; apply Array.ext'; simp⟩, rfl⟩
    · rintro ⟨⟨c, hc, hcx⟩, _⟩
      exact List.mem_map.2 ⟨c, hc, by rw [hcx]⟩
  have hp2 := hc.perm h keyedS Try.underlying9 fun _ => rfl
  rw [show (ss.mergeSort fun x y => decide (x ≤ y)) = ss.mergeSort leB from rfl, mergeSort_of_perm (hp.trans hp2.symm)]
  refine List.mergeSort_of_pairwise (List.pairwise_map.2 (hA.imp fun {a b} hab => ?_))
  simp only [leB, decide_eq_true_eq]
  exact List.le_of_lt (kLt_iff.1 hab)

end Go.Proofs.Ytjdddcldbfhbiaa
