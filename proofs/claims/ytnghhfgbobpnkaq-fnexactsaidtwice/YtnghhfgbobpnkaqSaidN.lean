/-
  Votes that were given twice, told by a map from votes without their block to blocks: what the map holds.
-/
import Derived.Test.YtnghhfgbobpnkaqSaidS
import Derived.Maps.OwnSet
import Derived.DeepKeys3
namespace Go.Proofs.Ytnghhfgbobpnkaq
open Go.RowKit Num Go.Maps

/-- votes are keys -/
theorem keyedV : Keyed Try.prog 59 := Keyed.of_law (deep_law (m := 2) (by decide) (by kernel_rfl) (by kernel_rfl) (by kernel_rfl))

/-- a vote without its block, as a key -/
def keyV (x : VT) : Value := .agg #[.int .i64 x.1, .int .i64 x.2.1, .int .i64 0, .int .i64 x.2.2.2]
def lv (x : VT) : Lit := .string (keyBytes [.int .i64 x.1, .int .i64 x.2.1, .int .i64 0, .int .i64 x.2.2.2])
def vD (n : Int) : DataW Unit := .lit (.int .i64 n)

theorem vD_inj {a b : Int} (h : (DataW.lit (.int .i64 a) : DataW Unit) = .lit (.int .i64 b)) : a = b := by
  injection h with h; injection h
theorem lits_int (d : Nat) (n : Int) (h : (Lit.int .i64 n).wf = true) : Try.prog.keyLits (d + 1) 3 [.int .i64 n] = some [.int .i64 n] := by
  unfold Program.keyLits
  simp only [Try.underlying3]
  simp [h]
theorem key_v {x : VT} (h : wfV x) : keyOf Try.prog 59 (keyV x) = some (lv x) := by
  have hk : Try.prog.keyType 59 = true := by kernel_rfl
  have hf : (keyV x).formed Try.prog 59 = true := by kernel_rfl
  have hl : Try.prog.keyLits (Try.prog.types.size + 1) 59 (keyV x).cells.toList = some [.int .i64 x.1, .int .i64 x.2.1, .int .i64 0, .int .i64 x.2.2.2] := by
    obtain ⟨d, hd⟩ : ∃ d, Try.prog.types.size = d + 1 := ⟨Try.prog.types.size - 1, by have : 0 < Try.prog.types.size := Nat.lt_of_sub_eq_succ (show Try.prog.types.size - 0 = Nat.succ (Try.prog.types.size - 1) by kernel_rfl); omega⟩
    rw [hd]
    unfold Program.keyLits
    simp only [Try.underlying59]
    rw [if_pos ⟨by kernel_rfl, by kernel_rfl⟩]
    have c1 : Try.prog.cellsOf 3 = 1 := by kernel_rfl
    simp [keyV, Value.cells, c1, lits_int _ _ h.1, lits_int _ _ h.2.1, lits_int _ _ h.2.2.2, lits_int _ 0 (by decide)]
  unfold keyOf
  simp only [Try.underlying59, hk, hf, Bool.and_self, if_true, hl, Option.map_some]
  rfl
theorem lv_key {x : VT} (h : wfV x) : WideAt.IsKeyLit (lv x) := keyedV.key (key_v h)
/-- one By, Phase and View -/
def sameV (x y : VT) : Prop := x.1 = y.1 ∧ x.2.1 = y.2.1 ∧ x.2.2.2 = y.2.2.2
theorem lv_inj {x y : VT} (hx : wfV x) (hy : wfV y) (h : lv x = lv y) : sameV x y := by
  have := keyedV.inj (key_v hx) (by rw [h]; exact key_v hy)
  unfold keyV at this
  injection this with this
  simp at this
  exact ⟨this.1, this.2.1, this.2.2⟩
theorem lv_same {x y : VT} (h : sameV x y) : lv x = lv y := by
  unfold lv; rw [h.1, h.2.1, h.2.2]

/-- the map's datum tells these votes -/
def RepV (D : DataW Unit) (pre : List VT) : Prop := (∀ y ∈ pre, Maps.has D (lv y) = true ∧ D.atKey (lv y) (vD 0) = vD y.2.2.1) ∧ ∀ x, wfV x → Maps.has D (lv x) = true → ∃ y ∈ pre, lv y = lv x
theorem repV_nil : RepV (.map []) [] := ⟨fun y h => (by cases h), fun x _ h => Bool.noConfusion (show false = true from h)⟩
theorem twoV_iff {a b : VT} : twoV a b = true ↔ sameV a b ∧ a.2.2.1 ≠ b.2.2.1 := by
  unfold twoV sameV
  simp only [Bool.and_eq_true, beq_iff_eq, bne_iff_ne]
  constructor
  · rintro ⟨a, b, c, d⟩; exact ⟨⟨b, c, a⟩, d⟩
  · rintro ⟨⟨b, c, a⟩, d⟩; exact ⟨a, b, c, d⟩
/-- what is told of one that is there with another block -/
theorem repV_two {D : DataW Unit} {pre : List VT} {x : VT} {c : Int} (h : RepV D pre) (hw : ∀ y ∈ pre, wfV y) (hx : wfV x) (hh : Maps.has D (lv x) = true) (hc : D.atKey (lv x) (vD 0) = vD c) (hne : c ≠ x.2.2.1) : ∃ y ∈ pre, twoV x y = true := by
  obtain ⟨y, hy, e⟩ := h.2 x hx hh
  refine ⟨y, hy, twoV_iff.2 ⟨?_, ?_⟩⟩
  · exact lv_inj hx (hw y hy) e.symm
  · have := (h.1 y hy).2
    rw [e, hc] at this
    unfold vD at this
    injection this with this
    injection this with _ this
    omega
/-- .. and of one that is not -/
theorem repV_one {D : DataW Unit} {pre : List VT} {x : VT} {c : Int} (h : RepV D pre) (hc : D.atKey (lv x) (vD 0) = vD c) (hh : Maps.has D (lv x) = false ∨ c = x.2.2.1) : ∀ y ∈ pre, twoV x y = false := by
  intro y hy
  cases e : twoV x y with
  | false => rfl
  | true =>
    obtain ⟨h1, h2⟩ := twoV_iff.1 e
    have hl := lv_same h1
    have := h.1 y hy
    rw [← hl] at this
    rcases hh with hh | hh
    · rw [hh] at this; cases this.1
    · have t := this.2
      rw [hc] at t
      unfold vD at t
      injection t with t
      injection t with _ t
      exact absurd (hh.symm.trans t) h2
theorem repV_put {D : DataW Unit} {pre : List VT} {x : VT} (hD : Tidy D) (h : RepV D pre) (hw : ∀ y ∈ pre, wfV y) (hx : wfV x) (hn : ∀ y ∈ pre, twoV x y = false) : RepV (D.put (lv x) (vD x.2.2.1)) (pre ++ [x]) := by
  refine ⟨fun y hy => ?_, fun z hz hh => ?_⟩
  · by_cases e : lv x = lv y
    · rw [← e]
      refine ⟨has_put_same hD.isMap (lv_key hx) _, ?_⟩
      rw [atKey_put_same hD.isMap (lv_key hx)]
      rcases List.mem_append.1 hy with hy | hy
      · have hs := lv_inj hx (hw y hy) e
        have := hn y hy
        by_cases hb : x.2.2.1 = y.2.2.1
        · rw [hb]
        · rw [twoV_iff.2 ⟨hs, hb⟩] at this; cases this
      · rw [List.mem_singleton.1 hy]
    · rw [has_put_other (fun e' => e e'.symm), atKey_put_other (fun e' => e e'.symm)]
      rcases List.mem_append.1 hy with hy | hy
      · exact h.1 y hy
      · exact absurd (by rw [List.mem_singleton.1 hy]) e
  · by_cases e : lv x = lv z
    · exact ⟨x, by simp, e⟩
    · rw [has_put_other (fun e' => e e'.symm)] at hh
      obtain ⟨y, hy, e2⟩ := h.2 z hz hh
      exact ⟨y, List.mem_append.2 (Or.inl hy), e2⟩

theorem noTwo_take {l : List VT} {m : Nat} (hm : m < l.length) (h : noTwo l m 0) (hn : ∀ y ∈ l.take m, twoV l[m] y = false) : noTwo l (m + 1) 0 := fun i k h1 h2 => by
  by_cases e : i = m
  · subst e
    have hk : k < l.length := by omega
    have := hn l[k] (by rw [List.mem_iff_getElem]; exact ⟨k, by rw [List.length_take]; omega, by rw [List.getElem_take]⟩)
    simpa [List.getD, hm, hk] using this
  · exact h i k h1 (by omega)

/-- block b is a map of these votes -/
def MapV (w : World) (b n : Nat) (pre : List VT) : Prop := ∃ D : DataW Unit, w.ownsMap Try.prog 59 (plainElem Try.prog 3) b n D ∧ RepV D pre
theorem mapV_made (w : World) : MapV (w.alloc (.map #[] 0)) w.heap.size 0 [] := ⟨.map [], World.ownsMap_made w _ _ _, repV_nil⟩

end Go.Proofs.Ytnghhfgbobpnkaq
