/-
  Rows of accounts in memory: two cells an account, its key and its number.
-/
import Derived.Test.YtfnneillakdopabOwn
import Derived.Test.YtfnneillakdopabCanon
import Derived.Test.YtfnneillakdopabBw
import Derived.WalkSmall
import Derived.Laws.OwnMore
namespace Go.Proofs.Ytfnneillakdopab
open Go.RowKit Num

theorem ba {a b : World} (h : Below a.heap.size a b) (o : Obj) : Below a.heap.size a (b.alloc o) := h.alloc h.size o
theorem bt {a b c : World} (h1 : Below a.heap.size a b) (h2 : Below b.heap.size b c) : Below a.heap.size a c := h1.trans (h2.mono h1.size)

abbrev CL := List (ByteArray × Int)

/-- a row that can be read: these accounts -/
def Cells (w : World) (v : Value) (cs : CL) : Prop :=
  ∃ a cap, v = .slice a cs.length cap ∧ (0 < cs.length → ∃ g off, a = some ⟨g, off, none⟩ ∧ g < w.heap.size ∧
    ∀ i (h : i < cs.length), w.cell? ⟨g, off + i * 2, none⟩ = some (.string cs[i].1) ∧ w.cell? ⟨g, off + i * 2 + 1, none⟩ = some (.int .i64 cs[i].2))
theorem Cells.below {w w' : World} {v : Value} {cs : CL} (h : Cells w v cs) (hb : Below w.heap.size w w') : Cells w' v cs := by
  obtain ⟨a, cap, rfl, hr⟩ := h
  refine ⟨a, cap, rfl, fun hl => ?_⟩
  obtain ⟨g, off, rfl, hg, hc⟩ := hr hl
  refine ⟨g, off, rfl, Nat.lt_of_lt_of_le hg hb.size, fun i hi => ?_⟩
  rw [hb.cell (by exact hg), hb.cell (by exact hg)]
  exact hc i hi

/-- an account as a value -/
def cellV (c : ByteArray × Int) : Value := .agg #[.string c.1, .int .i64 c.2]

/-- a row of accounts, cell by cell -/
def flat (cs : CL) : List Value := cs.flatMap fun c => [.string c.1, .int .i64 c.2]
theorem flat_len (cs : CL) : (flat cs).length = cs.length * 2 := by
  induction cs with
  | nil => rfl
  | cons c cs ih => simp only [flat, List.flatMap_cons, List.length_append] at ih ⊢; simp [ih]; omega
theorem flat_cons (c : ByteArray × Int) (cs : CL) : flat (c :: cs) = .string c.1 :: .int .i64 c.2 :: flat cs := rfl
theorem flat_append (a b : CL) : flat (a ++ b) = flat a ++ flat b := by simp [flat]
theorem flat_at (cs : CL) : ∀ i (h : i < cs.length), (flat cs)[i * 2]? = some (.string cs[i].1) ∧ (flat cs)[i * 2 + 1]? = some (.int .i64 cs[i].2) := by
  induction cs with
  | nil => intro i h; simp at h
  | cons c cs ih =>
    intro i h
    cases i with
    | zero => simp [flat_cons]
    | succ i =>
      have := ih i (by simpa using h)
      rw [flat_cons, show (i + 1) * 2 = i * 2 + 1 + 1 by omega]
      simpa using this

/-- a row that the call made can be read -/
theorem cells_of_own {w : World} {base : Nat} {e : TypeId} {v : Value} {cs : CL} (h : w.ownsRow base e 2 v cs.length (flat cs)) : Cells w v cs := by
  obtain ⟨hl, ⟨rfl, h0⟩ | ⟨g, cap, cur, rfl, hb, hh, hn, hc, hs, ht⟩⟩ := h
  · exact ⟨none, 0, by rw [h0], fun hp => by omega⟩
  · refine ⟨_, cap, rfl, fun _ => ⟨g, 0, rfl, ?_, fun i hi => ?_⟩⟩
    · rcases Nat.lt_or_ge g w.heap.size with h | h
      · exact h
      · rw [Array.getElem?_eq_none h] at hh; cases hh
    · have hf := flat_at cs i hi
      rw [← ht] at hf
      rw [List.getElem?_take_of_lt (by omega), List.getElem?_take_of_lt (by omega)] at hf
      rw [cell_of_row w g _ cur _ _ hh, cell_of_row w g _ cur _ _ hh]
      simpa using hf

/-- what is left when a row's size is taken off -/
def szc : CL → Int → Int
  | [], left => left
  | c :: cs, left => if left - c.1.size < 0 then -1 else szc cs (left - c.1.size)
def szCells (cs : CL) (left : Int) : Int := if left - cs.length < 0 then -1 else szc cs (left - cs.length)
theorem szc_bd (cs : CL) : ∀ left : Int, left ≤ 1048576 → 0 ≤ szc cs left → szc cs left ≤ left ∧ ∀ c ∈ cs, (c.1.size : Int) ≤ 1048576 := by
  induction cs with
  | nil => intro left _ _; exact ⟨Int.le_refl _, fun c h => by cases h⟩
  | cons c cs ih =>
    intro left hl h
    unfold szc at h ⊢
    split at h
    · omega
    · rename_i hn
      rw [if_neg hn]
      have := ih _ (by omega) h
      refine ⟨by omega, fun x hx => ?_⟩
      rcases List.mem_cons.1 hx with rfl | hx
      · omega
      · exact this.2 x hx
theorem szc_neg {cs : CL} {left : Int} (h0 : 0 ≤ left) : -1 ≤ szc cs left := by
  induction cs generalizing left with
  | nil => unfold szc; omega
  | cons c cs ih =>
    unfold szc
    split
    · omega
    · exact ih (by omega)
theorem szCells_bd {cs : CL} {left : Int} (hl : left ≤ 1048576) (h : 0 ≤ szCells cs left) : (cs.length : Int) ≤ 1048576 ∧ szCells cs left ≤ left ∧ ∀ c ∈ cs, (c.1.size : Int) ≤ 1048576 := by
  unfold szCells at h ⊢
  split at h
  · omega
  · rename_i hn
    rw [if_neg hn]
    have := szc_bd cs _ (by omega) h
    exact ⟨by omega, by omega, this.2⟩

/-- the two cells of an account in a row that the call made can be set, one behind the other -/
theorem own_two {w : World} {base g n cap : Nat} {e : TypeId} {xs : List Value} (h : w.ownsRow base e 2 (.slice (some ⟨g, 0, none⟩) n cap) n xs) (k : Nat) (hk : k < n) :
    ∃ u0 u1, w.cell? ⟨g, k * 2, none⟩ = some u0 ∧ w.frozen? ⟨g, k * 2, none⟩ = false ∧ w.cell? ⟨g, k * 2 + 1, none⟩ = some u1 ∧ (∀ u, (w.setCell ⟨g, k * 2, none⟩ u).cell? ⟨g, k * 2 + 1, none⟩ = some u1) ∧ ∀ u, (w.setCell ⟨g, k * 2, none⟩ u).frozen? ⟨g, k * 2 + 1, none⟩ = false := by
  have hl := h.1
  have h0 : k * 2 < xs.length := by omega
  have h1 : k * 2 + 1 < xs.length := by omega
  refine ⟨xs[k * 2], xs[k * 2 + 1], ?_, h.frozenAt _, ?_, fun u => ?_, fun u => (h.stored (k * 2) u).1.frozenAt _⟩
  · rw [h.cellAt _ (by omega), List.getElem?_eq_getElem h0]
  · rw [h.cellAt _ (by omega), List.getElem?_eq_getElem h1]
  · rw [(h.stored (k * 2) u).1.cellAt _ (by omega), List.getElem?_set_ne (by omega), List.getElem?_eq_getElem h1]
theorem own_set_two {w : World} {base g n cap : Nat} {e : TypeId} {xs : List Value} (h : w.ownsRow base e 2 (.slice (some ⟨g, 0, none⟩) n cap) n xs) (i j : Nat) (a b : Value) :
    ((w.setCell ⟨g, i, none⟩ a).setCell ⟨g, j, none⟩ b).ownsRow base e 2 (.slice (some ⟨g, 0, none⟩) n cap) n ((xs.set i a).set j b) ∧ w.grownBy ((w.setCell ⟨g, i, none⟩ a).setCell ⟨g, j, none⟩ b) (some g) := by
  have h1 := h.stored i a
  have h2 := h1.1.stored j b
  exact ⟨h2.1, ⟨h2.2.os.trans h1.2.os, h2.2.tape.trans h1.2.tape, h2.2.output.trans h1.2.output, Nat.le_trans h1.2.size h2.2.size, fun k hk hr => (h2.2.block k (Nat.lt_of_lt_of_le hk h1.2.size) hr).trans (h1.2.block k hk hr)⟩⟩

end Go.Proofs.Ytfnneillakdopab
