/-
  A replica that a call has told, laid into a box, and read out of it again; a new replica.
-/
import Derived.Test.YtcfgfhodbjakoavJ1
namespace Go.Proofs.Ytcfgfhodbjakoav
open Go.RowKit Num

/-- a replica's zero value -/
def zeroA : Array Value := #[.int .i64 0, .int .i64 0, .int .i64 0, .int .i64 0, .int .i64 0, .int .i64 0, .int .i64 0, .int .i64 0, .int .i64 0, .int .i64 0, .int .i64 0, .int .i64 0, .int .i64 0, .int .i64 0, .slice none 0 0, .slice none 0 0, .slice none 0 0, .slice none 0 0, .slice none 0 0, .slice none 0 0, .int .i64 0]
theorem own_one {w : World} {base n m : Nat} {e : TypeId} {v : Value} {xs : List Value} (h : w.ownsRow base e m v n xs) : v.oneCell' = true := by
  obtain ⟨a, cap, rfl, _⟩ := own_form h
  rfl
theorem peerA_one {lo : Nat} {w : World} {p : PE} {s : PV} {xr xc xe xu xv xn : List Value} (h : Own6 lo w p s xr xc xe xu xv xn) : (peerA p s).all (·.oneCell') = true := by
  obtain ⟨sr, sc, se, su, sv, sn⟩ := s
  obtain ⟨_, _, e1, -⟩ := own_form h.row
  obtain ⟨_, _, e2, -⟩ := own_form h.cells
  obtain ⟨_, _, e3, -⟩ := own_form h.early
  obtain ⟨_, _, e4, -⟩ := own_form h.undos
  obtain ⟨_, _, e5, -⟩ := own_form h.votes
  obtain ⟨_, _, e6, -⟩ := own_form h.news
  change sr = _ at e1
  change sc = _ at e2
  change se = _ at e3
  change su = _ at e4
  change sv = _ at e5
  change sn = _ at e6
  subst e1 e2 e3 e4 e5 e6
  unfold peerA
  simp [Value.oneCell']
theorem Own6.far {lo hi : Nat} {w w' : World} {p : PE} {s : PV} {xr xc xe xu xv xn : List Value} {N : Nat} (h : Own6 lo w p s xr xc xe xu xv xn) (ha : Apart6 lo hi s) (hg : w.grownBy w' (some N)) (hN : N < lo ∨ hi ≤ N) : Own6 lo w' p s xr xc xe xu xv xn := by
  have K : ∀ v : Value, (∀ g, v.ownBlock = some g → lo ≤ g ∧ g < hi) → v.ownBlock = none ∨ v.ownBlock ≠ some N := fun v hv => by
    cases e : v.ownBlock with
    | none => exact Or.inl rfl
    | some g => exact Or.inr fun e2 => by have e2 := Option.some.inj e2; have := hv g e; omega
  exact ⟨World.ownsRow.kept h.row hg (K _ ha.l0), World.ownsRow.kept h.cells hg (K _ ha.l1), World.ownsRow.kept h.early hg (K _ ha.l2), World.ownsRow.kept h.undos hg (K _ ha.l3), World.ownsRow.kept h.votes hg (K _ ha.l4), World.ownsRow.kept h.news hg (K _ ha.l5)⟩
theorem OwnD.far {lo hi : Nat} {w w' : World} {p : PE} {s : PV} {N : Nat} (h : OwnD lo hi w p s) (hg : w.grownBy w' (some N)) (hN : N < lo ∨ hi ≤ N) : OwnD lo hi w' p s := ⟨h.1.far h.2.1 hg hN, h.2.1, Nat.le_trans h.2.2 hg.size⟩
theorem Fr.own6 {a b lo hi : Nat} {w w' : World} (hf : Fr a b w w') {p : PE} {s : PV} {xr xc xe xu xv xn : List Value} (h : Own6 lo w p s xr xc xe xu xv xn) (ha : Apart6 lo hi s) (hN : hi ≤ a ∨ b ≤ lo) : Own6 lo w' p s xr xc xe xu xv xn := by
  have K : ∀ v : Value, (∀ g, v.ownBlock = some g → lo ≤ g ∧ g < hi) → ∀ g, v.ownBlock = some g → g < a ∨ b ≤ g := fun v hv g hg => by have := hv g hg; omega
  exact ⟨hf.own h.row (K _ ha.l0), hf.own h.cells (K _ ha.l1), hf.own h.early (K _ ha.l2), hf.own h.undos (K _ ha.l3), hf.own h.votes (K _ ha.l4), hf.own h.news (K _ ha.l5)⟩

/-- a new replica -/
def newP (id : Int) : PE := ⟨id, 1, (0, 0, 0, 0), (0, 0, 0, 0), (0, 0, 0, 0), [], [], [], [], [], [], 0⟩
def nilS : PV := ⟨.slice none 0 0, .slice none 0 0, .slice none 0 0, .slice none 0 0, .slice none 0 0, .slice none 0 0⟩
theorem nil_own (lo : Nat) (w : World) (id : Int) : OwnD lo w.heap.size w (newP id) nilS := by
  have N : ∀ g, (Value.slice none 0 0).ownBlock ≠ some g := fun g h => by cases h
  refine ⟨⟨World.ownsRow_nil _ _ _ _, World.ownsRow_nil _ _ _ _, World.ownsRow_nil _ _ _ _, World.ownsRow_nil _ _ _ _, World.ownsRow_nil _ _ _ _, World.ownsRow_nil _ _ _ _⟩, ⟨?_, ?_, ?_, ?_, ?_, ?_, ?_, ?_, ?_, ?_, ?_, ?_, ?_, ?_, ?_, ?_, ?_, ?_, ?_, ?_, ?_, ?_, ?_, ?_, ?_, ?_, ?_, ?_, ?_, ?_, ?_, ?_, ?_, ?_, ?_, ?_⟩, Nat.le_refl _⟩ <;> intro g h <;> exact absurd h (N g)
theorem new_small (id : Int) : smallPe (newP id) := ⟨by simp [newP], by simp [newP], by simp [newP], by simp [newP], by simp [newP], by simp [newP], fun c h => by simp [newP] at h, fun c h => by simp [newP] at h⟩
theorem new_sum (id : Int) : sumPe (newP id) := by simp [sumPe, lenPe, newP]


end Go.Proofs.Ytcfgfhodbjakoav
