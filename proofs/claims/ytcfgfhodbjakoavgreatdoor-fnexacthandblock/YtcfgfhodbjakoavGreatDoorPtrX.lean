/-
  Blocks behind pointers: they are read where they were handed in.
-/
import Derived.Test.YtcfgfhodbjakoavGreatDoorJ2
namespace Go.Proofs.YtcfgfhodbjakoavGreatDoor
open Go.RowKit Num

/-- a block behind a pointer -/
structure AtB (w : World) (g off : Nat) (p : BK × Value) : Prop where
  lt : g < w.heap.size
  cells : ∀ j, j < 7 → w.cell? ⟨g, off + j, none⟩ = (blkF p)[j]?
  cmds : RowsR w p.2 3 cmdF p.1.2.1
theorem AtB.below {w w' : World} {g off : Nat} {p : BK × Value} (h : AtB w g off p) (hb : Below w.heap.size w w') : AtB w' g off p :=
  ⟨Nat.lt_of_lt_of_le h.lt hb.size, fun j hj => by rw [hb.cell (by exact h.lt)]; exact h.cells j hj, h.cmds.below hb⟩
theorem AtB.seven {w : World} {g off : Nat} {p : BK × Value} (h : AtB w g off p) :
    w.cell? ⟨g, off, none⟩ = some (.int .i64 p.1.1.1) ∧ w.cell? ⟨g, off + 1, none⟩ = some (.int .i64 p.1.1.2) ∧ w.cell? ⟨g, off + 2, none⟩ = some p.2 ∧ w.cell? ⟨g, off + 3, none⟩ = some (.int .i64 p.1.2.2.1) ∧
    w.cell? ⟨g, off + 4, none⟩ = some (.int .i64 p.1.2.2.2.1) ∧ w.cell? ⟨g, off + 5, none⟩ = some (.int .i64 p.1.2.2.2.2.1) ∧ w.cell? ⟨g, off + 6, none⟩ = some (.int .i64 p.1.2.2.2.2.2) :=
  ⟨h.cells 0 (by omega), h.cells 1 (by omega), h.cells 2 (by omega), h.cells 3 (by omega), h.cells 4 (by omega), h.cells 5 (by omega), h.cells 6 (by omega)⟩
/-- a block just boxed -/
theorem atB_box {w w' : World} {b : BK} {cv : Value} {t : TypeId} (h : Below (w.alloc (.cells (blkA b cv) t)).heap.size (w.alloc (.cells (blkA b cv) t)) w') (hc : RowsR w cv 3 cmdF b.2.1) : AtB w' w.heap.size 0 (b, cv) := by
  have hh := box_cells h
  refine ⟨(Array.getElem?_eq_some_iff.1 hh).1, fun j hj => ?_, (hc.below (ba (Below.refl _ _) _)).below h⟩
  rw [Nat.zero_add, cell_of_row w' w.heap.size j _ _ (0, 0) hh]
  simp [blkF]
/-- a block of a tree -/
theorem atB_tree {w : World} {g off n cap : Nat} {ps : TL} (h : TreeR w (.slice (some ⟨g, off, none⟩) n cap) ps) {i : Nat} (hi : i < ps.length) : AtB w g (off + i * 7) ps[i] := by
  obtain ⟨a, c, e, hr⟩ := h.row
  injection e with e1 e2 e3
  subst e1
  obtain ⟨g', off', e1, hg, hc⟩ := hr (by omega)
  injection e1 with e1
  injection e1 with e1 e2 _
  subst e1 e2
  exact ⟨hg, fun j hj => hc i hi j hj, h.cmds _ (List.getElem_mem hi)⟩

/-- blocks behind pointers: where each lies, what it is -/
abbrev SL := List ((Nat × Nat) × (BK × Value))
def ptrF (x : (Nat × Nat) × (BK × Value)) : List Value := [.pointer (some ⟨x.1.1, x.1.2, none⟩)]
theorem ptrF_len (x : (Nat × Nat) × (BK × Value)) : (ptrF x).length = 1 := rfl
def sks (L : SL) : List BK := L.map fun x => x.2.1
theorem sks_len (L : SL) : (sks L).length = L.length := by simp [sks]
theorem sks_at {L : SL} {i : Nat} (h : i < L.length) : (sks L)[i]'(by rw [sks_len]; exact h) = L[i].2.1 := by simp [sks]
theorem sks_take (L : SL) (k : Nat) : sks (L.take k) = (sks L).take k := by simp [sks, List.map_take]
/-- each lies where its pointer says -/
def AtAll (w : World) (L : SL) : Prop := ∀ x ∈ L, AtB w x.1.1 x.1.2 x.2
theorem AtAll.below {w w' : World} {L : SL} (h : AtAll w L) (hb : Below w.heap.size w w') : AtAll w' L := fun x hx => (h x hx).below hb
structure Stand (w : World) (v : Value) (L : SL) : Prop where
  row : RowsR w v 1 ptrF L
  blk : ∀ x ∈ L, AtB w x.1.1 x.1.2 x.2
  cap : capOk v
theorem Stand.below {w w' : World} {v : Value} {L : SL} (h : Stand w v L) (hb : Below w.heap.size w w') : Stand w' v L := ⟨h.row.below hb, fun x hx => (h.blk x hx).below hb, h.cap⟩
theorem Stand.take {w : World} {a : Option Addr} {n cap : Nat} {L : SL} (h : Stand w (.slice a n cap) L) (k : Nat) (hk : k ≤ L.length) (c : Nat) (hc : k ≤ c) : Stand w (.slice a k c) (L.take k) :=
  ⟨h.row.take k hk c, fun x hx => h.blk x (List.mem_of_mem_take hx), fun a' n' c' e => by injection e with _ e2 e3; omega⟩
theorem stand_cells {w : World} {v : Value} {L : SL} (h : Stand w v L) : ∃ a cap, v = .slice a L.length cap ∧ L.length ≤ cap ∧ (0 < L.length → ∃ g off, a = some ⟨g, off, none⟩ ∧ g < w.heap.size ∧ ∀ i (hi : i < L.length),
    w.cell? ⟨g, off + i, none⟩ = some (.pointer (some ⟨L[i].1.1, L[i].1.2, none⟩)) ∧ AtB w L[i].1.1 L[i].1.2 L[i].2) := by
  have hcap := h.cap
  have hb := h.blk
  obtain ⟨a, cap, rfl, hr⟩ := h.row
  refine ⟨a, cap, rfl, hcap _ _ _ rfl, fun h0 => ?_⟩
  obtain ⟨g, off, rfl, hg, hc⟩ := hr h0
  refine ⟨g, off, rfl, hg, fun i hi => ⟨?_, hb _ (List.getElem_mem hi)⟩⟩
  have := hc i hi 0 (by omega)
  rw [Nat.mul_one, Nat.add_zero] at this
  exact this

/-- commands that are right, and not too many -/
def cmdsB (l : List CM) : Bool := decide (l.length ≤ 4) && l.all cmdB
theorem cmdsB_many {l : List CM} (h : ¬ l.length ≤ 4) : cmdsB l = false := by unfold cmdsB; rw [decide_eq_false h]; rfl
theorem cmdsB_no {l : List CM} {j : Nat} (hj : j < l.length) (h : cmdB l[j] = false) : cmdsB l = false := by
  have : l.all cmdB = false := List.all_eq_false.2 ⟨_, List.getElem_mem hj, by rw [h]; simp⟩
  unfold cmdsB; rw [this]; simp
theorem cmdsB_yes {l : List CM} (h : l.length ≤ 4) (h4 : cmdsTo l l.length) : cmdsB l = true := by
  have : l.all cmdB = true := List.all_eq_true.2 fun c hc => by
    obtain ⟨j, hj, rfl⟩ := List.mem_iff_getElem.1 hc
    exact h4 j hj hj
  unfold cmdsB; rw [decide_eq_true h, this]; rfl

/-- a right block, once its parent is there -/
theorem blockB_par' {t : List BK} {b : BK} {j : Nat} (hp : b.1.1 = (j : Int)) (hj : j < t.length) :
    blockB t b = (decide (t[j].1.2 < b.1.2) && (decide (b.1.2 ≤ 900) && (cmdsB b.2.1 && (decide (b.2.2.2.2.1 = b.1.1) && decide (b.2.2.2.1 = t[j].1.2))))) := by
  have h1 : inB b.1.1 0 ((t.length : Int) - 1) = true := inB_yes (by rw [hp]; omega)
  have h2 : viewAt t b.1.1 = t[j].1.2 := by rw [hp]; exact viewAt_at hj
  unfold blockB cmdsB
  rw [h1, h2, Bool.true_and, Bool.and_assoc]

/-- whether the first k are others -/
theorem treeAt_of {t : List BK} {k : Nat} (hk : k < t.length) : treeAt t k = (blockB (t.take k) t[k] && decide (blockAt (t.take k) t[k] = -1)) := by
  unfold treeAt
  rw [List.getElem?_eq_getElem hk]
  simp only
  congr 1
  rcases blockAt_cases (t.take k) t[k] with ⟨h1, h2⟩ | ⟨j, hj, h1, h2, h3⟩
  · have : blockAt t t[k] = (k : Int) := by
      rcases blockAt_cases t t[k] with ⟨g1, g2⟩ | ⟨j, hj, g1, g2, g3⟩
      · exact absurd (List.getElem_mem hk) g2
      · have hjk : j = k := by
          rcases Nat.lt_trichotomy j k with h | h | h
          · exact absurd (List.mem_take_iff_getElem.2 ⟨j, by omega, g2⟩) h2
          · exact h
          · exact absurd rfl (g3 k hk h)
        rw [g1, hjk]
    rw [decide_eq_true this, decide_eq_true h1]
  · have hjk : j < k := by rw [List.length_take] at hj; omega
    have e2 : t[j]'(by omega) = t[k] := by rw [List.getElem_take] at h2; exact h2
    have n1 : ¬ blockAt (t.take k) t[k] = -1 := by rw [h1]; omega
    have n2 : ¬ blockAt t t[k] = (k : Int) := by
      rcases blockAt_cases t t[k] with ⟨g1, g2⟩ | ⟨i, hi, g1, g2, g3⟩
      · rw [g1]; omega
      · intro e
        rw [g1] at e
        have hik : i = k := by omega
        subst hik
        exact g3 j (by omega) hjk e2
    rw [decide_eq_false n1, decide_eq_false n2]

end Go.Proofs.YtcfgfhodbjakoavGreatDoor
