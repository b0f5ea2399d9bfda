/-
  The walk of the law FnExactPartsOf: spec.PartsOf and impl.PartsOf hand back the same words and the same flag; what is handed back is the call's own memory.
-/
import Derived.Test.YtnghhfgbobpnkahDoorPartsI
namespace Go.Proofs.YtnghhfgbobpnkahDoor
open Go.RowKit Num

/-- the words that are told of a line, and the flag -/
def Told (s : ByteArray) (L : List ByteArray) (B : Bool) : Prop := (lineOk s ∧ L = parts s ∧ B = true) ∨ (¬ lineOk s ∧ L = [] ∧ B = false)
theorem told_some (s : ByteArray) : ∃ L B, Told s L B ∧ L.length ≤ 1000 := by
  by_cases h : lineOk s
  · exact ⟨parts s, true, .inl ⟨h, rfl, rfl⟩, by have := h.2.2; omega⟩
  · exact ⟨[], false, .inr ⟨h, rfl, rfl⟩, by simp⟩
theorem ends_told {s : ByteArray} {L : List ByteArray} {B : Bool} {w w' : World} {e : Ending} (ht : Told s L B) (h : PartsEnd s w e w') : (∃ v, e = .returned (.tuple #[v, .bool B]) ∧ Row9 w' w.heap.size v L) ∧ Below w.heap.size w w' := by
  obtain ⟨h1, hb⟩ := h
  refine ⟨?_, hb⟩
  rcases ht with ⟨hl, rfl, rfl⟩ | ⟨hl, rfl, rfl⟩
  · rcases h1 with ⟨_, h2⟩ | ⟨h2, _⟩
    · exact h2
    · exact absurd hl h2
  · rcases h1 with ⟨h2, _⟩ | ⟨_, h2⟩
    · exact absurd h2 hl
    · exact h2
theorem sparts {s : ByteArray} {L : List ByteArray} {B : Bool} (w : World) (ht : Told s L B) :
    Calls Tryd.prog 9 #[.string s] w fun e w' => (∃ v, e = .returned (.tuple #[v, .bool B]) ∧ Row9 w' w.heap.size v L) ∧ Below w.heap.size w w' := by
  by_cases h : (600 : Int) < s.size
  · exact (sparts_long s w h).mono fun e w' he => ends_told ht he
  · exact (sparts_in s w (by omega)).mono fun e w' he => ends_told ht he
theorem iparts {s : ByteArray} {L : List ByteArray} {B : Bool} {m : Int} (w : World) (ht : Told s L B) (hm : w.cell? ⟨2, 0, none⟩ = some (.int .i64 m)) :
    Calls Tryd.prog 10 #[.string s] w fun e w' => (∃ v, e = .returned (.tuple #[v, .bool B]) ∧ Row9 w' w.heap.size v L) ∧ Below w.heap.size w w' := by
  by_cases h : (600 : Int) < s.size
  · exact (iparts_long s w h).mono fun e w' he => ends_told ht he
  · exact (iparts_in s m w (by omega) hm).mono fun e w' he => ends_told ht he

/-- two rows of two calls lie apart -/
theorem apart9 {w1 w2 : World} {b0 b1 : Nat} {v0 v1 : Value} {L0 L1 : List ByteArray} (h0 : Row9 w1 b0 v0 L0) (h1 : Row9 w2 b1 v1 L1) (hb : w1.heap.size ≤ b1) : v0.ownBlock = none ∨ v0.ownBlock ≠ v1.ownBlock := by
  cases e0 : v0.ownBlock with
  | none => exact .inl rfl
  | some k =>
    right
    intro e
    have l0 := (World.ownsRow.lt h0 k e0).2
    have l1 := (World.ownsRow.lt h1 k e.symm).1
    omega
end Go.Proofs.YtnghhfgbobpnkahDoor
namespace Go.Proofs.YtnghhfgbobpnkahDoor.WFnExactPartsOf
open Go.RowKit Num

set_option maxRecDepth 100000 in
set_option maxHeartbeats 2000000 in
theorem walk (a0 : ByteArray) (m : Int) (_w0 : a0.size ≤ maxLen) (w : World) (hm : w.cell? ⟨2, 0, none⟩ = some (.int .i64 m)) :
    Calls Tryd.prog 4 #[.string a0] w fun e w' => e = .returned (.bool true) ∧ Below w.heap.size w w' := by
  have hlt := World.block_lt_of_cell? w _ hm
  have HM : Hid (w.cell? ⟨2, 0, none⟩ = some (.int .i64 m)) := hm
  clear hm
  by_cases hbig : (1048576 : Int) < a0.size
  · go_enter Tryd.func4, Tryd.ntmps4
    go_wp2
    go_ret
    exact ⟨rfl, Below.refl _ _⟩
  · obtain ⟨L, B, ht, hL⟩ := told_some a0
    have HT : Hid (Told a0 L B) := ht
    clear ht
    have hq1 : ((1 : Int) + (L.length : Int) != 1 + (L.length : Int)) = false := by simp
    have hq2 : ¬ (1 : Int) + (L.length : Int) < 0 := by omega
    go_enter Tryd.func4, Tryd.ntmps4
    go_wp2_with fail
    refine (sparts _ HT.out).mono ?_
    rintro e w1 ⟨⟨v0, rfl, R0⟩, b1⟩
    have HR0 : Hid (Row9 w1 w.heap.size v0 L) := R0
    clear R0
    go_wp2_with fail
    refine (iparts (m := m) _ HT.out (by rw [b1.cell (by exact hlt)]; exact HM.out)).mono ?_
    rintro e w2 ⟨⟨v1, rfl, R1⟩, b2⟩
    have HR1 : Hid (Row9 w2 w1.heap.size v1 L) := R1
    have s1 := b1.size
    have s2 := b2.size
    clear R1
    go_wp2_with fail
    refine (eq_any hL HR1.out (HR0.out.below b2)).mono ?_
    rintro e w3 ⟨rfl, b3⟩
    have s3 := b3.size
    have B3 : Below w.heap.size w w3 := (b1.trans (b2.mono s1)).trans (b3.mono (by omega))
    go_wp2_with fail
    refine (mark_any hL (HR1.out.below b3)).mono ?_
    rintro e w4 ⟨rfl, R1m, g4⟩
    have HR1m : Hid (Row9 w4 w1.heap.size v1 (marks L.length)) := R1m
    have HR04 : Hid (Row9 w4 w.heap.size v0 L) := ((HR0.out.below b2).below b3).grown g4 (apart9 HR0.out HR1.out (Nat.le_refl _))
    have s4 := g4.size
    have B4 : Below w.heap.size w w4 := B3.grown g4 (by omega) fun k hk => by have := (World.ownsRow.lt HR1.out k hk).1; omega
    clear R1m g4 b1 b2 b3 B3
    go_wp2_with fail
    refine (held_any hL HR1m.out).mono ?_
    rintro e w5 ⟨rfl, b5⟩
    have s5 := b5.size
    have B5 : Below w.heap.size w w5 := B4.trans (b5.mono (by omega))
    go_wp2_with fail
    refine (iparts (m := m) _ HT.out (by rw [B5.cell (by exact hlt)]; exact HM.out)).mono ?_
    rintro e w6 ⟨⟨v2, rfl, R2⟩, b6⟩
    have HR2 : Hid (Row9 w6 w5.heap.size v2 L) := R2
    have s6 := b6.size
    clear R2
    go_wp2_with fail
    refine (eq_any hL HR2.out ((HR04.out.below b5).below b6)).mono ?_
    rintro e w7 ⟨rfl, b7⟩
    have s7 := b7.size
    go_wp2_with fail
    refine (held_any hL (((HR1m.out.below b5).below b6).below b7)).mono ?_
    rintro e w8 ⟨rfl, b8⟩
    go_wp2
    go_ret
    exact ⟨rfl, ((B5.trans (b6.mono (by omega))).trans (b7.mono (by omega))).trans (b8.mono (by omega))⟩
end Go.Proofs.YtnghhfgbobpnkahDoor.WFnExactPartsOf
