/-
  '[]byte(s)': a row of new memory that holds the text's bytes; a byte of it set; the text that it is then.
-/
import Derived.Test.YtjdddcldbfhbiaaDoorOwn
import Derived.Test.YtjdddcldbfhbiaaDoorCanon
import Derived.Lib.ConvBytes
import Derived.Lib.SmallJoins
namespace Go.Proofs.YtjdddcldbfhbiaaDoor
open Go.RowKit Num

/-- the block B holds these bytes ahead of all, none of them frozen -/
def Bytes (w : World) (B : Nat) (xs : List Int) : Prop :=
  ∃ (C : Array Value) (z : Nat), w.heap[B]? = some (.cells C 5 (z, z + 1)) ∧ xs.length ≤ z ∧ ∀ j, j < xs.length → C[j]? = some (.int .u8 (xs.getD j 0))
theorem Bytes.cell {w : World} {B : Nat} {xs : List Int} (h : Bytes w B xs) (j : Nat) (hj : j < xs.length) : w.cell? ⟨B, j, none⟩ = some (.int .u8 (xs.getD j 0)) := by
  obtain ⟨C, z, hh, _, hc⟩ := h
  rw [cell_of_row w B j C 5 _ hh]; exact hc j hj
theorem Bytes.frozen {w : World} {B : Nat} {xs : List Int} (h : Bytes w B xs) (j : Nat) (hj : j < xs.length) : w.frozen? ⟨B, j, none⟩ = false := by
  obtain ⟨C, z, hh, hz, _⟩ := h
  unfold World.frozen?
  rw [show w.heap[(⟨B, j, none⟩ : Addr).block]? = w.heap[B]? from rfl, hh]
  simp; omega
theorem Bytes.drew {w : World} {B : Nat} {xs : List Int} (h : Bytes w B xs) (n : Nat) : Bytes (w.drewN n) B xs := h
theorem Bytes.below {w w' : World} {B base : Nat} {xs : List Int} (h : Bytes w B xs) (hb : Below base w w') (hB : B < base) : Bytes w' B xs := by
  obtain ⟨C, z, hh, hz, hc⟩ := h
  exact ⟨C, z, by rw [hb.block B hB]; exact hh, hz, hc⟩
theorem Bytes.set {w : World} {B : Nat} {xs : List Int} (h : Bytes w B xs) (i : Nat) (hi : i < xs.length) (v : Int) : Bytes (w.setCell ⟨B, i, none⟩ (.int .u8 v)) B (xs.set i v) := by
  obtain ⟨C, z, hh, hz, hc⟩ := h
  refine ⟨C.setIfInBounds i (.int .u8 v), z, by simp [World.setCell, Array.getElem?_modify, hh], by simpa using hz, fun j hj => ?_⟩
  have hj' : j < xs.length := by simpa using hj
  have hcj := hc j hj'
  have hsz : j < C.size := (Array.getElem?_eq_some_iff.1 hcj).1
  by_cases e : i = j
  · subst e
    rw [Array.getElem?_setIfInBounds_self_of_lt hsz]
    simp [List.getD, hi]
  · rw [Array.getElem?_setIfInBounds_ne e, hcj]
    simp [List.getD, List.getElem?_set_ne e]
theorem Bytes.str {w : World} {B : Nat} {xs : List Int} (h : Bytes w B xs) (cap : Nat) : (convert 22 9 (.slice (some ⟨B, 0, none⟩) xs.length cap)).run Tryd.prog w = .ok (.string (strOfNums xs)) w := by
  refine run_convert_bytes_arg w 22 5 Tryd.underlying22 Tryd.underlying5 B 0 xs.length cap xs rfl ?_ 9 Tryd.underlying9
  intro i hi
  have := h.cell i hi
  simpa using this

theorem bytes_any (s : ByteArray) (w : World) : ∃ cap wB, (convert 9 22 (.string s)).run Tryd.prog w = .ok (.slice (some ⟨w.heap.size, 0, none⟩) s.size cap) wB ∧ Bytes wB w.heap.size (bs s) ∧ Below w.heap.size w wB := by
  refine ⟨_, _, Lib.run_convert_string_bytes w 9 22 5 s Tryd.underlying9 Tryd.underlying22 Tryd.underlying5, ⟨_, _, Lib.bytesWorld_at_new w 5 s, ?_, ?_⟩, Joins.below_bytesWorld _ w 5 s (Nat.le_refl _)⟩
  · rw [bs_len]; simp [Lib.bytesCells]
  · intro j hj
    rw [bs_len] at hj
    have hd : j < s.data.size := hj
    have hb : (bs s).getD j 0 = (s.data[j].toNat : Int) := by simp [bs, List.getD, Array.getElem?_eq_getElem hd]
    rw [hb]
    unfold Lib.bytesCells
    rw [Array.getElem?_append_left (by simpa using hd)]
    simp [Array.getElem?_eq_getElem hd]

end Go.Proofs.YtjdddcldbfhbiaaDoor
