/-
  The contract of the program's Undone.
-/
import Derived.Test.YtjdddcldbfhbiaaUndoAllI
namespace Go.Proofs.Ytjdddcldbfhbiaa
open Go.RowKit Num

/-- the one element of a row -/
theorem one_undo (W : World) (u : UN) (t : TypeId) : RowsR (W.alloc (.cells #[.string u.1, .bool u.2.1, .int .i64 u.2.2] t)) (.slice (some ⟨W.heap.size, 0, none⟩) 1 1) 3 undoF [u] := by
  refine ⟨_, 1, rfl, fun _ => ⟨W.heap.size, 0, rfl, by simp, fun i hi j hj => ?_⟩⟩
  have : i = 0 := by simp at hi; omega
  subst this
  have : j = 0 ∨ j = 1 ∨ j = 2 := by omega
  rcases this with rfl | rfl | rfl <;> simp [undoF]

set_option maxRecDepth 100000 in
set_option maxHeartbeats 2000000 in
theorem undone_i (cs : CL) (v : Value) (u : UN) (w : World) (hv : Cells w v cs) (hok : okL cs) (hk : (u.1.size : Int) ≤ 1048576) :
    Calls Try.prog 26 #[v, undoV u] w fun e w' => ∃ v', e = .returned v' ∧ w'.ownsRow w.heap.size 35 2 v' (undoneC cs u).length (flat (undoneC cs u)) ∧ Below w.heap.size w w' := by
  have HV : Hid (Cells w v cs) := hv
  have HL : Hid (okL cs) := hok
  obtain ⟨a, cap, rfl, _⟩ := hv
  clear hok
  unfold undoV
  go_enter Try.func26, Try.ntmps26
  go_wp2_with fail
  have B2 : Below w.heap.size w ((w.alloc (Obj.cells #[Value.string u.1, Value.bool u.2.1, Value.int IntKind.i64 u.2.2] 48)).alloc (Obj.cells #[Value.string u.1, Value.bool u.2.1, Value.int IntKind.i64 u.2.2] 48)) := ba (ba (Below.refl _ _) _) _
  have hrow : RowsR ((w.alloc (Obj.cells #[Value.string u.1, Value.bool u.2.1, Value.int IntKind.i64 u.2.2] 48)).alloc (Obj.cells #[Value.string u.1, Value.bool u.2.1, Value.int IntKind.i64 u.2.2] 48)) (.slice (some ⟨w.heap.size + 1, 0, none⟩) 1 1) 3 undoF [u] := by
    have := one_undo (w.alloc (Obj.cells #[Value.string u.1, Value.bool u.2.1, Value.int IntKind.i64 u.2.2] 48)) u 48
    rw [show (w.alloc (Obj.cells #[Value.string u.1, Value.bool u.2.1, Value.int IntKind.i64 u.2.2] 48)).heap.size = w.heap.size + 1 by simp] at this
    exact this
  refine (undoneAll_i cs [u] _ _ _ (HV.out.below B2) hrow HL.out (by simp) (fun d hd => by simp at hd; subst hd; exact hk)).mono ?_
  rintro e w3 ⟨v1, rfl, hown1, hb3⟩
  have HO1 : Hid (w3.ownsRow _ 35 2 v1 (undoneC cs u).length (flat (undoneC cs u))) := hown1
  have HB3 : Hid (Below w.heap.size w w3) := bt B2 hb3
  have HB2 : Hid (Below w.heap.size w _) := B2
  clear hown1 hb3 B2 hrow
  go_wp2
  go_ret
  exact ⟨v1, rfl, own_base HO1.out HB2.out.size, HB3.out⟩

end Go.Proofs.Ytjdddcldbfhbiaa
