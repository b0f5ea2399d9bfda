/-
  The contract of the program's Done.
-/
import Derived.Test.YtnghhfgbobpnkaaDoneAllI
namespace Go.Proofs.Ytnghhfgbobpnkaa
open Go.RowKit Num

/-- the one command of a row -/
theorem one_cmd (W : World) (c : CM) (t : TypeId) : RowsR (W.alloc (.cells #[.int .i64 c.1, .string c.2.1, .int .i64 c.2.2] t)) (.slice (some ⟨W.heap.size, 0, none⟩) 1 1) 3 cmdF [c] := by
  refine ⟨_, 1, rfl, fun _ => ⟨W.heap.size, 0, rfl, by simp, fun i hi j hj => ?_⟩⟩
  have : i = 0 := by simp at hi; omega
  subst this
  have : j = 0 ∨ j = 1 ∨ j = 2 := by omega
  rcases this with rfl | rfl | rfl <;> simp [cmdF]

set_option maxRecDepth 100000 in
set_option maxHeartbeats 2000000 in
theorem done_i (cs : CL) (v : Value) (c : CM) (w : World) (hv : Cells w v cs) (hok : okL cs) (hk : (c.2.1.size : Int) ≤ 1048576) :
    Calls Try.prog 9 #[v, cmdV c] w fun e w' => ∃ v', e = .returned (.tuple #[v', .int .i64 (codeC cs c)]) ∧ w'.ownsRow w.heap.size 35 2 v' (doneC cs c).length (flat (doneC cs c)) ∧ Below w.heap.size w w' := by
  have HV : Hid (Cells w v cs) := hv
  have HL : Hid (okL cs) := hok
  obtain ⟨a, cap, rfl, _⟩ := hv
  clear hok
  unfold cmdV
  go_enter Try.func9, Try.ntmps9
  go_wp2_with fail
  have B2 : Below w.heap.size w ((w.alloc (Obj.cells #[Value.int IntKind.i64 c.1, Value.string c.2.1, Value.int IntKind.i64 c.2.2] 29)).alloc (Obj.cells #[Value.int IntKind.i64 c.1, Value.string c.2.1, Value.int IntKind.i64 c.2.2] 29)) := ba (ba (Below.refl _ _) _) _
  have HB2 : Hid (Below w.heap.size w ((w.alloc (Obj.cells #[Value.int IntKind.i64 c.1, Value.string c.2.1, Value.int IntKind.i64 c.2.2] 29)).alloc (Obj.cells #[Value.int IntKind.i64 c.1, Value.string c.2.1, Value.int IntKind.i64 c.2.2] 29))) := B2
  have hrow : RowsR ((w.alloc (Obj.cells #[Value.int IntKind.i64 c.1, Value.string c.2.1, Value.int IntKind.i64 c.2.2] 29)).alloc (Obj.cells #[Value.int IntKind.i64 c.1, Value.string c.2.1, Value.int IntKind.i64 c.2.2] 29)) (.slice (some ⟨w.heap.size + 1, 0, none⟩) 1 1) 3 cmdF [c] := by
    have := one_cmd (w.alloc (Obj.cells #[Value.int IntKind.i64 c.1, Value.string c.2.1, Value.int IntKind.i64 c.2.2] 29)) c 29
    rw [show (w.alloc (Obj.cells #[Value.int IntKind.i64 c.1, Value.string c.2.1, Value.int IntKind.i64 c.2.2] 29)).heap.size = w.heap.size + 1 by simp] at this
    exact this
  refine (doneAll_i cs [c] _ _ _ (HV.out.below B2) hrow HL.out (by simp) (fun d hd => by simp at hd; subst hd; exact hk)).mono ?_
  rintro e w3 ⟨v1, v2, rfl, hown1, hown2, _, hb3⟩
  obtain ⟨a2, cap2, rfl, hg2⟩ := own_form hown2
  obtain ⟨g2, rfl⟩ := hg2 (by simp)
  have hlt := (hown2.lt g2 rfl).2
  have hne := bw_some w3
  have c0 : ∀ x : Bw w3, x.to.cell? ⟨g2, 0, none⟩ = some (.int .i64 (codeC cs c)) := fun x => by
    rw [x.below.cell (by exact hlt), World.ownsRow.cellAt hown2 0 (by simp)]; rfl
  have HO1 : Hid (w3.ownsRow _ 35 2 v1 (doneC cs c).length (flat (doneC cs c))) := hown1
  have HB3 : Hid (Below w.heap.size w w3) := bt B2 hb3
  clear hown1 hown2 hb3 B2 hrow
  go_wp2
  refine wp_region_bw (by kernel_rfl) (by kernel_rfl) ?_
  repeat (go_big_quiet_step (fail))
  refine wpQuiet_nil ?_
  intro _ hw'
  obtain ⟨x, rfl⟩ := hw'
  go_wp2
  go_ret2
  exact ⟨v1, rfl, own_base (own_kept HO1.out x.below) HB2.out.size, bt HB3.out x.below⟩

end Go.Proofs.Ytnghhfgbobpnkaa
