/-
  The contract of impl.VarText: the bytes of the number.
-/
import Derived.Test.YtnghhfgbobpnkaaOwn
import Derived.Test.YtnghhfgbobpnkaaNum
namespace Go.Proofs.Ytnghhfgbobpnkaa
open Go.RowKit Num

set_option maxRecDepth 100000 in
set_option maxHeartbeats 400000 in
theorem ivar_yes (n : Int) (w : World) (h0 : 0 ≤ n) (h1 : n ≤ 1000000000) :
    Calls Try.prog 64 #[.int .i64 n] w fun e w' => e = .returned (.tuple #[.string (strOfNums (vbs n)), .bool true]) ∧ Below w.heap.size w w' := by
  obtain ⟨i0, hi, hz0, hz1, hz2⟩ := info_parts info5
  go_enter Try.func64, Try.ntmps64
  go_wp2
  go_loopw [0, 4] (fun a v wr => ∃ (m : Int) (xs : List Int) (f : Nat), a = .int .i64 m ∧ 0 ≤ m ∧ xs.length + m ≤ n ∧ m.toNat ≤ f ∧ Hid (vbs n = xs ++ vb f m) ∧ wr.ownsRow w.heap.size 5 1 v xs.length (xs.map (Value.int .u8)) ∧ Below w.heap.size w wr)
    (fun a _ _ => (intOf a).toNat)
  case atStart => exact ⟨n, [], n.toNat, rfl, h0, by simp, Nat.le_refl _, rfl, World.ownsRow_nil _ _ _ _, Below.refl _ _⟩
  case round =>
    obtain ⟨m, xs, f, rfl, hm0, hlen, hf, HV, hown, hbel⟩ := hrel
    have hsz := hbel.size
    by_cases hm : 127 < m
    · obtain ⟨g, hg1, hg2⟩ := vb_big f m hm hf
      have HG : Hid (vb f m = (m % 128 + 128) :: vb g (m / 128)) := hg1
      clear hg1
      go_wp2_with (at_builtin; refine wpList_append_own _ rfl _ _ 22 rfl w.heap.size 5 i0 (.int .u8 0) 1 1 Try.underlying22 hi hz0 hz1 hz2 rfl (by decide) _ _ _ rfl (hown.alloc _) ⟨wr.heap.size, 0, none⟩ 1 1 [.int .u8 (m % 128 + 128)] rfl rfl (news1 _ _ _) (ones1 _ _) (by unfold maxLen; omega) (by omega) (by simp; omega) ?_)
      intro v' w1 hown' hgrow _
      have R := push_step hbel hown hown' hgrow
      clear hown' hgrow hown hbel
      go_wp2
      go_roundw
      case rel => exact ⟨m / 128, xs ++ [m % 128 + 128], g, rfl, by omega, by simp; omega, hg2, (show vbs n = (xs ++ [m % 128 + 128]) ++ vb g (m / 128) from by have e := HV.out; rw [HG.out] at e; simpa using e), R.1, R.2⟩
      case measure => simp [intOf]; omega
    · have HG : Hid (vb f m = [m]) := vb_small f m (by omega)
      go_wp2_with (at_builtin; refine wpList_append_own _ rfl _ _ 22 rfl w.heap.size 5 i0 (.int .u8 0) 1 1 Try.underlying22 hi hz0 hz1 hz2 rfl (by decide) _ _ _ rfl (hown.alloc _) ⟨wr.heap.size, 0, none⟩ 1 1 [.int .u8 (m)] rfl rfl (news1 _ _ _) (ones1 _ _) (by unfold maxLen; omega) (by omega) (by simp; omega) ?_)
      intro v' w1 hown' hgrow _
      have R := push_step hbel hown hown' hgrow
      have hcv := strOfNums_row R.1
      have hb := R.2
      clear hown' hgrow hown hbel R
      go_wp2
      go_ret2
      exact ⟨ret_strb (by have e := HV.out; rw [HG.out] at e; exact e.symm), hb⟩

theorem ivar_no (n : Int) (w : World) (h : n < 0 ∨ 1000000000 < n) :
    Calls Try.prog 64 #[.int .i64 n] w fun e w' => e = .returned (.tuple #[.string ByteArray.empty, .bool false]) ∧ w' = w := by
  rcases h with h | h
  · go_enter Try.func64, Try.ntmps64
    go_wp2
    go_ret2
    exact ⟨rfl, rfl⟩
  · have h' : ¬ n < 0 := by omega
    go_enter Try.func64, Try.ntmps64
    go_wp2
    go_ret2
    exact ⟨rfl, rfl⟩

end Go.Proofs.Ytnghhfgbobpnkaa
