/-
  The contract of the program's row of bytes that grows by numbers, where the numbers lie anywhere ahead of that row.
-/
import Derived.Test.YtnghhfgbobpnkapDoorAppI
namespace Go.Proofs.YtnghhfgbobpnkapDoor
open Go.RowKit Num

set_option maxRecDepth 100000 in
set_option maxHeartbeats 1000000 in
theorem appendNumbers_g (base : Nat) (ys : List Int) (v0 : Value) (ns : List Int) (a : Option Addr) (cap : Nat) (w : World) (hns : ∀ n ∈ ns, n ≤ 9223372036854775807) (hl : ys.length + 10 * ns.length ≤ 1000000000) (hb : base ≤ w.heap.size) (hown0 : w.ownsRow base 5 1 v0 ys.length (ys.map (Value.int .u8)))
    (hg : 0 < ns.length → ∃ g off, a = some ⟨g, off, none⟩ ∧ g < base ∧ ∀ i (h : i < ns.length), w.cell? ⟨g, off + i, none⟩ = some (.int .i64 ns[i])) :
    Calls Tryd.prog 45 #[v0, .slice a ns.length cap] w fun e w' => ∃ v', e = .returned v' ∧ AppP base (ys ++ numsL ns) w v' w' := by
  have HG : Hid (0 < ns.length → ∃ g off, a = some ⟨g, off, none⟩ ∧ g < base ∧ ∀ i (h : i < ns.length), w.cell? ⟨g, off + i, none⟩ = some (.int .i64 ns[i])) := hg
  have HN : Hid (∀ n ∈ ns, n ≤ 9223372036854775807) := hns
  clear hg hns
  go_enter Tryd.func45, Tryd.ntmps45
  go_wp2
  go_loopw [0, 9] (fun v i wr => ∃ k : Nat, k ≤ ns.length ∧ i = .int .i64 (k : Int) ∧ wr.ownsRow base 5 1 v (ys ++ numsL (ns.take k)).length ((ys ++ numsL (ns.take k)).map (Value.int .u8)) ∧ Kp5 base w wr) (fun _ i _ => ns.length - (intOf i).toNat)
  case atStart => exact ⟨0, Nat.zero_le _, rfl, by simpa [numsL] using hown0, Kp5.refl _ _⟩
  case round =>
    obtain ⟨k, hk, rfl, hown, hkp⟩ := hrel
    have HO : Hid (wr.ownsRow base 5 1 u0 (ys ++ numsL (ns.take k)).length ((ys ++ numsL (ns.take k)).map (Value.int .u8)) ∧ Kp5 base w wr) := ⟨hown, hkp⟩
    have hbr : base ≤ wr.heap.size := Nat.le_trans hb hkp.below.size
    clear hown hkp
    by_cases hlt : (k : Int) < ns.length
    · have hkn : k < ns.length := by omega
      have hlen : (ys ++ numsL (ns.take k)).length ≤ 1000000000 := by
        have := numsL_len (ns := ns.take k) fun n hn => HN.out n (List.mem_of_mem_take hn)
        rw [List.length_take] at this; rw [List.length_append]; omega
      obtain ⟨g, off, rfl, hgb, hgc⟩ := HG.out (by omega)
      have c0 : wr.cell? ⟨g, off + k, none⟩ = some (.int .i64 ns[k]) := by rw [HO.out.2.below.cell (by exact hgb)]; exact hgc k hkn
      clear hgb hgc
      have q0 : (0 : Int) ≤ (k : Int) := by omega
      obtain ⟨x, hx⟩ : ∃ x, x = ns[k] := ⟨_, rfl⟩
      have hx1 : x ≤ 9223372036854775807 := by rw [hx]; exact HN.out _ (List.getElem_mem hkn)
      have HS : Hid (numsL (ns.take (k + 1)) = numsL (ns.take k) ++ vbs (lowI x)) := (by rw [numsL_take hkn, hx] : numsL (ns.take (k + 1)) = _)
      rw [← hx] at c0
      clear hx
      by_cases hneg : x < 0
      · have HE : Hid (lowI x = 0) := (by unfold lowI; rw [if_pos hneg] : lowI x = 0)
        go_wp2_with fail
        refine (appendVar_i base (ys ++ numsL (ns.take k)) u0 0 wr (by omega) (by omega) hlen hbr HO.out.1).mono ?_
        rintro e w1 ⟨v1, rfl, ho1, hk1⟩
        have HO1 : Hid (w1.ownsRow base 5 1 v1 (ys ++ numsL (ns.take (k + 1))).length ((ys ++ numsL (ns.take (k + 1))).map (Value.int .u8)) ∧ Kp5 base w w1) := (by rw [HS.out, HE.out, ← List.append_assoc]; exact ⟨ho1, HO.out.2.trans hk1⟩ : _ ∧ _)
        clear ho1 hk1 hlen hbr c0
        go_wp2
        go_roundw
        case rel => exact ⟨k + 1, by omega, by go_num, HO1.out.1, HO1.out.2⟩
        case measure => simp [intOf]; omega
      · have HE : Hid (lowI x = x) := (by unfold lowI; rw [if_neg hneg] : lowI x = x)
        go_wp2_with fail
        refine (appendVar_i base (ys ++ numsL (ns.take k)) u0 x wr (by omega) (by omega) hlen hbr HO.out.1).mono ?_
        rintro e w1 ⟨v1, rfl, ho1, hk1⟩
        have HO1 : Hid (w1.ownsRow base 5 1 v1 (ys ++ numsL (ns.take (k + 1))).length ((ys ++ numsL (ns.take (k + 1))).map (Value.int .u8)) ∧ Kp5 base w w1) := (by rw [HS.out, HE.out, ← List.append_assoc]; exact ⟨ho1, HO.out.2.trans hk1⟩ : _ ∧ _)
        clear ho1 hk1 hlen hbr c0
        go_wp2
        go_roundw
        case rel => exact ⟨k + 1, by omega, by go_num, HO1.out.1, HO1.out.2⟩
        case measure => simp [intOf]; omega
    · have hkl : k = ns.length := by omega
      subst hkl
      rw [List.take_length] at HO
      go_wp2
      go_ret
      exact ⟨_, rfl, HO.out⟩

end Go.Proofs.YtnghhfgbobpnkapDoor
