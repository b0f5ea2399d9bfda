/-
  The walk of the law FnExactTreeNew: the specification's answer and the program's are the same; what is answered owns its memory.
-/
import Derived.Test.YtnghhfgbobpnkakBlkE
import Derived.Test.YtnghhfgbobpnkakBlkM
import Derived.Test.YtnghhfgbobpnkakPutBS
import Derived.Test.YtnghhfgbobpnkakBlockI
namespace Go.Proofs.Ytnghhfgbobpnkak.WFnExactTreeNew
open Go.RowKit Num

theorem one_of {qs : TL} (h : bks qs = [firstB]) : ∃ cv, qs = [(firstB, cv)] := by
  match qs, h with
  | [(b, cv)], h => simp [bks] at h; subst h; exact ⟨cv, rfl⟩

theorem n_one (cv : Value) : tnum 1 [(firstB, cv)] ≤ 10000000 := show (7 : Nat) ≤ 10000000 by decide
theorem l_one (cv : Value) : (([(firstB, cv)] : TL).length : Int) ≤ 10000000 := show ((1 : Nat) : Int) ≤ 10000000 by decide
theorem c_one (cv : Value) : ∀ p ∈ ([(firstB, cv)] : TL), p.1.2.1.length ≤ 1048576 := fun p hp => by simp at hp; subst hp; exact Nat.zero_le _

set_option maxRecDepth 100000 in
set_option maxHeartbeats 4000000 in
theorem walk_of (HI : ∀ w : World, Calls Try.prog 26 #[] w fun e w' => ∃ v' qs, e = .returned v' ∧ bks qs = [firstB] ∧ OwnT w' w.heap.size v' qs ∧ Below w.heap.size w w') (w : World) :
    Calls Try.prog 5 #[] w fun e w' => e = .returned (.bool true) ∧ Below w.heap.size w w' := by
  have HI : Hid (∀ w : World, Calls Try.prog 26 #[] w fun e w' => ∃ v' qs, e = .returned v' ∧ bks qs = [firstB] ∧ OwnT w' w.heap.size v' qs ∧ Below w.heap.size w w') := HI
  have HK : Hid (okT (bks [(firstB, Value.slice none 0 0)])) := (⟨by decide, fun b hb => by simp [bks] at hb; subst hb; exact ⟨by decide, fun c hc => by cases hc⟩⟩ : okT (bks [(firstB, Value.slice none 0 0)]))
  go_enter Try.func5, Try.ntmps5
  go_wp2_with fail
  refine (treeNew_s w).mono ?_
  rintro e w1 ⟨v1, rfl, ho1, B1⟩
  have HO1 : Hid (OwnT w1 w.heap.size v1 [(firstB, .slice none 0 0)]) := ho1
  clear ho1
  go_wp2_with fail
  refine (HI.out w1).mono ?_
  rintro e w2 ⟨v2, qs2, rfl, hq2, ho2, hb2⟩
  obtain ⟨cv2, rfl⟩ := one_of hq2
  have HO2 : Hid (OwnT w2 w1.heap.size v2 [(firstB, cv2)]) := ho2
  have HB2 : Hid (Below w1.heap.size w1 w2) := hb2
  have B2 := bt B1 hb2
  clear ho2 hb2 hq2
  go_wp2_with fail
  refine (eqBlocks_yes [(firstB, cv2)] [(firstB, .slice none 0 0)] v2 v1 w2 HO2.out.read.q (HO1.out.read.below HB2.out).q rfl HK.out).mono ?_
  rintro e w3 ⟨rfl, hb3⟩
  have HB3 : Hid (Below w2.heap.size w2 w3) := hb3
  have B3 := bt B2 hb3
  clear hb3
  go_wp2_with fail
  refine (markBlocks_own [(firstB, cv2)] 1 w1.heap.size w2.heap.size v2 w3 (HO2.out.below HB3.out) HO2.out.lim (by decide) (n_one _) (l_one _) (c_one _)).mono ?_
  rintro e w4 ⟨rfl, ho4, hw4⟩
  rw [show tnum 1 [(firstB, cv2)] = 7 from rfl]
  have HO4 : Hid (OwnT w4 w1.heap.size v2 (tmarks 1 [(firstB, cv2)])) := ho4
  have B4 : Below w.heap.size w w4 := Wn.below B3 hw4 B1.size B3.size
  have HV4 : Hid (OwnT w4 w.heap.size v1 [(firstB, .slice none 0 0)]) := HO1.out.same fun g hg hgl => (hw4.block g (Nat.lt_of_lt_of_le hgl (bt HB2.out HB3.out).size) (Or.inl hgl)).trans ((bt HB2.out HB3.out).block g hgl)
  clear ho4 hw4
  go_wp2_with fail
  refine (heldBlocks_any [(firstB, cv2)] 1 v2 w4 HO4.out.read.q (by decide) (n_one _) (l_one _) (c_one _)).mono ?_
  rintro e w5 ⟨rfl, hb5⟩
  rw [show tnum 1 [(firstB, cv2)] = 7 from rfl]
  have HB5 : Hid (Below w4.heap.size w4 w5) := hb5
  have B5 := bt B4 hb5
  clear hb5
  go_wp2_with fail
  refine (HI.out w5).mono ?_
  rintro e w6 ⟨v6, qs6, rfl, hq6, ho6, hb6⟩
  obtain ⟨cv6, rfl⟩ := one_of hq6
  have HO6 : Hid (OwnT w6 w5.heap.size v6 [(firstB, cv6)]) := ho6
  have HB6 : Hid (Below w5.heap.size w5 w6) := hb6
  have B6 := bt B5 hb6
  clear ho6 hb6 hq6
  go_wp2_with fail
  refine (eqBlocks_yes [(firstB, cv6)] [(firstB, .slice none 0 0)] v6 v1 w6 HO6.out.read.q (HV4.out.read.below (bt HB5.out HB6.out)).q rfl HK.out).mono ?_
  rintro e w7 ⟨rfl, hb7⟩
  have HB7 : Hid (Below w6.heap.size w6 w7) := hb7
  have B7 := bt B6 hb7
  clear hb7
  go_wp2_with fail
  refine (heldBlocks_any [(firstB, cv2)] 1 v2 w7 (HO4.out.read.below (bt (bt HB5.out HB6.out) HB7.out)).q (by decide) (n_one _) (l_one _) (c_one _)).mono ?_
  rintro e w8 ⟨rfl, hb8⟩
  rw [show tnum 1 [(firstB, cv2)] = 7 from rfl]
  have B8 := bt B7 hb8
  clear hb8
  go_wp2
  go_ret
  exact ⟨rfl, B8⟩

theorem walk (w : World) :
    Calls Try.prog 5 #[] w fun e w' => e = .returned (.bool true) ∧ Below w.heap.size w w' :=
  walk_of treeNew_i w

end Go.Proofs.Ytnghhfgbobpnkak.WFnExactTreeNew
