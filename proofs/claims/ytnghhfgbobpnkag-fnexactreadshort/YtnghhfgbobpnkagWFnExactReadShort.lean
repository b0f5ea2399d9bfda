/-
  The walk of the law FnExactReadShort: the specification's answer and the program's are the same.
-/
import Derived.Test.YtnghhfgbobpnkagRShortS
import Derived.Test.YtnghhfgbobpnkagRShortI
namespace Go.Proofs.Ytnghhfgbobpnkag.WFnExactReadShort
open Go.RowKit Num

theorem walk (a0 : ByteArray) (a1 : Int) (w0 : a0.size ≤ maxLen) (_w1 : (Lit.int .i64 a1).wf = true) (w : World) :
    Calls Try.prog 6 #[.string a0, .int .i64 a1] w fun e w' => e = .returned (.bool true) ∧ Below w.heap.size w w' := by
  unfold maxLen at w0
  by_cases hbig : (1048576 : Int) < a0.size
  · go_enter Try.func6, Try.ntmps6
    go_wp2
    go_ret
    exact ⟨rfl, Below.refl _ _⟩
  · have hs : (a0.size : Int) ≤ 1048576 := by omega
    obtain ⟨N, X, b, hr⟩ : ∃ N X b, rvOf a0 a1 = (N, X, b) := ⟨_, _, _, rfl⟩
    cases b with
    | false =>
      have HR : Hid (rvOf a0 a1 = (N, X, false)) := hr
      clear hr
      go_enter Try.func6, Try.ntmps6
      go_wp2_with (first | (go_at_call 14; refine (sshort_false _ _ _ hs N X HR).mono ?_; rintro e w1 ⟨rfl, hb1⟩; rw [noText]) | (go_at_call 15; refine (ishort_false _ _ _ hs N X HR).mono ?_; rintro e w2 ⟨rfl, hb2⟩; rw [noText]))
      go_ret
      exact ⟨rfl, hb1.trans (hb2.mono hb1.size)⟩
    | true =>
      obtain ⟨k1, k2, k3, k4⟩ := rvOf_ok hr
      obtain ⟨n, rfl⟩ := Int.eq_ofNat_of_zero_le k1
      obtain ⟨x, rfl⟩ := Int.eq_ofNat_of_zero_le k3
      have HR : Hid (rvOf a0 a1 = ((n : Int), (x : Int), true)) := hr
      clear hr
      by_cases hbad : (20000 : Int) < n ∨ (a0.size : Int) - x < n
      · have HB : Hid ((20000 : Int) < n ∨ (a0.size : Int) - x < n) := hbad
        clear hbad
        go_enter Try.func6, Try.ntmps6
        go_wp2_with (first | (go_at_call 14; refine (sshort_bad _ _ _ hs n x HR k2 k4 HB.out).mono ?_; rintro e w1 ⟨rfl, hb1⟩; rw [noText]) | (go_at_call 15; refine (ishort_bad _ _ _ hs n x HR k2 k4 HB.out).mono ?_; rintro e w2 ⟨rfl, hb2⟩; rw [noText]))
        go_ret
        exact ⟨rfl, hb1.trans (hb2.mono hb1.size)⟩
      · have k5 : (n : Int) ≤ 20000 := by omega
        have k6 : (n : Int) ≤ (a0.size : Int) - x := by omega
        clear hbad
        go_enter Try.func6, Try.ntmps6
        go_wp2_with (first | (go_at_call 14; refine (sshort_good _ _ _ hs n x HR k4 k5 k6).mono ?_; rintro e w1 ⟨rfl, hb1⟩) | (go_at_call 15; refine (ishort_good _ _ _ hs n x HR k4 k5 k6).mono ?_; rintro e w2 ⟨rfl, hb2⟩))
        go_ret
        exact ⟨rfl, hb1.trans (hb2.mono hb1.size)⟩

end Go.Proofs.Ytnghhfgbobpnkag.WFnExactReadShort
