/-
  The walk of the law FnExactUnhex: the specification's answer and the program's are the same.
-/
import Derived.Test.YtnghhfgbobpnkahUnhexS
import Derived.Test.YtnghhfgbobpnkahUnhexI
namespace Go.Proofs.Ytnghhfgbobpnkah
open Go.RowKit Num

theorem sunhex_yes (s : ByteArray) (n : Nat) (w : World) (hn : s.size = 2 * n) (hn2 : n ≤ 20000) (h : okTo s (2 * n)) :
    Calls Try.prog 5 #[.string s] w fun e w' => e = .returned (.tuple #[.string (strOfNums (pairs s n)), .bool true]) ∧ Below w.heap.size w w' :=
  (sunhex_in s n w hn hn2).mono fun _ _ ⟨he, hb⟩ => ⟨he.elim (fun x => x.2) (fun x => absurd h x.1), hb⟩

theorem iunhex_yes (s : ByteArray) (n : Nat) (w : World) (hn : s.size = 2 * n) (hn2 : n ≤ 20000) (h : okTo s (2 * n)) :
    Calls Try.prog 6 #[.string s] w fun e w' => e = .returned (.tuple #[.string (strOfNums (pairs s n)), .bool true]) ∧ Below w.heap.size w w' :=
  (iunhex_in s n w hn hn2).mono fun _ _ ⟨he, hb⟩ => ⟨he.elim (fun x => x.2) (fun x => absurd h x.1), hb⟩

theorem sunhex_bad (s : ByteArray) (n : Nat) (w : World) (hn : s.size = 2 * n) (hn2 : n ≤ 20000) (h : ¬ okTo s (2 * n)) :
    Calls Try.prog 5 #[.string s] w fun e w' => e = .returned (.tuple #[.string ByteArray.empty, .bool false]) ∧ Below w.heap.size w w' :=
  (sunhex_in s n w hn hn2).mono fun _ _ ⟨he, hb⟩ => ⟨he.elim (fun x => absurd x.1 h) (fun x => x.2), hb⟩

theorem iunhex_bad (s : ByteArray) (n : Nat) (w : World) (hn : s.size = 2 * n) (hn2 : n ≤ 20000) (h : ¬ okTo s (2 * n)) :
    Calls Try.prog 6 #[.string s] w fun e w' => e = .returned (.tuple #[.string ByteArray.empty, .bool false]) ∧ Below w.heap.size w w' :=
  (iunhex_in s n w hn hn2).mono fun _ _ ⟨he, hb⟩ => ⟨he.elim (fun x => absurd x.1 h) (fun x => x.2), hb⟩

end Go.Proofs.Ytnghhfgbobpnkah
namespace Go.Proofs.Ytnghhfgbobpnkah.WFnExactUnhex
open Go.RowKit Num

theorem walk (a0 : ByteArray) (w0 : a0.size ≤ maxLen) (w : World) :
    Calls Try.prog 3 #[.string a0] w fun e w' => e = .returned (.bool true) ∧ Below w.heap.size w w' := by
  unfold maxLen at w0
  by_cases hbig : (1048576 : Int) < a0.size
  · go_enter Try.func3, Try.ntmps3
    go_wp2
    go_ret
    exact ⟨rfl, Below.refl _ _⟩
  · by_cases h : (40000 : Int) < a0.size ∨ (a0.size : Int) % 2 ≠ 0
    · have H : Hid ((40000 : Int) < a0.size ∨ (a0.size : Int) % 2 ≠ 0) := h
      clear h
      go_enter Try.func3, Try.ntmps3
      go_wp2_with (first | (go_at_call 5; refine (sunhex_no _ _ H.out).mono ?_; rintro e w1 ⟨rfl, hw⟩; obtain rfl := hw.symm; clear hw) | (go_at_call 6; refine (iunhex_no _ _ H.out).mono ?_; rintro e w2 ⟨rfl, hw⟩; obtain rfl := hw.symm; clear hw))
      go_ret
      exact ⟨rfl, Below.refl _ _⟩
    · obtain ⟨n, hn⟩ : ∃ n : Nat, a0.size = 2 * n := ⟨a0.size / 2, by omega⟩
      have hn2 : n ≤ 20000 := by omega
      have HN : Hid (a0.size = 2 * n) := hn
      clear hn h
      by_cases ho : okTo a0 (2 * n)
      · have HO : Hid (okTo a0 (2 * n)) := ho
        clear ho
        go_enter Try.func3, Try.ntmps3
        go_wp2_with (first | (go_at_call 5; refine (sunhex_yes _ n _ HN.out hn2 HO.out).mono ?_; rintro e w1 ⟨rfl, hb1⟩) | (go_at_call 6; refine (iunhex_yes _ n _ HN.out hn2 HO.out).mono ?_; rintro e w2 ⟨rfl, hb2⟩))
        go_ret
        exact ⟨rfl, hb1.trans (hb2.mono hb1.size)⟩
      · have HO : Hid (¬ okTo a0 (2 * n)) := ho
        clear ho
        go_enter Try.func3, Try.ntmps3
        go_wp2_with (first | (go_at_call 5; refine (sunhex_bad _ n _ HN.out hn2 HO.out).mono ?_; rintro e w1 ⟨rfl, hb1⟩) | (go_at_call 6; refine (iunhex_bad _ n _ HN.out hn2 HO.out).mono ?_; rintro e w2 ⟨rfl, hb2⟩))
        go_ret
        exact ⟨rfl, hb1.trans (hb2.mono hb1.size)⟩

end Go.Proofs.Ytnghhfgbobpnkah.WFnExactUnhex
