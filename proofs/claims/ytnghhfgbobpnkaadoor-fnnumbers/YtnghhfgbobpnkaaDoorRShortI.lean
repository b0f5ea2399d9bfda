/-
  The contract of impl.ReadShort.
-/
import Derived.Test.YtnghhfgbobpnkaaDoorReadI
import Derived.Test.YtnghhfgbobpnkaaDoorClone
namespace Go.Proofs.YtnghhfgbobpnkaaDoor
open Go.RowKit Num

theorem iread_eq (s : ByteArray) (a : Int) (w : World) (hs : (s.size : Int) ≤ 1048576) (n x : Int) (b : Bool) (h : rvOf s a = (n, x, b)) :
    Calls Tryd.prog 8 #[.string s, .int .i64 a] w fun e w' => e = .returned (.tuple #[.int .i64 n, .int .i64 x, .bool b]) ∧ w' = w := by
  have := iread s a w hs
  rw [h] at this
  exact this

theorem ishort_false (s : ByteArray) (a : Int) (w : World) (hs : (s.size : Int) ≤ 1048576) (n x : Int) (h : Hid (rvOf s a = (n, x, false))) :
    Calls Tryd.prog 13 #[.string s, .int .i64 a] w fun e w' => e = .returned noText ∧ Below w.heap.size w w' := by
  go_enter Tryd.func13, Tryd.ntmps13
  go_wp2_with (go_at_call 8; refine (iread_eq _ _ _ hs n x false h.out).mono ?_; rintro e w' ⟨rfl, hw⟩; obtain rfl := hw.symm; clear hw)
  go_ret3
  exact ⟨rfl, Below.refl _ _⟩

theorem ishort_bad (s : ByteArray) (a : Int) (w : World) (hs : (s.size : Int) ≤ 1048576) (n x : Nat) (h : Hid (rvOf s a = ((n : Int), (x : Int), true))) (hn : (n : Int) ≤ 1000000000) (hx : (x : Int) ≤ s.size)
    (hbad : (20000 : Int) < n ∨ (s.size : Int) - x < n) :
    Calls Tryd.prog 13 #[.string s, .int .i64 a] w fun e w' => e = .returned noText ∧ Below w.heap.size w w' := by
  by_cases h2 : (20000 : Int) < n
  · clear hbad
    go_enter Tryd.func13, Tryd.ntmps13
    go_wp2_with (go_at_call 8; refine (iread_eq _ _ _ hs n x true h.out).mono ?_; rintro e w' ⟨rfl, hw⟩; obtain rfl := hw.symm; clear hw)
    go_ret3
    exact ⟨rfl, Below.refl _ _⟩
  · have h3 : (s.size : Int) - x < n := by omega
    clear hbad
    go_enter Tryd.func13, Tryd.ntmps13
    go_wp2_with (go_at_call 8; refine (iread_eq _ _ _ hs n x true h.out).mono ?_; rintro e w' ⟨rfl, hw⟩; obtain rfl := hw.symm; clear hw)
    go_ret3
    exact ⟨rfl, Below.refl _ _⟩

theorem ishort_good (s : ByteArray) (a : Int) (w : World) (hs : (s.size : Int) ≤ 1048576) (n x : Nat) (h : Hid (rvOf s a = ((n : Int), (x : Int), true))) (hx : (x : Int) ≤ s.size)
    (hn : (n : Int) ≤ 20000) (hxn : (n : Int) ≤ (s.size : Int) - x) :
    Calls Tryd.prog 13 #[.string s, .int .i64 a] w fun e w' => e = .returned (.tuple #[.string (s.extract x (x + n)), .int .i64 ((x : Int) + n), .bool true]) ∧ Below w.heap.size w w' := by
  have q1 : (0 : Int) ≤ (x : Int) := by omega
  have q2 : (x : Int) ≤ (x : Int) + (n : Int) := by omega
  have q3 : (x : Int) + (n : Int) ≤ (s.size : Int) := by omega
  have hlim : (s.extract x (x + n)).size ≤ 281474976710656 := by rw [ByteArray.size_extract]; omega
  go_enter Tryd.func13, Tryd.ntmps13
  go_wp2_with (first | (go_at_call 8; refine (iread_eq _ _ _ hs n x true h.out).mono ?_; rintro e w' ⟨rfl, hw⟩; obtain rfl := hw.symm; clear hw) | (go_at_call 29; refine (clone _ _ hlim).mono ?_; rintro e w' ⟨rfl, hb⟩))
  go_ret3
  exact ⟨rfl, hb⟩

end Go.Proofs.YtnghhfgbobpnkaaDoor
