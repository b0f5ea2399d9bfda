/-
  The contract of spec.ReadShort.
-/
import Derived.Test.YtnghhfgbobpnkagReadS
namespace Go.Proofs.Ytnghhfgbobpnkag
open Go.RowKit Num

theorem sread_eq (s : ByteArray) (a : Int) (w : World) (hs : (s.size : Int) ≤ 1048576) (n x : Int) (b : Bool) (h : rvOf s a = (n, x, b)) :
    Calls Try.prog 10 #[.string s, .int .i64 a] w fun e w' => e = .returned (.tuple #[.int .i64 n, .int .i64 x, .bool b]) ∧ Below w.heap.size w w' := by
  have := sread s a w hs
  rw [h] at this
  exact this

theorem sshort_false (s : ByteArray) (a : Int) (w : World) (hs : (s.size : Int) ≤ 1048576) (n x : Int) (h : Hid (rvOf s a = (n, x, false))) :
    Calls Try.prog 14 #[.string s, .int .i64 a] w fun e w' => e = .returned noText ∧ Below w.heap.size w w' := by
  go_enter Try.func14, Try.ntmps14
  go_wp2_with (go_at_call 10; refine (sread_eq _ _ _ hs n x false h.out).mono ?_; rintro e w' ⟨rfl, hb⟩)
  go_ret3
  exact ⟨rfl, hb⟩

theorem sshort_bad (s : ByteArray) (a : Int) (w : World) (hs : (s.size : Int) ≤ 1048576) (n x : Nat) (h : Hid (rvOf s a = ((n : Int), (x : Int), true))) (hn : (n : Int) ≤ 1000000000) (hx : (x : Int) ≤ s.size)
    (hbad : (20000 : Int) < n ∨ (s.size : Int) - x < n) :
    Calls Try.prog 14 #[.string s, .int .i64 a] w fun e w' => e = .returned noText ∧ Below w.heap.size w w' := by
  by_cases h2 : (20000 : Int) < n
  · clear hbad
    go_enter Try.func14, Try.ntmps14
    go_wp2_with (go_at_call 10; refine (sread_eq _ _ _ hs n x true h.out).mono ?_; rintro e w' ⟨rfl, hb⟩)
    go_ret3
    exact ⟨rfl, hb⟩
  · have h3 : (s.size : Int) - x < n := by omega
    clear hbad
    go_enter Try.func14, Try.ntmps14
    go_wp2_with (go_at_call 10; refine (sread_eq _ _ _ hs n x true h.out).mono ?_; rintro e w' ⟨rfl, hb⟩)
    go_ret3
    exact ⟨rfl, hb⟩

theorem sshort_good (s : ByteArray) (a : Int) (w : World) (hs : (s.size : Int) ≤ 1048576) (n x : Nat) (h : Hid (rvOf s a = ((n : Int), (x : Int), true))) (hx : (x : Int) ≤ s.size)
    (hn : (n : Int) ≤ 20000) (hxn : (n : Int) ≤ (s.size : Int) - x) :
    Calls Try.prog 14 #[.string s, .int .i64 a] w fun e w' => e = .returned (.tuple #[.string (s.extract x (x + n)), .int .i64 ((x : Int) + n), .bool true]) ∧ Below w.heap.size w w' := by
  have q1 : (0 : Int) ≤ (x : Int) := by omega
  have q2 : (x : Int) ≤ (x : Int) + (n : Int) := by omega
  have q3 : (x : Int) + (n : Int) ≤ (s.size : Int) := by omega
  go_enter Try.func14, Try.ntmps14
  go_wp2_with (go_at_call 10; refine (sread_eq _ _ _ hs n x true h.out).mono ?_; rintro e w' ⟨rfl, hb⟩)
  go_ret3
  exact ⟨rfl, hb⟩

end Go.Proofs.Ytnghhfgbobpnkag
