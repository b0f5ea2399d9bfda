/-
  The walk of the law FnExactReadVar: spec.ReadVar and impl.ReadVar hand back the same number, place and flag.
-/
import Derived.Test.YtcpfgflnfofghagReadS
namespace Go.Proofs.Ytcpfgflnfofghag
open Go.RowKit Num

theorem iread_out (s : ByteArray) (a : Int) (w : World) (_hs : (s.size : Int) ≤ 1048576) (h : ¬ (0 ≤ a ∧ a ≤ s.size)) :
    Calls Try.prog 11 #[.string s, .int .i64 a] w fun e w' => e = .returned (tri (0, 0, false)) ∧ w' = w := by
  by_cases h0 : a < 0
  · clear h
    go_enter Try.func11, Try.ntmps11
    go_wp2
    go_ret3
    exact ⟨rfl, rfl⟩
  · have h1 : (s.size : Int) < a := by omega
    clear h
    go_enter Try.func11, Try.ntmps11
    go_wp2
    go_ret3
    exact ⟨rfl, rfl⟩

theorem sread_out (s : ByteArray) (a : Int) (w : World) (_hs : (s.size : Int) ≤ 1048576) (h : ¬ (0 ≤ a ∧ a ≤ s.size)) :
    Calls Try.prog 10 #[.string s, .int .i64 a] w fun e w' => e = .returned (tri (0, 0, false)) ∧ w' = w := by
  have hin : inB a 0 s.size = false := inB_no h
  clear h
  go_enter Try.func10, Try.ntmps10
  go_wp2_with (go_at_call 18; refine (in_any _ _ _ _).mono ?_; rintro e w' ⟨rfl, hw⟩; obtain rfl := hw.symm; clear hw)
  go_ret3
  exact ⟨rfl, rfl⟩

/-- ReadVar, the program's, at every place -/
theorem iread (s : ByteArray) (a : Int) (w : World) (hs : (s.size : Int) ≤ 1048576) :
    Calls Try.prog 11 #[.string s, .int .i64 a] w fun e w' => e = .returned (tri (rvOf s a)) ∧ w' = w := by
  unfold rvOf
  by_cases h : 0 ≤ a ∧ a ≤ s.size
  · rw [if_pos h]
    obtain ⟨n, rfl⟩ := Int.eq_ofNat_of_zero_le h.1
    rw [Int.toNat_natCast]
    exact iread_in s n w hs h.2
  · rw [if_neg h]
    exact iread_out s a w hs h
/-- ReadVar, the specification's, at every place -/
theorem sread (s : ByteArray) (a : Int) (w : World) (hs : (s.size : Int) ≤ 1048576) :
    Calls Try.prog 10 #[.string s, .int .i64 a] w fun e w' => e = .returned (tri (rvOf s a)) ∧ Below w.heap.size w w' := by
  unfold rvOf
  by_cases h : 0 ≤ a ∧ a ≤ s.size
  · rw [if_pos h]
    obtain ⟨n, rfl⟩ := Int.eq_ofNat_of_zero_le h.1
    rw [Int.toNat_natCast]
    exact sread_in s n w hs h.2
  · rw [if_neg h]
    exact (sread_out s a w hs h).mono fun e w' ⟨he, hw⟩ => ⟨he, hw ▸ Below.refl _ _⟩
end Go.Proofs.Ytcpfgflnfofghag
namespace Go.Proofs.Ytcpfgflnfofghag.WFnExactReadVar
open Go.RowKit Num

theorem walk (a0 : ByteArray) (a1 : Int) (w0 : a0.size ≤ maxLen) (_w1 : (Lit.int .i64 a1).wf = true) (w : World) :
    Calls Try.prog 4 #[.string a0, .int .i64 a1] w fun e w' => e = .returned (.bool true) ∧ Below w.heap.size w w' := by
  unfold maxLen at w0
  by_cases hbig : (1048576 : Int) < a0.size
  · go_enter Try.func4, Try.ntmps4
    go_wp2
    go_ret
    exact ⟨rfl, Below.refl _ _⟩
  · have hs : (a0.size : Int) ≤ 1048576 := by omega
    go_enter Try.func4, Try.ntmps4
    go_wp2_with (first | (go_at_call 10; refine (sread _ _ _ hs).mono ?_; rintro e w1 ⟨rfl, hb1⟩; rw [tri]) | (go_at_call 11; refine (iread _ _ _ hs).mono ?_; rintro e w2 ⟨rfl, hw⟩; obtain rfl := hw.symm; clear hw; rw [tri]))
    go_ret
    exact ⟨rfl, hb1⟩
end Go.Proofs.Ytcpfgflnfofghag.WFnExactReadVar
