/-
  The walk of the law FnExactReadShort: spec.ReadShort and impl.ReadShort hand back the same text, place and flag.
-/
import Derived.Test.YtcpfgflnfofghagWFnExactReadVar
import Derived.Test.YtcpfgflnfofghagClone
namespace Go.Proofs.Ytcpfgflnfofghag.Num
theorem rv_ok (a : Nat) : ∀ (f : Nat) (l : List Int) (n sc : Int) (i : Nat) (N X : Int), 0 ≤ n → 0 ≤ sc → rv a f l n sc i = (N, X, true) → 0 ≤ N ∧ N ≤ 1000000000 ∧ 0 ≤ X ∧ X ≤ i + l.length
  | 0, _, _, _, _, _, _, _, _, h => by simp [rv] at h
  | f + 1, [], _, _, _, _, _, _, _, h => by simp [rv] at h
  | f + 1, b :: l, n, sc, i, N, X, hn, hsc, h => by
    have hm : 0 ≤ b % 128 * sc := Int.mul_nonneg (by omega) hsc
    unfold rv at h
    split at h
    · have := rv_ok a f l _ _ _ N X (by omega) (by omega) h
      simp; omega
    · split at h
      · simp at h
      · simp at h
        obtain ⟨h1, h2⟩ := h
        simp; omega
end Go.Proofs.Ytcpfgflnfofghag.Num
namespace Go.Proofs.Ytcpfgflnfofghag
open Go.RowKit Num

theorem rvOf_ok {s : ByteArray} {a N X : Int} (h : rvOf s a = (N, X, true)) : 0 ≤ N ∧ N ≤ 1000000000 ∧ 0 ≤ X ∧ X ≤ s.size := by
  unfold rvOf at h
  split at h
  · rename_i ha
    have := rv_ok a.toNat _ _ _ _ _ N X (by omega) (by omega) h
    simp only [List.length_drop, bs_len] at this
    omega
  · simp at h

theorem iread_eq (s : ByteArray) (a : Int) (w : World) (hs : (s.size : Int) ≤ 1048576) (n x : Int) (b : Bool) (h : rvOf s a = (n, x, b)) :
    Calls Try.prog 11 #[.string s, .int .i64 a] w fun e w' => e = .returned (.tuple #[.int .i64 n, .int .i64 x, .bool b]) ∧ w' = w := by
  have := iread s a w hs
  rw [h] at this
  exact this
theorem sread_eq (s : ByteArray) (a : Int) (w : World) (hs : (s.size : Int) ≤ 1048576) (n x : Int) (b : Bool) (h : rvOf s a = (n, x, b)) :
    Calls Try.prog 10 #[.string s, .int .i64 a] w fun e w' => e = .returned (.tuple #[.int .i64 n, .int .i64 x, .bool b]) ∧ Below w.heap.size w w' := by
  have := sread s a w hs
  rw [h] at this
  exact this

/-- there is none -/
def noText : Value := .tuple #[.string ByteArray.empty, .int .i64 0, .bool false]

theorem sshort_false (s : ByteArray) (a : Int) (w : World) (hs : (s.size : Int) ≤ 1048576) (n x : Int) (h : Hid (rvOf s a = (n, x, false))) :
    Calls Try.prog 14 #[.string s, .int .i64 a] w fun e w' => e = .returned noText ∧ Below w.heap.size w w' := by
  go_enter Try.func14, Try.ntmps14
  go_wp2_with (go_at_call 10; refine (sread_eq _ _ _ hs n x false h.out).mono ?_; rintro e w' ⟨rfl, hb⟩)
  go_ret3
  exact ⟨rfl, hb⟩
theorem ishort_false (s : ByteArray) (a : Int) (w : World) (hs : (s.size : Int) ≤ 1048576) (n x : Int) (h : Hid (rvOf s a = (n, x, false))) :
    Calls Try.prog 15 #[.string s, .int .i64 a] w fun e w' => e = .returned noText ∧ Below w.heap.size w w' := by
  go_enter Try.func15, Try.ntmps15
  go_wp2_with (go_at_call 11; refine (iread_eq _ _ _ hs n x false h.out).mono ?_; rintro e w' ⟨rfl, hw⟩; obtain rfl := hw.symm; clear hw)
  go_ret3
  exact ⟨rfl, Below.refl _ _⟩
theorem sshort_bad (s : ByteArray) (a : Int) (w : World) (hs : (s.size : Int) ≤ 1048576) (n x : Nat) (h : Hid (rvOf s a = ((n : Int), (x : Int), true))) (hn : (n : Int) ≤ 1000000000) (hx : (x : Int) ≤ s.size)
    (hbad : (20000 : Int) < n ∨ (s.size : Int) - x < n) :
    Calls Try.prog 14 #[.string s, .int .i64 a] w fun e w' => e = .returned noText ∧ Below w.heap.size w w' := by
  by_cases h2 : (20000 : Int) < n
  · clear hbad
    go_enter Try.func14, Try.ntmps14
    go_wp2_with (go_at_call 10; refine (sread_eq _ _ _ hs n x true h.out).mono ?_; rintro e w' ⟨rfl, hb⟩)
    go_ret3
    exact ⟨rfl, hb⟩
  · have h3 : (s.size : Int) - x < n := by omega
    clear hbad
    go_enter Try.func14, Try.ntmps14
    go_wp2_with (go_at_call 10; refine (sread_eq _ _ _ hs n x true h.out).mono ?_; rintro e w' ⟨rfl, hb⟩)
    go_ret3
    exact ⟨rfl, hb⟩
theorem ishort_bad (s : ByteArray) (a : Int) (w : World) (hs : (s.size : Int) ≤ 1048576) (n x : Nat) (h : Hid (rvOf s a = ((n : Int), (x : Int), true))) (hn : (n : Int) ≤ 1000000000) (hx : (x : Int) ≤ s.size)
    (hbad : (20000 : Int) < n ∨ (s.size : Int) - x < n) :
    Calls Try.prog 15 #[.string s, .int .i64 a] w fun e w' => e = .returned noText ∧ Below w.heap.size w w' := by
  by_cases h2 : (20000 : Int) < n
  · clear hbad
    go_enter Try.func15, Try.ntmps15
    go_wp2_with (go_at_call 11; refine (iread_eq _ _ _ hs n x true h.out).mono ?_; rintro e w' ⟨rfl, hw⟩; obtain rfl := hw.symm; clear hw)
    go_ret3
    exact ⟨rfl, Below.refl _ _⟩
  · have h3 : (s.size : Int) - x < n := by omega
    clear hbad
    go_enter Try.func15, Try.ntmps15
    go_wp2_with (go_at_call 11; refine (iread_eq _ _ _ hs n x true h.out).mono ?_; rintro e w' ⟨rfl, hw⟩; obtain rfl := hw.symm; clear hw)
    go_ret3
    exact ⟨rfl, Below.refl _ _⟩
theorem sshort_good (s : ByteArray) (a : Int) (w : World) (hs : (s.size : Int) ≤ 1048576) (n x : Nat) (h : Hid (rvOf s a = ((n : Int), (x : Int), true))) (hx : (x : Int) ≤ s.size)
    (hn : (n : Int) ≤ 20000) (hxn : (n : Int) ≤ (s.size : Int) - x) :
    Calls Try.prog 14 #[.string s, .int .i64 a] w fun e w' => e = .returned (.tuple #[.string (s.extract x (x + n)), .int .i64 ((x : Int) + n), .bool true]) ∧ Below w.heap.size w w' := by
  have q1 : (0 : Int) ≤ (x : Int) := by omega
  have q2 : (x : Int) ≤ (x : Int) + (n : Int) := by omega
  have q3 : (x : Int) + (n : Int) ≤ (s.size : Int) := by omega
  go_enter Try.func14, Try.ntmps14
  go_wp2_with (go_at_call 10; refine (sread_eq _ _ _ hs n x true h.out).mono ?_; rintro e w' ⟨rfl, hb⟩)
  go_ret3
  exact ⟨rfl, hb⟩
theorem ishort_good (s : ByteArray) (a : Int) (w : World) (hs : (s.size : Int) ≤ 1048576) (n x : Nat) (h : Hid (rvOf s a = ((n : Int), (x : Int), true))) (hx : (x : Int) ≤ s.size)
    (hn : (n : Int) ≤ 20000) (hxn : (n : Int) ≤ (s.size : Int) - x) :
    Calls Try.prog 15 #[.string s, .int .i64 a] w fun e w' => e = .returned (.tuple #[.string (s.extract x (x + n)), .int .i64 ((x : Int) + n), .bool true]) ∧ Below w.heap.size w w' := by
  have q1 : (0 : Int) ≤ (x : Int) := by omega
  have q2 : (x : Int) ≤ (x : Int) + (n : Int) := by omega
  have q3 : (x : Int) + (n : Int) ≤ (s.size : Int) := by omega
  have hlim : (s.extract x (x + n)).size ≤ 281474976710656 := by rw [ByteArray.size_extract]; omega
  go_enter Try.func15, Try.ntmps15
  go_wp2_with (first | (go_at_call 11; refine (iread_eq _ _ _ hs n x true h.out).mono ?_; rintro e w' ⟨rfl, hw⟩; obtain rfl := hw.symm; clear hw) | (go_at_call 20; refine (clone _ _ hlim).mono ?_; rintro e w' ⟨rfl, hb⟩))
  go_ret3
  exact ⟨rfl, hb⟩
end Go.Proofs.Ytcpfgflnfofghag
namespace Go.Proofs.Ytcpfgflnfofghag.WFnExactReadShort
open Go.RowKit Num

theorem walk (a0 : ByteArray) (a1 : Int) (w0 : a0.size ≤ maxLen) (_w1 : (Lit.int .i64 a1).wf = true) (w : World) :
    Calls Try.prog 6 #[.string a0, .int .i64 a1] w fun e w' => e = .returned (.bool true) ∧ Below w.heap.size w w' := by
  unfold maxLen at w0
  by_cases hbig : (1048576 : Int) < a0.size
  · go_enter Try.func6, Try.ntmps6
    go_wp2
    go_ret
    exact ⟨rfl, Below.refl _ _⟩
  · have hs : (a0.size : Int) ≤ 1048576 := by omega
    obtain ⟨N, X, b, hr⟩ : ∃ N X b, rvOf a0 a1 = (N, X, b) := ⟨_, _, _, rfl⟩
    cases b with
    | false =>
      have HR : Hid (rvOf a0 a1 = (N, X, false)) := hr
      clear hr
      go_enter Try.func6, Try.ntmps6
      go_wp2_with (first | (go_at_call 14; refine (sshort_false _ _ _ hs N X HR).mono ?_; rintro e w1 ⟨rfl, hb1⟩; rw [noText]) | (go_at_call 15; refine (ishort_false _ _ _ hs N X HR).mono ?_; rintro e w2 ⟨rfl, hb2⟩; rw [noText]))
      go_ret
      exact ⟨rfl, hb1.trans (hb2.mono hb1.size)⟩
    | true =>
      obtain ⟨k1, k2, k3, k4⟩ := rvOf_ok hr
      obtain ⟨n, rfl⟩ := Int.eq_ofNat_of_zero_le k1
      obtain ⟨x, rfl⟩ := Int.eq_ofNat_of_zero_le k3
      have HR : Hid (rvOf a0 a1 = ((n : Int), (x : Int), true)) := hr
      clear hr
      by_cases hbad : (20000 : Int) < n ∨ (a0.size : Int) - x < n
      · have HB : Hid ((20000 : Int) < n ∨ (a0.size : Int) - x < n) := hbad
        clear hbad
        go_enter Try.func6, Try.ntmps6
        go_wp2_with (first | (go_at_call 14; refine (sshort_bad _ _ _ hs n x HR k2 k4 HB.out).mono ?_; rintro e w1 ⟨rfl, hb1⟩; rw [noText]) | (go_at_call 15; refine (ishort_bad _ _ _ hs n x HR k2 k4 HB.out).mono ?_; rintro e w2 ⟨rfl, hb2⟩; rw [noText]))
        go_ret
        exact ⟨rfl, hb1.trans (hb2.mono hb1.size)⟩
      · have k5 : (n : Int) ≤ 20000 := by omega
        have k6 : (n : Int) ≤ (a0.size : Int) - x := by omega
        clear hbad
        go_enter Try.func6, Try.ntmps6
        go_wp2_with (first | (go_at_call 14; refine (sshort_good _ _ _ hs n x HR k4 k5 k6).mono ?_; rintro e w1 ⟨rfl, hb1⟩) | (go_at_call 15; refine (ishort_good _ _ _ hs n x HR k4 k5 k6).mono ?_; rintro e w2 ⟨rfl, hb2⟩))
        go_ret
        exact ⟨rfl, hb1.trans (hb2.mono hb1.size)⟩
end Go.Proofs.Ytcpfgflnfofghag.WFnExactReadShort
