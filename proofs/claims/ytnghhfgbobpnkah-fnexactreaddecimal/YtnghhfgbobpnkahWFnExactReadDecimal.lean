/-
  The walk of the law FnExactReadDecimal: the specification's answer and the program's are the same.
-/
import Derived.Test.YtnghhfgbobpnkahReadDecS
import Derived.Test.YtnghhfgbobpnkahReadDecI
namespace Go.Proofs.Ytnghhfgbobpnkah
open Go.RowKit Num

theorem sread10_yes (s : ByteArray) (w : World) (hs : (s.size : Int) ≤ 10) (h : rdOk s) :
    Calls Try.prog 7 #[.string s] w fun e w' => e = .returned (.tuple #[.int .i64 (num10 (bs s)), .bool true]) ∧ Below w.heap.size w w' :=
  (sread10 s w hs).mono fun _ _ ⟨he, hb⟩ => ⟨he.elim (fun x => x.2) (fun x => absurd h x.1), hb⟩

theorem iread10_yes (s : ByteArray) (w : World) (hs : (s.size : Int) ≤ 10) (h : rdOk s) :
    Calls Try.prog 8 #[.string s] w fun e w' => e = .returned (.tuple #[.int .i64 (num10 (bs s)), .bool true]) ∧ w' = w :=
  (iread10 s w hs).mono fun _ _ ⟨he, hb⟩ => ⟨he.elim (fun x => x.2) (fun x => absurd h x.1), hb⟩

theorem sread10_no (s : ByteArray) (w : World) (h : (10 : Int) < s.size ∨ ¬ rdOk s) :
    Calls Try.prog 7 #[.string s] w fun e w' => e = .returned (.tuple #[.int .i64 0, .bool false]) ∧ Below w.heap.size w w' := by
  by_cases hs : (10 : Int) < s.size
  · exact sread10_long s w hs
  · have h' : ¬ rdOk s := h.elim (fun x => absurd x hs) id
    exact (sread10 s w (by omega)).mono fun _ _ ⟨he, hb⟩ => ⟨he.elim (fun x => absurd x.1 h') (fun x => x.2), hb⟩

theorem iread10_no (s : ByteArray) (w : World) (h : (10 : Int) < s.size ∨ ¬ rdOk s) :
    Calls Try.prog 8 #[.string s] w fun e w' => e = .returned (.tuple #[.int .i64 0, .bool false]) ∧ w' = w := by
  by_cases hs : (10 : Int) < s.size
  · exact iread10_long s w hs (by rw [empty_iff, decide_eq_false_iff_not]; omega)
  · have h' : ¬ rdOk s := h.elim (fun x => absurd x hs) id
    exact (iread10 s w (by omega)).mono fun _ _ ⟨he, hb⟩ => ⟨he.elim (fun x => absurd x.1 h') (fun x => x.2), hb⟩

end Go.Proofs.Ytnghhfgbobpnkah
namespace Go.Proofs.Ytnghhfgbobpnkah.WFnExactReadDecimal
open Go.RowKit Num

theorem walk (a0 : ByteArray) (w0 : a0.size ≤ maxLen) (w : World) :
    Calls Try.prog 4 #[.string a0] w fun e w' => e = .returned (.bool true) ∧ Below w.heap.size w w' := by
  unfold maxLen at w0
  by_cases hbig : (1048576 : Int) < a0.size
  · go_enter Try.func4, Try.ntmps4
    go_wp2
    go_ret
    exact ⟨rfl, Below.refl _ _⟩
  · by_cases h : (10 : Int) < a0.size ∨ ¬ rdOk a0
    · have H : Hid ((10 : Int) < a0.size ∨ ¬ rdOk a0) := h
      clear h
      go_enter Try.func4, Try.ntmps4
      go_wp2_with (first | (go_at_call 7; refine (sread10_no _ _ H.out).mono ?_; rintro e w1 ⟨rfl, hb1⟩) | (go_at_call 8; refine (iread10_no _ _ H.out).mono ?_; rintro e w2 ⟨rfl, hw⟩; obtain rfl := hw.symm; clear hw))
      go_ret
      exact ⟨rfl, hb1⟩
    · have hs : (a0.size : Int) ≤ 10 := by by_cases e : (10 : Int) < a0.size; exact absurd (.inl e) h; omega
      have H : Hid (rdOk a0) := Classical.byContradiction fun e => h (.inr e)
      clear h
      go_enter Try.func4, Try.ntmps4
      go_wp2_with (first | (go_at_call 7; refine (sread10_yes _ _ hs H.out).mono ?_; rintro e w1 ⟨rfl, hb1⟩) | (go_at_call 8; refine (iread10_yes _ _ hs H.out).mono ?_; rintro e w2 ⟨rfl, hw⟩; obtain rfl := hw.symm; clear hw))
      go_ret
      exact ⟨rfl, hb1⟩

end Go.Proofs.Ytnghhfgbobpnkah.WFnExactReadDecimal
