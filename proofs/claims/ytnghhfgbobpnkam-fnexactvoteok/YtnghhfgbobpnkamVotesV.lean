/-
  The contracts of the laws' own helpers over votes: how great they are, their copy, held against each other; votes that came in.
-/
import Derived.Test.YtnghhfgbobpnkamVoteX
import Derived.Test.YtnghhfgbobpnkamVoteW
import Derived.Test.YtnghhfgbobpnkamOpenX
import Derived.Test.YtnghhfgbobpnkamCellX
import Derived.Lib.SmallJoins
namespace Go.Proofs.Ytnghhfgbobpnkam
open Go.ChangeShapes Go.WideShapes Go.ChangeAt Go.RowKit Num

set_option maxRecDepth 100000 in
theorem vote_rd {H : Type} {enc : TypeId × Value → H} {W : World} : ∀ n cs x, DataW.trod enc Try.prog W 0 (fun _ => true) true n 39 cs = some x → ∃ v : VT, cs = voteF v ∧ wfV v := by
  intro n cs x h
  obtain ⟨y0, y1, y2, y3, k, _, hl, h0, h1, h2, h3⟩ := Go.Joins.trod_struct4 Try.underlying39 h
  have hl4 : cs.length = 4 := hl.trans (by kernel_rfl)
  obtain ⟨a, b, c, d, rfl⟩ : ∃ a b c d, cs = [a, b, c, d] := by
    match cs, hl4 with
    | [a, b, c, d], _ => exact ⟨a, b, c, d, rfl⟩
  have c0 : Try.prog.cellsOf 3 = 1 := by kernel_rfl
  simp only [c0] at h0 h1 h2 h3
  obtain ⟨z0, e0, _, w0⟩ := DataW.trod_int Try.underlying3 h0
  obtain ⟨z1, e1, _, w1⟩ := DataW.trod_int Try.underlying3 h1
  obtain ⟨z2, e2, _, w2⟩ := DataW.trod_int Try.underlying3 h2
  obtain ⟨z3, e3, _, w3⟩ := DataW.trod_int Try.underlying3 h3
  simp at e0 e1 e2 e3
  exact ⟨(z0, z1, z2, z3), by rw [e0, e1, e2, e3]; rfl, w0, w1, w2, w3⟩
set_option maxRecDepth 100000 in
theorem vote_open {H : Type} {enc : TypeId × Value → H} {W : World} {base : Nat} {v : Value} {d : DataW H} {p : List MemPlace} (hv : Value.okWide Try.prog W .any base 39 v) (h : DataW.Trod enc Try.prog W 0 (fun _ => true) true 39 v d p) :
    ∃ c : VT, v = voteV c ∧ wfV c := by
  obtain ⟨cs, rfl, _⟩ := okWide_struct Try.underlying39 hv
  obtain ⟨n, hn⟩ := h
  obtain ⟨y, hy, hg⟩ := vote_rd _ _ _ hn
  refine ⟨y, ?_, hg⟩
  have : cs.toList = voteF y := hy
  unfold voteV
  rw [← Array.toArray_toList (xs := cs), this]
  rfl

theorem toVote_any (v : VT) (w : World) :
    Calls Try.prog 28 #[voteV v] w fun e w' => e = .returned (voteV v) ∧ Below w.heap.size w w' := by
  obtain ⟨a, b, c, d⟩ := v
  unfold voteV
  go_enter Try.func28, Try.ntmps28
  go_wp2
  refine bodyPost_ret (v := .agg #[_, _, _, _]) (by simp [results, Try.results28, go_sem]) rfl ⟨rfl, ?_⟩
  exact ba (ba (ba (Below.refl _ _) _) _) _



/-- four cells of a row of the call's own, set one behind the other -/
theorem own_four {w : World} {base g n cap : Nat} {e : TypeId} {xs : List Value} (h : w.ownsRow base e 4 (.slice (some ⟨g, 0, none⟩) n cap) n xs) (k : Nat) (hk : k < n) (a b c d : Value) :
    ∃ u0 u1 u2 u3, (w.cell? ⟨g, k * 4, none⟩ = some u0 ∧ w.frozen? ⟨g, k * 4, none⟩ = false) ∧ (w.cell? ⟨g, k * 4 + 1, none⟩ = some u1 ∧ (w.setCell ⟨g, k * 4, none⟩ a).cell? ⟨g, k * 4 + 1, none⟩ = some u1 ∧ (w.setCell ⟨g, k * 4, none⟩ a).frozen? ⟨g, k * 4 + 1, none⟩ = false) ∧
      (w.cell? ⟨g, k * 4 + 2, none⟩ = some u2 ∧ ((w.setCell ⟨g, k * 4, none⟩ a).setCell ⟨g, k * 4 + 1, none⟩ b).cell? ⟨g, k * 4 + 2, none⟩ = some u2 ∧ ((w.setCell ⟨g, k * 4, none⟩ a).setCell ⟨g, k * 4 + 1, none⟩ b).frozen? ⟨g, k * 4 + 2, none⟩ = false) ∧
      (w.cell? ⟨g, k * 4 + 3, none⟩ = some u3 ∧ (((w.setCell ⟨g, k * 4, none⟩ a).setCell ⟨g, k * 4 + 1, none⟩ b).setCell ⟨g, k * 4 + 2, none⟩ c).cell? ⟨g, k * 4 + 3, none⟩ = some u3 ∧ (((w.setCell ⟨g, k * 4, none⟩ a).setCell ⟨g, k * 4 + 1, none⟩ b).setCell ⟨g, k * 4 + 2, none⟩ c).frozen? ⟨g, k * 4 + 3, none⟩ = false) ∧
      ((((w.setCell ⟨g, k * 4, none⟩ a).setCell ⟨g, k * 4 + 1, none⟩ b).setCell ⟨g, k * 4 + 2, none⟩ c).setCell ⟨g, k * 4 + 3, none⟩ d).ownsRow base e 4 (.slice (some ⟨g, 0, none⟩) n cap) n ((((xs.set (k * 4) a).set (k * 4 + 1) b).set (k * 4 + 2) c).set (k * 4 + 3) d) ∧
      w.grownBy ((((w.setCell ⟨g, k * 4, none⟩ a).setCell ⟨g, k * 4 + 1, none⟩ b).setCell ⟨g, k * 4 + 2, none⟩ c).setCell ⟨g, k * 4 + 3, none⟩ d) (some g) := by
  have hl := h.1
  have b0 : k * 4 < xs.length := by omega
  have b1 : k * 4 + 1 < xs.length := by omega
  have b2 : k * 4 + 2 < xs.length := by omega
  have b3 : k * 4 + 3 < xs.length := by omega
  have s0 := h.stored (k * 4) a
  have s1 := s0.1.stored (k * 4 + 1) b
  have s2 := s1.1.stored (k * 4 + 2) c
  have s3 := s2.1.stored (k * 4 + 3) d
  refine ⟨xs[k * 4], xs[k * 4 + 1], xs[k * 4 + 2], xs[k * 4 + 3], ⟨?_, h.frozenAt _⟩, ⟨?_, ?_, s0.1.frozenAt _⟩, ⟨?_, ?_, s1.1.frozenAt _⟩, ⟨?_, ?_, s2.1.frozenAt _⟩, s3.1, grown_trans (grown_trans (grown_trans s0.2 s1.2) s2.2) s3.2⟩
  · rw [h.cellAt _ (by omega), List.getElem?_eq_getElem b0]
  · rw [h.cellAt _ (by omega), List.getElem?_eq_getElem b1]
  · rw [s0.1.cellAt _ (by omega), List.getElem?_set_ne (by omega), List.getElem?_eq_getElem b1]
  · rw [h.cellAt _ (by omega), List.getElem?_eq_getElem b2]
  · rw [s1.1.cellAt _ (by omega), List.getElem?_set_ne (by omega), List.getElem?_set_ne (by omega), List.getElem?_eq_getElem b2]
  · rw [h.cellAt _ (by omega), List.getElem?_eq_getElem b3]
  · rw [s2.1.cellAt _ (by omega), List.getElem?_set_ne (by omega), List.getElem?_set_ne (by omega), List.getElem?_set_ne (by omega), List.getElem?_eq_getElem b3]
theorem upTo_four {l : List VT} {xs : List Value} {k : Nat} (h : upToR voteF 4 l xs k) (hk : k < l.length) : upToR voteF 4 l ((((xs.set (k * 4) (.int .i64 l[k].1)).set (k * 4 + 1) (.int .i64 l[k].2.1)).set (k * 4 + 2) (.int .i64 l[k].2.2.1)).set (k * 4 + 3) (.int .i64 l[k].2.2.2)) (k + 1) := by
  have hl := h.1
  refine upToR_step voteF_len h hk (by simp) (fun j hj => ?_) (fun j hj => ?_)
  · rw [List.getElem?_set_ne (by omega), List.getElem?_set_ne (by omega), List.getElem?_set_ne (by omega), List.getElem?_set_ne (by omega)]
  · rcases (by omega : j = 0 ∨ j = 1 ∨ j = 2 ∨ j = 3) with rfl | rfl | rfl | rfl
    · rw [List.getElem?_set_ne (by omega), List.getElem?_set_ne (by omega), List.getElem?_set_ne (by omega), Nat.add_zero, List.getElem?_set_self (by omega)]; rfl
    · rw [List.getElem?_set_ne (by omega), List.getElem?_set_ne (by omega), List.getElem?_set_self (by simp; omega)]; rfl
    · rw [List.getElem?_set_ne (by omega), List.getElem?_set_self (by simp; omega)]; rfl
    · rw [List.getElem?_set_self (by simp; omega)]; rfl


end Go.Proofs.Ytnghhfgbobpnkam
