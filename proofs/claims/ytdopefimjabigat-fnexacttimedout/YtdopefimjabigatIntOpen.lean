/-
  Rows of numbers that came in, as the walks want them; the laws' own copy of such a row.
-/
import Derived.Test.YtdopefimjabigatJ0
import Derived.BigQuiet
namespace Go.Proofs.Ytdopefimjabigat
open Go.ChangeShapes Go.WideShapes Go.ChangeAt Go.RowKit Num

/-- a number as it can be read -/
def goodInt (z : Int) : Prop := (Lit.int .i64 z).wf = true

theorem int_rd {H : Type} {enc : TypeId × Value → H} {W : World} : ∀ n cs x, DataW.trod enc Try.prog W 0 (fun _ => true) true n 3 cs = some x → ∃ y, cs = intF y ∧ goodInt y := by
  intro n cs x h
  obtain ⟨z0, e0, _, w0⟩ := DataW.trod_int Try.underlying3 h
  exact ⟨z0, by rw [e0]; rfl, w0⟩

theorem ints_open {H : Type} {enc : TypeId × Value → H} {W : World} {a : Option Addr} {len cap : Nat} {d : DataW H} {p : List MemPlace} (h : DataW.Trod enc Try.prog W 0 (fun _ => true) true 26 (.slice a len cap) d p) :
    ∃ cs : List Int, cs.length = len ∧ RowsR W (.slice a len cap) 1 intF cs ∧ cs.length ≤ maxLen ∧ ∀ c ∈ cs, goodInt c :=
  rows_open Try.underlying26 (by kernel_rfl) (by decide) int_rd h

theorem infoIntL : (Try.prog.info? 3).map (fun i => (i.zero, i.size, i.bytes)) = some (some (.int .i64 0), 1, 8) := by kernel_rfl
theorem upTo_int {l : List Int} {xs : List Value} {k : Nat} (h : upToR intF 1 l xs k) (hk : k < l.length) : upToR intF 1 l (xs.set k (.int .i64 l[k])) (k + 1) := by
  have hl := h.1
  refine upToR_step intF_len h hk (by simp) (fun j hj => ?_) (fun j hj => ?_)
  · rw [List.getElem?_set_ne (by omega)]
  · have : j = 0 := by omega
    subst this
    rw [Nat.mul_one, Nat.add_zero, List.getElem?_set_self (by omega)]; rfl

set_option maxRecDepth 100000 in
set_option maxHeartbeats 1000000 in
theorem toInts_any (l : List Int) (v : Value) (w : World) (hv : RowsR w v 1 intF l) (hl : (l.length : Int) ≤ 1048576) :
    Calls Try.prog 24 #[v] w fun e w' => ∃ v', e = .returned v' ∧ w'.ownsRow w.heap.size 3 1 v' l.length (flatR intF l) ∧ Below w.heap.size w w' := by
  obtain ⟨i0, hi, hz0, hz1, hz2⟩ := info_parts infoIntL
  obtain ⟨a, cap, rfl, hr⟩ := hv
  have HR : Hid (0 < l.length → _) := hr
  clear hr
  go_enter Try.func24, Try.ntmps24
  go_wp2_with (at_make; refine wpList_make_full _ rfl _ _ 26 rfl w.heap.size 3 i0 _ 1 Try.underlying26 hi hz0 hz1 _ _ _ _ l.length rfl rfl (by omega) (by omega) (by rw [hz2]; omega) (by unfold maxLen; omega) (Nat.le_refl _) ?_; intro w0 hown0 hgrow0)
  have hb0 : Below w.heap.size w w0 := (Below.refl _ _).grown hgrow0 (Nat.le_refl _) (fun k h => by cases h)
  have HO0 : Hid (w0.ownsRow w.heap.size 3 1 (.slice (some ⟨w.heap.size, 0, none⟩) l.length l.length) l.length _) := hown0
  clear hgrow0 hown0
  go_loopw [4] (fun i wr => ∃ (k : Nat) (xs : List Value), k ≤ l.length ∧ i = .int .i64 k ∧ Hid (upToR intF 1 l xs k) ∧ Hid (wr.ownsRow w.heap.size 3 1 (.slice (some ⟨w.heap.size, 0, none⟩) l.length l.length) l.length xs) ∧ Below w.heap.size w wr) (fun i _ => l.length - (intOf i).toNat)
  case atStart => exact ⟨0, _, Nat.zero_le _, rfl, upToR_zero HO0.out.1, HO0.out, hb0⟩
  case round =>
    obtain ⟨k, xs, hk, rfl, HX, HO, hbel⟩ := hrel
    clear hb0
    by_cases hlt : (k : Int) < l.length
    · have hkn : k < l.length := by omega
      obtain ⟨g, off, rfl, hg, hc⟩ := HR.out (by omega)
      have c0 : wr.cell? ⟨g, off + k, none⟩ = some (.int .i64 l[k]) := by rw [hbel.cell (by exact hg)]; have := hc k hkn 0 (by omega); rw [Nat.mul_one, Nat.add_zero] at this; exact this
      have q0 : (0 : Int) ≤ (k : Int) := by omega
      obtain ⟨x0, f0⟩ := own_cell HO.out k (by omega)
      have hxl : k < xs.length := by have := HX.out.1; omega
      rw [List.getElem?_eq_getElem hxl] at x0
      have S0 := HO.out.stored k (.int .i64 l[k])
      have HS : Hid ((wr.setCell ⟨w.heap.size, k, none⟩ (.int .i64 l[k])).ownsRow w.heap.size 3 1 (.slice (some ⟨w.heap.size, 0, none⟩) l.length l.length) l.length (xs.set k (.int .i64 l[k])) ∧ wr.grownBy (wr.setCell ⟨w.heap.size, k, none⟩ (.int .i64 l[k])) (some w.heap.size)) := S0
      clear hc S0
      go_wp2
      go_roundw
      case rel => exact ⟨k + 1, _, by omega, by go_num, upTo_int HX.out hkn, HS.out.1, hbel.grown HS.out.2 hbel.size (fun b hb => by cases hb; exact Nat.le_refl _)⟩
      case measure => simp [intOf]; omega
    · have hkl : k = l.length := by omega
      have HK : Hid (k = l.length) := hkl
      clear hkl
      go_wp2
      go_ret
      have hx := HX.out
      rw [HK.out] at hx
      exact ⟨_, rfl, by have := HO.out; rw [upToR_all intF_len hx] at this; exact this, hbel⟩

end Go.Proofs.Ytdopefimjabigat
