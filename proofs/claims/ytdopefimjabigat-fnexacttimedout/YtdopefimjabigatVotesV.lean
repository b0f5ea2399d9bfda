/-
  The contracts of the laws' own helpers over votes: how great they are, their copy, held against each other; votes that came in.
-/
import Derived.Test.YtdopefimjabigatJ0
import Derived.Lib.SmallJoins
namespace Go.Proofs.Ytdopefimjabigat
open Go.ChangeShapes Go.WideShapes Go.ChangeAt Go.RowKit Num

set_option maxRecDepth 100000 in
theorem vote_rd {H : Type} {enc : TypeId × Value → H} {W : World} : ∀ n cs x, DataW.trod enc Try.prog W 0 (fun _ => true) true n 25 cs = some x → ∃ v : VT, cs = voteF v ∧ wfV v := by
  intro n cs x h
  obtain ⟨y0, y1, y2, y3, k, _, hl, h0, h1, h2, h3⟩ := Go.Joins.trod_struct4 Try.underlying25 h
  have hl4 : cs.length = 4 := hl.trans (by kernel_rfl)
  obtain ⟨a, b, c, d, rfl⟩ : ∃ a b c d, cs = [a, b, c, d] := by
    match cs, hl4 with
    | [a, b, c, d], _ => exact ⟨a, b, c, d, rfl⟩
  have c0 : Try.prog.cellsOf 3 = 1 := by kernel_rfl
  simp only [c0] at h0 h1 h2 h3
  obtain ⟨z0, e0, _, w0⟩ := DataW.trod_int Try.underlying3 h0
  obtain ⟨z1, e1, _, w1⟩ := DataW.trod_int Try.underlying3 h1
  obtain ⟨z2, e2, _, w2⟩ := DataW.trod_int Try.underlying3 h2
  obtain ⟨z3, e3, _, w3⟩ := DataW.trod_int Try.underlying3 h3
  simp at e0 e1 e2 e3
  exact ⟨(z0, z1, z2, z3), by rw [e0, e1, e2, e3]; rfl, w0, w1, w2, w3⟩
set_option maxRecDepth 100000 in
theorem vote_open {H : Type} {enc : TypeId × Value → H} {W : World} {base : Nat} {v : Value} {d : DataW H} {p : List MemPlace} (hv : Value.okWide Try.prog W .any base 25 v) (h : DataW.Trod enc Try.prog W 0 (fun _ => true) true 25 v d p) :
    ∃ c : VT, v = voteV c ∧ wfV c := by
  obtain ⟨cs, rfl, _⟩ := okWide_struct Try.underlying25 hv
  obtain ⟨n, hn⟩ := h
  obtain ⟨y, hy, hg⟩ := vote_rd _ _ _ hn
  refine ⟨y, ?_, hg⟩
  have : cs.toList = voteF y := hy
  unfold voteV
  rw [← Array.toArray_toList (xs := cs), this]
  rfl
theorem votes_open {H : Type} {enc : TypeId × Value → H} {W : World} {a : Option Addr} {len cap : Nat} {d : DataW H} {p : List MemPlace} (h : DataW.Trod enc Try.prog W 0 (fun _ => true) true 29 (.slice a len cap) d p) :
    ∃ cs : List VT, cs.length = len ∧ RowsR W (.slice a len cap) 4 voteF cs ∧ cs.length ≤ maxLen ∧ ∀ c ∈ cs, wfV c :=
  rows_open Try.underlying29 (by kernel_rfl) (by decide) vote_rd h
theorem szVotes_any (n cap : Nat) (a : Option Addr) (left : Int) (w : World) (h0 : 0 ≤ left) (h1 : left ≤ 1048576) (hn : n ≤ maxLen) :
    Calls Try.prog 15 #[.slice a n cap, .int .i64 left] w fun e w' => e = .returned (.int .i64 (if left - (n : Int) < 0 then -1 else left - (n : Int))) ∧ w' = w := by
  unfold maxLen at hn
  by_cases h : left - (n : Int) < 0
  · rw [if_pos h]
    go_enter Try.func15, Try.ntmps15
    go_wp2
    go_ret
    exact ⟨rfl, rfl⟩
  · rw [if_neg h]
    go_enter Try.func15, Try.ntmps15
    go_wp2
    go_ret
    exact ⟨rfl, rfl⟩

theorem toVote_any (v : VT) (w : World) :
    Calls Try.prog 23 #[voteV v] w fun e w' => e = .returned (voteV v) ∧ Below w.heap.size w w' := by
  obtain ⟨a, b, c, d⟩ := v
  unfold voteV
  go_enter Try.func23, Try.ntmps23
  go_wp2
  refine bodyPost_ret (v := .agg #[_, _, _, _]) (by simp [results, Try.results23, go_sem]) rfl ⟨rfl, ?_⟩
  exact ba (ba (ba (Below.refl _ _) _) _) _

theorem eqVote_yes (v : VT) (w : World) :
    Calls Try.prog 34 #[voteV v, voteV v] w fun e w' => e = .returned (.bool true) ∧ Below w.heap.size w w' := by
  obtain ⟨a, b, c, d⟩ := v
  unfold voteV
  go_enter Try.func34, Try.ntmps34
  go_wp2
  go_ret
  exact ⟨rfl, ba (ba (Below.refl _ _) _) _⟩

set_option maxRecDepth 100000 in
set_option maxHeartbeats 1000000 in
theorem eqVotes_yes (l : List VT) (a b : Value) (w : World) (ha : RowsR w a 4 voteF l) (hb : RowsR w b 4 voteF l) (hl : (l.length : Int) ≤ 1048576) :
    Calls Try.prog 38 #[a, b] w fun e w' => e = .returned (.bool true) ∧ Below w.heap.size w w' := by
  obtain ⟨a, ca, rfl, hra⟩ := ha
  obtain ⟨b, cb, rfl, hrb⟩ := hb
  have HA : Hid (0 < l.length → _) := hra
  have HB : Hid (0 < l.length → _) := hrb
  clear hra hrb
  go_enter Try.func38, Try.ntmps38
  go_wp2
  go_loopw [5] (fun i wr => ∃ m : Nat, m ≤ l.length ∧ i = .int .i64 m ∧ Below w.heap.size w wr) (fun i _ => l.length - (intOf i).toNat)
  case atStart => exact ⟨0, Nat.zero_le _, rfl, Below.refl _ _⟩
  case round =>
    obtain ⟨m, hm, rfl, hbel⟩ := hrel
    by_cases hlt : (m : Int) < l.length
    · have q0 : (0 : Int) ≤ (m : Int) := by omega
      have hmn : m < l.length := by omega
      obtain ⟨ga, oa, rfl, hga, hca⟩ := HA.out (by omega)
      obtain ⟨gb, ob, rfl, hgb, hcb⟩ := HB.out (by omega)
      have hne := bw_some wr
      have c0 : ∀ x : Bw wr, x.to.cell? ⟨ga, oa + m * 4, none⟩ = some (.int .i64 l[m].1) := fun x => by rw [(bt hbel x.below).cell (by exact hga)]; exact hca m hmn 0 (by omega)
      have c1 : ∀ x : Bw wr, x.to.cell? ⟨ga, oa + m * 4 + 1, none⟩ = some (.int .i64 l[m].2.1) := fun x => by rw [(bt hbel x.below).cell (by exact hga)]; exact hca m hmn 1 (by omega)
      have c2 : ∀ x : Bw wr, x.to.cell? ⟨ga, oa + m * 4 + 2, none⟩ = some (.int .i64 l[m].2.2.1) := fun x => by rw [(bt hbel x.below).cell (by exact hga)]; exact hca m hmn 2 (by omega)
      have c3 : ∀ x : Bw wr, x.to.cell? ⟨ga, oa + m * 4 + 3, none⟩ = some (.int .i64 l[m].2.2.2) := fun x => by rw [(bt hbel x.below).cell (by exact hga)]; exact hca m hmn 3 (by omega)
      have d0 : ∀ x : Bw wr, x.to.cell? ⟨gb, ob + m * 4, none⟩ = some (.int .i64 l[m].1) := fun x => by rw [(bt hbel x.below).cell (by exact hgb)]; exact hcb m hmn 0 (by omega)
      have d1 : ∀ x : Bw wr, x.to.cell? ⟨gb, ob + m * 4 + 1, none⟩ = some (.int .i64 l[m].2.1) := fun x => by rw [(bt hbel x.below).cell (by exact hgb)]; exact hcb m hmn 1 (by omega)
      have d2 : ∀ x : Bw wr, x.to.cell? ⟨gb, ob + m * 4 + 2, none⟩ = some (.int .i64 l[m].2.2.1) := fun x => by rw [(bt hbel x.below).cell (by exact hgb)]; exact hcb m hmn 2 (by omega)
      have d3 : ∀ x : Bw wr, x.to.cell? ⟨gb, ob + m * 4 + 3, none⟩ = some (.int .i64 l[m].2.2.2) := fun x => by rw [(bt hbel x.below).cell (by exact hgb)]; exact hcb m hmn 3 (by omega)
      clear hca hcb
      go_wp2
      refine wp_region_bw (by kernel_rfl) (by kernel_rfl) ?_
      repeat (go_big_quiet_step (refine calls_bw (eqVote_yes l[m] _)))
      refine wpQuiet_nil ?_
      intro _ hw'
      obtain ⟨x, rfl⟩ := hw'
      go_wp2
      go_roundw
      case rel => exact ⟨m + 1, by omega, by go_num, bt hbel x.below⟩
      case measure => simp [intOf]; omega
    · go_wp2
      go_ret
      exact ⟨rfl, hbel⟩

/-- four cells of a row of the call's own, set one behind the other -/
theorem own_four {w : World} {base g n cap : Nat} {e : TypeId} {xs : List Value} (h : w.ownsRow base e 4 (.slice (some ⟨g, 0, none⟩) n cap) n xs) (k : Nat) (hk : k < n) (a b c d : Value) :
    ∃ u0 u1 u2 u3, (w.cell? ⟨g, k * 4, none⟩ = some u0 ∧ w.frozen? ⟨g, k * 4, none⟩ = false) ∧ (w.cell? ⟨g, k * 4 + 1, none⟩ = some u1 ∧ (w.setCell ⟨g, k * 4, none⟩ a).cell? ⟨g, k * 4 + 1, none⟩ = some u1 ∧ (w.setCell ⟨g, k * 4, none⟩ a).frozen? ⟨g, k * 4 + 1, none⟩ = false) ∧
      (w.cell? ⟨g, k * 4 + 2, none⟩ = some u2 ∧ ((w.setCell ⟨g, k * 4, none⟩ a).setCell ⟨g, k * 4 + 1, none⟩ b).cell? ⟨g, k * 4 + 2, none⟩ = some u2 ∧ ((w.setCell ⟨g, k * 4, none⟩ a).setCell ⟨g, k * 4 + 1, none⟩ b).frozen? ⟨g, k * 4 + 2, none⟩ = false) ∧
      (w.cell? ⟨g, k * 4 + 3, none⟩ = some u3 ∧ (((w.setCell ⟨g, k * 4, none⟩ a).setCell ⟨g, k * 4 + 1, none⟩ b).setCell ⟨g, k * 4 + 2, none⟩ c).cell? ⟨g, k * 4 + 3, none⟩ = some u3 ∧ (((w.setCell ⟨g, k * 4, none⟩ a).setCell ⟨g, k * 4 + 1, none⟩ b).setCell ⟨g, k * 4 + 2, none⟩ c).frozen? ⟨g, k * 4 + 3, none⟩ = false) ∧
      ((((w.setCell ⟨g, k * 4, none⟩ a).setCell ⟨g, k * 4 + 1, none⟩ b).setCell ⟨g, k * 4 + 2, none⟩ c).setCell ⟨g, k * 4 + 3, none⟩ d).ownsRow base e 4 (.slice (some ⟨g, 0, none⟩) n cap) n ((((xs.set (k * 4) a).set (k * 4 + 1) b).set (k * 4 + 2) c).set (k * 4 + 3) d) ∧
      w.grownBy ((((w.setCell ⟨g, k * 4, none⟩ a).setCell ⟨g, k * 4 + 1, none⟩ b).setCell ⟨g, k * 4 + 2, none⟩ c).setCell ⟨g, k * 4 + 3, none⟩ d) (some g) := by
  have hl := h.1
  have b0 : k * 4 < xs.length := by omega
  have b1 : k * 4 + 1 < xs.length := by omega
  have b2 : k * 4 + 2 < xs.length := by omega
  have b3 : k * 4 + 3 < xs.length := by omega
  have s0 := h.stored (k * 4) a
  have s1 := s0.1.stored (k * 4 + 1) b
  have s2 := s1.1.stored (k * 4 + 2) c
  have s3 := s2.1.stored (k * 4 + 3) d
  refine ⟨xs[k * 4], xs[k * 4 + 1], xs[k * 4 + 2], xs[k * 4 + 3], ⟨?_, h.frozenAt _⟩, ⟨?_, ?_, s0.1.frozenAt _⟩, ⟨?_, ?_, s1.1.frozenAt _⟩, ⟨?_, ?_, s2.1.frozenAt _⟩, s3.1, grown_trans (grown_trans (grown_trans s0.2 s1.2) s2.2) s3.2⟩
  · rw [h.cellAt _ (by omega), List.getElem?_eq_getElem b0]
  · rw [h.cellAt _ (by omega), List.getElem?_eq_getElem b1]
  · rw [s0.1.cellAt _ (by omega), List.getElem?_set_ne (by omega), List.getElem?_eq_getElem b1]
  · rw [h.cellAt _ (by omega), List.getElem?_eq_getElem b2]
  · rw [s1.1.cellAt _ (by omega), List.getElem?_set_ne (by omega), List.getElem?_set_ne (by omega), List.getElem?_eq_getElem b2]
  · rw [h.cellAt _ (by omega), List.getElem?_eq_getElem b3]
  · rw [s2.1.cellAt _ (by omega), List.getElem?_set_ne (by omega), List.getElem?_set_ne (by omega), List.getElem?_set_ne (by omega), List.getElem?_eq_getElem b3]
theorem upTo_four {l : List VT} {xs : List Value} {k : Nat} (h : upToR voteF 4 l xs k) (hk : k < l.length) : upToR voteF 4 l ((((xs.set (k * 4) (.int .i64 l[k].1)).set (k * 4 + 1) (.int .i64 l[k].2.1)).set (k * 4 + 2) (.int .i64 l[k].2.2.1)).set (k * 4 + 3) (.int .i64 l[k].2.2.2)) (k + 1) := by
  have hl := h.1
  refine upToR_step voteF_len h hk (by simp) (fun j hj => ?_) (fun j hj => ?_)
  · rw [List.getElem?_set_ne (by omega), List.getElem?_set_ne (by omega), List.getElem?_set_ne (by omega), List.getElem?_set_ne (by omega)]
  · rcases (by omega : j = 0 ∨ j = 1 ∨ j = 2 ∨ j = 3) with rfl | rfl | rfl | rfl
    · rw [List.getElem?_set_ne (by omega), List.getElem?_set_ne (by omega), List.getElem?_set_ne (by omega), Nat.add_zero, List.getElem?_set_self (by omega)]; rfl
    · rw [List.getElem?_set_ne (by omega), List.getElem?_set_ne (by omega), List.getElem?_set_self (by simp; omega)]; rfl
    · rw [List.getElem?_set_ne (by omega), List.getElem?_set_self (by simp; omega)]; rfl
    · rw [List.getElem?_set_self (by simp; omega)]; rfl

set_option maxRecDepth 100000 in
set_option maxHeartbeats 1000000 in
theorem toVotes_any (l : List VT) (v : Value) (w : World) (hv : RowsR w v 4 voteF l) (hl : (l.length : Int) ≤ 1048576) :
    Calls Try.prog 27 #[v] w fun e w' => ∃ v', e = .returned v' ∧ w'.ownsRow w.heap.size 35 4 v' l.length (flatR voteF l) ∧ Below w.heap.size w w' := by
  obtain ⟨i0, hi, hz0, hz1, hz2⟩ := info_parts infoVote
  obtain ⟨a, cap, rfl, hr⟩ := hv
  have HR : Hid (0 < l.length → _) := hr
  clear hr
  go_enter Try.func27, Try.ntmps27
  go_wp2_with (at_make; refine wpList_make_full _ rfl _ _ 38 rfl w.heap.size 35 i0 _ 4 Try.underlying38 hi hz0 hz1 _ _ _ _ l.length rfl rfl (by omega) (by omega) (by rw [hz2]; omega) (by unfold maxLen; omega) (Nat.le_refl _) ?_; intro w0 hown0 hgrow0)
  have hb0 : Below w.heap.size w w0 := (Below.refl _ _).grown hgrow0 (Nat.le_refl _) (fun k h => by cases h)
  have HO0 : Hid (w0.ownsRow w.heap.size 35 4 (.slice (some ⟨w.heap.size, 0, none⟩) l.length l.length) l.length _) := hown0
  clear hgrow0 hown0
  go_loopw [4] (fun i wr => ∃ (k : Nat) (xs : List Value), k ≤ l.length ∧ i = .int .i64 k ∧ Hid (upToR voteF 4 l xs k) ∧ Hid (wr.ownsRow w.heap.size 35 4 (.slice (some ⟨w.heap.size, 0, none⟩) l.length l.length) l.length xs) ∧ Below w.heap.size w wr) (fun i _ => l.length - (intOf i).toNat)
  case atStart => exact ⟨0, _, Nat.zero_le _, rfl, upToR_zero HO0.out.1, HO0.out, hb0⟩
  case round =>
    obtain ⟨k, xs, hk, rfl, HX, HO, hbel⟩ := hrel
    clear hb0
    by_cases hlt : (k : Int) < l.length
    · have hkn : k < l.length := by omega
      obtain ⟨g, off, rfl, hg, hc⟩ := HR.out (by omega)
      have c0 : wr.cell? ⟨g, off + k * 4, none⟩ = some (.int .i64 l[k].1) := by rw [hbel.cell (by exact hg)]; exact hc k hkn 0 (by omega)
      have c1 : wr.cell? ⟨g, off + k * 4 + 1, none⟩ = some (.int .i64 l[k].2.1) := by rw [hbel.cell (by exact hg)]; exact hc k hkn 1 (by omega)
      have c2 : wr.cell? ⟨g, off + k * 4 + 2, none⟩ = some (.int .i64 l[k].2.2.1) := by rw [hbel.cell (by exact hg)]; exact hc k hkn 2 (by omega)
      have c3 : wr.cell? ⟨g, off + k * 4 + 3, none⟩ = some (.int .i64 l[k].2.2.2) := by rw [hbel.cell (by exact hg)]; exact hc k hkn 3 (by omega)
      have q0 : (0 : Int) ≤ (k : Int) := by omega
      clear hc
      go_wp2_with fail
      refine (toVote_any l[k] wr).mono ?_
      rintro e w1 ⟨rfl, hb1⟩
      unfold voteV
      obtain ⟨u0, u1, u2, u3, ⟨x0, f0⟩, ⟨x1, x1', f1⟩, ⟨x2, x2', f2⟩, ⟨x3, x3', f3⟩, R, G⟩ := own_four (own_kept HO.out hb1) k hkn (.int .i64 l[k].1) (.int .i64 l[k].2.1) (.int .i64 l[k].2.2.1) (.int .i64 l[k].2.2.2)
      have HRR : Hid (World.ownsRow _ w.heap.size 35 4 (.slice (some ⟨w.heap.size, 0, none⟩) l.length l.length) l.length _) := R
      have HG : Hid (w1.grownBy _ (some w.heap.size)) := G
      have B1 := bt hbel hb1
      clear R G c0 c1 c2 c3 hb1
      go_wp2
      go_roundw
      case rel => exact ⟨k + 1, _, by omega, by go_num, upTo_four HX.out hkn, HRR.out, B1.grown HG.out B1.size (fun b hb => by cases hb; exact Nat.le_refl _)⟩
      case measure => simp [intOf]; omega
    · have hkl : k = l.length := by omega
      have HK : Hid (k = l.length) := hkl
      clear hkl
      go_wp2
      go_ret
      have hx := HX.out
      rw [HK.out] at hx
      exact ⟨_, rfl, by have := HO.out; rw [upToR_all voteF_len hx] at this; exact this, hbel⟩

end Go.Proofs.Ytdopefimjabigat
