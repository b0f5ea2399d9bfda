/-
  Votes that were given twice: the contract of the specification's SaidTwice.
-/
import Derived.Test.YtnghhfgbobpnkaqVotesV
namespace Go.Proofs.Ytnghhfgbobpnkaq
open Go.RowKit Num

/-- two votes of one By, Phase and View, of unlike blocks -/
def twoV (a b : VT) : Bool := a.2.2.2 == b.2.2.2 && (a.1 == b.1 && (a.2.1 == b.2.1 && a.2.2.1 != b.2.2.1))
/-- .. among these votes, each with those ahead of it -/
def twiceB (l : List VT) : Bool := (List.range l.length).any fun i => (List.range i).any fun k => twoV (l.getD i (0, 0, 0, 0)) (l.getD k (0, 0, 0, 0))
/-- none of the first m is twice there, and none of the first j goes with m -/
def noTwo (l : List VT) (m j : Nat) : Prop := ∀ i k, k < i → (i < m ∨ (i = m ∧ k < j)) → twoV (l.getD i (0, 0, 0, 0)) (l.getD k (0, 0, 0, 0)) = false
theorem noTwo_zero (l : List VT) : noTwo l 0 0 := fun i k h1 h2 => by omega
theorem noTwo_next {l : List VT} {m : Nat} (h : noTwo l m m) : noTwo l (m + 1) 0 := fun i k h1 h2 => h i k h1 (by omega)
theorem noTwo_step {l : List VT} {m j : Nat} (hm : m < l.length) (hj : j < l.length) (h : noTwo l m j) (hn : twoV l[m] l[j] = false) : noTwo l m (j + 1) := fun i k h1 h2 => by
  by_cases e : i = m ∧ k = j
  · obtain ⟨rfl, rfl⟩ := e
    simpa [List.getD, hm, hj] using hn
  · exact h i k h1 (by omega)
theorem twice_no {l : List VT} {m : Nat} (h : noTwo l m 0) (hm : l.length ≤ m) : twiceB l = false := by
  unfold twiceB
  rw [List.any_eq_false]
  intro i hi
  rw [List.mem_range] at hi
  rw [Bool.not_eq_true, List.any_eq_false]
  intro k hk
  rw [List.mem_range] at hk
  rw [h i k hk (by omega)]
  decide
theorem twice_yes {l : List VT} {m j : Nat} (hm : m < l.length) (hj : j < m) (h : twoV l[m] (l[j]'(by omega)) = true) : twiceB l = true := by
  unfold twiceB
  rw [List.any_eq_true]
  refine ⟨m, by rw [List.mem_range]; exact hm, ?_⟩
  rw [List.any_eq_true]
  refine ⟨j, by rw [List.mem_range]; exact hj, ?_⟩
  have hj' : j < l.length := by omega
  simpa [List.getD, hm, hj'] using h

set_option maxRecDepth 100000 in
set_option maxHeartbeats 4000000 in
theorem saidTwice_s (l : List VT) (v : Value) (w : World) (hv : RowsR w v 4 voteF l) (hl : (l.length : Int) ≤ 1048576) :
    Calls Try.prog 22 #[v] w fun e w' => e = .returned (.bool (twiceB l)) ∧ Below w.heap.size w w' := by
  obtain ⟨a, cap, rfl, hr⟩ := hv
  have HR : Hid (0 < l.length → _) := hr
  clear hr
  go_enter Try.func22, Try.ntmps22
  go_wp2
  go_loopw [3] (fun i wr => ∃ m : Nat, m ≤ l.length ∧ i = .int .i64 (m : Int) ∧ Hid (noTwo l m 0) ∧ Below w.heap.size w wr) (fun i _ => l.length - (intOf i).toNat)
  case atStart => exact ⟨0, Nat.zero_le _, rfl, noTwo_zero l, Below.refl _ _⟩
  case round =>
    obtain ⟨m, hm, rfl, HN, hbel⟩ := hrel
    by_cases hlt : (m : Int) < l.length
    · have hmn : m < l.length := by omega
      obtain ⟨g, off, rfl, hg, hc⟩ := HR.out (by omega)
      have HB : Hid (Below w.heap.size w wr) := hbel
      have HC : Hid (∀ i (h : i < l.length) j, j < 4 → w.cell? ⟨g, off + i * 4 + j, none⟩ = (voteF l[i])[j]?) := hc
      have HG : Hid (g < w.heap.size) := hg
      clear hbel hc hg HR
      have q0 : (0 : Int) ≤ (m : Int) := by omega
      go_wp2
      go_loopw [4] (fun i wq => ∃ j : Nat, j ≤ m ∧ i = .int .i64 (j : Int) ∧ Hid (noTwo l m j) ∧ Hid (Below w.heap.size w wq)) (fun i _ => m - (intOf i).toNat)
      case atStart => exact ⟨0, Nat.zero_le _, rfl, HN.out, HB.out⟩
      case round =>
        obtain ⟨j, hj, rfl, HNJ, HBJ⟩ := hrel
        by_cases hjm : (j : Int) < m
        · have hjn : j < l.length := by omega
          have q1 : (0 : Int) ≤ (j : Int) := by omega
          have q2 : (j : Int) < l.length := by omega
          obtain ⟨x, hx⟩ : ∃ x, x = l[m] := ⟨_, rfl⟩
          obtain ⟨y, hy⟩ : ∃ y, y = l[j] := ⟨_, rfl⟩
          have HXY : Hid (x = l[m] ∧ y = l[j]) := ⟨hx, hy⟩
          obtain ⟨x0, x1, x2, x3⟩ := x
          obtain ⟨y0, y1, y2, y3⟩ := y
          have c0 : wr.cell? ⟨g, off + m * 4, none⟩ = some (.int .i64 x0) := by rw [HBJ.out.cell (by exact HG.out)]; have := HC.out m hmn 0 (by omega); rw [← hx] at this; exact this
          have d0 : wr.cell? ⟨g, off + j * 4, none⟩ = some (.int .i64 y0) := by rw [HBJ.out.cell (by exact HG.out)]; have := HC.out j hjn 0 (by omega); rw [← hy] at this; exact this
          have e0 : (wr.alloc (.cells #[.int .i64 x0, .int .i64 x1, .int .i64 x2, .int .i64 x3] 59)).cell? ⟨g, off + j * 4, none⟩ = some (.int .i64 y0) := by rw [((Below.refl wr.heap.size wr).alloc (Nat.le_refl _) _).cell (by exact Nat.lt_of_lt_of_le HG.out HBJ.out.size)]; exact d0
          have c1 : wr.cell? ⟨g, off + m * 4 + 1, none⟩ = some (.int .i64 x1) := by rw [HBJ.out.cell (by exact HG.out)]; have := HC.out m hmn 1 (by omega); rw [← hx] at this; exact this
          have d1 : wr.cell? ⟨g, off + j * 4 + 1, none⟩ = some (.int .i64 y1) := by rw [HBJ.out.cell (by exact HG.out)]; have := HC.out j hjn 1 (by omega); rw [← hy] at this; exact this
          have e1 : (wr.alloc (.cells #[.int .i64 x0, .int .i64 x1, .int .i64 x2, .int .i64 x3] 59)).cell? ⟨g, off + j * 4 + 1, none⟩ = some (.int .i64 y1) := by rw [((Below.refl wr.heap.size wr).alloc (Nat.le_refl _) _).cell (by exact Nat.lt_of_lt_of_le HG.out HBJ.out.size)]; exact d1
          have c2 : wr.cell? ⟨g, off + m * 4 + 2, none⟩ = some (.int .i64 x2) := by rw [HBJ.out.cell (by exact HG.out)]; have := HC.out m hmn 2 (by omega); rw [← hx] at this; exact this
          have d2 : wr.cell? ⟨g, off + j * 4 + 2, none⟩ = some (.int .i64 y2) := by rw [HBJ.out.cell (by exact HG.out)]; have := HC.out j hjn 2 (by omega); rw [← hy] at this; exact this
          have e2 : (wr.alloc (.cells #[.int .i64 x0, .int .i64 x1, .int .i64 x2, .int .i64 x3] 59)).cell? ⟨g, off + j * 4 + 2, none⟩ = some (.int .i64 y2) := by rw [((Below.refl wr.heap.size wr).alloc (Nat.le_refl _) _).cell (by exact Nat.lt_of_lt_of_le HG.out HBJ.out.size)]; exact d2
          have c3 : wr.cell? ⟨g, off + m * 4 + 3, none⟩ = some (.int .i64 x3) := by rw [HBJ.out.cell (by exact HG.out)]; have := HC.out m hmn 3 (by omega); rw [← hx] at this; exact this
          have d3 : wr.cell? ⟨g, off + j * 4 + 3, none⟩ = some (.int .i64 y3) := by rw [HBJ.out.cell (by exact HG.out)]; have := HC.out j hjn 3 (by omega); rw [← hy] at this; exact this
          have e3 : (wr.alloc (.cells #[.int .i64 x0, .int .i64 x1, .int .i64 x2, .int .i64 x3] 59)).cell? ⟨g, off + j * 4 + 3, none⟩ = some (.int .i64 y3) := by rw [((Below.refl wr.heap.size wr).alloc (Nat.le_refl _) _).cell (by exact Nat.lt_of_lt_of_le HG.out HBJ.out.size)]; exact d3
          have HBK : Hid (Below w.heap.size w ((wr.alloc (.cells #[.int .i64 x0, .int .i64 x1, .int .i64 x2, .int .i64 x3] 59)).alloc (.cells #[.int .i64 y0, .int .i64 y1, .int .i64 y2, .int .i64 y3] 59))) := ba (ba HBJ.out _) _
          clear hx hy
          by_cases k3 : x3 = y3
          · have b3 : (x3 == y3) = true := by simpa using k3
            by_cases k0 : x0 = y0
            · have b0 : (x0 == y0) = true := by simpa using k0
              by_cases k1 : x1 = y1
              · have b1 : (x1 == y1) = true := by simpa using k1
                by_cases k2 : x2 = y2
                · have b2 : (x2 != y2) = false := by simpa using k2
                  have HT : Hid (twoV l[m] l[j] = false) := (by rw [← HXY.out.1, ← HXY.out.2]; simp [twoV, b3, b0, b1, b2] : twoV l[m] l[j] = false)
                  try clear k3
                  try clear k0
                  try clear k1
                  try clear k2
                  go_wp2
                  go_roundw
                  case rel => exact ⟨j + 1, by omega, by go_num, noTwo_step hmn hjn HNJ.out HT.out, HBK.out⟩
                  case measure => simp [intOf]; omega
                · have b2 : (x2 != y2) = true := by simpa using k2
                  have HT : Hid (twiceB l = true) := twice_yes hmn (show j < m by omega) (by rw [← HXY.out.1, ← HXY.out.2]; simp [twoV, b3, b0, b1, b2])
                  clear k3 k0 k1 k2
                  go_wp2
                  go_ret
                  exact ⟨ret_bool HT.out.symm, HBK.out⟩
              · have b1 : (x1 == y1) = false := by simpa using k1
                have HT : Hid (twoV l[m] l[j] = false) := (by rw [← HXY.out.1, ← HXY.out.2]; simp [twoV, b3, b0, b1] : twoV l[m] l[j] = false)
                try clear k3
                try clear k0
                try clear k1
                try clear k2
                go_wp2
                go_roundw
                case rel => exact ⟨j + 1, by omega, by go_num, noTwo_step hmn hjn HNJ.out HT.out, HBK.out⟩
                case measure => simp [intOf]; omega
            · have b0 : (x0 == y0) = false := by simpa using k0
              have HT : Hid (twoV l[m] l[j] = false) := (by rw [← HXY.out.1, ← HXY.out.2]; simp [twoV, b3, b0] : twoV l[m] l[j] = false)
              try clear k3
              try clear k0
              try clear k1
              try clear k2
              go_wp2
              go_roundw
              case rel => exact ⟨j + 1, by omega, by go_num, noTwo_step hmn hjn HNJ.out HT.out, HBK.out⟩
              case measure => simp [intOf]; omega
          · have b3 : (x3 == y3) = false := by simpa using k3
            have HT : Hid (twoV l[m] l[j] = false) := (by rw [← HXY.out.1, ← HXY.out.2]; simp [twoV, b3] : twoV l[m] l[j] = false)
            try clear k3
            try clear k0
            try clear k1
            try clear k2
            go_wp2
            go_roundw
            case rel => exact ⟨j + 1, by omega, by go_num, noTwo_step hmn hjn HNJ.out HT.out, HBK.out⟩
            case measure => simp [intOf]; omega
        · have hjm2 : j = m := by omega
          have HJM : Hid (j = m) := hjm2
          clear hjm2
          go_wp2
          go_roundw
          case rel => exact ⟨m + 1, by omega, by go_num, noTwo_next (by have := HNJ.out; rw [HJM.out] at this; exact this), HBJ.out⟩
          case measure => simp [intOf]; omega
    · have HT : Hid (twiceB l = false) := twice_no HN.out (by omega)
      go_wp2
      go_ret
      exact ⟨ret_bool HT.out.symm, hbel⟩

end Go.Proofs.Ytnghhfgbobpnkaq
