/-
  The contracts of the laws' own helpers over rows of commands.
-/
import Derived.Test.YtcfgfhodbjakoavCmdL
import Derived.Test.YtcfgfhodbjakoavCmdF
import Derived.Test.YtcfgfhodbjakoavJ1
import Derived.BigQuiet
namespace Go.Proofs.Ytcfgfhodbjakoav
open Go.RowKit Num

/-- what is left when the commands' sizes are taken off -/
def szq : List CM → Int → Int
  | [], left => left
  | c :: l, left => if left - c.2.1.size < 0 then -1 else szq l (left - c.2.1.size)
def szCmdsC (l : List CM) (left : Int) : Int := if left - l.length < 0 then -1 else szq l (left - l.length)
theorem szq_bd (l : List CM) : ∀ left : Int, left ≤ 1048576 → 0 ≤ szq l left → ∀ c ∈ l, (c.2.1.size : Int) ≤ 1048576 := by
  induction l with
  | nil => intro left _ _ c h; cases h
  | cons c l ih =>
    intro left hl h x hx
    unfold szq at h
    split at h
    · omega
    · rcases List.mem_cons.1 hx with rfl | hx
      · omega
      · exact ih _ (by omega) h x hx
theorem szCmds_bd {l : List CM} {left : Int} (hl : left ≤ 1048576) (h : 0 ≤ szCmdsC l left) : (l.length : Int) ≤ 1048576 ∧ ∀ c ∈ l, (c.2.1.size : Int) ≤ 1048576 := by
  unfold szCmdsC at h
  split at h
  · omega
  · exact ⟨by omega, szq_bd l _ (by omega) h⟩
theorem szq_drop (l : List CM) (k : Nat) (h : k < l.length) (left : Int) : szq (l.drop k) left = if left - (l[k].2.1.size : Int) < 0 then -1 else szq (l.drop (k + 1)) (left - l[k].2.1.size) := by
  rw [List.drop_eq_getElem_cons h]; rfl

set_option maxRecDepth 100000 in
set_option maxHeartbeats 1000000 in
theorem szCmds_any (l : List CM) (v : Value) (left : Int) (w : World) (h0 : 0 ≤ left) (h1 : left ≤ 1048576) (hv : RowsR w v 3 cmdF l) (hl : (l.length : Int) ≤ 9223372036854775807) (hall : ∀ c ∈ l, (c.2.1.size : Int) ≤ 9223372036854775807) :
    Calls Try.prog 14 #[v, .int .i64 left] w fun e w' => e = .returned (.int .i64 (szCmdsC l left)) ∧ Below w.heap.size w w' := by
  have HA : Hid (∀ c ∈ l, (c.2.1.size : Int) ≤ 9223372036854775807) := hall
  obtain ⟨a, cap, rfl, hr⟩ := hv
  clear hall
  by_cases hneg : left - l.length < 0
  · clear hr
    have e : szCmdsC l left = -1 := if_pos hneg
    rw [e]
    go_enter Try.func14, Try.ntmps14
    go_wp2
    go_ret
    exact ⟨rfl, Below.refl _ _⟩
  · have HE : Hid (szCmdsC l left = szq l (left - l.length)) := if_neg hneg
    have HR : Hid (0 < l.length → _) := hr
    clear hr
    go_enter Try.func14, Try.ntmps14
    go_wp2
    go_loopw [1, 5] (fun v i wr => ∃ (k : Nat) (q : Int), k ≤ l.length ∧ i = .int .i64 (k : Int) ∧ v = .int .i64 q ∧ 0 ≤ q ∧ q ≤ 1048576 ∧ Hid (szCmdsC l left = szq (l.drop k) q) ∧ Below w.heap.size w wr) (fun _ i _ => l.length - (intOf i).toNat)
    case atStart => exact ⟨0, left - l.length, Nat.zero_le _, rfl, rfl, by omega, by omega, HE.out, Below.refl _ _⟩
    case round =>
      obtain ⟨k, q, hk, rfl, rfl, hl0, hl1, HL, hbel⟩ := hrel
      by_cases hlt : (k : Int) < l.length
      · have hkn : k < l.length := by omega
        obtain ⟨g, off, rfl, hg, hc⟩ := HR.out (by omega)
        have c0 : wr.cell? ⟨g, off + k * 3, none⟩ = some (.int .i64 l[k].1) := by rw [hbel.cell (by exact hg)]; exact hc k hkn 0 (by omega)
        have c1 : wr.cell? ⟨g, off + k * 3 + 1, none⟩ = some (.string l[k].2.1) := by rw [hbel.cell (by exact hg)]; exact hc k hkn 1 (by omega)
        have c2 : wr.cell? ⟨g, off + k * 3 + 2, none⟩ = some (.int .i64 l[k].2.2) := by rw [hbel.cell (by exact hg)]; exact hc k hkn 2 (by omega)
        have hsz := HA.out l[k] (List.getElem_mem hkn)
        have HS : Hid (szq (l.drop k) q = _) := szq_drop l k hkn q
        have q0 : (0 : Int) ≤ (k : Int) := by omega
        clear hc
        go_wp2_with fail
        refine (szCmd_any l[k] q wr hl0 hl1 hsz).mono ?_
        rintro e w1 ⟨rfl, hb1⟩
        have B1 : Below w.heap.size w w1 := bt hbel hb1
        by_cases hn : q - (l[k].2.1.size : Int) < 0
        · rw [if_pos hn]
          go_wp2
          go_ret
          exact ⟨ret_int (by rw [HL.out, HS.out, if_pos hn]), B1⟩
        · rw [if_neg hn]
          have hn' : 0 ≤ q - (l[k].2.1.size : Int) := by omega
          go_wp2
          go_roundw
          case rel => exact ⟨k + 1, q - (l[k].2.1.size : Int), by omega, by go_num, rfl, hn', by omega, (show szCmdsC l left = szq (l.drop (k + 1)) (q - (l[k].2.1.size : Int)) from by rw [HL.out, HS.out, if_neg (Int.not_lt.2 hn')]), B1⟩
          case measure => simp [intOf]; omega
      · have hkl : k = l.length := by omega
        have HK : Hid (k = l.length) := hkl
        clear hkl
        go_wp2
        go_ret
        exact ⟨ret_int (by rw [HL.out, HK.out, List.drop_length]; rfl), hbel⟩

theorem infoCmd : (Try.prog.info? 93).map (fun i => (i.zero, i.size, i.bytes)) = some (some (.agg #[.int .i64 0, .string ByteArray.empty, .int .i64 0]), 3, 32) := by kernel_rfl

theorem upTo_three {l : List CM} {ys : List Value} {k : Nat} (h : upToR cmdF 3 l ys k) (hk : k < l.length) : upToR cmdF 3 l (((ys.set (k * 3) (.int .i64 l[k].1)).set (k * 3 + 1) (.string l[k].2.1)).set (k * 3 + 2) (.int .i64 l[k].2.2)) (k + 1) := by
  have hl := h.1
  refine upToR_step cmdF_len h hk (by simp) (fun j hj => ?_) (fun j hj => ?_)
  · rw [List.getElem?_set_ne (by omega), List.getElem?_set_ne (by omega), List.getElem?_set_ne (by omega)]
  · have : j = 0 ∨ j = 1 ∨ j = 2 := by omega
    rcases this with rfl | rfl | rfl
    · rw [List.getElem?_set_ne (by omega), List.getElem?_set_ne (by omega), Nat.add_zero, List.getElem?_set_self (by omega)]; rfl
    · rw [List.getElem?_set_ne (by omega), List.getElem?_set_self (by simp; omega)]; rfl
    · rw [List.getElem?_set_self (by simp; omega)]; rfl

set_option maxRecDepth 100000 in
set_option maxHeartbeats 1000000 in
theorem toCmds_any (l : List CM) (v : Value) (w : World) (hv : RowsR w v 3 cmdF l) (hl : (l.length : Int) ≤ 1048576) :
    Calls Try.prog 20 #[v] w fun e w' => ∃ v', e = .returned v' ∧ w'.ownsRow w.heap.size 93 3 v' l.length (flatR cmdF l) ∧ Below w.heap.size w w' := by
  obtain ⟨i0, hi, hz0, hz1, hz2⟩ := info_parts infoCmd
  obtain ⟨a, cap, rfl, hr⟩ := hv
  have HR : Hid (0 < l.length → _) := hr
  clear hr
  go_enter Try.func20, Try.ntmps20
  go_wp2_with (at_make; refine wpList_make_full _ rfl _ _ 41 rfl w.heap.size 93 i0 _ 3 Try.underlying41 hi hz0 hz1 _ _ _ _ l.length rfl rfl (by omega) (by omega) (by rw [hz2]; omega) (by unfold maxLen; omega) (Nat.le_refl _) ?_; intro w0 hown0 hgrow0)
  have hb0 : Below w.heap.size w w0 := (Below.refl _ _).grown hgrow0 (Nat.le_refl _) (fun k h => by cases h)
  have HO0 : Hid (w0.ownsRow w.heap.size 93 3 (.slice (some ⟨w.heap.size, 0, none⟩) l.length l.length) l.length _) := hown0
  clear hgrow0 hown0
  go_loopw [4] (fun i wr => ∃ (k : Nat) (xs : List Value), k ≤ l.length ∧ i = .int .i64 k ∧ Hid (upToR cmdF 3 l xs k) ∧ Hid (wr.ownsRow w.heap.size 93 3 (.slice (some ⟨w.heap.size, 0, none⟩) l.length l.length) l.length xs) ∧ Below w.heap.size w wr) (fun i _ => l.length - (intOf i).toNat)
  case atStart =>
    exact ⟨0, _, Nat.zero_le _, rfl, upToR_zero HO0.out.1, HO0.out, hb0⟩
  case round =>
    obtain ⟨k, xs, hk, rfl, HX, HO, hbel⟩ := hrel
    clear hb0
    by_cases hlt : (k : Int) < l.length
    · have hkn : k < l.length := by omega
      obtain ⟨g, off, rfl, hg, hc⟩ := HR.out (by omega)
      have c0 : wr.cell? ⟨g, off + k * 3, none⟩ = some (.int .i64 l[k].1) := by rw [hbel.cell (by exact hg)]; exact hc k hkn 0 (by omega)
      have c1 : wr.cell? ⟨g, off + k * 3 + 1, none⟩ = some (.string l[k].2.1) := by rw [hbel.cell (by exact hg)]; exact hc k hkn 1 (by omega)
      have c2 : wr.cell? ⟨g, off + k * 3 + 2, none⟩ = some (.int .i64 l[k].2.2) := by rw [hbel.cell (by exact hg)]; exact hc k hkn 2 (by omega)
      have q0 : (0 : Int) ≤ (k : Int) := by omega
      clear hc
      go_wp2_with fail
      refine (toCmd_any l[k] wr).mono ?_
      rintro e w1 ⟨rfl, hb1⟩
      unfold cmdV
      obtain ⟨u0, u1, u2, ⟨x0, f0⟩, ⟨x1, x1', f1⟩, ⟨x2, x2', f2⟩, R, G⟩ := own_three (own_kept HO.out hb1) k hkn (.int .i64 l[k].1) (.string l[k].2.1) (.int .i64 l[k].2.2)
      have HRR : Hid (World.ownsRow _ w.heap.size 93 3 (.slice (some ⟨w.heap.size, 0, none⟩) l.length l.length) l.length _) := R
      have HG : Hid (w1.grownBy _ (some w.heap.size)) := G
      have B1 := bt hbel hb1
      clear R G c0 c1 c2 hb1
      go_wp2
      go_roundw
      case rel => exact ⟨k + 1, _, by omega, by go_num, upTo_three HX.out hkn, HRR.out, B1.grown HG.out B1.size (fun b hb => by cases hb; exact Nat.le_refl _)⟩
      case measure => simp [intOf]; omega
    · have hkl : k = l.length := by omega
      have HK : Hid (k = l.length) := hkl
      clear hkl
      go_wp2
      go_ret
      have hx := HX.out
      rw [HK.out] at hx
      exact ⟨_, rfl, by have := HO.out; rw [upToR_all cmdF_len hx] at this; exact this, hbel⟩

end Go.Proofs.Ytcfgfhodbjakoav
