/-
  What the laws of votes draw: a vote.
-/
import Derived.Test.YtjdddcldbfhbiabDrawB5
import Derived.Test.YtjdddcldbfhbiabQcS
import Derived.Test.YtjdddcldbfhbiabVoteW
import Derived.Test.YtjdddcldbfhbiabAppE
namespace Go.Proofs.Ytjdddcldbfhbiab
open Go.RowKit Num

theorem wf_of {x : Int} (h0 : -9223372036854775808 ≤ x) (h1 : x ≤ 9223372036854775807) : (Lit.int .i64 x).wf = true := by
  have := wrap64_wf x
  rw [wrap64_fit h0 h1] at this
  exact this
/-- a drawn vote -/
def VD (t : List BK) (x : VT) : Prop := (1 ≤ x.1 ∧ x.1 ≤ 4) ∧ (0 ≤ x.2.1 ∧ x.2.1 ≤ 1000) ∧ (0 ≤ x.2.2.1 ∧ x.2.2.1 < (t.length : Int)) ∧ (0 ≤ x.2.2.2 ∧ x.2.2.2 ≤ 7)
theorem VD.wf {t : List BK} {x : VT} (h : VD t x) (ht : t.length ≤ 1000) : wfV x := by
  obtain ⟨h1, h2, h3, h4⟩ := h
  exact ⟨wf_of (by omega) (by omega), wf_of (by omega) (by omega), wf_of (by omega) (by omega), wf_of (by omega) (by omega)⟩

set_option maxRecDepth 100000 in
set_option maxHeartbeats 2000000 in
theorem vote7_st {w : World} {B base : Nat} {ao : Option Addr} {len cap b off : Nat} {v : Value} {qs : TL} {n : Nat} (h : St w B ao len cap b off) (ho : OwnU w base v qs) (hB : B < base) (hbt : BT (bks qs) n) (hn : n ≤ 1000) :
    Calls Try.prog 81 #[.pointer (Option.some ⟨B, 0, none⟩), v] w fun e w' => ∃ x : VT, e = .returned (voteV x) ∧ VD (bks qs) x ∧ St w' B ao len cap b off ∧ w.grownBy w' (Option.some B) := by
  have H : Hid (St w B ao len cap b off) := h
  have hBw := h.cur.lt
  have HO : Hid (OwnU w base v qs) := ho
  have HBT : Hid (BT (bks qs) n) := hbt
  have hqp : 0 < qs.length := by have := hbt.1; rw [bks_len] at this; exact this
  have hqn : qs.length ≤ 1000 := by have := hbt.2.1; rw [bks_len] at this; omega
  obtain ⟨a1, c1, h4, hz⟩ := own_form ho.row
  subst h4
  obtain ⟨g, rfl⟩ := hz hqp
  clear h ho hbt hz
  have hb : Below w.heap.size w (w.alloc (.cells #[.int .i64 0, .int .i64 0, .int .i64 0, .int .i64 0] 54)) := (Below.refl _ _).alloc (Nat.le_refl _) _
  have HB0 : Hid (Below w.heap.size w (w.alloc (.cells #[.int .i64 0, .int .i64 0, .int .i64 0, .int .i64 0] 54))) := hb
  clear hb
  go_enter Try.func81, Try.ntmps81
  go_wp2_with fail
  refine (below_st 4 (by omega) (by omega) (H.out.below HB0.out)).mono ?_
  rintro e w2 ⟨x, rfl, hx0, hx1, hS, hg⟩
  have HS2 : Hid (St w2 B ao len cap b off) := hS
  have HK2 : Hid (w2.heap[w.heap.size]? = Option.some (.cells #[.int .i64 0, .int .i64 0, .int .i64 0, .int .i64 0] 54 (0, 0))) := (hg.block w.heap.size (by simp) (fun e => by have := Option.some.inj e; omega)).trans (heap_alloc_new w _)
  have HG2 : Hid (w.grownBy w2 (Option.some B)) := grown_tr (grown_none HB0.out) hg
  clear hS hg
  go_wp2_with fail
  refine (below_st 4 (by omega) (by omega) HS2.out).mono ?_
  rintro e w3 ⟨y, rfl, hy0, hy1, hS, hg⟩
  have hs2 : w.heap.size < w2.heap.size := (Array.getElem?_eq_some_iff.1 HK2.out).1
  have HS3 : Hid (St w3 B ao len cap b off) := hS
  have HK3 : Hid (w3.heap[w.heap.size]? = Option.some (.cells #[.int .i64 0, .int .i64 0, .int .i64 0, .int .i64 0] 54 (0, 0))) := (hg.block w.heap.size hs2 (fun e => by have := Option.some.inj e; omega)).trans HK2.out
  have HG3 : Hid (w.grownBy w3 (Option.some B)) := grown_tr HG2.out hg
  clear hS hg
  go_wp2_with fail
  refine (below_st (qs.length : Int) (by omega) (by omega) HS3.out).mono ?_
  rintro e w4 ⟨z, rfl, hz0, hz1, hS, hg⟩
  have hs3 : w.heap.size < w3.heap.size := (Array.getElem?_eq_some_iff.1 HK3.out).1
  have HS4 : Hid (St w4 B ao len cap b off) := hS
  have HK4 : Hid (w4.heap[w.heap.size]? = Option.some (.cells #[.int .i64 0, .int .i64 0, .int .i64 0, .int .i64 0] 54 (0, 0))) := (hg.block w.heap.size hs3 (fun e => by have := Option.some.inj e; omega)).trans HK3.out
  have HG4 : Hid (w.grownBy w4 (Option.some B)) := grown_tr HG3.out hg
  clear hS hg
  obtain ⟨k, rfl⟩ := Int.eq_ofNat_of_zero_le hz0
  have hk : k < qs.length := by omega
  have HO4 : Hid (OwnU w4 base (.slice (some ⟨g, 0, none⟩) qs.length c1) qs) := HO.out.st HG4.out hB
  have y1 : w4.cell? ⟨g, k * 7 + 1, none⟩ = some (.int .i64 qs[k].1.1.2) := (own_blk HO4.out.row rfl hk).2.1
  have hvw : 0 ≤ qs[k].1.1.2 ∧ qs[k].1.1.2 ≤ 1000 := by
    have h1 := HBT.out.2.2 qs[k].1 (by unfold bks; exact List.mem_map_of_mem (List.getElem_mem hk))
    exact h1.2.2
  have HVD : Hid (VD (bks qs) (1 + x, qs[k].1.1.2, (k : Int), y)) := ⟨⟨by simp only; omega, by simp only; omega⟩, hvw, ⟨hz0, by simp only [bks_len]; omega⟩, ⟨hy0, by simp only; omega⟩⟩
  obtain ⟨⟨a0, f0⟩, ⟨a1', f1⟩, ⟨a2, f2⟩, ⟨a3, f3⟩, hk5, hg5⟩ := blk_four HK4.out (.int .i64 (1 + x)) (.int .i64 qs[k].1.1.2) (.int .i64 (k : Int)) (.int .i64 y)
  obtain ⟨z0, z1, z2, z3⟩ := vote_cells hk5
  have HG5 : Hid (w4.grownBy _ (Option.some w.heap.size)) := hg5
  clear hk5 hg5 hvw
  go_wp2
  refine bodyPost_ret (v := .agg #[.int .i64 (1 + x), .int .i64 qs[k].1.1.2, .int .i64 (k : Int), .int .i64 y]) (by simp [results, Try.results81, go_sem, z0, z1, z2, z3]) rfl ?_
  exact ⟨(1 + x, qs[k].1.1.2, (k : Int), y), rfl, HVD.out, HS4.out.other HG5.out (by omega) (fun hl e => by have := H.out.code.lt hl; omega), grown_two HG4.out (Nat.le_refl _) HG5.out⟩

end Go.Proofs.Ytjdddcldbfhbiab
