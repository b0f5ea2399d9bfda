/-
  Blocks and trees that are drawn.
-/
import Derived.Test.YtfnneillakdopabBlockP
import Derived.Test.YtfnneillakdopabPutBS
import Derived.Test.YtfnneillakdopabDrawC2
import Derived.Deep.RegionHeld3
namespace Go.Proofs.Ytfnneillakdopab
open Go.RowKit Num

theorem onB_zero (t : List BK) (more : Int) (l : List CM) (ph : Int) : onB t 0 more l ph = ((((0 : Nat) : Int), viewAt t ((0 : Nat) : Int) + more), (l, (0, viewAt t ((0 : Nat) : Int), ((0 : Nat) : Int), 0))) := rfl
theorem onB_pos (t : List BK) {k : Nat} (hk : k ≠ 0) (more : Int) (l : List CM) (ph : Int) : onB t k more l ph = (((k : Int), viewAt t (k : Int) + more), (l, (ph, viewAt t (k : Int), (k : Int), 7))) := by
  unfold onB; rw [if_neg hk, if_neg hk]
set_option maxRecDepth 100000 in
set_option maxHeartbeats 800000 in
theorem on_s (ps : TL) (v : Value) (k : Nat) (more : Int) (l : List CM) (ac : Option Addr) (nc cc : Nat) (ph : Int) (w : World) (hT : TreeQ w v ps) (hk : k < ps.length) (hl : (ps.length : Int) ≤ 1048576) (hv : -1000000 ≤ viewAt (bks ps) k ∧ viewAt (bks ps) k ≤ 1000000) (hm : -1000000 ≤ more ∧ more ≤ 1000000) :
    Calls Try.prog 78 #[v, .int .i64 (k : Int), .int .i64 more, .slice ac nc cc, .int .i64 ph] w fun e w' => e = .returned (blkV (onB (bks ps) k more l ph) (.slice ac nc cc)) ∧ Below w.heap.size w w' := by
  obtain ⟨a, cap, rfl, hr⟩ := treeq_cells hT
  obtain ⟨g, off, rfl, hg, hc⟩ := hr (by omega)
  have hvw : viewAt (bks ps) (k : Int) = ps[k].1.1.2 := by rw [viewAt_at (by rw [bks_len]; exact hk), bks_at hk]
  have HV : Hid (viewAt (bks ps) (k : Int) = ps[k].1.1.2) := hvw
  rw [hvw] at hv
  obtain ⟨hv1, hv2⟩ := hv
  obtain ⟨hm1, hm2⟩ := hm
  have q0 : (0 : Int) ≤ (k : Int) := by omega
  have q1 : (k : Int) < ps.length := by omega
  have c1 : w.cell? ⟨g, off + k * 7 + 1, none⟩ = some (.int .i64 ps[k].1.1.2) := (hc k hk).2.1
  have HKP : Hid (∀ w', Below w.heap.size w w' → w'.cell? ⟨g, off + k * 7 + 1, none⟩ = some (.int .i64 ps[k].1.1.2)) := fun w' h' => by rw [h'.cell (by exact hg)]; exact (hc k hk).2.1
  clear hc hr hvw
  have hwrap : IntKind.i64.wrap (ps[k].1.1.2 + more) = ps[k].1.1.2 + more := by rw [IntKind.wrap_i64]; omega
  go_enter Try.func78, Try.ntmps78
  by_cases hz : 0 < (k : Int)
  · go_wp2
    go_region_held3 (fun w' => w'.cell? ⟨g, off + k * 7 + 1, none⟩ = some (.int .i64 ps[k].1.1.2)) (first | exact HKP.out _ (ba (Below.refl _ _) _).drew | exact HKP.out _ (ba (ba (Below.refl _ _) _).drew _)) (fail)
    clear hwrap c1
    go_wp2
    refine bodyPost_ret (v := .agg #[.int .i64 (k : Int), .int .i64 (ps[k].1.1.2 + more), .slice ac nc cc, .int .i64 ph, .int .i64 ps[k].1.1.2, .int .i64 (k : Int), .int .i64 7]) (by simp [results, Try.results78, go_sem]) rfl ⟨?_, ?_⟩
    · rw [onB_pos _ (by omega), HV.out]; rfl
    · exact (ba (ba (Below.refl _ _) _) _).drew
  · go_wp2
    go_region_held3 (fun w' => w'.cell? ⟨g, off + k * 7 + 1, none⟩ = some (.int .i64 ps[k].1.1.2)) (first | exact HKP.out _ (ba (Below.refl _ _) _).drew | exact HKP.out _ (ba (ba (Below.refl _ _) _).drew _)) (fail)
    clear hwrap c1
    go_wp2
    refine bodyPost_ret (v := .agg #[.int .i64 (k : Int), .int .i64 (ps[k].1.1.2 + more), .slice ac nc cc, .int .i64 0, .int .i64 ps[k].1.1.2, .int .i64 (k : Int), .int .i64 0]) (by simp [results, Try.results78, go_sem]) rfl ⟨?_, ?_⟩
    · have hk0 : k = 0 := by omega
      have hh := HV.out
      subst hk0
      rw [onB_zero, hh]; rfl
    · exact (ba (ba (Below.refl _ _) _) _).drew

end Go.Proofs.Ytfnneillakdopab
