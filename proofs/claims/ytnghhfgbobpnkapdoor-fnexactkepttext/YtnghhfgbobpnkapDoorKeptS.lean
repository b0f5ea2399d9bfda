/-
  What a replica keeps, as a text: the contract of the specification's KeptText. (Made by gk9.py.)
-/
import Derived.Test.YtnghhfgbobpnkapDoorPeerX
import Derived.Test.YtnghhfgbobpnkapDoorFourS
import Derived.Test.YtnghhfgbobpnkapDoorSealS
namespace Go.Proofs.YtnghhfgbobpnkapDoor
open Go.RowKit Num

/-- a text sealed; nothing when it is too long -/
def sealT (s : ByteArray) : ByteArray := if s.size ≤ 20000 then s ++ strOfNums (seal4 (sumT s)) else ByteArray.empty
/-- what stands ahead of the row .. -/
def keptHd (p : PE) : ByteArray := lowT p.id ++ lowT p.view ++ qcTx p.high ++ qcTx p.lock ++ voteTx p.last ++ vT (p.row.length : Int)
/-- .. and the first k of it -/
def keptTo (p : PE) (k : Nat) : ByteArray := (p.row.take k).foldl (fun s n => s ++ lowT n) (keptHd p)
theorem keptTo_step {p : PE} {k : Nat} (h : k < p.row.length) : keptTo p (k + 1) = keptTo p k ++ lowT p.row[k] := by
  unfold keptTo; rw [List.take_add_one, List.getElem?_eq_getElem h, List.foldl_append]; rfl
def keptTx (p : PE) : ByteArray := keptTo p p.row.length
/-- its numbers are not too great -/
structure fitP (p : PE) : Prop where
  id : p.id ≤ 9223372036854775807
  view : p.view ≤ 9223372036854775807
  high : p.high.1 ≤ 9223372036854775807 ∧ p.high.2.1 ≤ 9223372036854775807 ∧ p.high.2.2.1 ≤ 9223372036854775807 ∧ p.high.2.2.2 ≤ 9223372036854775807
  lock : p.lock.1 ≤ 9223372036854775807 ∧ p.lock.2.1 ≤ 9223372036854775807 ∧ p.lock.2.2.1 ≤ 9223372036854775807 ∧ p.lock.2.2.2 ≤ 9223372036854775807
  last : p.last.1 ≤ 9223372036854775807 ∧ p.last.2.1 ≤ 9223372036854775807 ∧ p.last.2.2.1 ≤ 9223372036854775807 ∧ p.last.2.2.2 ≤ 9223372036854775807
  row : ∀ n ∈ p.row, n ≤ 9223372036854775807
  len : (p.row.length : Int) ≤ 1048576
theorem keptHd_size {p : PE} (h : fitP p) : (keptHd p).size ≤ 150 := by
  have z0 := lowT_size h.id
  have z1 := lowT_size h.view
  have z2 := fourT_size h.high.1 h.high.2.1 h.high.2.2.1 h.high.2.2.2
  have z3 := fourT_size h.lock.1 h.lock.2.1 h.lock.2.2.1 h.lock.2.2.2
  have z4 := fourT_size h.last.1 h.last.2.1 h.last.2.2.1 h.last.2.2.2
  have z5 := vT_size (n := (p.row.length : Int)) (by have := h.len; omega)
  unfold keptHd qcTx voteTx
  simp only [ByteArray.size_append]
  omega
theorem keptTo_size {p : PE} (h : fitP p) : ∀ k, k ≤ p.row.length → (keptTo p k).size ≤ 150 + 10 * k
  | 0, _ => by have := keptHd_size h; unfold keptTo; simpa using this
  | k + 1, hk => by
    have ih := keptTo_size h k (by omega)
    have := lowT_size (h.row _ (List.getElem_mem (show k < p.row.length from hk)))
    rw [keptTo_step (by omega), ByteArray.size_append]
    omega

set_option maxRecDepth 100000 in
set_option maxHeartbeats 8000000 in
theorem keptText_s (p : PE) (s : PV) (w : World) (hR : PeerR w p s) (hf : fitP p) :
    Calls Tryd.prog 10 #[peerV p s] w fun e w' => e = .returned (.string (sealT (keptTx p))) ∧ Below w.heap.size w w' := by
  have HR := hid hR
  have HF := hid hf
  have HTX : Hid (∀ k, k ≤ p.row.length → (keptTo p k).size ≤ 150 + 10 * k) := keptTo_size hf
  have HST : Hid (∀ k (h : k < p.row.length), keptTo p (k + 1) = keptTo p k ++ lowT p.row[k]) := fun k h => keptTo_step h
  have HHD : Hid (keptTo p 0 = keptHd p) := rfl
  obtain ⟨S0, hS0⟩ : ∃ S0, S0 = keptHd p := ⟨_, rfl⟩
  obtain ⟨KT, hKT⟩ : ∃ KT, KT = keptTo p := ⟨_, rfl⟩
  have HEX : Hid (keptTx p = KT p.row.length) := (by rw [hKT]; rfl : keptTx p = KT p.row.length)
  rw [← hKT] at HTX HST HHD
  have HHZ : Hid (KT 0 = S0) := (by rw [HHD.out, hS0] : KT 0 = S0)
  clear HHD
  have HS0 : Hid (S0 = keptHd p) := hS0
  have fid := hf.id
  have fvw := hf.view
  have fh := hf.high
  have fl := hf.lock
  have fa := hf.last
  have frw := hf.len
  clear hR hf hS0 hKT
  obtain ⟨id, view, ⟨h0, h1, h2, h3⟩, ⟨l0, l1, l2, l3⟩, ⟨a0, a1, a2, a3⟩, row, cells, early, undos, votes, news, shown⟩ := p
  simp only at fid fvw fh fl fa frw HTX HST HEX
  obtain ⟨fh0, fh1, fh2, fh3⟩ := fh
  obtain ⟨fl0, fl1, fl2, fl3⟩ := fl
  obtain ⟨fa0, fa1, fa2, fa3⟩ := fa
  obtain ⟨svr, svc, sve, svu, svv, svn⟩ := s
  obtain ⟨sar, scr, ser, -⟩ := HR.out.row
  change svr = _ at ser
  subst ser
  obtain ⟨sac, scc, sec, -⟩ := HR.out.cells
  change svc = _ at sec
  subst sec
  obtain ⟨sae, sce, see, -⟩ := HR.out.early
  change sve = _ at see
  subst see
  obtain ⟨sau, scu, seu, -⟩ := HR.out.undos
  change svu = _ at seu
  subst seu
  obtain ⟨sav, scv, sev, -⟩ := HR.out.votes
  change svv = _ at sev
  subst sev
  obtain ⟨san, scn, sen, -⟩ := HR.out.news
  change svn = _ at sen
  subst sen
  have HSS : Hid (S0 = lowT id ++ lowT view ++ fourT h0 h1 h2 h3 ++ fourT l0 l1 l2 l3 ++ fourT a0 a1 a2 a3 ++ vT (row.length : Int)) := (HS0.out : S0 = _)
  have z0 := lowT_size fid
  have z1 := lowT_size fvw
  have z2 := fourT_size fh0 fh1 fh2 fh3
  have z3 := fourT_size fl0 fl1 fl2 fl3
  have z4 := fourT_size fa0 fa1 fa2 fa3
  have z5 := vT_size (n := (row.length : Int)) (by omega)
  have b1 : (lowT id).size + (lowT view).size ≤ 9223372036854775807 := by omega
  have b2 : (lowT id ++ lowT view).size + (fourT h0 h1 h2 h3).size ≤ 9223372036854775807 := by simp only [ByteArray.size_append]; omega
  have b3 : (lowT id ++ lowT view ++ fourT h0 h1 h2 h3).size + (fourT l0 l1 l2 l3).size ≤ 9223372036854775807 := by simp only [ByteArray.size_append]; omega
  have b4 : (lowT id ++ lowT view ++ fourT h0 h1 h2 h3 ++ fourT l0 l1 l2 l3).size + (fourT a0 a1 a2 a3).size ≤ 9223372036854775807 := by simp only [ByteArray.size_append]; omega
  have b5 : (lowT id ++ lowT view ++ fourT h0 h1 h2 h3 ++ fourT l0 l1 l2 l3 ++ fourT a0 a1 a2 a3).size + (vT (row.length : Int)).size ≤ 9223372036854775807 := by simp only [ByteArray.size_append]; omega
  have n0 : (0 : Int) ≤ (row.length : Int) := by omega
  have n1 : (row.length : Int) ≤ 9223372036854775807 := by omega
  clear z0 z1 z2 z3 z4 z5
  unfold peerV peerA
  simp only
  obtain ⟨W1, hW1⟩ : ∃ W1, W1 = w.alloc (.cells #[.int .i64 id, .int .i64 view, .int .i64 h0, .int .i64 h1, .int .i64 h2, .int .i64 h3, .int .i64 l0, .int .i64 l1, .int .i64 l2, .int .i64 l3, .int .i64 a0, .int .i64 a1, .int .i64 a2, .int .i64 a3, .slice sar row.length scr, .slice sac cells.length scc, .slice sae early.length sce, .slice sau undos.length scu, .slice sav votes.length scv, .slice san news.length scn, .int .i64 shown] 48) := ⟨_, rfl⟩
  have HW : Hid (W1.heap[w.heap.size]? = some (.cells #[.int .i64 id, .int .i64 view, .int .i64 h0, .int .i64 h1, .int .i64 h2, .int .i64 h3, .int .i64 l0, .int .i64 l1, .int .i64 l2, .int .i64 l3, .int .i64 a0, .int .i64 a1, .int .i64 a2, .int .i64 a3, .slice sar row.length scr, .slice sac cells.length scc, .slice sae early.length sce, .slice sau undos.length scu, .slice sav votes.length scv, .slice san news.length scn, .int .i64 shown] 48 (0, 0)) ∧ Below w.heap.size w W1) := by
    rw [hW1]; exact ⟨heap_alloc_new w _, ba (Below.refl _ _) _⟩
  have l00 : w.heap.size < W1.heap.size := (Array.getElem?_eq_some_iff.1 HW.out.1).1
  have HX : Hid (∀ w', Below W1.heap.size W1 w' → w'.heap[w.heap.size]? = some (.cells #[.int .i64 id, .int .i64 view, .int .i64 h0, .int .i64 h1, .int .i64 h2, .int .i64 h3, .int .i64 l0, .int .i64 l1, .int .i64 l2, .int .i64 l3, .int .i64 a0, .int .i64 a1, .int .i64 a2, .int .i64 a3, .slice sar row.length scr, .slice sac cells.length scc, .slice sae early.length sce, .slice sau undos.length scu, .slice sav votes.length scv, .slice san news.length scn, .int .i64 shown] 48 (0, 0))) := fun w' h' => (h'.block _ l00).trans HW.out.1
  have hne := bw_some W1
  have y0 : ∀ x : Bw W1, x.to.cell? ⟨w.heap.size, 0, none⟩ = some (.int .i64 id) := fun x => blk_cell (HX.out _ x.below) 0 _ rfl
  have y1 : ∀ x : Bw W1, x.to.cell? ⟨w.heap.size, 1, none⟩ = some (.int .i64 view) := fun x => blk_cell (HX.out _ x.below) 1 _ rfl
  have y2 : ∀ x : Bw W1, x.to.cell? ⟨w.heap.size, 2, none⟩ = some (.int .i64 h0) := fun x => blk_cell (HX.out _ x.below) 2 _ rfl
  have y3 : ∀ x : Bw W1, x.to.cell? ⟨w.heap.size, 3, none⟩ = some (.int .i64 h1) := fun x => blk_cell (HX.out _ x.below) 3 _ rfl
  have y4 : ∀ x : Bw W1, x.to.cell? ⟨w.heap.size, 4, none⟩ = some (.int .i64 h2) := fun x => blk_cell (HX.out _ x.below) 4 _ rfl
  have y5 : ∀ x : Bw W1, x.to.cell? ⟨w.heap.size, 5, none⟩ = some (.int .i64 h3) := fun x => blk_cell (HX.out _ x.below) 5 _ rfl
  have y6 : ∀ x : Bw W1, x.to.cell? ⟨w.heap.size, 6, none⟩ = some (.int .i64 l0) := fun x => blk_cell (HX.out _ x.below) 6 _ rfl
  have y7 : ∀ x : Bw W1, x.to.cell? ⟨w.heap.size, 7, none⟩ = some (.int .i64 l1) := fun x => blk_cell (HX.out _ x.below) 7 _ rfl
  have y8 : ∀ x : Bw W1, x.to.cell? ⟨w.heap.size, 8, none⟩ = some (.int .i64 l2) := fun x => blk_cell (HX.out _ x.below) 8 _ rfl
  have y9 : ∀ x : Bw W1, x.to.cell? ⟨w.heap.size, 9, none⟩ = some (.int .i64 l3) := fun x => blk_cell (HX.out _ x.below) 9 _ rfl
  have y10 : ∀ x : Bw W1, x.to.cell? ⟨w.heap.size, 10, none⟩ = some (.int .i64 a0) := fun x => blk_cell (HX.out _ x.below) 10 _ rfl
  have y11 : ∀ x : Bw W1, x.to.cell? ⟨w.heap.size, 11, none⟩ = some (.int .i64 a1) := fun x => blk_cell (HX.out _ x.below) 11 _ rfl
  have y12 : ∀ x : Bw W1, x.to.cell? ⟨w.heap.size, 12, none⟩ = some (.int .i64 a2) := fun x => blk_cell (HX.out _ x.below) 12 _ rfl
  have y13 : ∀ x : Bw W1, x.to.cell? ⟨w.heap.size, 13, none⟩ = some (.int .i64 a3) := fun x => blk_cell (HX.out _ x.below) 13 _ rfl
  have y14 : ∀ x : Bw W1, x.to.cell? ⟨w.heap.size, 14, none⟩ = some (.slice sar row.length scr) := fun x => blk_cell (HX.out _ x.below) 14 _ rfl
  go_enter Tryd.func10, Tryd.ntmps10
  go_wp2
  rw [← hW1]
  clear hW1
  refine wp_region_bw (by kernel_rfl) (by kernel_rfl) ?_
  repeat (go_big_quiet_step (first | (go_at_call 33; (with_reducible refine calls_bw (low_s _ _ (by assumption)))) | (go_at_call 34; first | (with_reducible refine calls_bw (fourQ_s h0 h1 h2 h3 _ fh0 fh1 fh2 fh3)) | (with_reducible refine calls_bw (fourQ_s l0 l1 l2 l3 _ fl0 fl1 fl2 fl3))) | (go_at_call 35; (with_reducible refine calls_bw (fourV_s a0 a1 a2 a3 _ fa0 fa1 fa2 fa3))) | (go_at_call 36; (with_reducible refine calls_bw (var_big _ _ n0 n1)))))
  refine wpQuiet_nil ?_
  intro _ hw'
  obtain ⟨x, rfl⟩ := hw'
  have HB2 : Hid (Below W1.heap.size W1 x.to) := x.below
  obtain ⟨w2, hw2⟩ : ∃ w2, w2 = x.to := ⟨_, rfl⟩
  rw [← hw2] at HB2
  clear y0 y1 y2 y3 y4 y5 y6 y7 y8 y9 y10 y11 y12 y13 y14 b1 b2 b3 b4 b5
  go_wp2
  rw [← hw2, ← HSS.out, ← HHZ.out]
  clear hw2 hne
  go_loopw [3, 4] (fun o i wr => ∃ k : Nat, k ≤ row.length ∧ o = .string (KT k) ∧ i = .int .i64 (k : Int) ∧ Below W1.heap.size W1 wr) (fun _ i _ => row.length - (intOf i).toNat)
  case atStart => exact ⟨0, Nat.zero_le _, rfl, rfl, HB2.out⟩
  case round =>
    obtain ⟨k, hk, rfl, rfl, hbel⟩ := hrel
    have HB : Hid (Below W1.heap.size W1 wr) := hbel
    have y14 := blk_cell (HX.out _ hbel) 14 (.slice sar row.length scr) rfl
    have hts := HTX.out k hk
    clear hbel
    by_cases hlt : (k : Int) < row.length
    · have hkn : k < row.length := by omega
      have hrow := HR.out.row.below (bt HW.out.2 HB.out)
      obtain ⟨ar, cr, er, hr⟩ := hrow
      change Value.slice sar row.length scr = _ at er
      injection er with er1 _ er3
      subst er1 er3
      obtain ⟨g, off, rfl, hg, hc⟩ := hr (by exact Nat.lt_of_le_of_lt (Nat.zero_le _) hkn)
      have q0 : (0 : Int) ≤ (k : Int) := by omega
      have c0 : wr.cell? ⟨g, off + k, none⟩ = some (.int .i64 row[k]) := by have := hc k hkn 0 (by omega); simpa [intF] using this
      have fk : row[k] ≤ 9223372036854775807 := HF.out.row _ (List.getElem_mem hkn)
      have HSTk : Hid (KT (k + 1) = KT k ++ lowT row[k]) := HST.out k hkn
      obtain ⟨z, hz⟩ : ∃ z, z = row[k] := ⟨_, rfl⟩
      rw [← hz] at c0 fk HSTk
      have bz := lowT_size fk
      have b1 : (KT k).size + (lowT z).size ≤ 9223372036854775807 := by omega
      clear hc hr hz hg bz
      go_wp2_with fail
      refine (low_s z wr fk).mono ?_
      rintro e w3 ⟨rfl, hb⟩
      have HB3 : Hid (Below W1.heap.size W1 w3) := bt HB.out hb
      clear hb c0 y14
      go_wp2
      go_roundw
      case rel => exact ⟨k + 1, by omega, by rw [HSTk.out], by go_num, HB3.out⟩
      case measure => simp [intOf]; omega
    · have hkl : k = row.length := by omega
      subst hkl
      by_cases hsz : ((KT row.length).size : Int) ≤ 20000
      · have HE : Hid (sealT (KT row.length) = KT row.length ++ strOfNums (seal4 (sumT (KT row.length)))) := (by unfold sealT; rw [if_pos (by omega)] : sealT (KT row.length) = _)
        clear hts
        go_wp2_with fail
        refine (sealed_yes_s _ wr hsz).mono ?_
        rintro e w5 ⟨rfl, hb5⟩
        go_wp2
        go_ret
        exact ⟨ret_txt (by rw [HEX.out, HE.out]), bt HW.out.2 (bt HB.out hb5)⟩
      · have HE : Hid (sealT (KT row.length) = ByteArray.empty) := (by unfold sealT; rw [if_neg (by omega)] : sealT (KT row.length) = _)
        clear hts
        go_wp2_with fail
        refine (sealed_no_s _ wr (by omega)).mono ?_
        rintro e w5 ⟨rfl, hb5⟩
        go_wp2
        go_ret
        exact ⟨ret_txt (by rw [HEX.out, HE.out]), bt HW.out.2 (bt HB.out hb5)⟩

end Go.Proofs.YtnghhfgbobpnkapDoor
