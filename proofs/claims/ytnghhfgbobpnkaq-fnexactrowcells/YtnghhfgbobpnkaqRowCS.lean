/-
  The accounts that a row of blocks makes: the contract of the specification's RowCells.
-/
import Derived.Test.YtnghhfgbobpnkaqDoneAllS
import Derived.Test.YtnghhfgbobpnkaqBlkX
import Derived.Test.YtnghhfgbobpnkaqBlockS2
import Derived.Test.YtnghhfgbobpnkaqCellL
namespace Go.Proofs.Ytnghhfgbobpnkaq
open Go.RowKit Num

/-- the commands of a block of the tree; none of what is no block of it -/
def cmdsAt (t : List BK) (k : Int) : List CM := if 0 ≤ k ∧ k ≤ (t.length : Int) - 1 then (t[k.toNat]?.getD firstB).2.1 else []
def rowC (t : List BK) : CL → List Int → CL
  | cs, [] => cs
  | cs, k :: row => rowC t (doneAllC cs (cmdsAt t k)) row
theorem rowC_take (t : List BK) (row : List Int) : ∀ (cs : CL) (m : Nat) (h : m < row.length), rowC t cs (row.take (m + 1)) = doneAllC (rowC t cs (row.take m)) (cmdsAt t row[m]) := by
  induction row with
  | nil => intro cs m h; simp at h
  | cons k row ih =>
    intro cs m h
    cases m with
    | zero => rfl
    | succ m =>
      have := ih (doneAllC cs (cmdsAt t k)) m (by simpa using h)
      simpa [rowC] using this
theorem cmdsAt_ok {t : List BK} (h : okT t) (k : Int) : (∀ c ∈ cmdsAt t k, (c.2.1.size : Int) ≤ 1048576) ∧ ((cmdsAt t k).length : Int) ≤ 1048576 := by
  unfold cmdsAt
  split
  · rename_i hk
    have hlt : k.toNat < t.length := by omega
    rw [List.getElem?_eq_getElem hlt]
    have := h.2 _ (List.getElem_mem hlt)
    exact ⟨this.2, this.1⟩
  · exact ⟨fun c hc => (by cases hc), by simp⟩
theorem rowC_ok {t : List BK} (ht : okT t) (row : List Int) : ∀ cs, okL cs → okL (rowC t cs row) := by
  induction row with
  | nil => intro cs h; exact h
  | cons k row ih => intro cs h; exact ih _ (okL_all _ h (cmdsAt_ok ht k).1)

set_option maxRecDepth 100000 in
set_option maxHeartbeats 4000000 in
theorem rowCells_s (ps : TL) (v : Value) (row : List Int) (u : Value) (w : World) (hT : TreeQ w v ps) (hu : RowsR w u 1 intF row) (hk : okT (bks ps)) (hl : (row.length : Int) ≤ 1048576) :
    Calls Try.prog 10 #[v, u] w fun e w' => ∃ v', e = .returned v' ∧ w'.ownsRow w.heap.size 88 2 v' (rowC (bks ps) [] row).length (flat (rowC (bks ps) [] row)) ∧ Below w.heap.size w w' := by
  have HT := hid hT
  have HU := hid hu
  have HK := hid hk
  have hpl : (ps.length : Int) ≤ 1048576 := by have := hk.1; rw [bks_len] at this; exact this
  have HP : Hid ((bks ps).length = ps.length) := bks_len ps
  obtain ⟨a, cap, rfl, -⟩ := hT.1
  obtain ⟨b, cb, rfl, hr⟩ := hu
  have HR : Hid (0 < row.length → _) := hr
  clear hT hk hr
  go_enter Try.func10, Try.ntmps10
  go_wp2
  go_loopw [5, 6] (fun o i wr => ∃ m : Nat, m ≤ row.length ∧ i = .int .i64 (m : Int) ∧ Hid (wr.ownsRow w.heap.size 88 2 o (rowC (bks ps) [] (row.take m)).length (flat (rowC (bks ps) [] (row.take m)))) ∧ Hid (Below w.heap.size w wr)) (fun _ i _ => row.length - (intOf i).toNat)
  case atStart => exact ⟨0, Nat.zero_le _, rfl, own_new w _ _, ba (Below.refl _ _) _⟩
  case round =>
    obtain ⟨m, hm, rfl, HO, HB⟩ := hrel
    by_cases hlt : (m : Int) < row.length
    · have hmn : m < row.length := by omega
      obtain ⟨g, off, rfl, hg, hc⟩ := HR.out (by omega)
      have q0 : (0 : Int) ≤ (m : Int) := by omega
      obtain ⟨k, hk⟩ : ∃ k, k = row[m] := ⟨_, rfl⟩
      have c0 : wr.cell? ⟨g, off + m, none⟩ = some (.int .i64 k) := by rw [HB.out.cell (by exact hg), hk]; have := hc m hmn 0 (by omega); simpa [intF] using this
      have HS : Hid (rowC (bks ps) [] (row.take (m + 1)) = doneAllC (rowC (bks ps) [] (row.take m)) (cmdsAt (bks ps) k)) := (by rw [rowC_take _ _ _ _ hmn, hk] : rowC (bks ps) [] (row.take (m + 1)) = _)
      clear hc hk hg
      go_wp2_with fail
      refine (in_any k 0 ((ps.length : Int) - 1) wr).mono ?_
      rintro e w1 ⟨rfl, hw⟩
      obtain rfl := hw.symm
      clear hw
      by_cases hin : 0 ≤ k ∧ k ≤ (ps.length : Int) - 1
      · rw [inB_yes hin]
        obtain ⟨j, rfl⟩ : ∃ j : Nat, k = (j : Int) := ⟨k.toNat, by omega⟩
        have hjn : j < ps.length := by omega
        have hjl : (j : Int) < ps.length := by omega
        have HC : Hid (cmdsAt (bks ps) (j : Int) = ps[j].1.2.1) := (by unfold cmdsAt; rw [if_pos (by rw [HP.out]; exact hin)]; simp [bks, hjn] : cmdsAt (bks ps) (j : Int) = ps[j].1.2.1)
        obtain ⟨at', ct, et, ht⟩ := HT.out.1
        injection et with et1 _ et3
        subst et1 et3
        obtain ⟨gt, ot, rfl, hgt, hct⟩ := ht (by omega)
        have hcm := HT.out.2 ps[j] (List.getElem_mem hjn)
        have HCM : Hid (RowsR wr ps[j].2 3 cmdF ps[j].1.2.1) := hcm.below HB.out
        have HOK : Hid (okB ps[j].1) := okT_at HK.out hjn
        have c1 : wr.cell? ⟨gt, ot + j * 7 + 2, none⟩ = some ps[j].2 := by rw [HB.out.cell (by exact hgt)]; exact hct j hjn 2 (by omega)
        obtain ⟨cv, hcv⟩ : ∃ cv, cv = ps[j].2 := ⟨_, rfl⟩
        obtain ⟨l, hl'⟩ : ∃ l, l = ps[j].1.2.1 := ⟨_, rfl⟩
        rw [← hcv] at c1
        have HCM : Hid (RowsR wr cv 3 cmdF l ∧ (l.length : Int) ≤ 1048576 ∧ ∀ c ∈ l, (c.2.1.size : Int) ≤ 1048576) := (by rw [hcv, hl']; exact ⟨HCM.out, HOK.out⟩ : RowsR wr cv 3 cmdF l ∧ _ ∧ _)
        have HC : Hid (cmdsAt (bks ps) (j : Int) = l) := (by rw [HC.out, hl'] : cmdsAt (bks ps) (j : Int) = l)
        obtain ⟨ac, cc, ec, -⟩ := HCM.out.1
        subst ec
        clear hcv hl' hct hcm ht hgt
        go_wp2_with fail
        refine (doneAll_s _ l _ _ wr (cells_of_own HO.out) HCM.out.1 (rowC_ok HK.out _ _ ⟨by simp, fun c hc => by cases hc⟩) HCM.out.2.1 HCM.out.2.2).mono ?_
        rintro e w2 ⟨v1, v2, rfl, ho1, -, hb⟩
        have HO2 : Hid (w2.ownsRow w.heap.size 88 2 v1 (rowC (bks ps) [] (row.take (m + 1))).length (flat (rowC (bks ps) [] (row.take (m + 1))))) := (by rw [HS.out, HC.out]; exact own_base ho1 HB.out.size : w2.ownsRow _ _ _ _ _ _)
        have HB2 : Hid (Below w.heap.size w w2) := bt HB.out hb
        clear ho1 hb c0 c1
        go_wp2
        go_roundw
        case rel => exact ⟨m + 1, by omega, by go_num, HO2.out, HB2.out⟩
        case measure => simp [intOf]; omega
      · rw [inB_no hin]
        have HC : Hid (cmdsAt (bks ps) k = []) := (by unfold cmdsAt; rw [if_neg (by rw [HP.out]; exact hin)] : cmdsAt (bks ps) k = [])
        have HO2 : Hid (wr.ownsRow w.heap.size 88 2 u5 (rowC (bks ps) [] (row.take (m + 1))).length (flat (rowC (bks ps) [] (row.take (m + 1))))) := (by rw [HS.out, HC.out]; exact HO.out : wr.ownsRow _ _ _ _ _ _)
        clear hin c0
        go_wp2
        go_roundw
        case rel => exact ⟨m + 1, by omega, by go_num, HO2.out, HB.out⟩
        case measure => simp [intOf]; omega
    · have hml : m = row.length := by omega
      subst hml
      rw [List.take_length] at HO
      go_wp2
      go_ret
      exact ⟨_, rfl, HO.out, HB.out⟩

end Go.Proofs.Ytnghhfgbobpnkaq
