/-
  The contracts of the program's functions on a map of accounts: how it is made, how an account is put into it.
-/
import Derived.Test.YtjdddcldbfhbiaaMapN
import Derived.Test.YtjdddcldbfhbiaaCmdI
namespace Go.Proofs.Ytjdddcldbfhbiaa
open Go.RowKit Num Go.Maps

theorem zeroI (w : World) : (zeroValue 3).run Try.prog w = .ok (.int .i64 0) w := by kernel_rfl
theorem mapT : Try.prog.underlying 83 = some (.map 9 3) := Try.underlying83
theorem makeM (t : TypeId) (n : Int) (w : World) (ht : Try.prog.underlying t = some (.map 9 3)) : (Instr.makeMap t (some (.int .i64 n))).run Try.prog w = .ok (.map (some w.heap.size)) (w.alloc (.map #[] 0)) := by
  simp [Instr.makeMap, run_underlying ht, asInt, Result.andThen]
  rfl

theorem keyS {k : ByteArray} (h : (k.size : Int) ≤ 1048576) : keyOf Try.prog 9 (.string k) = some (lk k) := WideMaps.keyOf_string_mk Try.underlying9 (by unfold maxLen; omega)
theorem elemI {n : Int} (h : 0 ≤ n ∧ n ≤ 1000000000) : plainElem (H := Unit) Try.prog 3 (.int .i64 n) = some (i64D n, []) := plainElem_int Try.underlying3 (WalkArith.wf_i64 ⟨by omega, by omega⟩)

set_option maxRecDepth 100000 in
set_option maxHeartbeats 2000000 in
theorem accounts_i (cs : CL) (v : Value) (w : World) (hv : Cells w v cs) (hcb : cellsB cs = true) (hall : ∀ c ∈ cs, (c.1.size : Int) ≤ 1048576) :
    Calls Try.prog 52 #[v] w fun e w' => e = .returned (.map (some w.heap.size)) ∧ MapIs w' w.heap.size cs ∧ Below w.heap.size w w' := by
  obtain ⟨hok, hA, hl⟩ := cellsB_iff.1 hcb
  have HOK : Hid (∀ c ∈ cs, keyB c.1 = true ∧ numB c.2 = true) := hok
  have HA : Hid (Asc cs) := hA
  have HZ : Hid (∀ c ∈ cs, (c.1.size : Int) ≤ 1048576) := hall
  obtain ⟨a, cap, rfl, hr⟩ := hv
  have HR : Hid (0 < cs.length → _) := hr
  have hmm := makeM 83 (cs.length : Int)
  clear hr hok hA hall hcb
  go_enter Try.func52, Try.ntmps52
  go_wp2
  go_loopw [11] (fun i wr => ∃ k : Nat, k ≤ cs.length ∧ i = .int .i64 (k : Int) ∧ MapIs wr w.heap.size (cs.take k) ∧ Below w.heap.size w wr) (fun i _ => cs.length - (intOf i).toNat)
  case atStart => exact ⟨0, Nat.zero_le _, rfl, map_made w, ba (Below.refl _ _) _⟩
  case round =>
    obtain ⟨k, hk, rfl, hmap, hbel⟩ := hrel
    by_cases hlt : (k : Int) < cs.length
    · have hkn : k < cs.length := by omega
      obtain ⟨g, off, rfl, hg, hc⟩ := HR.out (by omega)
      have q0 : (0 : Int) ≤ (k : Int) := by omega
      have c0 : wr.cell? ⟨g, off + k * 2, none⟩ = some (.string cs[k].1) := by rw [hbel.cell (by exact hg)]; exact (hc k hkn).1
      have c1 : wr.cell? ⟨g, off + k * 2 + 1, none⟩ = some (.int .i64 cs[k].2) := by rw [hbel.cell (by exact hg)]; exact (hc k hkn).2
      have hsz := HZ.out cs[k] (List.getElem_mem hkn)
      have hnb := numB_bd (HOK.out cs[k] (List.getElem_mem hkn)).2
      have hkey : keyOf Try.prog 9 (.string cs[k].1) = some (lk cs[k].1) := keyS hsz
      have hwf : plainElem (H := Unit) Try.prog 3 (.int .i64 cs[k].2) = some (i64D cs[k].2, []) := elemI hnb
      have hbs := hbel.size
      have hlt2 := hmap.lt
      obtain ⟨D, hD, hrep⟩ := hmap
      have hlen : (cs.take k).length < maxLen := by rw [List.length_take]; unfold maxLen; omega
      have HD : Hid (wr.ownsMap Try.prog 9 (plainElem Try.prog 3) w.heap.size (cs.take k).length D) := hD
      have HP : Hid (Rep (D.put (lk cs[k].1) (i64D cs[k].2)) (cs.take (k + 1))) := (by have := rep_put (hD.tidy keyedS) hrep (asc_take HA.out k) cs[k]; rw [putC_take HA.out hkn] at this; exact this : Rep (D.put (lk cs[k].1) (i64D cs[k].2)) (cs.take (k + 1)))
      have HK : Hid (keyOf Try.prog 9 (.string cs[k].1) = some (lk cs[k].1)) := hkey
      have HW : Hid (plainElem (H := Unit) Try.prog 3 (.int .i64 cs[k].2) = some (i64D cs[k].2, [])) := hwf
      clear hc hD hrep hkey hwf
      go_wp2_with (at_mapUpdate; refine wpList_mapUpdate_own _ rfl _ _ _ 83 rfl 9 3 keyedS mapT _ w.heap.size (cs.take k).length D rfl (HD.out.alloc _) hlen _ _ _ rfl rfl HK.out _ [] HW.out ?_; intro w1 hown1 hgrow1)
      go_roundw
      case rel => exact ⟨k + 1, by omega, by go_num, tight hown1 HP.out, (ba hbel _).grown hgrow1 (by simp; omega) fun b hb => by cases hb; exact Nat.le_refl _⟩
      case measure => simp [intOf]; omega
    · have hkl : k = cs.length := by omega
      have HK : Hid (k = cs.length) := hkl
      have HM : Hid (MapIs wr w.heap.size (cs.take k)) := hmap
      clear hkl hmap
      go_wp2
      go_ret
      have := HM.out
      rw [HK.out, List.take_length] at this
      exact ⟨rfl, this, hbel⟩

/-- what putting an account into a map tells -/
def putCode (cs : CL) (key : ByteArray) (num : Int) : Int := if numB num = false ∨ (hasK cs key = false ∧ 12 ≤ cs.length) then 2 else 0
/-- .. and leaves -/
def putRest (cs : CL) (key : ByteArray) (num : Int) : CL := if putCode cs key num = 0 then putC cs (key, num) else cs

set_option maxRecDepth 100000 in
set_option maxHeartbeats 2000000 in
theorem put_i (cs : CL) (b : Nat) (key : ByteArray) (num : Int) (w : World) (hm : MapIs w b cs) (hA : Asc cs) (hl : cs.length ≤ 12) (hk : (key.size : Int) ≤ 1048576) :
    Calls Try.prog 93 #[.map (some b), .string key, .int .i64 num] w fun e w' => e = .returned (.int .i64 (putCode cs key num)) ∧ MapIs w' b (putRest cs key num) ∧ w.grownBy w' (some b) := by
  cases hnb : numB num with
  | false =>
    have HM : Hid (MapIs w b cs) := hm
    have hcode : putCode cs key num = 2 := by unfold putCode; rw [if_pos (Or.inl hnb)]
    have hrest : putRest cs key num = cs := by unfold putRest; rw [hcode, if_neg (by decide)]
    rw [hcode, hrest]
    clear hm
    go_enter Try.func93, Try.ntmps93
    go_wp2_with (go_at_call 61; refine (numOk_i _ _).mono ?_; rintro e w' ⟨rfl, rfl⟩; rw [hnb])
    go_ret
    exact ⟨rfl, HM.out, ⟨rfl, rfl, rfl, Nat.le_refl _, fun _ _ _ => rfl⟩⟩
  | true =>
    obtain ⟨D, hD, hrep⟩ := hm
    have HD : Hid (w.ownsMap Try.prog 9 (plainElem Try.prog 3) b cs.length D) := hD
    have hkey := keyS hk
    have hel := elemI (numB_bd hnb)
    have HK : Hid (keyOf Try.prog 9 (.string key) = some (lk key)) := hkey
    have HW : Hid (plainElem (H := Unit) Try.prog 3 (.int .i64 num) = some (i64D num, [])) := hel
    have HP : Hid (Rep (D.put (lk key) (i64D num)) (putC cs (key, num))) := rep_put (hD.tidy keyedS) hrep hA (key, num)
    have hlen : cs.length < maxLen := by unfold maxLen; omega
    have hsz : Maps.size (D.put (lk key) (i64D num)) = (putC cs (key, num)).length := HP.out.1
    have hln := len_putC (x := (key, num)) hA
    by_cases hc : hasK cs key = false ∧ 12 ≤ cs.length
    · have hcode : putCode cs key num = 2 := by unfold putCode; rw [if_pos (Or.inr hc)]
      have hrest : putRest cs key num = cs := by unfold putRest; rw [hcode, if_neg (by decide)]
      have HU : Hid (Rep ((D.put (lk key) (i64D num)).del (lk key)) cs) := rep_undo (hD.tidy keyedS) hrep hc.1 _
      have hs13 : (12 : Int) < (Maps.size (D.put (lk key) (i64D num)) : Int) := by rw [hsz]; rw [hc.1] at hln; simp at hln; omega
      rw [hcode, hrest]
      clear hD hrep hkey hel hsz hln
      go_enter Try.func93, Try.ntmps93
      go_wp2_with (first
        | (go_at_call 61; refine (numOk_i _ _).mono ?_; rintro e w' ⟨rfl, rfl⟩; rw [hnb])
        | (at_mapUpdate; refine wpList_mapUpdate_own _ rfl _ _ _ 83 rfl 9 3 keyedS mapT _ b cs.length D rfl HD.out hlen _ _ _ rfl rfl HK.out _ [] HW.out ?_; intro w1 hown1 hgrow1)
        | (at_len; refine wpList_len_own _ rfl _ 83 rfl 9 3 mapT _ b _ _ rfl hown1 ?_)
        | (at_delete; refine wpList_delete_own _ rfl _ _ 83 9 rfl 3 keyedS mapT _ b _ _ rfl hown1 _ _ rfl HK.out ?_; intro w2 hown2 hturn2))
      go_ret
      exact ⟨rfl, tight hown2 HU.out, grown_trans hgrow1 hturn2.grown⟩
    · have hcode : putCode cs key num = 0 := by unfold putCode; rw [if_neg (fun h => h.elim (fun h => by rw [hnb] at h; cases h) hc)]
      have hrest : putRest cs key num = putC cs (key, num) := by unfold putRest; rw [hcode, if_pos rfl]
      have hs13 : (Maps.size (D.put (lk key) (i64D num)) : Int) ≤ 12 := by
        rw [hsz]
        cases hh : hasK cs key with
        | true => rw [hh] at hln; simp at hln; omega
        | false =>
          rw [hh] at hln; simp at hln
          have : ¬ 12 ≤ cs.length := fun h => hc ⟨hh, h⟩
          omega
      rw [hcode, hrest]
      clear hD hrep hkey hel hsz hln
      go_enter Try.func93, Try.ntmps93
      go_wp2_with (first
        | (go_at_call 61; refine (numOk_i _ _).mono ?_; rintro e w' ⟨rfl, rfl⟩; rw [hnb])
        | (at_mapUpdate; refine wpList_mapUpdate_own _ rfl _ _ _ 83 rfl 9 3 keyedS mapT _ b cs.length D rfl HD.out hlen _ _ _ rfl rfl HK.out _ [] HW.out ?_; intro w1 hown1 hgrow1)
        | (at_len; refine wpList_len_own _ rfl _ 83 rfl 9 3 mapT _ b _ _ rfl hown1 ?_))
      go_ret
      exact ⟨rfl, tight hown1 HP.out, hgrow1⟩


end Go.Proofs.Ytjdddcldbfhbiaa
