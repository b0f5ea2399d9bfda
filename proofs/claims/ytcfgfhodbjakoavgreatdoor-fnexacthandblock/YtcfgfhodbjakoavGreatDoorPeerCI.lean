/-
  A replica copied by the program, list by list: the contracts of newList, copyUndos, copyPeer.
-/
import Derived.Test.YtcfgfhodbjakoavGreatDoorJ3
import Derived.Test.YtcfgfhodbjakoavGreatDoorJ1
import Derived.Test.YtcfgfhodbjakoavGreatDoorCopyI
import Derived.Test.YtcfgfhodbjakoavGreatDoorRegH
import Derived.Deep.RegionHeld3
import Derived.Deep.AppendLies
namespace Go.Proofs.YtcfgfhodbjakoavGreatDoor
open Go.RowKit Num

theorem takeU_snoc {α : Type} {l : List α} {k : Nat} (h : k < l.length) : l.take (k + 1) = l.take k ++ [l[k]] := by
  rw [List.take_succ_eq_append_getElem h]
theorem newsPC (W : World) (u : UN) (t : TypeId) : ∀ j x, (undoF u)[j]? = some x → (W.alloc (.cells #[.string u.1, .bool u.2.1, .int .i64 u.2.2] t)).cell? ((⟨W.heap.size, 0, none⟩ : Addr).add j) = some x := by
  intro j u hj
  have hp : (⟨W.heap.size, 0, none⟩ : Addr).add j = ⟨W.heap.size, j, none⟩ := by unfold Addr.add; split <;> simp_all
  rw [hp, cell_of_row _ W.heap.size j _ _ (0, 0) (heap_alloc_new W _), ← hj]
  simp [undoF]
theorem none_below {w x : World} (hg : w.grownBy x none) : Below w.heap.size w x := (Below.refl _ _).grown hg (Nat.le_refl _) (fun k hk => by cases hk)

set_option maxRecDepth 100000 in
theorem newInts_i (l : List Int) (v : Value) (w : World) (h : RowsR w v 1 intF l) (hl : (l.length : Int) ≤ 1048576) :
    Calls Tryz.prog 157 #[v] w fun e w' => ∃ v', e = .returned v' ∧ w'.ownsRow w.heap.size 3 1 v' l.length (flatR intF l) ∧ Below w.heap.size w w' := by
  have HR := hid h
  obtain ⟨i0, hi, hz0, hz1, hz2⟩ := info_parts infoIntL
  clear h
  go_enter Tryz.func157, Tryz.ntmps157
  go_wp2_with (at_builtin; refine wpList_append_a _ rfl _ _ 109 rfl w.heap.size 3 i0 _ 8 Tryz.underlying109 hi hz0 hz1 hz2 rfl (by decide) intF_len intF_one_a _ [] rfl (World.ownsRow_nil _ _ _ _) _ l rfl HR.out (by simp; unfold maxLen; omega) (by simp; omega) (Nat.le_refl _) ?_; intro v1 x1 ho hg; have HO : Hid (x1.ownsRow w.heap.size 3 1 v1 l.length (flatR intF l)) := ho; have HB : Hid (Below w.heap.size w x1) := none_below hg; clear ho hg)
  go_ret
  exact ⟨_, rfl, HO.out, HB.out⟩

set_option maxRecDepth 100000 in
theorem newVotes_i (l : List VT) (v : Value) (w : World) (h : RowsR w v 4 voteF l) (hl : (l.length : Int) ≤ 1048576) :
    Calls Tryz.prog 145 #[v] w fun e w' => ∃ v', e = .returned v' ∧ w'.ownsRow w.heap.size 46 4 v' l.length (flatR voteF l) ∧ Below w.heap.size w w' := by
  have HR := hid h
  obtain ⟨i0, hi, hz0, hz1, hz2⟩ := info_parts infoVote
  clear h
  go_enter Tryz.func145, Tryz.ntmps145
  go_wp2_with (at_builtin; refine wpList_append_a _ rfl _ _ 40 rfl w.heap.size 46 i0 _ 32 Tryz.underlying40 hi hz0 hz1 hz2 rfl (by decide) voteF_len voteF_one _ [] rfl (World.ownsRow_nil _ _ _ _) _ l rfl HR.out (by simp; unfold maxLen; omega) (by simp; omega) (Nat.le_refl _) ?_; intro v1 x1 ho hg; have HO : Hid (x1.ownsRow w.heap.size 46 4 v1 l.length (flatR voteF l)) := ho; have HB : Hid (Below w.heap.size w x1) := none_below hg; clear ho hg)
  go_ret
  exact ⟨_, rfl, HO.out, HB.out⟩

set_option maxRecDepth 100000 in
theorem newLetters_i (l : List LT) (v : Value) (w : World) (h : RowsR w v 13 letF l) (hl : (l.length : Int) ≤ 1048576) :
    Calls Tryz.prog 144 #[v] w fun e w' => ∃ v', e = .returned v' ∧ w'.ownsRow w.heap.size 48 13 v' l.length (flatR letF l) ∧ Below w.heap.size w w' := by
  have HR := hid h
  obtain ⟨i0, hi, hz0, hz1, hz2⟩ := info_parts infoLetter
  clear h
  go_enter Tryz.func144, Tryz.ntmps144
  go_wp2_with (at_builtin; refine wpList_append_a _ rfl _ _ 39 rfl w.heap.size 48 i0 _ 104 Tryz.underlying39 hi hz0 hz1 hz2 rfl (by decide) letF_len letF_one _ [] rfl (World.ownsRow_nil _ _ _ _) _ l rfl HR.out (by simp; unfold maxLen; omega) (by simp; omega) (Nat.le_refl _) ?_; intro v1 x1 ho hg; have HO : Hid (x1.ownsRow w.heap.size 48 13 v1 l.length (flatR letF l)) := ho; have HB : Hid (Below w.heap.size w x1) := none_below hg; clear ho hg)
  go_ret
  exact ⟨_, rfl, HO.out, HB.out⟩

set_option maxRecDepth 100000 in
set_option maxHeartbeats 4000000 in
theorem copyUndos_i (l : List UN) (cv : Value) (w : World) (h : RowsR w cv 3 undoF l) (hl : (l.length : Int) ≤ 1048576) (hs : ∀ c ∈ l, (c.1.size : Int) ≤ 1048576) :
    Calls Tryz.prog 159 #[cv] w fun e w' => ∃ v', e = .returned v' ∧ w'.ownsRow w.heap.size 197 3 v' l.length (flatR undoF l) ∧ Below w.heap.size w w' := by
  obtain ⟨a, cap, rfl, hr⟩ := h
  have HR : Hid (0 < l.length → _) := hr
  have HZ : Hid (∀ c ∈ l, (c.1.size : Int) ≤ 1048576) := hs
  obtain ⟨i0, hi, hz0, hz1, hz2⟩ := info_parts infoUndo
  clear hr hs
  go_enter Tryz.func159, Tryz.ntmps159
  go_wp2
  go_loopw [3, 8] (fun o i wr => ∃ k : Nat, k ≤ l.length ∧ i = .int .i64 (k : Int) ∧ wr.ownsRow w.heap.size 197 3 o k (flatR undoF (l.take k)) ∧ Below w.heap.size w wr) (fun _ i _ => l.length - (intOf i).toNat)
  case atStart => exact ⟨0, Nat.zero_le _, rfl, World.ownsRow_nil _ _ _ _, Below.refl _ _⟩
  case round =>
    obtain ⟨k, hk, rfl, hown, hbel⟩ := hrel
    have HO : Hid (wr.ownsRow w.heap.size 197 3 u3 k (flatR undoF (l.take k))) := hown
    have HB : Hid (Below w.heap.size w wr) := hbel
    have hbs := hbel.size
    clear hown hbel
    by_cases hlt : (k : Int) < l.length
    · have hkn : k < l.length := by omega
      obtain ⟨g, off, rfl, hg, hc⟩ := HR.out (by omega)
      have q0 : (0 : Int) ≤ (k : Int) := by omega
      have c0 : wr.cell? ⟨g, off + k * 3, none⟩ = some (.string l[k].1) := by rw [HB.out.cell (by exact hg)]; exact hc k hkn 0 (by omega)
      have c1 : wr.cell? ⟨g, off + k * 3 + 1, none⟩ = some (.bool l[k].2.1) := by rw [HB.out.cell (by exact hg)]; exact hc k hkn 1 (by omega)
      have c2 : wr.cell? ⟨g, off + k * 3 + 2, none⟩ = some (.int .i64 l[k].2.2) := by rw [HB.out.cell (by exact hg)]; exact hc k hkn 2 (by omega)
      have hlim : l[k].1.size ≤ 281474976710656 := by have := HZ.out l[k] (List.getElem_mem hkn); omega
      obtain ⟨ws, hws⟩ : ∃ ws, ws = wr.alloc (Obj.cells #[Value.string l[k].1, Value.bool l[k].2.1, Value.int IntKind.i64 l[k].2.2] 197) := ⟨_, rfl⟩
      have hwss : ws.heap.size = wr.heap.size + 1 := by rw [hws]; simp
      have HS : Hid (∀ w', Below ws.heap.size ws w' → w'.cell? ⟨wr.heap.size, 0, none⟩ = some (.string l[k].1) ∧ w'.cell? ⟨wr.heap.size, 1, none⟩ = some (.bool l[k].2.1) ∧ w'.cell? ⟨wr.heap.size, 2, none⟩ = some (.int .i64 l[k].2.2)) := fun w' hb => by
        refine ⟨?_, ?_, ?_⟩ <;> rw [hb.cell (by simp [hwss]), hws] <;> simp
      have BS : Hid (Below wr.heap.size wr ws) := by rw [hws]; exact ba (Below.refl _ _) _
      have HOS : Hid (ws.ownsRow w.heap.size 197 3 u3 k (flatR undoF (l.take k))) := own_kept HO.out BS.out
      clear hc
      go_wp2
      rw [← hws]
      clear hws
      go_region_held3 (fun w' => w'.cell? ⟨wr.heap.size, 0, none⟩ = some (.string l[k].1) ∧ w'.cell? ⟨wr.heap.size, 1, none⟩ = some (.bool l[k].2.1) ∧ w'.cell? ⟨wr.heap.size, 2, none⟩ = some (.int .i64 l[k].2.2)) (first | exact HS.out _ (Below.refl _ _).drew | exact HS.out _ hbc | exact HS.out _ (ba hbc _) | exact hs3) (first | (refine step_append_lies _ (by rfl) (.tmp 12) (.tmp 21) 122 (by rfl) w.heap.size 197 i0 _ 3 32 Tryz.underlying122 hi hz0 hz1 hz2 rfl (by decide) _ _ _ (by rfl) (World.ownsRow.alloc HO2.out _) ⟨World.heap _ |>.size, 0, none⟩ 1 1 (undoF l[k]) (by rfl) rfl (newsPC _ l[k] _) (undoF_one l[k]) (by decide) (by unfold maxLen; omega) (by omega) (by simp; omega) _ rfl ?_; intro g2 cap2 w3 hown3 hgrow3 hx1 hx2; clear hx1 hx2; have hb3 : Below w.heap.size w w3 := (ba (bt (bt HB.out BS.out) hbc) _).grown hgrow3 (by simp; omega) (fun x hx => (HO2.out.lt x hx).1); have hs3 : w3.cell? ⟨wr.heap.size, 0, none⟩ = some (.string l[k].1) ∧ w3.cell? ⟨wr.heap.size, 1, none⟩ = some (.bool l[k].2.1) ∧ w3.cell? ⟨wr.heap.size, 2, none⟩ = some (.int .i64 l[k].2.2) := (by have h2 := HS.out _ (ba hbc (Obj.cells #[Value.string l[k].1, Value.bool l[k].2.1, Value.int IntKind.i64 l[k].2.2] 197)); rw [← h2.1, ← h2.2.1, ← h2.2.2]; exact ⟨grown_cell hgrow3 (by simp; omega) (fun e => by have := (HO.out.lt _ e).2; omega), grown_cell hgrow3 (by simp; omega) (fun e => by have := (HO.out.lt _ e).2; omega), grown_cell hgrow3 (by simp; omega) (fun e => by have := (HO.out.lt _ e).2; omega)⟩)) | (go_at_call 160; refine (clone _ _ hlim).mono ?_; rintro e w2 ⟨rfl, hb2⟩; have hbc : Below ws.heap.size ws w2 := (Below.refl _ _).drew.trans hb2; have HO2 : Hid (w2.ownsRow w.heap.size 197 3 u3 k (flatR undoF (l.take k))) := own_kept HOS.out hbc; have hbs2 := hbc.size))
      all_goals
        have HO3 : Hid (w3.ownsRow w.heap.size 197 3 (.slice (some ⟨g2, 0, none⟩) (k + 1) cap2) (k + 1) (flatR undoF (l.take k) ++ undoF l[k])) := hown3
        clear hown3 hgrow3 hs3
        go_wp2
        go_roundw
        case rel => exact ⟨k + 1, by omega, by go_num, by rw [takeU_snoc hkn, flatR_append, show flatR undoF [l[k]] = undoF l[k] by simp [flatR]]; exact HO3.out, hb3⟩
        case measure => simp [intOf]; omega
    · have hkl : k = l.length := by omega
      have HK : Hid (k = l.length) := hkl
      clear hkl
      go_wp2
      go_ret
      have := HO.out
      rw [HK.out, List.take_length] at this
      exact ⟨_, rfl, this, HB.out⟩

/-- two boxes: of the one that came in, of the answer -/
structure Bx2 (w y : World) (A Z : Array Value) : Prop where
  below : Below w.heap.size w y
  box : y.heap[w.heap.size]? = some (.cells A 124 (0, 0))
  zero : y.heap[w.heap.size + 1]? = some (.cells Z 124 (0, 0))
theorem Bx2.lt {w y : World} {A Z : Array Value} (h : Bx2 w y A Z) : w.heap.size + 1 < y.heap.size := (Array.getElem?_eq_some_iff.1 h.zero).1
theorem Bx2.more {w y x : World} {A Z : Array Value} (h : Bx2 w y A Z) (hb : Below y.heap.size y x) : Bx2 w x A Z := by
  have := h.lt
  exact ⟨bt h.below hb, (hb.block _ (by omega)).trans h.box, (hb.block _ (by omega)).trans h.zero⟩
theorem Bx2.put {w y x : World} {A A' Z : Array Value} (h : Bx2 w y A Z) (hg : y.grownBy x (some w.heap.size)) (hk : x.heap[w.heap.size]? = some (.cells A' 124 (0, 0))) : Bx2 w x A' Z := by
  have := h.lt
  exact ⟨h.below.grown hg h.below.size (fun k hk => by cases hk; omega), hk, (hg.block _ (by omega) (fun e => by have := Option.some.inj e; omega)).trans h.zero⟩
theorem two_boxes (w : World) (A Z : Array Value) : Bx2 w ((w.alloc (.cells A 124)).alloc (.cells Z 124)) A Z := ⟨ba (ba (Below.refl _ _) _) _, (alloc2 w _ _).1, (alloc2 w _ _).2⟩
/-- .. without its lists -/
def bareP (p : PE) : PE := { p with row := [], cells := [], early := [], undos := [], votes := [], news := [] }

set_option maxRecDepth 100000 in
set_option maxHeartbeats 16000000 in
theorem copyPeer_i (p : PE) (s : PV) (w : World) (hR : PeerR w p s) (hs : smallPe p) :
    Calls Tryz.prog 143 #[peerV p s] w fun e w' => ∃ s', e = .returned (peerV p s') ∧ OwnD w.heap.size w'.heap.size w' p s' ∧ Below w.heap.size w w' := by
  have HR := hid hR
  have HS := hid hs
  have hz1 := hs.row
  have hz2 := hs.cells
  have hz3 := hs.early
  have hz4 := hs.undos
  have hz5 := hs.votes
  have hz6 := hs.news
  clear hR hs
  obtain ⟨W, hW⟩ : ∃ W, W = (w.alloc (.cells (peerA p s) 124)).alloc (.cells zeroA 124) := ⟨_, rfl⟩
  have HY0 : Hid (Bx2 w W (peerA p s) zeroA) := (by rw [hW]; exact two_boxes w _ _ : Bx2 w W (peerA p s) zeroA)
  have HD0 : Hid (OwnD w.heap.size W.heap.size W (bareP p) nilS) := (nil_own w.heap.size W p.id).other rfl rfl rfl rfl rfl rfl
  unfold zeroA at hW
  go_enter Tryz.func143, Tryz.ntmps143
  go_wp2
  rw [← hW]
  clear hW
  refine wp_region_P (fun i => decide (i < 7)) (fun x => x.heap[w.heap.size]? = some (.cells (peerA p (⟨s.row, s.cells, s.early, s.undos, s.votes, s.news⟩ : PV)) 124 (0, 0))) (by kernel_rfl) ?_
  show wpAnyP Tryz.prog _ _ _ _ _ (9 + 1) (Array.replicate 10 false) _ _
  have hS : W.drew.heap[w.heap.size]? = some (.cells (peerA p (⟨s.row, s.cells, s.early, s.undos, s.votes, s.news⟩ : PV)) 124 (0, 0)) := HY0.out.box
  refine p_take (j := 0) (e' := some 3) (v := .pointer (some ⟨w.heap.size, 14, none⟩)) rfl rfl (by kernel_rfl) (by kernel_rfl) (by kernel_rfl) (by kernel_rfl) (by kernel_rfl) (fun _ _ _ h => h) (Or.inl ⟨by rfl, ?_⟩) hS ?_
  · intro x hx
    go_simp
    try with_reducible rfl
  simp only [Act.put, List.setIfInBounds_toArray, List.set_cons_zero, List.set_cons_succ]
  refine p_take (j := 1) (e' := some 4) (v := s.row) rfl rfl (by kernel_rfl) (by kernel_rfl) (by kernel_rfl) (by kernel_rfl) (by kernel_rfl) (fun _ _ _ h => h) (Or.inl ⟨by rfl, ?_⟩) hS ?_
  · intro x hx
    have c := blk_cell hx 14 s.row rfl
    go_simp
    try with_reducible rfl
  simp only [Act.put, List.setIfInBounds_toArray, List.set_cons_zero, List.set_cons_succ]
  refine p_take (j := 3) (e' := some 6) (v := .pointer (some ⟨w.heap.size, 16, none⟩)) rfl rfl (by kernel_rfl) (by kernel_rfl) (by kernel_rfl) (by kernel_rfl) (by kernel_rfl) (fun _ _ _ h => h) (Or.inl ⟨by rfl, ?_⟩) hS ?_
  · intro x hx
    go_simp
    try with_reducible rfl
  simp only [Act.put, List.setIfInBounds_toArray, List.set_cons_zero, List.set_cons_succ]
  refine p_take (j := 4) (e' := some 7) (v := s.early) rfl rfl (by kernel_rfl) (by kernel_rfl) (by kernel_rfl) (by kernel_rfl) (by kernel_rfl) (fun _ _ _ h => h) (Or.inl ⟨by rfl, ?_⟩) hS ?_
  · intro x hx
    have c := blk_cell hx 16 s.early rfl
    go_simp
    try with_reducible rfl
  simp only [Act.put, List.setIfInBounds_toArray, List.set_cons_zero, List.set_cons_succ]
  refine p_call (s := 2) (e' := some 5) (fn := 157) (args := #[s.row]) rfl rfl (by kernel_rfl) (by rfl) ?_ ((newInts_i p.row s.row W.drew (HR.out.below (HY0.out.below.trans (Below.refl _ _).drew)).row hz1).mono ?_)
  · go_simp
    try with_reducible rfl
  rintro e x0a ⟨vrow, rfl, ho, hb0⟩
  have hb : Below W.heap.size W x0a := ((Below.refl _ _).drew).trans hb0
  have HY0a : Hid (Bx2 w x0a (peerA p (⟨s.row, s.cells, s.early, s.undos, s.votes, s.news⟩ : PV)) zeroA) := HY0.out.more hb
  have HO0a : Hid (x0a.ownsRow W.heap.size 3 1 vrow p.row.length (flatR intF p.row)) := ho
  have HD0a : Hid (OwnD w.heap.size x0a.heap.size x0a ({ bareP p with row := p.row } : PE) (⟨vrow, .slice none 0 0, .slice none 0 0, .slice none 0 0, .slice none 0 0, .slice none 0 0⟩ : PV)) := (HD0.out.below hb).setRow (l := p.row) hb.size (Nat.le_refl _) (own_base ho HY0.out.below.size) (fun g e => (ho.lt g e).2) (fun g e => Or.inr (ho.lt g e).1)
  clear ho hb hb0 HY0 HD0 hS
  refine ⟨_, rfl, fun _ => HY0a.out.box, ?_⟩
  simp only [Act.put, List.setIfInBounds_toArray, List.set_cons_zero, List.set_cons_succ]
  refine p_take (j := 6) (e' := some 9) (v := .pointer (some ⟨w.heap.size, 14, none⟩)) rfl rfl (by kernel_rfl) (by kernel_rfl) (by kernel_rfl) (by kernel_rfl) (by kernel_rfl) (fun _ _ _ h => h) (Or.inl ⟨by rfl, ?_⟩) HY0a.out.box ?_
  · intro x hx
    go_simp
    try with_reducible rfl
  simp only [Act.put, List.setIfInBounds_toArray, List.set_cons_zero, List.set_cons_succ]
  refine p_call (s := 5) (e' := some 8) (fn := 157) (args := #[s.early]) rfl rfl (by kernel_rfl) (by rfl) ?_ ((newInts_i p.early s.early x0a (HR.out.below HY0a.out.below).early hz3).mono ?_)
  · go_simp
    try with_reducible rfl
  rintro e x0b ⟨vearly, rfl, ho, hb⟩
  have HY0b : Hid (Bx2 w x0b (peerA p (⟨s.row, s.cells, s.early, s.undos, s.votes, s.news⟩ : PV)) zeroA) := HY0a.out.more hb
  have HO0b : Hid (x0b.ownsRow x0a.heap.size 3 1 vearly p.early.length (flatR intF p.early)) := ho
  have HO0c : Hid (x0b.ownsRow W.heap.size 3 1 vrow p.row.length (flatR intF p.row)) := own_kept HO0a.out hb
  have HD0b : Hid (OwnD w.heap.size x0b.heap.size x0b ({ bareP p with row := p.row, early := p.early } : PE) (⟨vrow, .slice none 0 0, vearly, .slice none 0 0, .slice none 0 0, .slice none 0 0⟩ : PV)) := (HD0a.out.below hb).setEarly (l := p.early) hb.size (Nat.le_refl _) (own_base ho HY0a.out.below.size) (fun g e => (ho.lt g e).2) (fun g e => Or.inr (ho.lt g e).1)
  clear ho hb HY0a HD0a HO0a
  refine ⟨_, rfl, fun _ => HY0b.out.box, ?_⟩
  simp only [Act.put, List.setIfInBounds_toArray, List.set_cons_zero, List.set_cons_succ]
  refine p_cell (s := 7) (N := w.heap.size) (o := 14) (u := vrow) (old := peerA p (⟨s.row, s.cells, s.early, s.undos, s.votes, s.news⟩ : PV)) (new := peerA p (⟨vrow, s.cells, s.early, s.undos, s.votes, s.news⟩ : PV)) rfl rfl rfl rfl (by kernel_rfl) rfl rfl HY0b.out.box (by kernel_rfl) (by simp [peerA]) (own_one HO0c.out) rfl ?_
  intro y0a hg hk
  have HY0c : Hid (Bx2 w y0a (peerA p (⟨vrow, s.cells, s.early, s.undos, s.votes, s.news⟩ : PV)) zeroA) := HY0b.out.put hg hk
  have HD0c : Hid (OwnD w.heap.size y0a.heap.size y0a ({ bareP p with row := p.row, early := p.early } : PE) (⟨vrow, .slice none 0 0, vearly, .slice none 0 0, .slice none 0 0, .slice none 0 0⟩ : PV)) := (HD0b.out.boxed HY0b.out.box hg).wide hg.size (Nat.le_refl _)
  clear hg hk HY0b HD0b
  refine ⟨fun h => (by cases h), ?_⟩
  refine p_pure (j := 8) (e' := some 10) (v := .pointer (some ⟨w.heap.size, 16, none⟩)) rfl rfl (by kernel_rfl) (by kernel_rfl) (by kernel_rfl) (by rfl) (fun _ _ _ h => h) (Or.inl ⟨by rfl, ?_⟩) ?_
  · intro x hx
    go_simp
    try with_reducible rfl
  simp only [Act.put, List.setIfInBounds_toArray, List.set_cons_zero, List.set_cons_succ]
  refine p_cell (s := 9) (N := w.heap.size) (o := 16) (u := vearly) (old := peerA p (⟨vrow, s.cells, s.early, s.undos, s.votes, s.news⟩ : PV)) (new := peerA p (⟨vrow, s.cells, vearly, s.undos, s.votes, s.news⟩ : PV)) rfl rfl rfl rfl (by kernel_rfl) rfl rfl HY0c.out.box (by kernel_rfl) (by simp [peerA]) (own_one HO0b.out) rfl ?_
  intro y0b hg hk
  have HY1 : Hid (Bx2 w y0b (peerA p (⟨vrow, s.cells, vearly, s.undos, s.votes, s.news⟩ : PV)) zeroA) := HY0c.out.put hg hk
  have HD1 : Hid (OwnD w.heap.size y0b.heap.size y0b ({ bareP p with row := p.row, early := p.early } : PE) (⟨vrow, .slice none 0 0, vearly, .slice none 0 0, .slice none 0 0, .slice none 0 0⟩ : PV)) := (HD0c.out.boxed HY0c.out.box hg).wide hg.size (Nat.le_refl _)
  clear hg hk HY0c HD0c HO0b HO0c
  refine ⟨fun h => (by cases h), ?_⟩
  refine wpAnyP_done (by kernel_rfl) ?_ _
  go_wp2
  refine wp_region_P (fun i => decide (i < 7)) (fun x => x.heap[w.heap.size]? = some (.cells (peerA p (⟨vrow, s.cells, vearly, s.undos, s.votes, s.news⟩ : PV)) 124 (0, 0))) (by kernel_rfl) ?_
  show wpAnyP Tryz.prog _ _ _ _ _ (9 + 1) (Array.replicate 10 false) _ _
  have hS : y0b.drew.heap[w.heap.size]? = some (.cells (peerA p (⟨vrow, s.cells, vearly, s.undos, s.votes, s.news⟩ : PV)) 124 (0, 0)) := HY1.out.box
  refine p_take (j := 0) (e' := some 11) (v := .pointer (some ⟨w.heap.size, 15, none⟩)) rfl rfl (by kernel_rfl) (by kernel_rfl) (by kernel_rfl) (by kernel_rfl) (by kernel_rfl) (fun _ _ _ h => h) (Or.inl ⟨by rfl, ?_⟩) hS ?_
  · intro x hx
    go_simp
    try with_reducible rfl
  simp only [Act.put, List.setIfInBounds_toArray, List.set_cons_zero, List.set_cons_succ]
  refine p_take (j := 1) (e' := some 12) (v := s.cells) rfl rfl (by kernel_rfl) (by kernel_rfl) (by kernel_rfl) (by kernel_rfl) (by kernel_rfl) (fun _ _ _ h => h) (Or.inl ⟨by rfl, ?_⟩) hS ?_
  · intro x hx
    have c := blk_cell hx 15 s.cells rfl
    go_simp
    try with_reducible rfl
  simp only [Act.put, List.setIfInBounds_toArray, List.set_cons_zero, List.set_cons_succ]
  refine p_take (j := 3) (e' := some 14) (v := .pointer (some ⟨w.heap.size, 17, none⟩)) rfl rfl (by kernel_rfl) (by kernel_rfl) (by kernel_rfl) (by kernel_rfl) (by kernel_rfl) (fun _ _ _ h => h) (Or.inl ⟨by rfl, ?_⟩) hS ?_
  · intro x hx
    go_simp
    try with_reducible rfl
  simp only [Act.put, List.setIfInBounds_toArray, List.set_cons_zero, List.set_cons_succ]
  refine p_take (j := 4) (e' := some 15) (v := s.undos) rfl rfl (by kernel_rfl) (by kernel_rfl) (by kernel_rfl) (by kernel_rfl) (by kernel_rfl) (fun _ _ _ h => h) (Or.inl ⟨by rfl, ?_⟩) hS ?_
  · intro x hx
    have c := blk_cell hx 17 s.undos rfl
    go_simp
    try with_reducible rfl
  simp only [Act.put, List.setIfInBounds_toArray, List.set_cons_zero, List.set_cons_succ]
  refine p_call (s := 2) (e' := some 13) (fn := 158) (args := #[s.cells]) rfl rfl (by kernel_rfl) (by rfl) ?_ ((copy_i p.cells s.cells y0b.drew (HR.out.below (HY1.out.below.trans (Below.refl _ _).drew)).cells hz2 HS.out.kcells).mono ?_)
  · go_simp
    try with_reducible rfl
  rintro e x1a ⟨vcells, rfl, ho, hb0⟩
  have hb : Below y0b.heap.size y0b x1a := ((Below.refl _ _).drew).trans hb0
  have HY1a : Hid (Bx2 w x1a (peerA p (⟨vrow, s.cells, vearly, s.undos, s.votes, s.news⟩ : PV)) zeroA) := HY1.out.more hb
  have HO1a : Hid (x1a.ownsRow y0b.heap.size 195 2 vcells p.cells.length (flat p.cells)) := ho
  have HD1a : Hid (OwnD w.heap.size x1a.heap.size x1a ({ bareP p with row := p.row, cells := p.cells, early := p.early } : PE) (⟨vrow, vcells, vearly, .slice none 0 0, .slice none 0 0, .slice none 0 0⟩ : PV)) := (HD1.out.below hb).setCells (l := p.cells) hb.size (Nat.le_refl _) (own_base ho HY1.out.below.size) (fun g e => (ho.lt g e).2) (fun g e => Or.inr (ho.lt g e).1)
  clear ho hb hb0 HY1 HD1 hS
  refine ⟨_, rfl, fun _ => HY1a.out.box, ?_⟩
  simp only [Act.put, List.setIfInBounds_toArray, List.set_cons_zero, List.set_cons_succ]
  refine p_take (j := 6) (e' := some 17) (v := .pointer (some ⟨w.heap.size, 15, none⟩)) rfl rfl (by kernel_rfl) (by kernel_rfl) (by kernel_rfl) (by kernel_rfl) (by kernel_rfl) (fun _ _ _ h => h) (Or.inl ⟨by rfl, ?_⟩) HY1a.out.box ?_
  · intro x hx
    go_simp
    try with_reducible rfl
  simp only [Act.put, List.setIfInBounds_toArray, List.set_cons_zero, List.set_cons_succ]
  refine p_call (s := 5) (e' := some 16) (fn := 159) (args := #[s.undos]) rfl rfl (by kernel_rfl) (by rfl) ?_ ((copyUndos_i p.undos s.undos x1a (HR.out.below HY1a.out.below).undos hz4 HS.out.kundos).mono ?_)
  · go_simp
    try with_reducible rfl
  rintro e x1b ⟨vundos, rfl, ho, hb⟩
  have HY1b : Hid (Bx2 w x1b (peerA p (⟨vrow, s.cells, vearly, s.undos, s.votes, s.news⟩ : PV)) zeroA) := HY1a.out.more hb
  have HO1b : Hid (x1b.ownsRow x1a.heap.size 197 3 vundos p.undos.length (flatR undoF p.undos)) := ho
  have HO1c : Hid (x1b.ownsRow y0b.heap.size 195 2 vcells p.cells.length (flat p.cells)) := own_kept HO1a.out hb
  have HD1b : Hid (OwnD w.heap.size x1b.heap.size x1b ({ bareP p with row := p.row, cells := p.cells, early := p.early, undos := p.undos } : PE) (⟨vrow, vcells, vearly, vundos, .slice none 0 0, .slice none 0 0⟩ : PV)) := (HD1a.out.below hb).setUndos (l := p.undos) hb.size (Nat.le_refl _) (own_base ho HY1a.out.below.size) (fun g e => (ho.lt g e).2) (fun g e => Or.inr (ho.lt g e).1)
  clear ho hb HY1a HD1a HO1a
  refine ⟨_, rfl, fun _ => HY1b.out.box, ?_⟩
  simp only [Act.put, List.setIfInBounds_toArray, List.set_cons_zero, List.set_cons_succ]
  refine p_cell (s := 7) (N := w.heap.size) (o := 15) (u := vcells) (old := peerA p (⟨vrow, s.cells, vearly, s.undos, s.votes, s.news⟩ : PV)) (new := peerA p (⟨vrow, vcells, vearly, s.undos, s.votes, s.news⟩ : PV)) rfl rfl rfl rfl (by kernel_rfl) rfl rfl HY1b.out.box (by kernel_rfl) (by simp [peerA]) (own_one HO1c.out) rfl ?_
  intro y1a hg hk
  have HY1c : Hid (Bx2 w y1a (peerA p (⟨vrow, vcells, vearly, s.undos, s.votes, s.news⟩ : PV)) zeroA) := HY1b.out.put hg hk
  have HD1c : Hid (OwnD w.heap.size y1a.heap.size y1a ({ bareP p with row := p.row, cells := p.cells, early := p.early, undos := p.undos } : PE) (⟨vrow, vcells, vearly, vundos, .slice none 0 0, .slice none 0 0⟩ : PV)) := (HD1b.out.boxed HY1b.out.box hg).wide hg.size (Nat.le_refl _)
  clear hg hk HY1b HD1b
  refine ⟨fun h => (by cases h), ?_⟩
  refine p_pure (j := 8) (e' := some 18) (v := .pointer (some ⟨w.heap.size, 17, none⟩)) rfl rfl (by kernel_rfl) (by kernel_rfl) (by kernel_rfl) (by rfl) (fun _ _ _ h => h) (Or.inl ⟨by rfl, ?_⟩) ?_
  · intro x hx
    go_simp
    try with_reducible rfl
  simp only [Act.put, List.setIfInBounds_toArray, List.set_cons_zero, List.set_cons_succ]
  refine p_cell (s := 9) (N := w.heap.size) (o := 17) (u := vundos) (old := peerA p (⟨vrow, vcells, vearly, s.undos, s.votes, s.news⟩ : PV)) (new := peerA p (⟨vrow, vcells, vearly, vundos, s.votes, s.news⟩ : PV)) rfl rfl rfl rfl (by kernel_rfl) rfl rfl HY1c.out.box (by kernel_rfl) (by simp [peerA]) (own_one HO1b.out) rfl ?_
  intro y1b hg hk
  have HY2 : Hid (Bx2 w y1b (peerA p (⟨vrow, vcells, vearly, vundos, s.votes, s.news⟩ : PV)) zeroA) := HY1c.out.put hg hk
  have HD2 : Hid (OwnD w.heap.size y1b.heap.size y1b ({ bareP p with row := p.row, cells := p.cells, early := p.early, undos := p.undos } : PE) (⟨vrow, vcells, vearly, vundos, .slice none 0 0, .slice none 0 0⟩ : PV)) := (HD1c.out.boxed HY1c.out.box hg).wide hg.size (Nat.le_refl _)
  clear hg hk HY1c HD1c HO1b HO1c
  refine ⟨fun h => (by cases h), ?_⟩
  refine wpAnyP_done (by kernel_rfl) ?_ _
  go_wp2
  refine wp_region_P (fun i => decide (i < 7)) (fun x => x.heap[w.heap.size]? = some (.cells (peerA p (⟨vrow, vcells, vearly, vundos, s.votes, s.news⟩ : PV)) 124 (0, 0))) (by kernel_rfl) ?_
  show wpAnyP Tryz.prog _ _ _ _ _ (9 + 1) (Array.replicate 10 false) _ _
  have hS : y1b.drew.heap[w.heap.size]? = some (.cells (peerA p (⟨vrow, vcells, vearly, vundos, s.votes, s.news⟩ : PV)) 124 (0, 0)) := HY2.out.box
  refine p_take (j := 0) (e' := some 19) (v := .pointer (some ⟨w.heap.size, 18, none⟩)) rfl rfl (by kernel_rfl) (by kernel_rfl) (by kernel_rfl) (by kernel_rfl) (by kernel_rfl) (fun _ _ _ h => h) (Or.inl ⟨by rfl, ?_⟩) hS ?_
  · intro x hx
    go_simp
    try with_reducible rfl
  simp only [Act.put, List.setIfInBounds_toArray, List.set_cons_zero, List.set_cons_succ]
  refine p_take (j := 1) (e' := some 20) (v := s.votes) rfl rfl (by kernel_rfl) (by kernel_rfl) (by kernel_rfl) (by kernel_rfl) (by kernel_rfl) (fun _ _ _ h => h) (Or.inl ⟨by rfl, ?_⟩) hS ?_
  · intro x hx
    have c := blk_cell hx 18 s.votes rfl
    go_simp
    try with_reducible rfl
  simp only [Act.put, List.setIfInBounds_toArray, List.set_cons_zero, List.set_cons_succ]
  refine p_take (j := 3) (e' := some 22) (v := .pointer (some ⟨w.heap.size, 19, none⟩)) rfl rfl (by kernel_rfl) (by kernel_rfl) (by kernel_rfl) (by kernel_rfl) (by kernel_rfl) (fun _ _ _ h => h) (Or.inl ⟨by rfl, ?_⟩) hS ?_
  · intro x hx
    go_simp
    try with_reducible rfl
  simp only [Act.put, List.setIfInBounds_toArray, List.set_cons_zero, List.set_cons_succ]
  refine p_take (j := 4) (e' := some 23) (v := s.news) rfl rfl (by kernel_rfl) (by kernel_rfl) (by kernel_rfl) (by kernel_rfl) (by kernel_rfl) (fun _ _ _ h => h) (Or.inl ⟨by rfl, ?_⟩) hS ?_
  · intro x hx
    have c := blk_cell hx 19 s.news rfl
    go_simp
    try with_reducible rfl
  simp only [Act.put, List.setIfInBounds_toArray, List.set_cons_zero, List.set_cons_succ]
  refine p_call (s := 2) (e' := some 21) (fn := 145) (args := #[s.votes]) rfl rfl (by kernel_rfl) (by rfl) ?_ ((newVotes_i p.votes s.votes y1b.drew (HR.out.below (HY2.out.below.trans (Below.refl _ _).drew)).votes hz5).mono ?_)
  · go_simp
    try with_reducible rfl
  rintro e x2a ⟨vvotes, rfl, ho, hb0⟩
  have hb : Below y1b.heap.size y1b x2a := ((Below.refl _ _).drew).trans hb0
  have HY2a : Hid (Bx2 w x2a (peerA p (⟨vrow, vcells, vearly, vundos, s.votes, s.news⟩ : PV)) zeroA) := HY2.out.more hb
  have HO2a : Hid (x2a.ownsRow y1b.heap.size 46 4 vvotes p.votes.length (flatR voteF p.votes)) := ho
  have HD2a : Hid (OwnD w.heap.size x2a.heap.size x2a ({ bareP p with row := p.row, cells := p.cells, early := p.early, undos := p.undos, votes := p.votes } : PE) (⟨vrow, vcells, vearly, vundos, vvotes, .slice none 0 0⟩ : PV)) := (HD2.out.below hb).setVotes (l := p.votes) hb.size (Nat.le_refl _) (own_base ho HY2.out.below.size) (fun g e => (ho.lt g e).2) (fun g e => Or.inr (ho.lt g e).1)
  clear ho hb hb0 HY2 HD2 hS
  refine ⟨_, rfl, fun _ => HY2a.out.box, ?_⟩
  simp only [Act.put, List.setIfInBounds_toArray, List.set_cons_zero, List.set_cons_succ]
  refine p_take (j := 6) (e' := some 25) (v := .pointer (some ⟨w.heap.size, 18, none⟩)) rfl rfl (by kernel_rfl) (by kernel_rfl) (by kernel_rfl) (by kernel_rfl) (by kernel_rfl) (fun _ _ _ h => h) (Or.inl ⟨by rfl, ?_⟩) HY2a.out.box ?_
  · intro x hx
    go_simp
    try with_reducible rfl
  simp only [Act.put, List.setIfInBounds_toArray, List.set_cons_zero, List.set_cons_succ]
  refine p_call (s := 5) (e' := some 24) (fn := 144) (args := #[s.news]) rfl rfl (by kernel_rfl) (by rfl) ?_ ((newLetters_i p.news s.news x2a (HR.out.below HY2a.out.below).news hz6).mono ?_)
  · go_simp
    try with_reducible rfl
  rintro e x2b ⟨vnews, rfl, ho, hb⟩
  have HY2b : Hid (Bx2 w x2b (peerA p (⟨vrow, vcells, vearly, vundos, s.votes, s.news⟩ : PV)) zeroA) := HY2a.out.more hb
  have HO2b : Hid (x2b.ownsRow x2a.heap.size 48 13 vnews p.news.length (flatR letF p.news)) := ho
  have HO2c : Hid (x2b.ownsRow y1b.heap.size 46 4 vvotes p.votes.length (flatR voteF p.votes)) := own_kept HO2a.out hb
  have HD2b : Hid (OwnD w.heap.size x2b.heap.size x2b ({ bareP p with row := p.row, cells := p.cells, early := p.early, undos := p.undos, votes := p.votes, news := p.news } : PE) (⟨vrow, vcells, vearly, vundos, vvotes, vnews⟩ : PV)) := (HD2a.out.below hb).setNews (l := p.news) hb.size (Nat.le_refl _) (own_base ho HY2a.out.below.size) (fun g e => (ho.lt g e).2) (fun g e => Or.inr (ho.lt g e).1)
  clear ho hb HY2a HD2a HO2a
  refine ⟨_, rfl, fun _ => HY2b.out.box, ?_⟩
  simp only [Act.put, List.setIfInBounds_toArray, List.set_cons_zero, List.set_cons_succ]
  refine p_cell (s := 7) (N := w.heap.size) (o := 18) (u := vvotes) (old := peerA p (⟨vrow, vcells, vearly, vundos, s.votes, s.news⟩ : PV)) (new := peerA p (⟨vrow, vcells, vearly, vundos, vvotes, s.news⟩ : PV)) rfl rfl rfl rfl (by kernel_rfl) rfl rfl HY2b.out.box (by kernel_rfl) (by simp [peerA]) (own_one HO2c.out) rfl ?_
  intro y2a hg hk
  have HY2c : Hid (Bx2 w y2a (peerA p (⟨vrow, vcells, vearly, vundos, vvotes, s.news⟩ : PV)) zeroA) := HY2b.out.put hg hk
  have HD2c : Hid (OwnD w.heap.size y2a.heap.size y2a ({ bareP p with row := p.row, cells := p.cells, early := p.early, undos := p.undos, votes := p.votes, news := p.news } : PE) (⟨vrow, vcells, vearly, vundos, vvotes, vnews⟩ : PV)) := (HD2b.out.boxed HY2b.out.box hg).wide hg.size (Nat.le_refl _)
  clear hg hk HY2b HD2b
  refine ⟨fun h => (by cases h), ?_⟩
  refine p_pure (j := 8) (e' := some 26) (v := .pointer (some ⟨w.heap.size, 19, none⟩)) rfl rfl (by kernel_rfl) (by kernel_rfl) (by kernel_rfl) (by rfl) (fun _ _ _ h => h) (Or.inl ⟨by rfl, ?_⟩) ?_
  · intro x hx
    go_simp
    try with_reducible rfl
  simp only [Act.put, List.setIfInBounds_toArray, List.set_cons_zero, List.set_cons_succ]
  refine p_cell (s := 9) (N := w.heap.size) (o := 19) (u := vnews) (old := peerA p (⟨vrow, vcells, vearly, vundos, vvotes, s.news⟩ : PV)) (new := peerA p (⟨vrow, vcells, vearly, vundos, vvotes, vnews⟩ : PV)) rfl rfl rfl rfl (by kernel_rfl) rfl rfl HY2c.out.box (by kernel_rfl) (by simp [peerA]) (own_one HO2b.out) rfl ?_
  intro y2b hg hk
  have HY3 : Hid (Bx2 w y2b (peerA p (⟨vrow, vcells, vearly, vundos, vvotes, vnews⟩ : PV)) zeroA) := HY2c.out.put hg hk
  have HD3 : Hid (OwnD w.heap.size y2b.heap.size y2b ({ bareP p with row := p.row, cells := p.cells, early := p.early, undos := p.undos, votes := p.votes, news := p.news } : PE) (⟨vrow, vcells, vearly, vundos, vvotes, vnews⟩ : PV)) := (HD2c.out.boxed HY2c.out.box hg).wide hg.size (Nat.le_refl _)
  clear hg hk HY2c HD2c HO2b HO2c
  refine ⟨fun h => (by cases h), ?_⟩
  refine wpAnyP_done (by kernel_rfl) ?_ _
  obtain ⟨s6, hs6⟩ : ∃ s6, s6 = (⟨vrow, vcells, vearly, vundos, vvotes, vnews⟩ : PV) := ⟨_, rfl⟩
  have HDE : Hid (OwnD w.heap.size y2b.heap.size y2b p s6) := (by rw [hs6]; exact HD3.out : OwnD w.heap.size y2b.heap.size y2b p s6)
  rw [← hs6] at HY3
  clear hs6 HD3
  go_wp2_with (first
    | (refine wpList_load_row rfl _ _ rfl w.heap.size rfl 124 _ (0, 0) _ HY3.out.box Tryz.underlying124 rfl (by kernel_rfl) ?_)
    | (refine wpList_store_blk rfl _ _ _ rfl (w.heap.size + 1) (peerA p s6) rfl rfl 124 zeroA HY3.out.zero (by kernel_rfl) rfl (peerA_one HDE.out.1) ?_; intro z hg hk hz; have HBz : Hid (Below w.heap.size w z) := HY3.out.below.grown hg HY3.out.below.size (fun k hk => by cases hk; omega); have HKz : Hid (z.heap[w.heap.size + 1]? = Option.some (.cells (peerA p s6) 124 (0, 0))) := hk; have HFz : Hid (OwnD w.heap.size z.heap.size z p s6) := (HDE.out.boxed HY3.out.zero hg).wide hg.size (Nat.le_refl _); clear hg hk hz HDE))
  refine bodyPost_ret (v := .agg (peerA p s6)) (results_cell_row Tryz.results143 _ _ (w.heap.size + 1) 124 _ (0, 0) _ rfl HKz.out Tryz.underlying124 rfl (by kernel_rfl)) rfl ?_
  exact ⟨_, rfl, HFz.out, HBz.out⟩

end Go.Proofs.YtcfgfhodbjakoavGreatDoor
