/-
  The walk of the law FnExactKeptText: the specification's answer and the program's are the same; what came in is as it was. (Made by gw9k.py.)
-/
import Derived.Test.YtnghhfgbobpnkapDoorPeerL
import Derived.Test.YtnghhfgbobpnkapDoorKeptS
import Derived.Test.YtnghhfgbobpnkapDoorSumI
import Derived.OpenShut
namespace Go.Proofs.YtnghhfgbobpnkapDoor.WFnExactKeptText
open Go.RowKit Num

/-- the program's contract -/
def Prg : Prop := ∀ (p : PE) (s : PV) (base : Nat) (w : World) (_ : OwnP base w p s) (_ : fitP p) (_ : Tabs w), Calls Tryd.prog 12 #[peerV p s] w fun e w' => e = .returned (.string (sealT (keptTx p))) ∧ Below w.heap.size w w'

theorem fit_of {p : PE} (h : goodPe p) (hs : smallPe p) : fitP p :=
  ⟨(bounds_i64 h.gid).2, (bounds_i64 h.gview).2, ⟨(bounds_i64 h.ghigh.1).2, (bounds_i64 h.ghigh.2.1).2, (bounds_i64 h.ghigh.2.2.1).2, (bounds_i64 h.ghigh.2.2.2).2⟩, ⟨(bounds_i64 h.glock.1).2, (bounds_i64 h.glock.2.1).2, (bounds_i64 h.glock.2.2.1).2, (bounds_i64 h.glock.2.2.2).2⟩, ⟨(bounds_i64 h.glast.1).2, (bounds_i64 h.glast.2.1).2, (bounds_i64 h.glast.2.2.1).2, (bounds_i64 h.glast.2.2.2).2⟩, fun n hn => (bounds_i64 (h.grow n hn)).2, hs.row⟩

theorem reads_one {w : World} {p : PE} {s : PV} (h : PeerR w p s) : (peerA p s).all (·.oneCell') = true := by
  obtain ⟨sr, sc, se, su, sv, sn⟩ := s
  obtain ⟨_, _, e1, -⟩ := h.row
  obtain ⟨_, _, e2, -⟩ := h.cells
  obtain ⟨_, _, e3, -⟩ := h.early
  obtain ⟨_, _, e4, -⟩ := h.undos
  obtain ⟨_, _, e5, -⟩ := h.votes
  obtain ⟨_, _, e6, -⟩ := h.news
  change sr = _ at e1
  change sc = _ at e2
  change se = _ at e3
  change su = _ at e4
  change sv = _ at e5
  change sn = _ at e6
  subst e1 e2 e3 e4 e5 e6
  unfold peerA
  simp [Value.oneCell']
def zeroP : Array Value := #[.int .i64 0, .int .i64 0, .int .i64 0, .int .i64 0, .int .i64 0, .int .i64 0, .int .i64 0, .int .i64 0, .int .i64 0, .int .i64 0, .int .i64 0, .int .i64 0, .int .i64 0, .int .i64 0, .slice none 0 0, .slice none 0 0, .slice none 0 0, .slice none 0 0, .slice none 0 0, .slice none 0 0, .int .i64 0]

theorem exec_load_row {P : Program} {op : Oper} {a : Act} {w : World} (ty : TypeId) (x : Operand) (ho : op.op = .load ty x) (g : Nat) (hx : a.eval x = .pointer (some ⟨g, 0, none⟩)) (t : TypeId) (cs : Array Value) (fr : Nat × Nat) (d : TypeDesc) (hg : w.heap[g]? = some (.cells cs t fr))
    (hu : P.underlying ty = some d) (hd : (match d with | .struct _ | .array _ _ => true | _ => false) = true) (hi : (P.info? ty).map (·.size) = some cs.size) : (execOp a.eval op).run P w = .ok (.value (.agg cs)) w := by
  unfold execOp
  simp only [ho, hx, Instr.loadAt, Instr.sureAddr, Sem.run_bind, Sem.run_pure, Result.andThen_ok, run_loadVar_row w g t ty cs fr d hg hu hd hi]

set_option maxRecDepth 100000 in
set_option maxHeartbeats 8000000 in
theorem walk_of (HI : Prg) (p : PE) (s : PV) (w : World) (hR : PeerR w p s) (hg : goodPe p) (ht : Tabs w) :
    Calls Tryd.prog 4 #[peerV p s] w fun e w' => e = .returned (.bool true) ∧ Below w.heap.size w w' := by
  have HR : Hid (PeerR w p s) := hR
  have HG : Hid (goodPe p) := hg
  have HT : Hid (Tabs w) := ht
  clear hR hg ht
  obtain ⟨W, hW⟩ : ∃ W, W = w.alloc (.cells (peerA p s) 40) := ⟨_, rfl⟩
  have HB0 : Hid (Below w.heap.size w W) := (by rw [hW]; exact ba (Below.refl _ _) _ : Below w.heap.size w W)
  have HK0 : Hid (W.heap[w.heap.size]? = Option.some (.cells (peerA p s) 40 (0, 0))) := (by rw [hW]; exact heap_alloc_new w _ : W.heap[w.heap.size]? = _)
  have HL0 : Hid (w.heap.size < W.heap.size) := (Array.getElem?_eq_some_iff.1 HK0.out).1
  go_enter Tryd.func4, Tryd.ntmps4
  go_wp2_with (first | (rw [← hW]; clear hW; (refine wpList_load_row rfl _ _ rfl w.heap.size rfl 40 _ (0, 0) _ HK0.out Tryd.underlying40 rfl (by kernel_rfl) ?_)) | (refine wpList_load_row rfl _ _ rfl w.heap.size rfl 40 _ (0, 0) _ HK0.out Tryd.underlying40 rfl (by kernel_rfl) ?_))
  refine (szPeer_any p s 1048576 W (by decide) (by decide) (HR.out.below HB0.out) HG.out).mono ?_
  rintro e w1 ⟨z, rfl, hz, hb⟩
  have HB1 : Hid (Below w.heap.size w w1) := bt HB0.out hb
  have HK1 : Hid (w1.heap[w.heap.size]? = Option.some (.cells (peerA p s) 40 (0, 0))) := (hb.block _ HL0.out).trans HK0.out
  have HL1 : Hid (w.heap.size < w1.heap.size) := Nat.lt_of_lt_of_le HL0.out hb.size
  clear hb HB0 HK0
  rcases hz with rfl | ⟨z0, -, hsm⟩
  · go_wp2
    go_ret
    exact ⟨rfl, HB1.out⟩
  have HS : Hid (smallPe p) := hsm
  clear hsm
  have HF : Hid (fitP p) := fit_of HG.out HS.out
  obtain ⟨X, hX⟩ : ∃ X, X = sealT (keptTx p) := ⟨_, rfl⟩
  have HX : Hid (sealT (keptTx p) = X) := hX.symm
  clear hX
  go_wp2_with (refine wpList_load_row rfl _ _ rfl w.heap.size rfl 40 _ (0, 0) _ HK1.out Tryd.underlying40 rfl (by kernel_rfl) ?_)
  refine (toPeer_any p s w1 (HR.out.below HB1.out) HS.out).mono ?_
  rintro e w2 ⟨s2, rfl, ho, hb⟩
  have HB2 : Hid (Below w.heap.size w w2) := bt HB1.out hb
  have HK2 : Hid (w2.heap[w.heap.size]? = Option.some (.cells (peerA p s) 40 (0, 0))) := (hb.block _ HL1.out).trans HK1.out
  have HL2 : Hid (w.heap.size < w2.heap.size) := Nat.lt_of_lt_of_le HL1.out hb.size
  have HO2 : Hid (PeerR w2 p s2) := ho.reads
  clear ho hb HB1 HK1
  go_wp2_with fail
  have hsp := keptText_s p s2 w2 HO2.out HF.out
  rw [HX.out] at hsp
  refine hsp.mono ?_
  clear hsp
  rintro e w3 ⟨rfl, hb⟩
  have HB3 : Hid (Below w.heap.size w w3) := bt HB2.out hb
  have HK3 : Hid (w3.heap[w.heap.size]? = Option.some (.cells (peerA p s) 40 (0, 0))) := (hb.block _ HL2.out).trans HK2.out
  have HL3 : Hid (w.heap.size < w3.heap.size) := Nat.lt_of_lt_of_le HL2.out hb.size
  clear hb HB2 HK2 HO2
  go_wp2_with (refine wpList_load_row rfl _ _ rfl w.heap.size rfl 40 _ (0, 0) _ HK3.out Tryd.underlying40 rfl (by kernel_rfl) ?_)
  refine (toPeer_any p s w3 (HR.out.below HB3.out) HS.out).mono ?_
  rintro e w4 ⟨s4, rfl, ho, hb⟩
  have HB4 : Hid (Below w.heap.size w w4) := bt HB3.out hb
  have HK4 : Hid (w4.heap[w.heap.size]? = Option.some (.cells (peerA p s) 40 (0, 0))) := (hb.block _ HL3.out).trans HK3.out
  have HL4 : Hid (w.heap.size < w4.heap.size) := Nat.lt_of_lt_of_le HL3.out hb.size
  have HP4 : Hid (OwnP w3.heap.size w4 p s4) := ho
  clear ho hb HB3 HK3
  go_wp2_with (first
    | (refine wpList_store_blk rfl _ _ _ rfl w4.heap.size (peerA p s4) rfl rfl 48 zeroP (heap_alloc_new w4 _) (by kernel_rfl) rfl (reads_one HP4.out.reads) ?_; intro w5 hg hk hz; have HB5 : Hid (Below w.heap.size w w5) := (ba HB4.out _).grown hg (by have := HB4.out.size; simp; omega) (fun y hy => by cases hy; exact HB4.out.size); have HG5 : Hid (w5.heap[w4.heap.size]? = Option.some (.cells (peerA p s4) 48 (0, 0))) := hk; have HP5 : Hid (OwnP w3.heap.size w5 p s4) := own_farP (HP4.out.below (ba (Below.refl _ _) _)) hg (by simp) (HP4.out.lim); have HK5 : Hid (w5.heap[w.heap.size]? = Option.some (.cells (peerA p s) 40 (0, 0))) := (hg.block _ (by have := HL4.out; simp; omega) (fun e => by have := Option.some.inj e; have := HL4.out; omega)).trans (((Below.refl w4.heap.size w4).alloc (Nat.le_refl _) _).block _ HL4.out |>.trans HK4.out); have HL5 : Hid (w4.heap.size < w5.heap.size) := (Array.getElem?_eq_some_iff.1 hk).1; clear hg hk hz)
    | (refine wpList_load_row rfl _ _ rfl w4.heap.size rfl 48 _ (0, 0) _ HG5.out Tryd.underlying48 rfl (by kernel_rfl) ?_))
  have HT5 : Hid (Tabs w5) := HT.out.below HB5.out
  have hsp := HI p s4 w3.heap.size w5 HP5.out HF.out HT5.out
  rw [HX.out] at hsp
  refine hsp.mono ?_
  clear hsp
  rintro e w6 ⟨rfl, hb⟩
  have HB6 : Hid (Below w.heap.size w w6) := bt HB5.out hb
  have HK6 : Hid (w6.heap[w.heap.size]? = Option.some (.cells (peerA p s) 40 (0, 0))) := (hb.block _ (by have := HL4.out; have := HL5.out; omega)).trans HK5.out
  have HG6 : Hid (w6.heap[w4.heap.size]? = Option.some (.cells (peerA p s4) 48 (0, 0))) := (hb.block _ HL5.out).trans HG5.out
  have HP6 : Hid (PeerR w6 p s4) := HP5.out.reads.below hb
  clear hb HB5 HK5 HG5 HP5 HK4 HB4
  go_wp2
  refine wp_region_H (fun x => x.heap[w.heap.size]? = some (.cells (peerA p s) 40 (0, 0)) ∧ x.heap[w4.heap.size]? = some (.cells (peerA p s4) 48 (0, 0))) (by kernel_rfl) ?_
  show wpAnyH Tryd.prog _ _ _ _ (4 + 1) (Array.replicate 5 false) _ _
  have hS : w6.drew.heap[w.heap.size]? = some (.cells (peerA p s) 40 (0, 0)) ∧ w6.drew.heap[w4.heap.size]? = some (.cells (peerA p s4) 48 (0, 0)) := ⟨HK6.out, HG6.out⟩
  refine h_take (j := 0) (e' := some 22) (v := .agg (peerA p s4)) rfl rfl (by kernel_rfl) (by kernel_rfl) (by kernel_rfl) (fun _ _ _ h => h) (Or.inl ⟨by rfl, fun x hx => exec_load_row _ _ rfl w4.heap.size rfl _ _ _ _ hx.2 Tryd.underlying48 rfl (by kernel_rfl)⟩) hS ?_
  simp only [Act.put, List.setIfInBounds_toArray, List.set_cons_zero, List.set_cons_succ]
  refine h_take (j := 1) (e' := some 23) (v := .agg (peerA p s)) rfl rfl (by kernel_rfl) (by kernel_rfl) (by kernel_rfl) (fun _ _ _ h => h) (Or.inl ⟨by rfl, fun x hx => exec_load_row _ _ rfl w.heap.size rfl _ _ _ _ hx.1 Tryd.underlying40 rfl (by kernel_rfl)⟩) hS ?_
  simp only [Act.put, List.setIfInBounds_toArray, List.set_cons_zero, List.set_cons_succ]
  refine h_call (c := 2) (e' := some 24) (fn := 11) (args := #[.agg (peerA p s)]) rfl rfl (by kernel_rfl) (by rfl) ?_ ((toPeer_any p s w6.drew (HR.out.below (HB6.out.trans (Below.refl _ _).drew)) HS.out).mono ?_)
  · go_simp
    try with_reducible rfl
  rintro e w7 ⟨s7, rfl, ho, hb⟩
  have hS7 : w7.heap[w.heap.size]? = some (.cells (peerA p s) 40 (0, 0)) ∧ w7.heap[w4.heap.size]? = some (.cells (peerA p s4) 48 (0, 0)) := ⟨(hb.block _ (Array.getElem?_eq_some_iff.1 hS.1).1).trans hS.1, (hb.block _ (Array.getElem?_eq_some_iff.1 hS.2).1).trans hS.2⟩
  have HB7 : Hid (Below w.heap.size w w7) := bt HB6.out (((Below.refl _ _).drew).trans hb)
  have HP7 : Hid (PeerR w7 p s4) := HP6.out.below (((Below.refl _ _).drew).trans hb)
  have HQ7 : Hid (PeerR w7 p s7) := ho.reads
  clear ho hb hS
  refine ⟨_, rfl, hS7, ?_⟩
  simp only [Act.put, List.setIfInBounds_toArray, List.set_cons_zero, List.set_cons_succ]
  refine h_call (c := 3) (e' := some 25) (fn := 13) (args := #[.agg (peerA p s4), .agg (peerA p s7)]) rfl rfl (by kernel_rfl) (by rfl) ?_ ((eqPeer_yes p s4 s7 w7 HP7.out HQ7.out HS.out).mono ?_)
  · go_simp
    try with_reducible rfl
  rintro e w8 ⟨rfl, hb⟩
  have hS8 : w8.heap[w.heap.size]? = some (.cells (peerA p s) 40 (0, 0)) ∧ w8.heap[w4.heap.size]? = some (.cells (peerA p s4) 48 (0, 0)) := ⟨(hb.block _ (Array.getElem?_eq_some_iff.1 hS7.1).1).trans hS7.1, (hb.block _ (Array.getElem?_eq_some_iff.1 hS7.2).1).trans hS7.2⟩
  have HB8 : Hid (Below w.heap.size w w8) := bt HB7.out hb
  clear hb hS7
  refine ⟨_, rfl, hS8, ?_⟩
  simp only [Act.put, List.setIfInBounds_toArray, List.set_cons_zero, List.set_cons_succ]
  refine h_take (j := 4) (e' := some 26) (v := .bool false) rfl rfl (by kernel_rfl) (by kernel_rfl) (by kernel_rfl) (fun _ _ _ h => h) (Or.inl ⟨by rfl, ?_⟩) hS8 ?_
  · intro x hx
    go_simp
    try with_reducible rfl
  simp only [Act.put, List.setIfInBounds_toArray, List.set_cons_zero, List.set_cons_succ]
  refine wpAnyH_done (by kernel_rfl) ?_ _
  clear hS8
  go_wp2
  go_ret
  exact ⟨rfl, HB8.out⟩

end Go.Proofs.YtnghhfgbobpnkapDoor.WFnExactKeptText
