/-
  A vote given: the contract of the specification's Voted.
-/
import Derived.Test.YtjdddcldbfhbiasGreatJ2
namespace Go.Proofs.YtjdddcldbfhbiasGreat
open Go.RowKit Num

theorem exec_load_blk {P : Program} {op : Oper} {a : Act} {w : World} (ty : TypeId) (x : Operand) (ho : op.op = .load ty x) (g : Nat) (hx : a.eval x = .pointer (some ⟨g, 0, none⟩)) (t : TypeId) (cs : Array Value) (fr : Nat × Nat) (d : TypeDesc) (hg : w.heap[g]? = some (.cells cs t fr))
    (hu : P.underlying ty = some d) (hd : (match d with | .struct _ | .array _ _ => true | _ => false) = true) (hi : (P.info? ty).map (·.size) = some cs.size) : (execOp a.eval op).run P w = .ok (.value (.agg cs)) w := by
  unfold execOp
  simp only [ho, hx, Instr.loadAt, Instr.sureAddr, Sem.run_bind, Sem.run_pure, Result.andThen_ok, run_loadVar_row w g t ty cs fr d hg hu hd hi]
theorem results_cells2 {P : Program} {fn : Func} {p q : Tmp} {ty tz : TypeId} (h : fn.results = #[.cell p ty, .cell q tz]) (tmps : Array Value) (w : World) (g : Nat) (t : TypeId) (cs : Array Value) (fr : Nat × Nat) (d : TypeDesc) (g' : Nat) (t' : TypeId) (cs' : Array Value) (fr' : Nat × Nat) (d' : TypeDesc)
    (hp : tmps.getD p undef = .pointer (some ⟨g, 0, none⟩)) (hg : w.heap[g]? = some (.cells cs t fr)) (hu : P.underlying ty = some d) (hd : (match d with | .struct _ | .array _ _ => true | _ => false) = true) (hi : (P.info? ty).map (·.size) = some cs.size)
    (hq : tmps.getD q undef = .pointer (some ⟨g', 0, none⟩)) (hg' : w.heap[g']? = some (.cells cs' t' fr')) (hu' : P.underlying tz = some d') (hd' : (match d' with | .struct _ | .array _ _ => true | _ => false) = true) (hi' : (P.info? tz).map (·.size) = some cs'.size) :
    (results fn tmps).run P w = .ok (.tuple #[.agg cs, .agg cs']) w := by
  have hp' : tmps[p]?.getD undef = .pointer (some ⟨g, 0, none⟩) := by simpa using hp
  have hq' : tmps[q]?.getD undef = .pointer (some ⟨g', 0, none⟩) := by simpa using hq
  simp [results, h, hp', hq', asAddr, run_loadVar_row w g t ty cs fr d hg hu hd hi, run_loadVar_row w g' t' tz cs' fr' d' hg' hu' hd' hi']

set_option maxRecDepth 100000 in
set_option maxHeartbeats 8000000 in
theorem voted_s (p : PE) (s : PV) (phase view block : Int) (w : World) (hR : PeerR w p s) (hs : smallPe p) :
    Calls Tryz.prog 94 #[peerV p s, .int .i64 phase, .int .i64 view, .int .i64 block] w fun e w' => ∃ s', e = .returned (.tuple #[peerV (votedP p phase view block) s', .agg #[.int .i64 phase, .int .i64 view, .int .i64 block, .int .i64 p.id]]) ∧ OwnD w.heap.size w'.heap.size w' (votedP p phase view block) s' ∧ Below w.heap.size w w' := by
  have HR := hid hR
  have HS := hid hs
  clear hR hs
  obtain ⟨W, hW⟩ : ∃ W, W = ((w.alloc (.cells (peerA p s) 45)).alloc (.cells zeroA 45)).alloc (.cells #[.int .i64 0, .int .i64 0, .int .i64 0, .int .i64 0] 39) := ⟨_, rfl⟩
  have HC : Hid (Below w.heap.size w W ∧ W.heap[w.heap.size]? = some (.cells (peerA p s) 45 (0, 0)) ∧ W.heap[w.heap.size + 1]? = some (.cells zeroA 45 (0, 0)) ∧ W.heap[w.heap.size + 1 + 1]? = some (.cells #[.int .i64 0, .int .i64 0, .int .i64 0, .int .i64 0] 39 (0, 0))) := by
    rw [hW]; exact ⟨ba (ba (ba (Below.refl _ _) _) _) _, alloc3 w _ _ _⟩
  have HWS : Hid (W.heap.size = w.heap.size + 1 + 1 + 1) := (by rw [hW]; simp : W.heap.size = w.heap.size + 1 + 1 + 1)
  unfold zeroA at hW
  go_enter Tryz.func94, Tryz.ntmps94
  go_wp2_with (rw [← hW]; clear hW; refine wpList_load_row rfl _ _ rfl w.heap.size rfl 45 _ (0, 0) _ HC.out.2.1 Tryz.underlying45 rfl (by kernel_rfl) ?_)
  refine (copy_s p s W (HR.out.below HC.out.1) HS.out).mono ?_
  rintro e x1 ⟨s1, rfl, ho, hb⟩
  have HO1 : Hid (OwnD W.heap.size x1.heap.size x1 p s1) := ho.toD
  have HB1 : Hid (Below W.heap.size W x1) := hb
  clear ho hb
  go_wp2_with (first
    | (refine wpList_store_blk rfl _ _ _ rfl x1.heap.size (peerA p s1) rfl rfl 45 zeroA (heap_alloc_new x1 _) (by kernel_rfl) rfl (peerA_one HO1.out.1) ?_; intro y1 hg hk hz; have hb1 : Below x1.heap.size x1 y1 := made_below hg; have HY1 : Hid (Bx3 w y1 x1.heap.size (peerA p s) zeroA (peerA p s1)) := ⟨bt HC.out.1 (bt HB1.out hb1), (hb1.block _ (by have := HB1.out.size; have := HWS.out; omega)).trans ((HB1.out.block _ (by have := HWS.out; omega)).trans HC.out.2.1), (hb1.block _ (by have := HB1.out.size; have := HWS.out; omega)).trans ((HB1.out.block _ (by have := HWS.out; omega)).trans HC.out.2.2.1), hk, (by have := HB1.out.size; have := HWS.out; omega)⟩; have HV1 : Hid (y1.heap[w.heap.size + 1 + 1]? = Option.some (.cells #[.int .i64 0, .int .i64 0, .int .i64 0, .int .i64 0] 39 (0, 0))) := (hb1.block _ (by have := HB1.out.size; have := HWS.out; omega)).trans ((HB1.out.block _ (by have := HWS.out; omega)).trans HC.out.2.2.2); have HD1 : Hid (OwnD W.heap.size x1.heap.size y1 p s1) := HO1.out.below hb1; clear hg hk hz hb1 HO1; have c0 := blk_cell HY1.out.box 0 (.int .i64 p.id) rfl)
    | (refine wpList_store_part rfl _ _ _ rfl x1.heap.size 10 #[.int .i64 phase, .int .i64 view, .int .i64 block, .int .i64 p.id] rfl rfl _ _ (HY1.out.more ((Below.refl _ _).alloc (Nat.le_refl _) (.cells #[.int .i64 phase, .int .i64 view, .int .i64 block, .int .i64 p.id] 39))).out (by kernel_rfl) (by simp [peerA]) (by simp [Value.oneCell']) (peerA (votedP p phase view block) s1) rfl ?_; intro y2 hg hk; have HY2 : Hid (Bx3 w y2 x1.heap.size (peerA p s) zeroA (peerA (votedP p phase view block) s1)) := (HY1.out.more ((Below.refl _ _).alloc (Nat.le_refl _) _)).put hg hk; have HD2 : Hid (OwnD W.heap.size x1.heap.size y2 (votedP p phase view block) s1) := ((HD1.out.below ((Below.refl _ _).alloc (Nat.le_refl _) _)).far hg (Or.inr (Nat.le_refl _))).other rfl rfl rfl rfl rfl rfl; have HL2 : Hid (x1.heap.size < y1.heap.size) := HY1.out.lt; have HN2 : Hid (y2.heap[y1.heap.size]? = Option.some (.cells #[.int .i64 phase, .int .i64 view, .int .i64 block, .int .i64 p.id] 39 (0, 0))) := (hg.block _ (by simp) (fun e => by have e := Option.some.inj e; have := HL2.out; omega)).trans (heap_alloc_new y1 _); have HV2 : Hid (y2.heap[w.heap.size + 1 + 1]? = Option.some (.cells #[.int .i64 0, .int .i64 0, .int .i64 0, .int .i64 0] 39 (0, 0))) := (hg.block _ (by have := (Array.getElem?_eq_some_iff.1 HV1.out).1; simp; omega) (fun e => by have e := Option.some.inj e; have := HB1.out.size; have := HWS.out; omega)).trans ((((Below.refl y1.heap.size y1).alloc (Nat.le_refl _) _).block _ (Array.getElem?_eq_some_iff.1 HV1.out).1).trans HV1.out); clear hg hk HY1 HD1 HV1 c0))
  refine wp_region_H (fun x => x.heap[x1.heap.size]? = some (.cells (peerA (votedP p phase view block) s1) 45 (0, 0)) ∧ x.heap[y1.heap.size]? = some (.cells #[.int .i64 phase, .int .i64 view, .int .i64 block, .int .i64 p.id] 39 (0, 0))) (by kernel_rfl) ?_
  show wpAnyH Tryz.prog _ _ _ _ (3 + 1) (Array.replicate 4 false) _ _
  have hS : y2.drew.heap[x1.heap.size]? = some (.cells (peerA (votedP p phase view block) s1) 45 (0, 0)) ∧ y2.drew.heap[y1.heap.size]? = some (.cells #[.int .i64 phase, .int .i64 view, .int .i64 block, .int .i64 p.id] 39 (0, 0)) := ⟨HY2.out.out, HN2.out⟩
  refine h_take (j := 0) (e' := some 22) (v := .agg (peerA (votedP p phase view block) s1)) rfl rfl (by kernel_rfl) (by kernel_rfl) (by kernel_rfl) (fun _ _ _ h => h) (Or.inl ⟨by rfl, fun x hx => exec_load_blk _ _ rfl x1.heap.size rfl _ _ _ _ hx.1 Tryz.underlying45 rfl (by kernel_rfl)⟩) hS ?_
  simp only [Act.put, List.setIfInBounds_toArray, List.set_cons_zero, List.set_cons_succ]
  refine h_take (j := 1) (e' := some 23) (v := .agg #[.int .i64 phase, .int .i64 view, .int .i64 block, .int .i64 p.id]) rfl rfl (by kernel_rfl) (by kernel_rfl) (by kernel_rfl) (fun _ _ _ h => h) (Or.inl ⟨by rfl, fun x hx => exec_load_blk _ _ rfl y1.heap.size rfl _ _ _ _ hx.2 Tryz.underlying39 rfl (by kernel_rfl)⟩) hS ?_
  simp only [Act.put, List.setIfInBounds_toArray, List.set_cons_zero, List.set_cons_succ]
  refine h_store (s := 2) (N := w.heap.size + 1) (old := zeroA) (cells := peerA (votedP p phase view block) s1) rfl rfl rfl rfl (by kernel_rfl) rfl rfl HY2.out.zero (by kernel_rfl) rfl (peerA_one HD2.out.1) ?_
  intro z1 hg hk
  have HZ1 : Hid (z1.heap[w.heap.size + 1]? = some (.cells (peerA (votedP p phase view block) s1) 45 (0, 0))) := hk
  have HL1 : Hid (W.heap.size ≤ x1.heap.size ∧ x1.heap.size < y1.heap.size ∧ y1.heap.size < y2.heap.size) := ⟨HB1.out.size, HL2.out, (Array.getElem?_eq_some_iff.1 HN2.out).1⟩
  have HBz : Hid (Below w.heap.size w z1) := (HY2.out.below.trans (Below.refl _ _).drew).grown hg HY2.out.below.size (fun k hk => by cases hk; omega)
  have HDz : Hid (OwnD W.heap.size x1.heap.size z1 (votedP p phase view block) s1) := (HD2.out.below (Below.refl _ _).drew).far hg (Or.inl (by have := HWS.out; omega))
  have HVz : Hid (z1.heap[w.heap.size + 1 + 1]? = some (.cells #[.int .i64 0, .int .i64 0, .int .i64 0, .int .i64 0] 39 (0, 0))) := (hg.block _ (Array.getElem?_eq_some_iff.1 HV2.out).1 (fun e => by have e := Option.some.inj e; omega)).trans HV2.out
  have hS1 : z1.heap[x1.heap.size]? = some (.cells (peerA (votedP p phase view block) s1) 45 (0, 0)) ∧ z1.heap[y1.heap.size]? = some (.cells #[.int .i64 phase, .int .i64 view, .int .i64 block, .int .i64 p.id] 39 (0, 0)) := ⟨(hg.block _ (Array.getElem?_eq_some_iff.1 hS.1).1 (fun e => by have e := Option.some.inj e; have := HL1.out; have := HWS.out; omega)).trans hS.1, (hg.block _ (Array.getElem?_eq_some_iff.1 hS.2).1 (fun e => by have e := Option.some.inj e; have := HL1.out; have := HWS.out; omega)).trans hS.2⟩
  have HSz : Hid (x1.heap.size ≤ z1.heap.size) := Nat.le_trans (by have := HL1.out; show x1.heap.size ≤ y2.heap.size; omega) hg.size
  clear hg hk hS
  refine ⟨hS1, ?_⟩
  refine h_store (s := 3) (N := w.heap.size + 1 + 1) (old := #[.int .i64 0, .int .i64 0, .int .i64 0, .int .i64 0]) (cells := #[.int .i64 phase, .int .i64 view, .int .i64 block, .int .i64 p.id]) rfl rfl rfl rfl (by kernel_rfl) rfl rfl HVz.out (by kernel_rfl) rfl (by simp [Value.oneCell']) ?_
  intro z2 hg hk
  have HV2 : Hid (z2.heap[w.heap.size + 1 + 1]? = some (.cells #[.int .i64 phase, .int .i64 view, .int .i64 block, .int .i64 p.id] 39 (0, 0))) := hk
  have HZ2 : Hid (z2.heap[w.heap.size + 1]? = some (.cells (peerA (votedP p phase view block) s1) 45 (0, 0))) := (hg.block _ (Array.getElem?_eq_some_iff.1 HZ1.out).1 (fun e => by have e := Option.some.inj e; omega)).trans HZ1.out
  have HB2 : Hid (Below w.heap.size w z2) := HBz.out.grown hg HBz.out.size (fun k hk => by cases hk; omega)
  have HD3 : Hid (OwnD W.heap.size x1.heap.size z2 (votedP p phase view block) s1) := HDz.out.far hg (Or.inl (by have := HWS.out; omega))
  have HS2 : Hid (x1.heap.size ≤ z2.heap.size) := Nat.le_trans HSz.out hg.size
  have hS2 : z2.heap[x1.heap.size]? = some (.cells (peerA (votedP p phase view block) s1) 45 (0, 0)) ∧ z2.heap[y1.heap.size]? = some (.cells #[.int .i64 phase, .int .i64 view, .int .i64 block, .int .i64 p.id] 39 (0, 0)) := ⟨(hg.block _ (Array.getElem?_eq_some_iff.1 hS1.1).1 (fun e => by have e := Option.some.inj e; have := HL1.out; have := HWS.out; omega)).trans hS1.1, (hg.block _ (Array.getElem?_eq_some_iff.1 hS1.2).1 (fun e => by have e := Option.some.inj e; have := HL1.out; have := HWS.out; omega)).trans hS1.2⟩
  clear hg hk hS1
  refine ⟨hS2, ?_⟩
  refine wpAnyH_done (by kernel_rfl) ?_ _
  clear hS2
  go_wp2
  refine bodyPost_ret (v := .tuple #[.agg (peerA (votedP p phase view block) s1), .agg #[.int .i64 phase, .int .i64 view, .int .i64 block, .int .i64 p.id]]) (results_cells2 Tryz.results94 _ _ (w.heap.size + 1) 45 _ (0, 0) _ (w.heap.size + 1 + 1) 39 _ (0, 0) _ rfl HZ2.out Tryz.underlying45 rfl (by kernel_rfl) rfl HV2.out Tryz.underlying39 rfl (by kernel_rfl)) rfl ?_
  exact ⟨_, rfl, (HD3.out.wide HS2.out (Nat.le_refl _)).low HC.out.1.size, HB2.out⟩

end Go.Proofs.YtjdddcldbfhbiasGreat
