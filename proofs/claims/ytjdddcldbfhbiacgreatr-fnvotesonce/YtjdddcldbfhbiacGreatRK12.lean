/-
  Texts of ours that later ones lean on, in one: VotedI, CodeOf.
-/
import Derived.Test.YtjdddcldbfhbiacGreatRK1
import Derived.Test.YtjdddcldbfhbiacGreatRPeerCI
import Derived.Test.YtjdddcldbfhbiacGreatRK4
import Derived.Test.YtjdddcldbfhbiacGreatRK10
import Derived.ProofKit
import Derived.OpenShut
import Derived.ChangeOld
set_option maxRecDepth 100000
set_option maxHeartbeats 32000000
namespace Go.Proofs.YtjdddcldbfhbiacGreatR
open Go.RowKit Num
theorem votedR_i (p:PE) (s:PV) (phase view block:Int) (w:World) (hR:jS w p s) (hs:yC p) :
  Calls Tryz.prog 10 #[yZ p s,.int .i64 phase,.int .i64 view,.int .i64 block] w fun e w'=>∃ s',e=.returned (.tuple #[yZ (yP p phase view block) s',.agg #[.int .i64 phase,.int .i64 view,.int .i64 block,.int .i64 p.id]])/\zO w.heap.size w'.heap.size w' (yP p phase view block) s'/\Below w.heap.size w w':=by
 have HR:=hid hR
 have HS:=hid hs
 clear hR hs
 obtain ⟨W,hW⟩:∃ W,W=((w.alloc (.cells (zA p s) 35)).alloc (.cells zF 35)).alloc (.cells #[.int .i64 0,.int .i64 0,.int .i64 0,.int .i64 0] 28):=⟨_,rfl⟩
 have HW:Hid (Bx2 w W (zA p s) zF):=hid (by rw [hW];exact (two_boxes w _ _).more ((br _ _).alloc (nl _) _))
 have HV0:Hid (Bx W (w.heap.size+1+1) #[.int .i64 0,.int .i64 0,.int .i64 0,.int .i64 0] 28):=(by rw [hW];exact (zJH w _ _ _).2.2:W.heap[w.heap.size+1+1]?=_)
 have HWS:Hid (W.heap.size=w.heap.size+1+1+1):=hid (by rw [hW];simp)
 unfold zF at hW
 go_enter Tryz.func10,Tryz.ntmps10
 go_wp2_with (rw [<- hW];clear hW;(refine wpList_load_row rfl _ _ rfl w.heap.size rfl 35 _ (0,0) _ HW.out.box Tryz.underlying35 rfl (by kernel_rfl) ?_))
 refine (copyPeer_i p s W (HR.out.below HW.out.below) HS.out).mono ?_
 rintro e x1 ⟨s1,rfl,ho,hb⟩
 have HO1:Hid (zO W.heap.size x1.heap.size x1 p s1):=ho
 have HX1:Hid (Bx2 w x1 (zA p s) zF):=HW.out.more hb
 have HV1:Hid (Bx x1 (w.heap.size+1+1) #[.int .i64 0,.int .i64 0,.int .i64 0,.int .i64 0] 28):=(hb.block _ (gl HV0.out)).trans HV0.out
 clear ho hb HW HV0
 go_wp2_with (first
  | (refine zC rfl _ _ _ rfl w.heap.size (zA p s1) rfl rfl 35 (zA p s) HX1.out.box (by kernel_rfl) rfl (zJ HO1.out.1) ?_;intro y1 hg hk hz;have HY1:Hid (Bx2 w y1 (zA p s1) zF):=HX1.out.put hg hk;have HD1:Hid (zO W.heap.size y1.heap.size y1 p s1):=(HO1.out.boxed HX1.out.box hg).wide hg.size (nl _);have HV2:Hid (Bx y1 (w.heap.size+1+1) #[.int .i64 0,.int .i64 0,.int .i64 0,.int .i64 0] 28):=(hg.block _ (gl HV1.out) (fun e=>by have:=Option.some.inj e;omega)).trans HV1.out;have c0:=zB HY1.out.box 0 (.int .i64 p.id) rfl;clear HV1;clear hg hk hz HX1 HO1;have c1:=zB HY1.out.box 1 (.int .i64 p.view) rfl)
  | (refine yY rfl _ _ _ rfl w.heap.size 10 #[.int .i64 phase,.int .i64 view,.int .i64 block,.int .i64 p.id] rfl rfl _ _ HY1.out.box (by kernel_rfl) (by simp [zA]) (by simp [Value.oneCell']) (zA (yP p phase view block) s1) rfl ?_;intro y2 hg hk;have HY2:Hid (Bx2 w y2 (zA (yP p phase view block) s1) zF):=HY1.out.put hg hk;have HD2:Hid (zO W.heap.size y2.heap.size y2 (yP p phase view block) s1):=((HD1.out.boxed HY1.out.box hg).wide hg.size (nl _)).other rfl rfl rfl rfl rfl rfl;have HV3:Hid (Bx y2 (w.heap.size+1+1) #[.int .i64 0,.int .i64 0,.int .i64 0,.int .i64 0] 28):=(hg.block _ (gl HV2.out) (fun e=>by have:=Option.some.inj e;omega)).trans HV2.out;clear hg hk HY1 HD1 HV2 c0 c1))
 refine xA (fun x=>Bx x w.heap.size (zA (yP p phase view block) s1) 35) (by kernel_rfl) ?_
 show wpAnyH Tryz.prog _ _ _ _ (4+1) (Array.replicate 5 false) _ _
 have hS:Bx y2.drew w.heap.size (zA (yP p phase view block) s1) 35:=HY2.out.box
 refine yJ 0 19 (.agg (zA (yP p phase view block) s1)) hS ?_ (hy:=fun x hx=>zM _ _ rfl w.heap.size rfl _ _ _ _ hx Tryz.underlying35 rfl (by kernel_rfl))
 refine yJ 1 20 (.pointer (some ⟨w.heap.size,10,none⟩)) hS ?_
 refine yJ 2 21 (.agg #[.int .i64 phase,.int .i64 view,.int .i64 block,.int .i64 p.id]) hS ?_ (hy:=by intro x hx;have c10:=zB hx 10 (.int .i64 phase) rfl;have c11:=zB hx 11 (.int .i64 view) rfl;have c12:=zB hx 12 (.int .i64 block) rfl;have c13:=zB hx 13 (.int .i64 p.id) rfl;go_simp;try with_reducible rfl)
 refine jR (s:=3) (N:=w.heap.size+1) (old:=zF) (cells:=zA (yP p phase view block) s1) rfl rfl rfl rfl (by kernel_rfl) rfl rfl HY2.out.zero (by kernel_rfl) rfl (zJ HD2.out.1) ?_
 intro z1 hg hk
 have HZ1:Hid (Bx z1 (w.heap.size+1) (zA (yP p phase view block) s1) 35):=hk
 have HB1:Hid (Below w.heap.size w z1):=(HY2.out.below.trans (br _ _).drew).grown hg HY2.out.below.size (fun k hk=>by cases hk;omega)
 have HD3:Hid (zO W.heap.size z1.heap.size z1 (yP p phase view block) s1):=((HD2.out.below (br _ _).drew).boxed HY2.out.zero hg).wide hg.size (nl _)
 have HV4:Hid (Bx z1 (w.heap.size+1+1) #[.int .i64 0,.int .i64 0,.int .i64 0,.int .i64 0] 28):=(hg.block _ (gl HV3.out) (fun e=>by have e:=Option.some.inj e;omega)).trans HV3.out
 have HS1:Hid (Bx z1 w.heap.size (zA (yP p phase view block) s1) 35):=(hg.block _ (gl hS) (fun e=>by have e:=Option.some.inj e;omega)).trans hS
 clear hg hk hS HY2 HD2 HV3
 refine ⟨HS1.out,?_⟩
 refine jR (s:=4) (N:=w.heap.size+1+1) (old:=#[.int .i64 0,.int .i64 0,.int .i64 0,.int .i64 0]) (cells:=#[.int .i64 phase,.int .i64 view,.int .i64 block,.int .i64 p.id]) rfl rfl rfl rfl (by kernel_rfl) rfl rfl HV4.out (by kernel_rfl) rfl (by simp [Value.oneCell']) ?_
 intro z2 hg hk
 have HV5:Hid (Bx z2 (w.heap.size+1+1) #[.int .i64 phase,.int .i64 view,.int .i64 block,.int .i64 p.id] 28):=hk
 have HZ2:Hid (Bx z2 (w.heap.size+1) (zA (yP p phase view block) s1) 35):=(hg.block _ (gl HZ1.out) (fun e=>by have e:=Option.some.inj e;omega)).trans HZ1.out
 have HB2:Hid (Below w.heap.size w z2):=HB1.out.grown hg HB1.out.size (fun k hk=>by cases hk;omega)
 have HD4:Hid (zO W.heap.size z2.heap.size z2 (yP p phase view block) s1):=((HD3.out.far hg (Or.inl (by have:=HWS.out;omega))).wide hg.size (nl _))
 have HS2:Hid (Bx z2 w.heap.size (zA (yP p phase view block) s1) 35):=(hg.block _ (gl HS1.out) (fun e=>by have e:=Option.some.inj e;omega)).trans HS1.out
 clear hg hk
 refine ⟨HS2.out,?_⟩
 refine wpAnyH_done (by kernel_rfl) ?_ _
 go_wp2
 refine bodyPost_ret (v:=.tuple #[.agg (zA (yP p phase view block) s1),.agg #[.int .i64 phase,.int .i64 view,.int .i64 block,.int .i64 p.id]]) (results_cells2 Tryz.results10 _ _ (w.heap.size+1) 35 _ (0,0) _ (w.heap.size+1+1) 28 _ (0,0) _ rfl HZ2.out Tryz.underlying35 rfl (by kernel_rfl) rfl HV5.out Tryz.underlying28 rfl (by kernel_rfl)) rfl ?_
 exact ⟨_,rfl,HD4.out.low (by have:=HWS.out;omega),HB2.out⟩
end Go.Proofs.YtjdddcldbfhbiacGreatR
namespace Go.Proofs.YtjdddcldbfhbiacGreatR
open Go.ChangeShapes Go.WideShapes Go.ChangeAt Go.RowKit
theorem code_of {W:World} {a:Option Addr} {len cap:Nat} {zs:List Int} (hle:len<=1048576) (hz:len<=zs.length) (ha:a=none->len=0) (hcell:∀ x,a=some x->∀ i,i < zs.length->W.cell? (x.add i)=some (.int .u8 (zs.getD i 0))) (hwz:∀ n∈zs,(Lit.int .u8 n).wf=true) (_hc:len<=cap) :
  ∃ b off,Code W a len b off:=by
 by_cases h0:len=0
 ·subst h0
  exact ⟨0,0,⟨by omega,fun h=>absurd h (by omega),fun k hk=>absurd hk (by omega),fun h=>absurd h (by omega)⟩⟩
 ·cases a with
  | none=>exact absurd (ha rfl) h0
  | some x=>
   obtain ⟨b,off,spot⟩:=x
   have h1:=hcell _ rfl
   have hspot:spot=none:=by simpa [Addr.add] using World.cell?_spot (h1 0 (by omega))
   subst hspot
   have h2:∀ k,k < len->W.cell? ⟨b,off+k,none⟩=some (.int .u8 (zs.getD k 0)):=fun k hk=>by
    have hp:(⟨b,off,none⟩:Addr).add k=⟨b,off+k,none⟩:=by unfold Addr.add;split <;> simp_all
    rw [<- hp];exact h1 k (by omega)
   refine ⟨b,off,⟨hle,fun _=>rfl,fun k hk=>⟨zs.getD k 0,?_,?_,h2 k hk⟩,fun _=>World.block_lt_of_cell? W _ (h2 0 (by omega))⟩⟩
   all_goals
    have hk':k < zs.length:=by omega
    have hm:zs.getD k 0∈zs:=by
     have e:zs.getD k 0=zs[k]:=by simp [List.getD,List.getElem?_eq_getElem hk']
     rw [e];exact List.getElem_mem hk'
    have:=bounds_u8 (hwz _ hm)
    omega
theorem code_open {H:Type} {enc:TypeId × Value->H} {W:World} {a:Option Addr} {len cap:Nat} {d:DataW H} {p:List MemPlace} (hlen:¬ (1048576:Int) < len) (h:DataW.Trod enc Tryz.prog W 0 (fun _=>true) true 22 (.slice a len cap) d p):∃ b off,Code W a len b off:=by
 obtain ⟨fuel,hf⟩:=h
 rcases open_ints Tryz.underlying22 Tryz.underlying5 (by kernel_rfl) hf with ⟨hcs,_⟩ | ⟨x,l,c,zs,hcs,_,hl,hm,hz,_,hcell,hwz⟩
 ·simp [Value.cells] at hcs
  obtain ⟨rfl,rfl,rfl⟩:=hcs
  exact code_of (zs:=[]) (cap:=0) (by omega) (Nat.zero_le _) (fun _=>rfl) (fun x h=>by cases h) (fun n h=>by cases h) (nl _)
 ·simp [Value.cells] at hcs
  obtain ⟨rfl,rfl,rfl⟩:=hcs
  exact code_of (zs:=zs) (by omega) (by have:zs.length=cap:=(by simpa using hz);omega) (fun h=>by cases h) (fun y h i hi=>by cases h;exact hcell i hi) hwz hl
end Go.Proofs.YtjdddcldbfhbiacGreatR
