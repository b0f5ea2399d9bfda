/-
  Texts of ours that later ones lean on, in one: DrawP, MayI, Clone, CopyI.
-/
import Derived.Test.YtjdddcldbfhbiacGreatRK1
import Derived.Test.YtjdddcldbfhbiacGreatRAnyP
import Derived.Test.YtjdddcldbfhbiacGreatRK2
import Derived.Shelf.LaysM
import Derived.Shelf.Strconv.Clone
import Derived.Test.YtjdddcldbfhbiacGreatRRows
import Derived.WalkKit
import Derived.Test.YtjdddcldbfhbiacGreatRK4
import Derived.Deep.RegionHeld3
import Derived.Deep.AppendLies
set_option maxRecDepth 100000
set_option maxHeartbeats 32000000
namespace Go.Proofs.YtjdddcldbfhbiacGreatR
open Go.RowKit Num
theorem results_ctt {P:Program} {fn:Func} {p q r:Tmp} {ty:TypeId} (h:fn.results=#[.cell p ty,.tmp q,.tmp r]) (tmps:Array Value) (w:World) (g:Nat) (t:TypeId) (cs:Array Value) (fr:Nat × Nat) (d:TypeDesc) (u v:Value)
  (hp:tmps.getD p undef=.pointer (some ⟨g,0,none⟩)) (hg:w.heap[g]?=some (.cells cs t fr)) (hu:P.underlying ty=some d) (hd:(match d with | .struct _ | .array _ _=>true | _=>false)=true) (hi:(P.info? ty).map (·.size)=some cs.size)
  (hq:tmps.getD q undef=u) (hr:tmps.getD r undef=v) :
  (results fn tmps).run P w=.ok (.tuple #[.agg cs,u,v]) w:=by
 have hp':tmps[p]?.getD undef=.pointer (some ⟨g,0,none⟩):=by simpa using hp
 have hq':tmps[q]?.getD undef=u:=by simpa using hq
 have hr':tmps[r]?.getD undef=v:=by simpa using hr
 simp [results,h,hp',hq',hr',asAddr,run_loadVar_row w g t ty cs fr d hg hu hd hi]
theorem drawPeer_any {w:World} {ao:Option Addr} {len cap b off:Nat} (hc:Code w ao len b off) :
  Calls Tryz.prog 8 #[.slice ao len cap] w fun e w'=>∃ ps v p t,e=.returned (.tuple #[v,yZ p t])/\smT (bks ps)/\smP 30 p/\xH w' w.heap.size v ps/\zO w.heap.size w'.heap.size w' p t/\Below w.heap.size w w':=by
 obtain ⟨W,hW⟩:∃ W,W=w.alloc (.cells zF 35):=⟨_,rfl⟩
 have HW:Hid (Code W ao len b off/\Bx W w.heap.size zF 35/\Below w.heap.size w W):=(by
  have hb:Below w.heap.size w W:=by rw [hW];exact yA _ _
  exact ⟨hc.below hb,by rw [hW];exact heap_alloc_new _ _,hb⟩:_/\_)
 clear hc
 unfold zF at hW
 go_enter Tryz.func8,Tryz.ntmps8
 go_wp2_with (rw [<- hW];clear hW)
 refine (new_any HW.out.1).mono ?_
 rintro e w1 ⟨N,rfl,hN,hS,hb⟩
 have H1:Hid (St w1 N ao len cap b off/\Bx w1 w.heap.size zF 35/\Below w.heap.size w w1/\w.heap.size < N):=⟨hS,(hb.block _ (gl HW.out.2.1)).trans HW.out.2.1,bt HW.out.2.2 hb,Nat.lt_of_lt_of_le (gl HW.out.2.1) hN⟩
 clear hN hS hb HW
 go_wp2_with fail
 refine (some_st H1.out.1).mono ?_
 rintro e w2 ⟨ps,v,p,t,rfl,hsm,hpp,hT,hD,-,hg⟩
 have HT:=hid hsm
 have HP:=hid hpp
 have H2:Hid (Bx w2 w.heap.size zF 35/\Below w.heap.size w w2/\xH w2 w.heap.size v ps/\zO w.heap.size w2.heap.size w2 p t):=⟨(hg.block _ (gl H1.out.2.1) (fun e=>by have:=Option.some.inj e;have:=H1.out.2.2.2;omega)).trans H1.out.2.1,H1.out.2.2.1.grown hg H1.out.2.2.1.size (fun k hk=>by cases hk;have:=H1.out.2.2.2;omega),hT.base H1.out.2.2.1.size,hD.low H1.out.2.2.1.size⟩
 clear hsm hpp hT hD hg H1
 obtain ⟨gt,ct,hvt⟩:∃ gt ct,v=.slice gt ps.length ct:=(by obtain ⟨a,c,e,-⟩:=H2.out.2.2.1.read.q.1;exact ⟨a,c,e⟩:∃ gt ct,v=.slice gt ps.length ct)
 subst hvt
 go_wp2_with (refine zC rfl _ _ _ rfl w.heap.size (zA p t) rfl rfl 35 zF H2.out.1 (by kernel_rfl) rfl (zJ H2.out.2.2.2.1) ?_;intro z hg hk hz;have HZ:Hid (Bx z w.heap.size (zA p t) 35/\Below w.heap.size w z/\xH z w.heap.size (.slice gt ps.length ct) ps/\zO w.heap.size z.heap.size z p t):=⟨hk,H2.out.2.1.grown hg H2.out.2.1.size (fun k hk=>by cases hk;omega),H2.out.2.2.1.boxed H2.out.1 hg,(H2.out.2.2.2.boxed H2.out.1 hg).wide hg.size (nl _)⟩;clear hg hk hz H2)
 refine bodyPost_ret (v:=.tuple #[.slice gt ps.length ct,.agg (zA p t)]) (qF Tryz.results8 _ _ w.heap.size 35 _ (0,0) _ _ rfl rfl HZ.out.1 Tryz.underlying35 rfl (by kernel_rfl)) rfl ?_
 exact ⟨ps,_,p,t,rfl,HT.out,HP.out,HZ.out.2.2.1,HZ.out.2.2.2,HZ.out.2.1⟩
theorem drawMayVote_any {w:World} {ao:Option Addr} {len cap b off:Nat} (hc:Code w ao len b off) :
  Calls Tryz.prog 11 #[.slice ao len cap] w fun e w'=>∃ p t ph vw,e=.returned (.tuple #[yZ p t,.int .i64 ph,.int .i64 vw])/\smW p/\zO w.heap.size w'.heap.size w' p t/\Below w.heap.size w w':=by
 obtain ⟨W,hW⟩:∃ W,W=w.alloc (.cells zF 35):=⟨_,rfl⟩
 have HW:Hid (Code W ao len b off/\Bx W w.heap.size zF 35/\Below w.heap.size w W):=(by
  have hb:Below w.heap.size w W:=by rw [hW];exact yA _ _
  exact ⟨hc.below hb,by rw [hW];exact heap_alloc_new _ _,hb⟩:_/\_)
 clear hc
 unfold zF at hW
 go_enter Tryz.func11,Tryz.ntmps11
 go_wp2_with (rw [<- hW];clear hW)
 refine (new_any HW.out.1).mono ?_
 rintro e w1 ⟨N,rfl,hN,hS,hb⟩
 have H1:Hid (St w1 N ao len cap b off/\Bx w1 w.heap.size zF 35/\Below w.heap.size w w1/\w.heap.size < N):=⟨hS,(hb.block _ (gl HW.out.2.1)).trans HW.out.2.1,bt HW.out.2.2 hb,Nat.lt_of_lt_of_le (gl HW.out.2.1) hN⟩
 clear hN hS hb HW
 go_wp2_with fail
 refine (xO 4 (by omega) (by omega) H1.out.1).mono ?_
 rintro e w2 ⟨k1,rfl,k10,k11,hS,hg⟩
 have H2:Hid (St w2 N ao len cap b off/\Bx w2 w.heap.size zF 35/\Below w.heap.size w w2/\w.heap.size < N):=⟨hS,(hg.block _ (gl H1.out.2.1) (fun e=>by have:=Option.some.inj e;have:=H1.out.2.2.2;omega)).trans H1.out.2.1,H1.out.2.2.1.grown hg H1.out.2.2.1.size (fun k hk=>by cases hk;have:=H1.out.2.2.2;omega),H1.out.2.2.2⟩
 clear hS hg H1
 go_wp2_with fail
 refine (xO 3 (by omega) (by omega) H2.out.1).mono ?_
 rintro e w3 ⟨k2,rfl,k20,k21,hS,hg⟩
 have H3:Hid (St w3 N ao len cap b off/\Bx w3 w.heap.size zF 35/\Below w.heap.size w w3/\w.heap.size < N):=⟨hS,(hg.block _ (gl H2.out.2.1) (fun e=>by have:=Option.some.inj e;have:=H2.out.2.2.2;omega)).trans H2.out.2.1,H2.out.2.2.1.grown hg H2.out.2.2.1.size (fun k hk=>by cases hk;have:=H2.out.2.2.2;omega),H2.out.2.2.2⟩
 clear hS hg H2
 go_wp2_with fail
 refine (any9_st H3.out.1).mono ?_
 rintro e w4 ⟨ps,v,p,t,rfl,-,hpp,-,hD,-,hg⟩
 have HP:=hid hpp
 have H4:Hid (Bx w4 w.heap.size zF 35/\Below w.heap.size w w4/\zO w.heap.size w4.heap.size w4 p t):=⟨(hg.block _ (gl H3.out.2.1) (fun e=>by have:=Option.some.inj e;have:=H3.out.2.2.2;omega)).trans H3.out.2.1,H3.out.2.2.1.grown hg H3.out.2.2.1.size (fun k hk=>by cases hk;have:=H3.out.2.2.2;omega),hD.low H3.out.2.2.1.size⟩
 clear hpp hD hg H3
 go_upto_region 5 with (refine zC rfl _ _ _ rfl w4.heap.size (zA p t) rfl rfl 35 zF (heap_alloc_new w4 _) (by kernel_rfl) rfl (zJ H4.out.2.2.1) ?_;intro w5 hg hk hz;have hb5:Below w4.heap.size w4 w5:=yB hg;have H5:Hid (Bx w5 w.heap.size zF 35/\Below w.heap.size w w5/\zO w.heap.size w5.heap.size w5 p t/\Bx w5 w4.heap.size (zA p t) 35/\w.heap.size < w4.heap.size):=⟨(hb5.block _ (gl H4.out.1)).trans H4.out.1,bt H4.out.2.1 hb5,(H4.out.2.2.below hb5).wide hb5.size (nl _),hk,(gl H4.out.1)⟩;clear hg hk hz hb5 H4)
 obtain ⟨M,hM⟩:∃ M,M=w4.heap.size:=⟨_,rfl⟩
 rw [<- hM] at H5 ⊢
 clear hM
 refine xA (fun x=>Bx x M (zA p t) 35) (by kernel_rfl) ?_
 show wpAnyH Tryz.prog _ _ _ _ (9+1) (Array.replicate 10 false) _ _
 have hS:Bx w5.drew M (zA p t) 35:=H5.out.2.2.2.1
 refine yJ 0 23 (.agg (zA p t)) hS ?_ (hy:=fun x hx=>zM _ _ rfl M rfl _ _ _ _ hx Tryz.underlying35 rfl (by kernel_rfl))
 refine yJ 1 24 (.int .i64 (1+k1)) hS ?_
 refine yJ 2 25 (.pointer (some ⟨M,10,none⟩)) hS ?_
 refine yJ 3 26 (.pointer (some ⟨M,11,none⟩)) hS ?_
 refine yJ 4 27 (.int .i64 p.last.2.1) hS ?_ (hy:=by intro x hx;have c11:=zB hx 11 (.int .i64 p.last.2.1) rfl;go_simp;try with_reducible rfl)
 refine yJ 5 28 (.int .i64 (k2 - 1)) hS ?_
 refine yJ 6 29 (.int .i64 (IntKind.i64.wrap (p.last.2.1+(k2 - 1)))) hS ?_
 refine jR (s:=7) (N:=w.heap.size) (old:=zF) (cells:=zA p t) rfl rfl rfl rfl (by kernel_rfl) rfl rfl H5.out.1 (by kernel_rfl) rfl (zJ H5.out.2.2.1.1) ?_
 intro z hg hk
 have hd:Below w5.heap.size w5 w5.drew:=(br _ _).drew
 have HZ:Hid (Bx z w.heap.size (zA p t) 35/\Below w.heap.size w z/\zO w.heap.size z.heap.size z p t/\Bx z M (zA p t) 35):=⟨hk,(bt H5.out.2.1 hd).grown hg H5.out.2.1.size (fun k hk=>by cases hk;omega),((H5.out.2.2.1.below hd).boxed H5.out.1 hg).wide hg.size (nl _),(hg.block _ (gl H5.out.2.2.2.1) (fun e=>by have:=Option.some.inj e;have:=H5.out.2.2.2.2;omega)).trans H5.out.2.2.2.1⟩
 clear hg hk hd hS H5
 refine ⟨HZ.out.2.2.2,?_⟩
 have hS:=HZ.out.2.2.2
 refine yJ 8 3 (.int .i64 (1+k1)) hS ?_
 refine yJ 9 4 (.int .i64 (IntKind.i64.wrap (p.last.2.1+(k2 - 1)))) hS ?_
 refine wpAnyH_done (by kernel_rfl) ?_ _
 clear hS
 go_wp2
 refine bodyPost_ret (v:=.tuple #[.agg (zA p t),.int .i64 (1+k1),.int .i64 (IntKind.i64.wrap (p.last.2.1+(k2 - 1)))]) (results_ctt Tryz.results11 _ _ w.heap.size 35 _ (0,0) _ _ _ rfl HZ.out.1 Tryz.underlying35 rfl (by kernel_rfl) rfl rfl) rfl ?_
 exact ⟨p,t,_,_,rfl,HP.out,HZ.out.2.2.1,HZ.out.2.1⟩
end Go.Proofs.YtjdddcldbfhbiacGreatR
namespace Go.Proofs.YtjdddcldbfhbiacGreatR
open Go.RowKit Num
def yBF (l:VT) (phase view:Int):Array Value:=#[.int .i64 l.1,.int .i64 l.2.1,.int .i64 l.2.2.1,.int .i64 l.2.2.2,.int .i64 phase,.int .i64 view]
theorem isView_i (l:VT) (phase view:Int) (w:World) :
  Calls Tryz.prog 48 #[.agg (yBF l phase view)] w fun e w'=>e=.returned (.bool (decide (l.2.1 < view)))/\Below w.heap.size w w':=by
 have HK:Hid ((w.alloc (.cells (yBF l phase view) 78)).heap[w.heap.size]?=some (.cells (yBF l phase view) 78 (0,0))):=heap_alloc_new w _
 have c1:=zB HK.out 1 (.int .i64 l.2.1) rfl
 have c5:=zB HK.out 5 (.int .i64 view) rfl
 go_enter Tryz.func48,Tryz.ntmps48
 go_wp2
 go_ret
 exact ⟨rfl,ba (br _ _) _⟩
theorem isPhase_i (l:VT) (phase view:Int) (w:World) :
  Calls Tryz.prog 49 #[.agg (yBF l phase view)] w fun e w'=>e=.returned (.bool (decide (l.2.1=view) && decide (l.1 < phase)))/\Below w.heap.size w w':=by
 have HK:Hid ((w.alloc (.cells (yBF l phase view) 78)).heap[w.heap.size]?=some (.cells (yBF l phase view) 78 (0,0))):=heap_alloc_new w _
 have c0:=zB HK.out 0 (.int .i64 l.1) rfl
 have c1:=zB HK.out 1 (.int .i64 l.2.1) rfl
 have c4:=zB HK.out 4 (.int .i64 phase) rfl
 have c5:=zB HK.out 5 (.int .i64 view) rfl
 by_cases h2:l.2.1=view
 ·have b2:(l.2.1 == view)=true:=by simpa using h2
  have HR:Hid ((decide (l.2.1=view) && decide (l.1 < phase))=decide (l.1 < phase)):=(by rw [decide_eq_true h2];simp:(decide (l.2.1=view) && decide (l.1 < phase))=_)
  clear h2
  go_enter Tryz.func49,Tryz.ntmps49
  go_wp2
  go_ret
  exact ⟨zL HR.out.symm,ba (br _ _) _⟩
 ·have b2:(l.2.1 == view)=false:=by simpa using h2
  have HR:Hid ((decide (l.2.1=view) && decide (l.1 < phase))=false):=(by rw [decide_eq_false h2];simp:(decide (l.2.1=view) && decide (l.1 < phase))=_)
  go_enter Tryz.func49,Tryz.ntmps49
  go_wp2
  go_ret
  exact ⟨zL HR.out.symm,ba (br _ _) _⟩
theorem oneTurn_i (l:VT) (phase view:Int) (g cap:Nat) (w:World) (hg:g < w.heap.size)
  (h0:w.cell? ⟨g,0,none⟩=some (.func (.func 48) #[] #[])) (h1:w.cell? ⟨g,1,none⟩=some (.func (.func 49) #[] #[])) :
  Calls Tryz.prog 47 #[.agg (yBF l phase view),.slice (some ⟨g,0,none⟩) 2 cap] w fun e w'=>e=.returned (.bool (decide (l.2.1 < view) || (decide (l.2.1=view) && decide (l.1 < phase))))/\Below w.heap.size w w':=by
 have H0:=hid h0
 have H1:=hid h1
 obtain ⟨W,hW⟩:∃ W,W=w.alloc (.cells (yBF l phase view) 78):=⟨_,rfl⟩
 have HW:Hid (Below w.heap.size w W/\Bx W w.heap.size (yBF l phase view) 78):=hid (by rw [hW];exact ⟨ba (br _ _) _,heap_alloc_new w _⟩)
 clear h0 h1
 go_enter Tryz.func47,Tryz.ntmps47
 go_wp2
 rw [<- hW]
 clear hW
 go_loopw [9] (fun i wr=>∃ k:Nat,k<=2/\i=.int .i64 (k:Int)/\Hid (0 < k->decide (l.2.1 < view)=false)/\Hid (1 < k->(decide (l.2.1=view) && decide (l.1 < phase))=false)/\Hid (Below w.heap.size w wr/\Bx wr w.heap.size (yBF l phase view) 78)) (fun i _=>2 - (intOf i).toNat)
 case atStart=>exact ⟨0,by omega,rfl,fun h=>absurd h (by omega),fun h=>absurd h (by omega),HW.out⟩
 case round=>
  obtain ⟨k,hk,rfl,HA,HB,HC⟩:=hrel
  have hk3:k=0∨k=1∨k=2:=by omega
  rcases hk3 with rfl | rfl | rfl
  ·have cc:wr.cell? ⟨g,0,none⟩=some (.func (.func 48) #[] #[]):=by rw [HC.out.1.cell (by exact hg)];exact H0.out
   go_wp2_with (refine wpList_load_row rfl _ _ rfl w.heap.size rfl 78 _ (0,0) _ HC.out.2 Tryz.underlying78 rfl (by kernel_rfl) ?_)
   refine (isView_i l phase view wr).mono ?_
   rintro e w1 ⟨rfl,hb⟩
   have HC1:Hid (Below w.heap.size w w1/\Bx w1 w.heap.size (yBF l phase view) 78):=⟨bt HC.out.1 hb,(hb.block _ (gl HC.out.2)).trans HC.out.2⟩
   clear hb cc
   by_cases hv:decide (l.2.1 < view)=true
   ·have HV:=hid hv
    rw [hv]
    clear hv
    go_wp2
    go_ret
    exact ⟨by rw [HV.out];rfl,HC1.out.1⟩
   ·have HV:Hid (decide (l.2.1 < view)=false):=Bool.eq_false_iff.2 hv
    rw [HV.out]
    clear hv
    go_wp2
    go_roundw
    case rel=>exact ⟨1,by omega,by go_num,fun _=>HV.out,fun h=>absurd h (by omega),HC1.out⟩
    case measure=>simp [intOf]
  ·have cc:wr.cell? ⟨g,1,none⟩=some (.func (.func 49) #[] #[]):=by rw [HC.out.1.cell (by exact hg)];exact H1.out
   go_wp2_with (refine wpList_load_row rfl _ _ rfl w.heap.size rfl 78 _ (0,0) _ HC.out.2 Tryz.underlying78 rfl (by kernel_rfl) ?_)
   refine (isPhase_i l phase view wr).mono ?_
   rintro e w1 ⟨rfl,hb⟩
   have HC1:Hid (Below w.heap.size w w1/\Bx w1 w.heap.size (yBF l phase view) 78):=⟨bt HC.out.1 hb,(hb.block _ (gl HC.out.2)).trans HC.out.2⟩
   clear hb cc
   have HV0:Hid (decide (l.2.1 < view)=false):=HA.out (by omega)
   by_cases hv:(decide (l.2.1=view) && decide (l.1 < phase))=true
   ·have HV:=hid hv
    rw [hv]
    clear hv
    go_wp2
    go_ret
    exact ⟨by rw [HV0.out,HV.out];rfl,HC1.out.1⟩
   ·have HV:Hid ((decide (l.2.1=view) && decide (l.1 < phase))=false):=Bool.eq_false_iff.2 hv
    rw [HV.out]
    clear hv
    go_wp2
    go_roundw
    case rel=>exact ⟨2,by omega,by go_num,fun _=>HV0.out,fun _=>HV.out,HC1.out⟩
    case measure=>simp [intOf]
  ·have HV0:Hid (decide (l.2.1 < view)=false):=HA.out (by omega)
   have HV1:Hid ((decide (l.2.1=view) && decide (l.1 < phase))=false):=HB.out (by omega)
   go_wp2
   go_ret
   exact ⟨by rw [HV0.out,HV1.out];rfl,HC.out.1⟩
theorem yAJ (p:PE) (s:PV) (phase view:Int) (w:World) :
  Calls Tryz.prog 12 #[yZ p s,.int .i64 phase,.int .i64 view] w fun e w'=>e=.returned (.bool (zEG p phase view))/\Below w.heap.size w w':=by
 obtain ⟨W,hW⟩:∃ W,W=w.alloc (.cells (zA p s) 35):=⟨_,rfl⟩
 have HW:Hid (Below w.heap.size w W/\Bx W w.heap.size (zA p s) 35):=hid (by rw [hW];exact ⟨ba (br _ _) _,heap_alloc_new w _⟩)
 have c10:=zB HW.out.2 10 (.int .i64 p.last.1) rfl
 have c11:=zB HW.out.2 11 (.int .i64 p.last.2.1) rfl
 have c12:=zB HW.out.2 12 (.int .i64 p.last.2.2.1) rfl
 have c13:=zB HW.out.2 13 (.int .i64 p.last.2.2.2) rfl
 go_enter Tryz.func12,Tryz.ntmps12
 go_wp2_with (first
  | (refine zC rfl _ _ _ rfl W.heap.size (yBF p.last phase view) rfl rfl 78 _ (heap_alloc_new W _) (by kernel_rfl) rfl (by simp [yBF,Value.oneCell']) ?_;intro y1 hg hk hz;have HY1:Hid (Below w.heap.size w y1/\Bx y1 W.heap.size (yBF p.last phase view) 78):=⟨bt HW.out.1 (yB hg),hk⟩;clear hg hk hz c10 c11 c12 c13)
  | (rw [<- hW];clear hW)
  | (refine wpList_load_row rfl _ _ rfl W.heap.size rfl 78 _ (0,0) _ HY1.out.2 Tryz.underlying78 rfl (by kernel_rfl) ?_))
 have HZ:Hid (Below w.heap.size w (y1.alloc (Obj.cells #[Value.func (Fn.func 48) #[] #[],Value.func (Fn.func 49) #[] #[]] 80))):=ba HY1.out.1 _
 refine (oneTurn_i p.last phase view y1.heap.size 2 _ (by simp) (zB (heap_alloc_new y1 _) 0 _ rfl) (zB (heap_alloc_new y1 _) 1 _ rfl)).mono ?_
 rintro e w2 ⟨rfl,hb⟩
 have HB:Hid (Below w.heap.size w w2):=bt HZ.out hb
 clear hb HZ
 go_wp2
 go_ret
 exact ⟨zL rfl,HB.out⟩
end Go.Proofs.YtjdddcldbfhbiacGreatR
namespace Go.Proofs.YtjdddcldbfhbiacGreatR
open Go.Shelf Go.RowKit
def lays316_ren:Go.Shelf.Ren:=⟨fun | 316=>172 | n=>n,fun | 9=>9 | 3=>3 | 4=>4 | 37=>22 | 0=>0 | 127=>250 | 5=>5 | n=>n,fun | n=>n⟩
theorem lays316:Go.Proofs.LaysM.n316 Tryz.prog lays316_ren:={
 mixed:=by kernel_rfl
 f316:=Tryz.func172.trans (congrArg some (by kernel_rfl))
 t0:=Tryz.underlying0
 a0:=Tryz.isAgg0
 z0:=Tryz.sizeOf0
 v0:=Tryz.zeroValue0
 t3:=Tryz.underlying3
 a3:=Tryz.isAgg3
 z3:=Tryz.sizeOf3
 v3:=Tryz.zeroValue3
 t4:=Tryz.underlying4
 a4:=Tryz.isAgg4
 z4:=Tryz.sizeOf4
 v4:=Tryz.zeroValue4
 t9:=Tryz.underlying9
 a9:=Tryz.isAgg9
 z9:=Tryz.sizeOf9
 v9:=Tryz.zeroValue9
 t37:=Tryz.underlying22
 a37:=Tryz.isAgg22
 z37:=Tryz.sizeOf22
 v37:=Tryz.zeroValue22
 t127:=Tryz.underlying250
 a127:=Tryz.isAgg250
 z127:=Tryz.sizeOf250
 v127:=Tryz.zeroValue250
 t5:=Tryz.underlying5
 a5:=Tryz.isAgg5
 z5:=Tryz.sizeOf5
 v5:=Tryz.zeroValue5
 i0:=by kernel_rfl
 i3:=by kernel_rfl
 i4:=by kernel_rfl
 i5:=by kernel_rfl
 i9:=by kernel_rfl
 i37:=by kernel_rfl
 i127:=by kernel_rfl }
theorem slclone (s:ByteArray) (w:World) (hlim:s.size<=281474976710656) :
  Calls Tryz.prog 172 #[.string s] w fun e w'=>e=.returned (.string s)/\Below w.heap.size w w':=Any.stringslite_Clone lays316 s w hlim
theorem clone (s:ByteArray) (w:World) (hlim:s.size<=281474976710656) :
  Calls Tryz.prog 125 #[.string s] w fun e w'=>e=.returned (.string s)/\Below w.heap.size w w':=by
 go_enter Tryz.func125,Tryz.ntmps125
 go_wp2_with (go_at_call 172;refine (slclone _ _ hlim).mono ?_;rintro e w' ⟨rfl,hb⟩)
 go_ret
 exact ⟨rfl,hb⟩
end Go.Proofs.YtjdddcldbfhbiacGreatR
namespace Go.Proofs.YtjdddcldbfhbiacGreatR
open Go.RowKit Num
theorem newsC (W:World) (k:ByteArray) (n:Int) (t:TypeId):∀ j u,([.string k,.int .i64 n]:List Value)[j]?=some u->(W.alloc (.cells #[.string k,.int .i64 n] t)).cell? ((⟨W.heap.size,0,none⟩:Addr).add j)=some u:=by
 intro j u hj
 match j,hj with
 | 0,hj=>simp at hj;subst hj;simp [Addr.add]
 | 1,hj=>simp at hj;subst hj;simp [Addr.add]
theorem onesC (k:ByteArray) (n:Int):∀ u∈([.string k,.int .i64 n]:List Value),u.oneCell'=true:=by
 intro u hu;simp at hu;rcases hu with h | h <;> subst h <;> rfl
theorem take_snoc' {cs:CL} {k:Nat} (h:k < cs.length):cs.take (k+1)=cs.take k ++ [cs[k]]:=by
 rw [List.take_add_one,List.getElem?_eq_getElem h];rfl
theorem copy_i (cs:CL) (v:Value) (w:World) (hv:qQ w v cs) (hl:(cs.length:Int)<=1048576) (hall:∀ c∈cs,(c.1.size:Int)<=1048576) :
  Calls Tryz.prog 84 #[v] w fun e w'=>∃ v',e=.returned v'/\w'.ownsRow w.heap.size 92 2 v' cs.length (kM cs)/\Below w.heap.size w w':=by
 have HZ:=hid hall
 obtain ⟨a,cap,rfl,hr⟩:=hv
 have HR:=hid hr
 obtain ⟨i0,hi,hz0,hz1,hz2⟩:=info_parts infoC
 clear hall hr
 go_enter Tryz.func84,Tryz.ntmps84
 go_wp2_with (at_make;refine wpList_make_own _ rfl _ _ 30 rfl w.heap.size 92 i0 _ 2 Tryz.underlying30 hi hz0 hz1 _ _ _ cs.length rfl rfl rfl (by rw [hz2];omega) (by unfold maxLen;omega) (nl _) ?_;intro w0 hown0 hgrow0)
 have B0:Below w.heap.size w w0:=(br _ _).grown hgrow0 (nl _) (fun k h=>by cases h)
 have HO0:Hid (w0.ownsRow w.heap.size 92 2 (.slice (some ⟨w.heap.size,0,none⟩) 0 cs.length) 0 []):=hown0
 have HB0:Hid (Below w.heap.size w w0):=B0
 clear hown0 hgrow0 B0
 go_loopw [3,11] (fun o i wr=>∃ k:Nat,k<=cs.length/\i=.int .i64 (k:Int)/\wr.ownsRow w.heap.size 92 2 o k (kM (cs.take k))/\Below w.heap.size w wr) (fun _ i _=>cs.length - (intOf i).toNat)
 case atStart=>exact ⟨0,Nat.zero_le _,rfl,HO0.out,HB0.out⟩
 case round=>
  obtain ⟨k,hk,rfl,hown,hbel⟩:=hrel
  have HO:Hid (wr.ownsRow w.heap.size 92 2 u3 k (kM (cs.take k))):=hown
  have HB:Hid (Below w.heap.size w wr):=hbel
  have hbs:=hbel.size
  clear hown hbel
  by_cases hlt:(k:Int) < cs.length
  ·have hkn:k < cs.length:=by omega
   obtain ⟨g,off,rfl,hg,hc⟩:=HR.out (by omega)
   have q0:(0:Int)<=(k:Int):=by omega
   have c0:wr.cell? ⟨g,off+k * 2,none⟩=some (.string cs[k].1):=by rw [HB.out.cell (by exact hg)];exact (hc k hkn).1
   have c1:wr.cell? ⟨g,off+k * 2+1,none⟩=some (.int .i64 cs[k].2):=by rw [HB.out.cell (by exact hg)];exact (hc k hkn).2
   have hlim:cs[k].1.size<=281474976710656:=by have:=HZ.out cs[k] (List.getElem_mem hkn);omega
   obtain ⟨ws,hws⟩:∃ ws,ws=wr.alloc (Obj.cells #[Value.string cs[k].1,Value.int IntKind.i64 cs[k].2] 92):=⟨_,rfl⟩
   have hwss:ws.heap.size=wr.heap.size+1:=by rw [hws];simp
   have HS:Hid (∀ w',Below ws.heap.size ws w'->w'.cell? ⟨wr.heap.size,0,none⟩=some (.string cs[k].1)/\w'.cell? ⟨wr.heap.size,1,none⟩=some (.int .i64 cs[k].2)):=fun w' hb=>by
    constructor <;> rw [hb.cell (by simp [hwss]),hws] <;> simp
   have HWS:Hid (ws=wr.alloc (Obj.cells #[Value.string cs[k].1,Value.int IntKind.i64 cs[k].2] 92)):=hws
   have BS:Hid (Below wr.heap.size wr ws):=by rw [hws];exact ba (br _ _) _
   have HOS:Hid (ws.ownsRow w.heap.size 92 2 u3 k (kM (cs.take k))):=zS HO.out BS.out
   clear hc
   go_wp2
   rw [<- hws]
   clear hws
   go_region_held3 (fun w'=>w'.cell? ⟨wr.heap.size,0,none⟩=some (.string cs[k].1)/\w'.cell? ⟨wr.heap.size,1,none⟩=some (.int .i64 cs[k].2)) (first | exact HS.out _ (br _ _).drew | exact HS.out _ hbc | exact HS.out _ (ba hbc _) | exact hs3) (first | (refine step_append_lies _ (by rfl) (.tmp 15) (.tmp 22) 30 (by rfl) w.heap.size 92 i0 _ 2 24 Tryz.underlying30 hi hz0 hz1 hz2 rfl (by decide) _ _ _ (by rfl) (World.ownsRow.alloc HO2.out _) ⟨World.heap _ |>.size,0,none⟩ 1 1 [.string cs[k].1,.int .i64 cs[k].2] (by rfl) rfl (newsC _ _ _ _) (onesC _ _) (by decide) (by unfold maxLen;omega) (by omega) (by simp;omega) _ rfl ?_;intro g2 cap2 w3 hown3 hgrow3 hx1 hx2;clear hx1 hx2;have hb3:Below w.heap.size w w3:=(ba (bt (bt HB.out BS.out) hbc) _).grown hgrow3 (by simp;omega) (fun x hx=>(HO2.out.lt x hx).1);have hs3:w3.cell? ⟨wr.heap.size,0,none⟩=some (.string cs[k].1)/\w3.cell? ⟨wr.heap.size,1,none⟩=some (.int .i64 cs[k].2):=(by have h2:=HS.out _ (ba hbc (Obj.cells #[Value.string cs[k].1,Value.int IntKind.i64 cs[k].2] 92));rw [<- h2.1,<- h2.2];exact ⟨yAD hgrow3 (by simp;omega) (fun e=>by have:=(HO.out.lt _ e).2;omega),yAD hgrow3 (by simp;omega) (fun e=>by have:=(HO.out.lt _ e).2;omega)⟩)) | (go_at_call 125;refine (clone _ _ hlim).mono ?_;rintro e w2 ⟨rfl,hb2⟩;have hbc:Below ws.heap.size ws w2:=(br _ _).drew.trans hb2;have HO2:Hid (w2.ownsRow w.heap.size 92 2 u3 k (kM (cs.take k))):=zS HOS.out hbc;have hbs2:=hbc.size))
   all_goals
    have HO3:Hid (w3.ownsRow w.heap.size 92 2 (.slice (some ⟨g2,0,none⟩) (k+1) cap2) (k+1) (kM (cs.take k) ++ [.string cs[k].1,.int .i64 cs[k].2])):=hown3
    clear hown3 hgrow3 hs3
    go_wp2
    go_roundw
    case rel=>exact ⟨k+1,by omega,by go_num,by rw [take_snoc' hkn,flat_append];exact HO3.out,hb3⟩
    case measure=>simp [intOf];omega
  ·have hkl:k=cs.length:=by omega
   have HK:Hid (k=cs.length):=hkl
   clear hkl
   go_wp2
   go_ret
   have:=HO.out
   rw [HK.out,List.take_length] at this
   exact ⟨_,rfl,this,HB.out⟩
end Go.Proofs.YtjdddcldbfhbiacGreatR
