/-
  A text of ours: TimeS.
-/
import Derived.Test.YtjdddcldbfhbiacGreatRK1
import Derived.Test.YtjdddcldbfhbiacGreatRK3
import Derived.Test.YtjdddcldbfhbiacGreatRK4
import Derived.Test.YtjdddcldbfhbiacGreatRReadyS
set_option maxRecDepth 100000
set_option maxHeartbeats 32000000
namespace Go.Proofs.YtjdddcldbfhbiacGreatR
open Go.RowKit Num
def jT (p:PE) (n:Int):Bool:=decide (p.view < 900) && inB n 1 7
def zGH (p:PE) (n:Int):PE:=if jT p n=true then yI p (p.view+1) else p
def yEB (p:PE) (n:Int):LT:=if jT p n=true then kX (yI p (p.view+1)) 4 (xQ (yI p (p.view+1)).view n) (yI p (p.view+1)).high (0,0,0,0) else ((0,0,0,0,0),(0,0,0,0),(0,0,0,0))
theorem zIB {P:Program} {fn:Func} {p q r:Tmp} {ty tz:TypeId} (h:fn.results=#[.cell p ty,.cell q tz,.tmp r]) (tmps:Array Value) (w:World) (g:Nat) (t:TypeId) (cs:Array Value) (fr:Nat × Nat) (d:TypeDesc) (g':Nat) (t':TypeId) (cs':Array Value) (fr':Nat × Nat) (d':TypeDesc) (u:Value)
  (hp:tmps.getD p undef=.pointer (some ⟨g,0,none⟩)) (hg:w.heap[g]?=some (.cells cs t fr)) (hu:P.underlying ty=some d) (hd:(match d with | .struct _ | .array _ _=>true | _=>false)=true) (hi:(P.info? ty).map (·.size)=some cs.size)
  (hq:tmps.getD q undef=.pointer (some ⟨g',0,none⟩)) (hg':w.heap[g']?=some (.cells cs' t' fr')) (hu':P.underlying tz=some d') (hd':(match d' with | .struct _ | .array _ _=>true | _=>false)=true) (hi':(P.info? tz).map (·.size)=some cs'.size)
  (hr:tmps.getD r undef=u) :
  (results fn tmps).run P w=.ok (.tuple #[.agg cs,.agg cs',u]) w:=by
 have hp':tmps[p]?.getD undef=.pointer (some ⟨g,0,none⟩):=by simpa using hp
 have hq':tmps[q]?.getD undef=.pointer (some ⟨g',0,none⟩):=by simpa using hq
 have hr':tmps[r]?.getD undef=u:=by simpa using hr
 simp [results,h,hp',hq',hr',asAddr,run_loadVar_row w g t ty cs fr d hg hu hd hi,run_loadVar_row w g' t' tz cs' fr' d' hg' hu' hd' hi']
theorem yBE (p:PE) (s:PV) (n:Int) (w:World) (hg:yDG p) (hwn:(Lit.int .i64 n).wf=true) (hR:jS w p s) (hs:yC p) :
  Calls Tryz.prog 196 #[yZ p s,.int .i64 n] w fun e w'=>∃ s',e=.returned (.tuple #[yZ (zGH p n) s',.agg (zQ (yEB p n)),.bool (jT p n)])∧zO w.heap.size w'.heap.size w' (zGH p n) s'∧Below w.heap.size w w':=by
 have HR:=hid hR
 have HS:=hid hs
 obtain ⟨hn0,hn1⟩:=bounds_i64 hwn
 obtain ⟨hv0,hv1⟩:=bounds_i64 hg.gview
 clear hR hs hg hwn
 obtain ⟨W,hW⟩:∃ W,W=((w.alloc (.cells (zA p s) 35)).alloc (.cells zF 35)).alloc (.cells (zQ ((0,0,0,0,0),(0,0,0,0),(0,0,0,0))) 61):=⟨_,rfl⟩
 have HC:Hid (Below w.heap.size w W∧Bx W w.heap.size (zA p s) 35∧Bx W (w.heap.size+1) zF 35∧Bx W (w.heap.size+1+1) (zQ ((0,0,0,0,0),(0,0,0,0),(0,0,0,0))) 61):=by
  rw [hW];exact ⟨ba (ba (ba (br _ _) _) _) _,zJH w _ _ _⟩
 have HWS:Hid (W.heap.size=w.heap.size+1+1+1):=hid (by rw [hW];simp)
 have c1:=zB HC.out.2.1 1 (.int .i64 p.view) rfl
 unfold zF zQ at hW
 simp only at hW
 have done:∀ (hgo:jT p n=false),Hid (zGH p n=p∧yEB p n=((0,0,0,0,0),(0,0,0,0),(0,0,0,0))):=fun hgo=>(by unfold zGH yEB;rw [hgo];exact ⟨rfl,rfl⟩:zGH p n=p∧_)
 by_cases h1:p.view < 900
 ·have b1:¬ p.view ≥ 900:=by omega
  have b1':¬ (900:Int)≤p.view:=by omega
  have d1:decide ((900:Int)≤p.view)=false:=decide_eq_false b1'
  cases h2:inB n 1 7 with
  | false=>
   have HGO:Hid (jT p n=false):=hid (by unfold jT;rw [h2];simp)
   have HT:=done HGO.out
   clear done
   go_enter Tryz.func196,Tryz.ntmps196
   go_wp2_with (rw [← hW];clear hW)
   refine (jU h2 _).mono ?_
   rintro e x0 ⟨rfl,hw⟩
   obtain rfl:=hw.symm
   clear hw c1
   go_wp2_with (refine wpList_load_row rfl _ _ rfl w.heap.size rfl 35 _ (0,0) _ HC.out.2.1 Tryz.underlying35 rfl (by kernel_rfl) ?_)
   refine (zHJ p s W (HR.out.below HC.out.1) HS.out).mono ?_
   rintro e x1 ⟨s1,rfl,ho,hb⟩
   have HO1:=hid ho.toD
   have HX1:Hid (Below w.heap.size w x1∧Bx x1 (w.heap.size+1) zF 35∧Bx x1 (w.heap.size+1+1) (zQ ((0,0,0,0,0),(0,0,0,0),(0,0,0,0))) 61):=⟨bt HC.out.1 hb,(hb.block _ (gl HC.out.2.2.1)).trans HC.out.2.2.1,(hb.block _ (gl HC.out.2.2.2)).trans HC.out.2.2.2⟩
   clear ho hb HC
   go_wp2_with (first
    | (refine zC rfl _ _ _ rfl (w.heap.size+1) (zA p s1) rfl rfl 35 zF HX1.out.2.1 (by kernel_rfl) rfl (zJ HO1.out.1) ?_;intro y1 hg hk hz;have HY1:Hid (Below w.heap.size w y1∧Bx y1 (w.heap.size+1) (zA p s1) 35∧Bx y1 (w.heap.size+1+1) (zQ ((0,0,0,0,0),(0,0,0,0),(0,0,0,0))) 61):=⟨HX1.out.1.grown hg HX1.out.1.size (fun k hk=>by cases hk;omega),hk,(hg.block _ (gl HX1.out.2.2) (fun e=>by have:=Option.some.inj e;omega)).trans HX1.out.2.2⟩;have HD1:Hid (zO W.heap.size y1.heap.size y1 p s1):=(HO1.out.boxed HX1.out.2.1 hg).wide hg.size (nl _);clear hg hk hz HX1 HO1)
    | (refine zC rfl _ _ _ rfl (w.heap.size+1+1) (zQ ((0,0,0,0,0),(0,0,0,0),(0,0,0,0))) rfl rfl 61 (zQ ((0,0,0,0,0),(0,0,0,0),(0,0,0,0))) HY1.out.2.2 (by kernel_rfl) rfl (kD _) ?_;intro z hg hk hz;have HBz:Hid (Below w.heap.size w z):=HY1.out.1.grown hg HY1.out.1.size (fun k hk=>by cases hk;omega);have HKz:Hid (Bx z (w.heap.size+1) (zA p s1) 35):=(hg.block _ (gl HY1.out.2.1) (fun e=>by have:=Option.some.inj e;omega)).trans HY1.out.2.1;have HLz:=hid hk;have HFz:Hid (zO W.heap.size z.heap.size z p s1):=(HD1.out.far hg (Or.inl (by have:=HWS.out;omega))).wide hg.size (nl _);clear hg hk hz HY1 HD1))
   refine bodyPost_ret (v:=.tuple #[.agg (zA p s1),.agg (zQ ((0,0,0,0,0),(0,0,0,0),(0,0,0,0))),.bool false]) (zIB Tryz.results196 _ _ (w.heap.size+1) 35 _ (0,0) _ (w.heap.size+1+1) 61 _ (0,0) _ _ rfl HKz.out Tryz.underlying35 rfl (by kernel_rfl) rfl HLz.out Tryz.underlying61 rfl (by kernel_rfl) rfl) rfl ?_
   rw [HT.out.1,HT.out.2,HGO.out]
   exact ⟨_,rfl,HFz.out.low (by have:=HWS.out;omega),HBz.out⟩
  | true=>
   have HGO:Hid (jT p n=true):=hid (by unfold jT;rw [h2,decide_eq_true h1];rfl)
   have HT:Hid (zGH p n=yI p (p.view+1)∧yEB p n=kX (yI p (p.view+1)) 4 (xQ (yI p (p.view+1)).view n) (yI p (p.view+1)).high (0,0,0,0)):=hid (by unfold zGH yEB;rw [HGO.out];exact ⟨rfl,rfl⟩)
   have hvv:(yI p (p.view+1)).view=p.view+1:=by unfold yI;rw [if_pos ⟨by omega,by omega⟩]
   clear done
   go_enter Tryz.func196,Tryz.ntmps196
   go_wp2_with (rw [← hW];clear hW)
   refine (jU h2 _).mono ?_
   rintro e x0 ⟨rfl,hw⟩
   obtain rfl:=hw.symm
   clear hw
   go_wp2_with (refine wpList_load_row rfl _ _ rfl w.heap.size rfl 35 _ (0,0) _ HC.out.2.1 Tryz.underlying35 rfl (by kernel_rfl) ?_)
   refine (zCB p s (p.view+1) W (HR.out.below HC.out.1) HS.out).mono ?_
   obtain ⟨q,hq⟩:∃ q,q=yI p (p.view+1):=⟨_,rfl⟩
   rw [← hq] at hvv HT ⊢
   have HQV:=hid hvv
   clear hq hvv
   rintro e x1 ⟨s1,rfl,ho,hb⟩
   have HO1:=hid ho
   have HX1:Hid (Below w.heap.size w x1∧Bx x1 (w.heap.size+1) zF 35∧Bx x1 (w.heap.size+1+1) (zQ ((0,0,0,0,0),(0,0,0,0),(0,0,0,0))) 61∧W.heap.size≤x1.heap.size):=⟨bt HC.out.1 hb,(hb.block _ (gl HC.out.2.2.1)).trans HC.out.2.2.1,(hb.block _ (gl HC.out.2.2.2)).trans HC.out.2.2.2,hb.size⟩
   clear ho hb HC c1
   go_wp2_with (refine zC rfl _ _ _ rfl x1.heap.size (zA q s1) rfl rfl 35 zF (heap_alloc_new x1 _) (by kernel_rfl) rfl (zJ HO1.out.1) ?_;intro y1 hg hk hz;have hb:Below x1.heap.size x1 y1:=yB hg;have HY1:Hid (Below w.heap.size w y1∧Bx y1 (w.heap.size+1) zF 35∧Bx y1 (w.heap.size+1+1) (zQ ((0,0,0,0,0),(0,0,0,0),(0,0,0,0))) 61∧Bx y1 x1.heap.size (zA q s1) 35):=⟨bt HX1.out.1 hb,(hb.block _ (gl HX1.out.2.1)).trans HX1.out.2.1,(hb.block _ (gl HX1.out.2.2.1)).trans HX1.out.2.2.1,hk⟩;have HD1:Hid (zO W.heap.size y1.heap.size y1 q s1):=(HO1.out.below hb).wide (Nat.le_of_lt (gl hk)) (nl _);have HL1:=hid HX1.out.2.2.2;clear hg hk hz hb HX1 HO1)
   obtain ⟨ld,e1⟩:∃ ld,xQ q.view n=ld:=⟨_,rfl⟩
   rw [e1] at HT
   refine xA (fun x=>Bx x x1.heap.size (zA q s1) 35) (by kernel_rfl) ?_
   show wpAnyH Tryz.prog _ _ _ _ (12+1) (Array.replicate 13 false) _ _
   have hS:Bx y1.drew x1.heap.size (zA q s1) 35:=HY1.out.2.2.2
   refine yJ 0 24 (.agg (zA q s1)) hS ?_ (hy:=fun x hx=>zM _ _ rfl x1.heap.size rfl _ _ _ _ hx Tryz.underlying35 rfl (by kernel_rfl))
   refine yJ 1 25 (.agg (zA q s1)) hS ?_ (hy:=fun x hx=>zM _ _ rfl x1.heap.size rfl _ _ _ _ hx Tryz.underlying35 rfl (by kernel_rfl))
   refine yJ 2 26 (.pointer (some ⟨x1.heap.size,1,none⟩)) hS ?_
   refine yJ 3 27 (.int .i64 q.view) hS ?_ (hy:=by intro x hx;have c:=zB hx 1 (.int .i64 q.view) rfl;go_simp;try with_reducible rfl)
   refine yJ 4 28 (.int .i64 n) hS ?_
   refine yJ 6 30 (.pointer (some ⟨x1.heap.size,2,none⟩)) hS ?_
   refine yJ 7 31 (.agg #[.int .i64 q.high.1,.int .i64 q.high.2.1,.int .i64 q.high.2.2.1,.int .i64 q.high.2.2.2]) hS ?_ (hy:=by intro x hx;have c0:=zB hx 2 (.int .i64 q.high.1) rfl;have c1:=zB hx 3 (.int .i64 q.high.2.1) rfl;have c2:=zB hx 4 (.int .i64 q.high.2.2.1) rfl;have c3:=zB hx 5 (.int .i64 q.high.2.2.2) rfl;go_simp;try with_reducible rfl)
   refine yJ 8 32 (.agg #[.int .i64 0,.int .i64 0,.int .i64 0,.int .i64 0]) hS ?_
   refine h_cl 5 29 121 #[.int .i64 q.view,.int .i64 n] ((xR e1 hn0 hn1 (by have:=HQV.out;omega) (by have:=HQV.out;omega) y1.drew).mono ?_)
   rintro e x2 ⟨rfl,hw⟩
   obtain rfl:=hw.symm
   clear hw
   refine ⟨_,rfl,hS,?_⟩
   simp only [pz]
   refine h_cl 9 33 40 #[.agg (zA q s1),.int .i64 4,.int .i64 ld,.agg #[.int .i64 q.high.1,.int .i64 q.high.2.1,.int .i64 q.high.2.2.1,.int .i64 q.high.2.2.2],.agg #[.int .i64 0,.int .i64 0,.int .i64 0,.int .i64 0]] ((answered_s q s1 4 ld q.high (0,0,0,0) y1.drew).mono ?_)
   obtain ⟨LL,hLL⟩:∃ LL,LL=kX q 4 ld q.high (0,0,0,0):=⟨_,rfl⟩
   rw [← hLL] at HT ⊢
   clear hLL
   rintro e x3 ⟨rfl,hb0⟩
   have hb:Below y1.heap.size y1 x3:=((br _ _).drew).trans hb0
   have HY3:Hid (Below w.heap.size w x3∧Bx x3 (w.heap.size+1) zF 35∧Bx x3 (w.heap.size+1+1) (zQ ((0,0,0,0,0),(0,0,0,0),(0,0,0,0))) 61∧Bx x3 x1.heap.size (zA q s1) 35):=⟨bt HY1.out.1 hb,(hb.block _ (gl HY1.out.2.1)).trans HY1.out.2.1,(hb.block _ (gl HY1.out.2.2.1)).trans HY1.out.2.2.1,(hb.block _ (gl HY1.out.2.2.2)).trans HY1.out.2.2.2⟩
   have HD3:Hid (zO W.heap.size x3.heap.size x3 q s1):=(HD1.out.below hb).wide hb.size (nl _)
   clear hb hb0 hS HY1 HD1
   refine ⟨_,rfl,HY3.out.2.2.2,?_⟩
   simp only [pz]
   refine jR (s:=10) (N:=w.heap.size+1) (old:=zF) (cells:=zA q s1) rfl rfl rfl rfl (by kernel_rfl) rfl rfl HY3.out.2.1 (by kernel_rfl) rfl (zJ HD3.out.1) ?_
   intro y4 hg hk
   have HY4:Hid (Below w.heap.size w y4∧Bx y4 (w.heap.size+1) (zA q s1) 35∧Bx y4 (w.heap.size+1+1) (zQ ((0,0,0,0,0),(0,0,0,0),(0,0,0,0))) 61∧Bx y4 x1.heap.size (zA q s1) 35):=⟨HY3.out.1.grown hg HY3.out.1.size (fun k hk=>by cases hk;omega),hk,(hg.block _ (gl HY3.out.2.2.1) (fun e=>by have:=Option.some.inj e;omega)).trans HY3.out.2.2.1,(hg.block _ (gl HY3.out.2.2.2) (fun e=>by have:=Option.some.inj e;have:=HL1.out;have:=HWS.out;omega)).trans HY3.out.2.2.2⟩
   have HD4:Hid (zO W.heap.size y4.heap.size y4 q s1):=(HD3.out.boxed HY3.out.2.1 hg).wide hg.size (nl _)
   clear hg hk HY3 HD3
   refine ⟨HY4.out.2.2.2,?_⟩
   refine jR (s:=11) (N:=w.heap.size+1+1) (old:=(zQ ((0,0,0,0,0),(0,0,0,0),(0,0,0,0)))) (cells:=zQ LL) rfl rfl rfl rfl (by kernel_rfl) rfl rfl HY4.out.2.2.1 (by kernel_rfl) rfl (kD _) ?_
   intro z hg hk
   have HBz:Hid (Below w.heap.size w z):=HY4.out.1.grown hg HY4.out.1.size (fun k hk=>by cases hk;omega)
   have HKz:Hid (Bx z (w.heap.size+1) (zA q s1) 35):=(hg.block _ (gl HY4.out.2.1) (fun e=>by have:=Option.some.inj e;omega)).trans HY4.out.2.1
   have HLz:=hid hk
   have HFz:Hid (zO W.heap.size z.heap.size z q s1):=(HD4.out.far hg (Or.inl (by have:=HWS.out;omega))).wide hg.size (nl _)
   have HSz:Hid (Bx z x1.heap.size (zA q s1) 35):=(hg.block _ (gl HY4.out.2.2.2) (fun e=>by have:=Option.some.inj e;have:=HL1.out;have:=HWS.out;omega)).trans HY4.out.2.2.2
   clear hg hk HY4 HD4
   refine ⟨HSz.out,?_⟩
   refine yJ 12 6 (.bool true) HSz.out ?_
   refine wpAnyH_done (by kernel_rfl) ?_ _
   go_wp2
   refine bodyPost_ret (v:=.tuple #[.agg (zA q s1),.agg (zQ LL),.bool true]) (zIB Tryz.results196 _ _ (w.heap.size+1) 35 _ (0,0) _ (w.heap.size+1+1) 61 _ (0,0) _ _ rfl HKz.out Tryz.underlying35 rfl (by kernel_rfl) rfl HLz.out Tryz.underlying61 rfl (by kernel_rfl) rfl) rfl ?_
   rw [HT.out.1,HT.out.2,HGO.out]
   exact ⟨_,rfl,HFz.out.low (by have:=HWS.out;omega),HBz.out⟩
 ·have b1:p.view ≥ 900:=by omega
  have b1':(900:Int)≤p.view:=by omega
  have d1:decide ((900:Int)≤p.view)=true:=decide_eq_true b1'
  have HGO:Hid (jT p n=false):=hid (by unfold jT;rw [decide_eq_false h1];rfl)
  have HT:=done HGO.out
  clear done
  go_enter Tryz.func196,Tryz.ntmps196
  go_wp2_with (first | (rw [← hW];clear hW) | (refine wpList_load_row rfl _ _ rfl w.heap.size rfl 35 _ (0,0) _ HC.out.2.1 Tryz.underlying35 rfl (by kernel_rfl) ?_))
  clear c1
  refine (zHJ p s W (HR.out.below HC.out.1) HS.out).mono ?_
  rintro e x1 ⟨s1,rfl,ho,hb⟩
  have HO1:=hid ho.toD
  have HX1:Hid (Below w.heap.size w x1∧Bx x1 (w.heap.size+1) zF 35∧Bx x1 (w.heap.size+1+1) (zQ ((0,0,0,0,0),(0,0,0,0),(0,0,0,0))) 61):=⟨bt HC.out.1 hb,(hb.block _ (gl HC.out.2.2.1)).trans HC.out.2.2.1,(hb.block _ (gl HC.out.2.2.2)).trans HC.out.2.2.2⟩
  clear ho hb HC
  go_wp2_with (first
   | (refine zC rfl _ _ _ rfl (w.heap.size+1) (zA p s1) rfl rfl 35 zF HX1.out.2.1 (by kernel_rfl) rfl (zJ HO1.out.1) ?_;intro y1 hg hk hz;have HY1:Hid (Below w.heap.size w y1∧Bx y1 (w.heap.size+1) (zA p s1) 35∧Bx y1 (w.heap.size+1+1) (zQ ((0,0,0,0,0),(0,0,0,0),(0,0,0,0))) 61):=⟨HX1.out.1.grown hg HX1.out.1.size (fun k hk=>by cases hk;omega),hk,(hg.block _ (gl HX1.out.2.2) (fun e=>by have:=Option.some.inj e;omega)).trans HX1.out.2.2⟩;have HD1:Hid (zO W.heap.size y1.heap.size y1 p s1):=(HO1.out.boxed HX1.out.2.1 hg).wide hg.size (nl _);clear hg hk hz HX1 HO1)
   | (refine zC rfl _ _ _ rfl (w.heap.size+1+1) (zQ ((0,0,0,0,0),(0,0,0,0),(0,0,0,0))) rfl rfl 61 (zQ ((0,0,0,0,0),(0,0,0,0),(0,0,0,0))) HY1.out.2.2 (by kernel_rfl) rfl (kD _) ?_;intro z hg hk hz;have HBz:Hid (Below w.heap.size w z):=HY1.out.1.grown hg HY1.out.1.size (fun k hk=>by cases hk;omega);have HKz:Hid (Bx z (w.heap.size+1) (zA p s1) 35):=(hg.block _ (gl HY1.out.2.1) (fun e=>by have:=Option.some.inj e;omega)).trans HY1.out.2.1;have HLz:=hid hk;have HFz:Hid (zO W.heap.size z.heap.size z p s1):=(HD1.out.far hg (Or.inl (by have:=HWS.out;omega))).wide hg.size (nl _);clear hg hk hz HY1 HD1))
  refine bodyPost_ret (v:=.tuple #[.agg (zA p s1),.agg (zQ ((0,0,0,0,0),(0,0,0,0),(0,0,0,0))),.bool false]) (zIB Tryz.results196 _ _ (w.heap.size+1) 35 _ (0,0) _ (w.heap.size+1+1) 61 _ (0,0) _ _ rfl HKz.out Tryz.underlying35 rfl (by kernel_rfl) rfl HLz.out Tryz.underlying61 rfl (by kernel_rfl) rfl) rfl ?_
  rw [HT.out.1,HT.out.2,HGO.out]
  exact ⟨_,rfl,HFz.out.low (by have:=HWS.out;omega),HBz.out⟩
end Go.Proofs.YtjdddcldbfhbiacGreatR
