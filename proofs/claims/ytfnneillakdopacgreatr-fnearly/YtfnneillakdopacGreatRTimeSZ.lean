/-
  A text of ours: TimeS.
-/
import Derived.Test.YtfnneillakdopacGreatRK1
import Derived.Test.YtfnneillakdopacGreatRK3
import Derived.Test.YtfnneillakdopacGreatRK4
import Derived.Test.YtfnneillakdopacGreatRReadySZ
set_option maxRecDepth 100000
set_option maxHeartbeats 32000000
namespace Go.Proofs.YtfnneillakdopacGreatR
open _root_.Go.Proofs.Tryz
open Go.Value renaming int->I
open Go.IntKind renaming i64->U
open Go.RowKit Num
def jT (p:PE) (n:Int):Bool:=decide (p.view < 900) && inB n 1 7
def zGH (p:PE) (n:Int):PE:=if jT p n=true then yI p (p.view+1) else p
def yEB (p:PE) (n:Int):LT:=if jT p n=true then kX (yI p (p.view+1)) 4 (xQ (yI p (p.view+1)).view n) (yI p (p.view+1)).high (0,0,0,0) else ((0,0,0,0,0),(0,0,0,0),(0,0,0,0))
theorem zIB {P:Program} {fn:Func} {p q r:Tmp} {ty tz:TypeId} (h:fn.results=#[.cell p ty,.cell q tz,.tmp r]) (tmps:Array Value) (w:World) (g:Nat) (t:TypeId) (cs:Array Value) (fr:Nat × Nat) (d:TypeDesc) (g':Nat) (t':TypeId) (cs':Array Value) (fr':Nat × Nat) (d':TypeDesc) (u:Value)
  (hp:tmps.getD p undef=.pointer (some ⟨g,0,none⟩)) (hg:w.heap[g]?=some (.cells cs t fr)) (hu:P.underlying ty=some d) (hd:(match d with | .struct _ | .array _ _=>true | _=>false)=true) (hi:(P.info? ty).map (·.size)=some cs.size)
  (hq:tmps.getD q undef=.pointer (some ⟨g',0,none⟩)) (hg':w.heap[g']?=some (.cells cs' t' fr')) (hu':P.underlying tz=some d') (hd':(match d' with | .struct _ | .array _ _=>true | _=>false)=true) (hi':(P.info? tz).map (·.size)=some cs'.size)
  (hr:tmps.getD r undef=u) :
  (results fn tmps).run P w=.ok (.tuple #[.agg cs,.agg cs',u]) w:=by
 have b:tmps[p]?.getD undef=.pointer (some ⟨g,0,none⟩):=by simpa using hp
 have a:tmps[q]?.getD undef=.pointer (some ⟨g',0,none⟩):=by simpa using hq
 have c:tmps[r]?.getD undef=u:=by simpa using hr
 simp [results,h,b,a,c,asAddr,run_loadVar_row w g t ty cs fr d hg hu hd hi,run_loadVar_row w g' t' tz cs' fr' d' hg' hu' hd' hi']
theorem yBE (p:PE) (s:PV) (n:Int) (w:World) (hg:yDG p) (hwn:(Lit.int U n).wf=true) (hR:jS w p s) (hs:yC p) :
  Calls prog 196 #[yZ p s,I U n] w fun e w'=>∃ s',e=.returned (.tuple #[yZ (zGH p n) s',.agg (zQ (yEB p n)),.bool (jT p n)])/\zO w.heap.size w'.heap.size w' (zGH p n) s'/\Be w w':=by
 have HR:=hid hR;have HS:=hid hs;obtain ⟨ag,ah⟩:=bounds_i64 hwn;obtain ⟨ai,aj⟩:=bounds_i64 hg.gview;clear hR hs hg hwn;obtain ⟨W,hW⟩:=nw (((w.alloc (.cells (zA p s) 35)).alloc (.cells zF 35)).alloc (.cells (zQ ((0,0,0,0,0),(0,0,0,0),(0,0,0,0))) 61))
 have HC:Hid (Be w W/\Bx W w.heap.size (zA p s) 35/\Bx W (w.heap.size+1) zF 35/\Bx W (w.heap.size+1+1) (zQ ((0,0,0,0,0),(0,0,0,0),(0,0,0,0))) 61):=by
  rw [hW];exact ⟨ba (ba (ba (br _ _) _) _) _,zJH w _ _ _⟩
 have h:Hid (W.heap.size=w.heap.size+1+1+1):=hid (by rw [hW];simp);have c1:=zB HC.2.1 1 (I U p.view) rfl;unfold zF zQ at hW;simp only at hW;have done:∀ (aa:jT p n=false),Hid (zGH p n=p/\yEB p n=((0,0,0,0,0),(0,0,0,0),(0,0,0,0))):=fun aa=>(by unfold zGH yEB;rw [aa];exact ⟨rfl,rfl⟩:zGH p n=p/\_)
 by_cases h1:p.view < 900
 ·have b1:¬ p.view ≥ 900:=by omega
  have r:¬ (900:Int)<=p.view:=by omega
  have d1:decide ((900:Int)<=p.view)=false:=decide_eq_false r
  cases h2:inB n 1 7 with
  | false=>
   have f:Hid (jT p n=false):=hid (by unfold jT;rw [h2];simp);have HT:=done f;clear done;go_enter func196,ntmps196;go_wp2_with (rw [<- hW];clear hW)
   refine (jU h2 _).mono ?_;rintro e x0 ⟨rfl,hw⟩;obtain rfl:=hw.symm;clear hw c1;go_wp2_with (refine w_ld w.heap.size HC.2.1 underlying35 ?_)
   refine (zHJ p s W (HR.below HC.1) HS).mono ?_;rintro e x1 ⟨s1,rfl,ho,hb⟩;have d:=hid ho.toD;have a:=hid (qad3 (bt HC.1 hb) (bk hb HC.2.2.1) (bk hb HC.2.2.2));clear ho hb HC
   go_wp2_with (first
    | (refine w_st (w.heap.size+1) (zA p s1) a.2.1 (zJ d.1) ?_;intro y1 hg hk hz;have b:=hid (qad3 (a.1.grown hg a.1.size (qkk (by omega))) hk (gk hg a.2.2 (qsn (by omega))));have i:Hid (zO W.heap.size y1.heap.size y1 p s1):=(d.boxed a.2.1 hg).wide hg.size (nl _);clear hg hk hz a d)
    | (refine w_st (w.heap.size+1+1) (zQ ((0,0,0,0,0),(0,0,0,0),(0,0,0,0))) b.2.2 (kD _) ?_;intro z hg hk hz;have k:Hid (Be w z):=b.1.grown hg b.1.size (qkk (by omega));have l:Hid (Bx z (w.heap.size+1) (zA p s1) 35):=gk hg b.2.1 (qsn (by omega));have o:=hid hk;have m:Hid (zO W.heap.size z.heap.size z p s1):=(i.far hg (Or.inl (by have:=h.out;omega))).wide hg.size (nl _);clear hg hk hz b i))
   refine bodyPost_ret (v:=.tuple #[.agg (zA p s1),.agg (zQ ((0,0,0,0,0),(0,0,0,0),(0,0,0,0))),.bool false]) (zIB results196 _ _ (w.heap.size+1) 35 _ (0,0) _ (w.heap.size+1+1) 61 _ (0,0) _ _ rfl l underlying35 rfl (by kernel_rfl) rfl o underlying61 rfl (by kernel_rfl) rfl) rfl ?_;rw [HT.out.1,HT.out.2,f.out];exact ⟨_,rfl,m.low (by have:=h.out;omega),k⟩
  | true=>
   have f:Hid (jT p n=true):=hid (by unfold jT;rw [h2,decide_eq_true h1];rfl);have HT:Hid (zGH p n=yI p (p.view+1)/\yEB p n=kX (yI p (p.view+1)) 4 (xQ (yI p (p.view+1)).view n) (yI p (p.view+1)).high (0,0,0,0)):=hid (by unfold zGH yEB;rw [f.out];exact ⟨rfl,rfl⟩);have t:(yI p (p.view+1)).view=p.view+1:=by unfold yI;rw [if_pos ⟨by omega,by omega⟩]
   clear done;go_enter func196,ntmps196;go_wp2_with (rw [<- hW];clear hW)
   refine (jU h2 _).mono ?_;rintro e x0 ⟨rfl,hw⟩;obtain rfl:=hw.symm;clear hw;go_wp2_with (refine w_ld w.heap.size HC.2.1 underlying35 ?_)
   refine (zCB p s (p.view+1) W (HR.below HC.1) HS).mono ?_;obtain ⟨q,hq⟩:=nw (yI p (p.view+1));rw [<- hq] at t HT ⊢;have af:=hid t;clear hq t;rintro e x1 ⟨s1,rfl,ho,hb⟩;have d:=hid ho;have a:=hid (qad4 (bt HC.1 hb) (bk hb HC.2.2.1) (bk hb HC.2.2.2) hb.size);clear ho hb HC c1;go_wp2_with (refine w_st x1.heap.size (zA q s1) (heap_alloc_new x1 _) (zJ d.1) ?_;intro y1 hg hk hz;have hb:Be x1 y1:=yB hg;have b:=hid (qad4 (bt a.1 hb) (bk hb a.2.1) (bk hb a.2.2.1) hk);have i:Hid (zO W.heap.size y1.heap.size y1 q s1):=(d.below hb).wide (Nat.le_of_lt (gl hk)) (nl _);have y:=hid a.out.2.2.2;clear hg hk hz hb a d)
   obtain ⟨ld,e1⟩:∃ ld,xQ q.view n=ld:=⟨_,rfl⟩;rw [e1] at HT;refine xA (fun x=>Bx x x1.heap.size (zA q s1) 35) (by kernel_rfl) ?_;show wpAnyH prog _ _ _ _ (12+1) (Array.replicate 13 false) _ _;have hS:Bx y1.drew x1.heap.size (zA q s1) 35:=b.2.2.2;refine yJ 0 24 (.agg (zA q s1)) hS ?_ (hy:=fun x hx=>ldb x1.heap.size hx underlying35);refine yJ 1 25 (.agg (zA q s1)) hS ?_ (hy:=fun x hx=>ldb x1.heap.size hx underlying35);refine h_pt 2 26 x1.heap.size 1 hS ?_;refine yJ 3 27 (I U q.view) hS ?_ (hy:=by intro x hx;have c:=zB hx 1 (I U q.view) rfl;go_simp;try rfl);refine yJ 4 28 (I U n) hS ?_;refine h_pt 6 30 x1.heap.size 2 hS ?_;refine yJ 7 31 (.agg #[I U q.high.1,I U q.high.2.1,I U q.high.2.2.1,I U q.high.2.2.2]) hS ?_ (hy:=by intro x hx;have c0:=zB hx 2 (I U q.high.1) rfl;have c1:=zB hx 3 (I U q.high.2.1) rfl;have c2:=zB hx 4 (I U q.high.2.2.1) rfl;have c3:=zB hx 5 (I U q.high.2.2.2) rfl;go_simp;try rfl);refine yJ 8 32 (.agg #[I U 0,I U 0,I U 0,I U 0]) hS ?_;refine h_cl 5 29 121 #[I U q.view,I U n] ((xR e1 ag ah (by have:=af.out;omega) (by have:=af.out;omega) y1.drew).mono ?_);rintro e x2 ⟨rfl,hw⟩;obtain rfl:=hw.symm;clear hw;refine ⟨_,rfl,hS,?_⟩;simp only [pz];refine h_cl 9 33 40 #[.agg (zA q s1),I U 4,I U ld,.agg #[I U q.high.1,I U q.high.2.1,I U q.high.2.2.1,I U q.high.2.2.2],.agg #[I U 0,I U 0,I U 0,I U 0]] ((answered_s q s1 4 ld q.high (0,0,0,0) y1.drew).mono ?_);obtain ⟨LL,ad⟩:=nw (kX q 4 ld q.high (0,0,0,0));rw [<- ad] at HT ⊢;clear ad;rintro e x3 ⟨rfl,ae⟩;have hb:=(bw y1).trans ae;have g:=hid (qad4 (bt b.1 hb) (bk hb b.2.1) (bk hb b.2.2.1) (bk hb b.2.2.2));have u:Hid (zO W.heap.size x3.heap.size x3 q s1):=(i.below hb).wide hb.size (nl _);clear hb ae hS b i;refine ⟨_,rfl,g.2.2.2,?_⟩;simp only [pz];refine h_st 10 (w.heap.size+1) (zA q s1) g.2.1 (zJ u.1) ?_;intro y4 hg hk;have j:=hid (qad4 (g.1.grown hg g.1.size (qkk (by omega))) hk (gk hg g.2.2.1 (qsn (by omega))) (gk hg g.2.2.2 (qsn (by have:=y.out;have:=h.out;omega))));have ab:Hid (zO W.heap.size y4.heap.size y4 q s1):=(u.boxed g.2.1 hg).wide hg.size (nl _);clear hg hk g u;refine ⟨j.2.2.2,?_⟩;refine h_st 11 (w.heap.size+1+1) (zQ LL) j.2.2.1 (kD _) ?_;intro z hg hk;have k:Hid (Be w z):=j.1.grown hg j.1.size (qkk (by omega));have l:Hid (Bx z (w.heap.size+1) (zA q s1) 35):=gk hg j.2.1 (qsn (by omega));have o:=hid hk;have m:Hid (zO W.heap.size z.heap.size z q s1):=(ab.far hg (Or.inl (by have:=h.out;omega))).wide hg.size (nl _);have ac:Hid (Bx z x1.heap.size (zA q s1) 35):=gk hg j.2.2.2 (qsn (by have:=y.out;have:=h.out;omega));clear hg hk j ab;refine ⟨ac,?_⟩;refine yJ 12 6 (.bool true) ac ?_;refine h_dn ?_;go_wp2;refine bodyPost_ret (v:=.tuple #[.agg (zA q s1),.agg (zQ LL),.bool true]) (zIB results196 _ _ (w.heap.size+1) 35 _ (0,0) _ (w.heap.size+1+1) 61 _ (0,0) _ _ rfl l underlying35 rfl (by kernel_rfl) rfl o underlying61 rfl (by kernel_rfl) rfl) rfl ?_;rw [HT.out.1,HT.out.2,f.out];exact ⟨_,rfl,m.low (by have:=h.out;omega),k⟩
 ·have b1:p.view ≥ 900:=by omega
  have r:(900:Int)<=p.view:=by omega
  have d1:decide ((900:Int)<=p.view)=true:=decide_eq_true r;have f:Hid (jT p n=false):=hid (by unfold jT;rw [decide_eq_false h1];rfl);have HT:=done f;clear done;go_enter func196,ntmps196;go_wp2_with (first | (rw [<- hW];clear hW) | (refine w_ld w.heap.size HC.2.1 underlying35 ?_))
  clear c1;refine (zHJ p s W (HR.below HC.1) HS).mono ?_;rintro e x1 ⟨s1,rfl,ho,hb⟩;have d:=hid ho.toD;have a:=hid (qad3 (bt HC.1 hb) (bk hb HC.2.2.1) (bk hb HC.2.2.2));clear ho hb HC
  go_wp2_with (first
   | (refine w_st (w.heap.size+1) (zA p s1) a.2.1 (zJ d.1) ?_;intro y1 hg hk hz;have b:=hid (qad3 (a.1.grown hg a.1.size (qkk (by omega))) hk (gk hg a.2.2 (qsn (by omega))));have i:Hid (zO W.heap.size y1.heap.size y1 p s1):=(d.boxed a.2.1 hg).wide hg.size (nl _);clear hg hk hz a d)
   | (refine w_st (w.heap.size+1+1) (zQ ((0,0,0,0,0),(0,0,0,0),(0,0,0,0))) b.2.2 (kD _) ?_;intro z hg hk hz;have k:Hid (Be w z):=b.1.grown hg b.1.size (qkk (by omega));have l:Hid (Bx z (w.heap.size+1) (zA p s1) 35):=gk hg b.2.1 (qsn (by omega));have o:=hid hk;have m:Hid (zO W.heap.size z.heap.size z p s1):=(i.far hg (Or.inl (by have:=h.out;omega))).wide hg.size (nl _);clear hg hk hz b i))
  refine bodyPost_ret (v:=.tuple #[.agg (zA p s1),.agg (zQ ((0,0,0,0,0),(0,0,0,0),(0,0,0,0))),.bool false]) (zIB results196 _ _ (w.heap.size+1) 35 _ (0,0) _ (w.heap.size+1+1) 61 _ (0,0) _ _ rfl l underlying35 rfl (by kernel_rfl) rfl o underlying61 rfl (by kernel_rfl) rfl) rfl ?_;rw [HT.out.1,HT.out.2,f.out];exact ⟨_,rfl,m.low (by have:=h.out;omega),k⟩
end Go.Proofs.YtfnneillakdopacGreatR
