/-
  Texts of ours that later ones lean on, in one: DrawSaf, WayN, WayI, HeightI, SafeBI, Clone, CopyI.
-/
import Derived.Test.YtfnneillakdopacGreatRK1
import Derived.Test.YtfnneillakdopacGreatRAnyPZ
import Derived.Test.YtfnneillakdopacGreatRQcDZ
import Derived.Test.YtfnneillakdopacGreatRK2
import Derived.Test.YtfnneillakdopacGreatRK4
import Derived.RangeFuncNested
import Derived.RangeFuncBound
import Derived.RangeFuncCalls
import Derived.RangeFuncLeaves
import Derived.Shelf.Abstract
import Derived.Shelf.RegionOpen
import Derived.WalkKit
import Derived.OwnWalkIn
import Derived.TacticsInMore
import Derived.LoopNIn
import Derived.LoopIn
import Derived.RangeFuncFrom
import Derived.RangeFuncBox
import Derived.Test.YtfnneillakdopacGreatRK5
import Derived.Shelf.LaysM
import Derived.Shelf.Strconv.Clone
import Derived.Test.YtfnneillakdopacGreatRRows
import Derived.Deep.RegionHeld3
import Derived.Deep.AppendLies
set_option maxRecDepth 100000
set_option maxHeartbeats 32000000
namespace Go.Proofs.YtfnneillakdopacGreatR
open _root_.Go.Proofs.Tryz
open Go.Value renaming int->I,slice->Ad,string->Ae,pointer->Af
open Go.IntKind renaming i64->U
open Option renaming none->Aa,some->Ab
open Go.Obj renaming cells->Ac
open List renaming length_cons->Ag
open Go.RowKit Num
variable {k x:Int} {t:List BK} {pre:List Int} {l:List Nat} {ab b cap len off:Nat} {ao:Option Addr} {w:World}
theorem results_tct3 {P:Program} {fn:Func} {p q r:Tmp} {ty:TypeId} (h:fn.results=#[.tmp q,.cell p ty,.tmp r]) (tmps:Array Value) (w:World) (g:Nat) (t:TypeId) (cs:Array Value) (fr:Nat × Nat) (d:TypeDesc) (u v:Value)
  (hq:tmps.getD q undef=u) (hp:tmps.getD p undef=.pointer (Ab ⟨g,0,Aa⟩)) (hg:w.heap[g]?=Ab (.cells cs t fr)) (hu:P.underlying ty=some d) (hd:(match d with | .struct _ | .array _ _=>true | _=>false)=true) (hi:(P.info? ty).map (·.size)=some cs.size)
  (hr:tmps.getD r undef=v) :
  (results fn tmps).run P w=.ok (.tuple #[u,.agg cs,v]) w:=by
 have b:tmps[p]?.getD undef=.pointer (Ab ⟨g,0,Aa⟩):=by simpa using hp
 have a:tmps[q]?.getD undef=u:=by simpa using hq
 have c:tmps[r]?.getD undef=v:=by simpa using hr
 simp [results,h,b,a,c,asAddr,run_loadVar_row w g t ty cs fr d hg hu hd hi]
structure SaB (w y:World) (B M lo:Nat) (ao:Option Addr) (len cap b off:Nat) (p:PE) (t:PV):Prop where
 st:St y B ao len cap b off
 below:Be w y
 zero:Bx y w.heap.size zF 35
 box:Bx y M (zA p t) 35
 own:zO lo y.heap.size y p t
 lt:w.heap.size < B/\B < lo/\lo<=M/\(0 < len->b < w.heap.size)
theorem SaB.draw {y x:World} {B M lo:Nat} {p:PE} {t:PV} (h:SaB w y B M lo ao len cap b off p t) (hs:St x B ao len cap b off) (hg:y.grownBy x (some B)):SaB w x B M lo ao len cap b off p t:=by
 have:=h.lt;exact ⟨hs,h.below.grown hg h.below.size (qkk (by omega)),gk hg h.zero (qsn (by omega)),gk hg h.box (qsn (by omega)),(h.own.far hg (Or.inl (by omega))).wide hg.size (nl _),h.lt⟩
theorem drawSafe_any (hc:Code w ao len b off) :
  Calls prog 23 #[.slice ao len cap] w fun e w'=>∃ (v:Value) (qs:TL) (n:Int) (x:QC),e=.returned (.tuple #[v,zBF x,I U n])/\BT (bks qs) 10/\OwnU w' w.heap.size v qs/\wfQ x/\Be w w':=by
 have HC:=hid hc;clear hc;obtain ⟨W0,a⟩:=nw (w.alloc (.cells #[I U 0,I U 0,I U 0,I U 0] 26));have t:Hid (Be w W0):=hid (by rw [a];exact (br _ _).alloc (nl _) _);have o:Hid (Bx W0 w.heap.size #[I U 0,I U 0,I U 0,I U 0] 26):=(by rw [a];exact heap_alloc_new w _:W0.heap[w.heap.size]?=_);have l0:w.heap.size < W0.heap.size:=(gl o);go_enter func23,ntmps23;go_wp2_with fail
 rw [<- a];clear a;refine (new_any (HC.below t)).mono ?_;rintro e w1 ⟨B,rfl,hN,hS,hb⟩;have z:=hid hS;have ah:=hS.cur.lt;have m:Hid (Be W0 w1):=hb;clear hS hb;go_wp2_with fail
 refine (xO 9 (by omega) (by omega) z).mono ?_;rintro e w2 ⟨k,rfl,k0,k1,hS,hg⟩;have af:=hid hS;have i:=hid hg;clear hS hg;go_wp2_with fail
 refine (any5_st af).mono ?_;rintro e w3 ⟨vt,qs,rfl,s,c,hS,hg⟩;have ae:=hid hS;have aa:Hid (w1.grownBy w3 (Option.some B)):=xC i hg;have f:=hid s;have j:Hid (OwnU w3 w2.heap.size vt qs):=c;have ai:=i.size;have aj:=m.size;clear hS hg s c;go_wp2_with fail
 refine (qc7_st ae j (by omega) f (by omega)).mono ?_;rintro e w4 ⟨⟨x0,x1,x2,x3⟩,rfl,d,hS,hg⟩;unfold zBF;simp only;have ad:=hid d;have h:Hid (Be W0 w4):=drawn_below m hN (xC aa hg);have ab:Hid (Bx w4 w.heap.size #[I U 0,I U 0,I U 0,I U 0] 26):=(h.block _ l0).trans o;have ag:Hid (OwnU w4 w2.heap.size vt qs):=j.st hg (by omega);clear hS hg d;go_wp2_with (refine w_st w.heap.size #[I U x0,I U x1,I U x2,I U x3] ab (zEE _ _ _ _) ?_;intro wg g p ac;clear ac;have l:Hid (w4.grownBy wg (Option.some w.heap.size)):=g;obtain ⟨m0,m1,m2,m3⟩:=zZ p;clear g p)
 refine bodyPost_ret (v:=.tuple #[vt,.agg #[I U x0,I U x1,I U x2,I U x3],I U k]) (by simp [results,results23,go_sem,m0,m1,m2,m3]) rfl ?_;have r:Be w w4:=bt t h;exact ⟨vt,qs,k,(x0,x1,x2,x3),rfl,f,(ag.st l (by omega)).base (by omega),ad,r.grown l r.size (fun y hy=>by cases hy;exact nl _)⟩
theorem drawEntered_any (hc:Code w ao len b off) :
  Calls prog 24 #[.slice ao len cap] w fun e w'=>∃ p t n,e=.returned (.tuple #[yZ p t,I U n])/\smW p/\(0<=n/\n<=901)/\zO w.heap.size w'.heap.size w' p t/\Be w w':=by
 have l:Hid (0 < len->b < w.heap.size):=hc.lt;obtain ⟨W,hW⟩:=nw (w.alloc (.cells zF 35))
 have HW:Hid (Code W ao len b off/\Bx W w.heap.size zF 35/\Be w W):=(by
  have hb:Be w W:=by rw [hW];exact yA _ _
  exact ⟨hc.below hb,by rw [hW];exact heap_alloc_new _ _,hb⟩:_/\_)
 clear hc;unfold zF at hW;go_enter func24,ntmps24;go_wp2_with (rw [<- hW];clear hW)
 refine (new_any HW.1).mono ?_;rintro e w1 ⟨B,rfl,hN,hS,hb⟩;have H1:Hid (St w1 B ao len cap b off/\Bx w1 w.heap.size zF 35/\Be w w1/\w.heap.size < B):=⟨hS,bk hb HW.2.1,bt HW.2.2 hb,Nat.lt_of_lt_of_le (gl HW.2.1) hN⟩;clear hN hS hb HW;obtain ⟨YA,g⟩:=nw (w1.alloc (.cells #[I U 0,I U 1,I U 3,I U 7,I U 20,I U 900,I U 901] 3))
 have f:Hid (St YA B ao len cap b off/\Bx YA w.heap.size zF 35/\Be w YA/\Bx YA w1.heap.size #[I U 0,I U 1,I U 3,I U 7,I U 20,I U 900,I U 901] 3/\w1.heap.size ≠ B):=(by
  have hb:Be w1 YA:=by rw [g];exact yA _ _
  refine ⟨H1.1.below hb,bk hb H1.2.1,bt H1.2.2.1 hb,by rw [g];exact heap_alloc_new _ _,?_⟩;have:=H1.1.cur.lt
  omega:_/\_)
 go_wp2_with (rw [<- g];clear g)
 refine (pickL_st (L:=w1.heap.size) [0,1,3,7,20,900,901] (by decide) (by decide) f.1 f.2.2.2.2 f.2.2.2.1).mono ?_;rintro e w2 ⟨n,h,rfl,hS,hg⟩
 have hn:0<=n/\n<=901:=by
  simp only [List.mem_cons,List.not_mem_nil,or_false] at h;omega
 have H2:=hid (qad4 hS (gk hg f.2.1 (qsn (by have:=H1.2.2.2;omega))) (f.2.2.1.grown hg f.2.2.1.size (qkk (by have:=H1.2.2.2;omega))) H1.out.2.2.2);clear h hS hg f H1;go_wp2_with fail
 refine (any9_st H2.1).mono ?_;rintro e w3 ⟨ps,v,p,t,rfl,j,i,hT,hD,hS,hg⟩;have HP:=hid i;have HT:=hid j;have H3:=hid (qad6 hS (gk hg H2.2.1 (qsn (by have:=H2.2.2.2;omega))) (H2.2.2.1.grown hg H2.2.2.1.size (qkk (by have:=H2.2.2.2;omega))) hD H2.out.2.2.2 H2.out.1.cur.lt);have k:Hid (xH w3 w2.heap.size v ps):=hT;have m:Hid (w2.heap.size<=w3.heap.size):=hg.size;obtain ⟨gt,ct,o⟩:∃ gt ct,v=.slice gt ps.length ct:=(by obtain ⟨a,c,e,-⟩:=hT.read.q.1;exact ⟨a,c,e⟩:∃ gt ct,v=.slice gt ps.length ct);subst o;clear j i hT hD hS hg H2
 go_wp2_with (first
  | (refine w_st w3.heap.size (zA p t) (heap_alloc_new w3 _) (zJ H3.2.2.2.1.1) ?_;intro w4 hg hk hz;have d:Be w3 w4:=yB hg;have H4:Hid (SaB w w4 B w3.heap.size w2.heap.size ao len cap b off p t):=⟨H3.1.below d,bt H3.2.2.1 d,bk d H3.2.1,hk,(H3.2.2.2.1.below d).wide d.size (nl _),H3.2.2.2.2.1,H3.2.2.2.2.2,m,l⟩;have r:Hid (xH w4 w2.heap.size (.slice gt ps.length ct) ps):=k.below d;clear hg hk hz d)
  | (refine w_ld w3.heap.size H4.box underlying35 ?_)
  | (refine w_st w.heap.size (zA p t) H4.zero (zJ H4.own.1) ?_;intro z hg hk hz;have HZ:Hid (Bx z w.heap.size (zA p t) 35/\Be w z/\zO w.heap.size z.heap.size z p t):=⟨hk,H4.below.grown hg H4.below.size (qkk (by omega)),((H4.own.boxed H4.zero hg).wide hg.size (nl _)).low (by have:=H4.lt;omega)⟩;clear hg hk hz H4))
 refine b_ct (.tuple #[.agg (zA p t),I U n]) results24 HZ.1 underlying35 ?_;exact ⟨p,t,n,rfl,HP,hn,HZ.2.2,HZ.2.1⟩
theorem pair10_any (hc:Code w ao len b off) :
  Calls prog 66 #[.slice ao len cap] w fun e w'=>∃ ps v p t k,e=.returned (.tuple #[v,yZ p t,I U k])/\smT (bks ps)/\smW p/\xH w' w.heap.size v ps/\zO w.heap.size w'.heap.size w' p t/\Be w w':=by
 have n:Hid (0 < len->b < w.heap.size):=hc.lt;obtain ⟨W,hW⟩:=nw (w.alloc (.cells zF 35))
 have HW:Hid (Code W ao len b off/\Bx W w.heap.size zF 35/\Be w W):=(by
  have hb:Be w W:=by rw [hW];exact yA _ _
  exact ⟨hc.below hb,by rw [hW];exact heap_alloc_new _ _,hb⟩:_/\_)
 clear hc;unfold zF at hW;go_enter func66,ntmps66;go_wp2_with (rw [<- hW];clear hW)
 refine (new_any HW.1).mono ?_;rintro e w1 ⟨B,rfl,hN,hS,hb⟩;have H1:Hid (St w1 B ao len cap b off/\Bx w1 w.heap.size zF 35/\Be w w1/\w.heap.size < B):=⟨hS,bk hb HW.2.1,bt HW.2.2 hb,Nat.lt_of_lt_of_le (gl HW.2.1) hN⟩;clear hN hS hb HW;go_wp2_with fail
 refine (xO 12 (by omega) (by omega) H1.1).mono ?_;rintro e w2 ⟨k,rfl,k0,k1,hS,hg⟩;have H2:=hid (qad4 hS (gk hg H1.2.1 (qsn (by have:=H1.2.2.2;omega))) (H1.2.2.1.grown hg H1.2.2.1.size (qkk (by have:=H1.2.2.2;omega))) H1.out.2.2.2);clear hS hg H1;go_wp2_with fail
 refine (any9_st H2.1).mono ?_;rintro e w3 ⟨ps,v,p,t,rfl,l,j,hT,hD,hS,hg⟩;have HP:=hid j;have HT:=hid l;have H3:=hid (qad6 hS (gk hg H2.2.1 (qsn (by have:=H2.2.2.2;omega))) (H2.2.2.1.grown hg H2.2.2.1.size (qkk (by have:=H2.2.2.2;omega))) hD H2.out.2.2.2 H2.out.1.cur.lt);have i:Hid (xH w3 w2.heap.size v ps):=hT;have m:Hid (w2.heap.size<=w3.heap.size):=hg.size;obtain ⟨gt,ct,s⟩:∃ gt ct,v=.slice gt ps.length ct:=(by obtain ⟨a,c,e,-⟩:=hT.read.q.1;exact ⟨a,c,e⟩:∃ gt ct,v=.slice gt ps.length ct);subst s;clear l j hT hD hS hg H2;have hl:(ps.length:Int)<=60:=by have:=HT.many;rw [yO] at this;omega
 go_wp2_with (first
  | (refine w_st w3.heap.size (zA p t) (heap_alloc_new w3 _) (zJ H3.2.2.2.1.1) ?_;intro w4 hg hk hz;have d:Be w3 w4:=yB hg;have H4:Hid (SaB w w4 B w3.heap.size w2.heap.size ao len cap b off p t):=⟨H3.1.below d,bt H3.2.2.1 d,bk d H3.2.1,hk,(H3.2.2.2.1.below d).wide d.size (nl _),H3.2.2.2.2.1,H3.2.2.2.2.2,m,n⟩;have g:Hid (xH w4 w2.heap.size (.slice gt ps.length ct) ps):=i.below d;clear hg hk hz d))
 obtain ⟨M,hM⟩:=nw w3.heap.size;obtain ⟨lo,h⟩:=nw w2.heap.size;rw [<- hM,<- h] at H4;rw [<- h] at g;rw [<- hM];clear hM h H3 m i;refine (once_st 2 (by decide) (by decide) H4.st).mono ?_;rintro e w5 ⟨o,rfl,hS,hg⟩;have H5:=hid (H4.draw hS hg);have f:Hid (xH w5 lo (.slice gt ps.length ct) ps):=g.st hg H4.lt.2.1;clear hS hg H4 g
 cases o with
 | true=>
  go_upto_region 6 with fail
  have r:w.heap.size < lo:=by have:=H5.lt;omega
  have y:M ≠ w.heap.size:=by have:=H5.lt;omega
  refine xA (fun x=>Bx x M (zA p t) 35) (by kernel_rfl) ?_;show wpAnyH prog _ _ _ _ (5+1) (Array.replicate 6 false) _ _;have hS:Bx w5.drew M (zA p t) 35:=H5.box;refine yJ 0 24 (.slice gt ps.length ct) hS ?_;refine yJ 1 25 (.agg (zA p t)) hS ?_ (hy:=fun x hx=>ldb M hx underlying35);refine yJ 2 26 (I U ((ps.length:Int) - 1)) hS ?_;refine yJ 3 2 (.slice gt ps.length ct) hS ?_;refine h_st 4 w.heap.size (zA p t) H5.zero (zJ H5.own.1) ?_;intro z hg hk;have hd:=bw w5;have HZ:Hid (Bx z w.heap.size (zA p t) 35/\Be w z/\xH z w.heap.size (.slice gt ps.length ct) ps/\zO w.heap.size z.heap.size z p t/\Bx z M (zA p t) 35):=⟨hk,(bt H5.below hd).grown hg H5.below.size (qkk (by omega)),((f.below hd).boxed H5.zero hg).base (by omega),(((H5.own.below hd).boxed H5.zero hg).wide hg.size (nl _)).low (by omega),gk hg H5.box (qsn (by omega))⟩;clear hg hk hd hS H5 f;refine ⟨HZ.2.2.2.2,?_⟩;have hS:=HZ.2.2.2.2;refine yJ 5 4 (I U ((ps.length:Int) - 1)) hS ?_;refine h_dn ?_;clear hS;go_wp2;refine bodyPost_ret (v:=.tuple #[.slice gt ps.length ct,.agg (zA p t),I U ((ps.length:Int) - 1)]) (results_tct3 results66 _ _ w.heap.size 35 _ (0,0) _ _ _ rfl rfl HZ.1 underlying35 rfl (by kernel_rfl) rfl) rfl ?_;exact ⟨ps,_,p,t,_,rfl,HT,HP,HZ.2.2.1,HZ.2.2.2.1,HZ.2.1⟩
 | false=>
  go_upto_region 6 with fail
  have r:w.heap.size < lo:=by have:=H5.lt;omega
  have y:M ≠ w.heap.size:=by have:=H5.lt;omega
  refine xA (fun x=>Bx x M (zA p t) 35) (by kernel_rfl) ?_;show wpAnyH prog _ _ _ _ (5+1) (Array.replicate 6 false) _ _;have hS:Bx w5.drew M (zA p t) 35:=H5.box;refine yJ 0 24 (.slice gt ps.length ct) hS ?_;refine yJ 1 25 (.agg (zA p t)) hS ?_ (hy:=fun x hx=>ldb M hx underlying35);refine yJ 2 26 (I U (k - 1)) hS ?_;refine yJ 3 2 (.slice gt ps.length ct) hS ?_;refine h_st 4 w.heap.size (zA p t) H5.zero (zJ H5.own.1) ?_;intro z hg hk;have hd:=bw w5;have HZ:Hid (Bx z w.heap.size (zA p t) 35/\Be w z/\xH z w.heap.size (.slice gt ps.length ct) ps/\zO w.heap.size z.heap.size z p t/\Bx z M (zA p t) 35):=⟨hk,(bt H5.below hd).grown hg H5.below.size (qkk (by omega)),((f.below hd).boxed H5.zero hg).base (by omega),(((H5.own.below hd).boxed H5.zero hg).wide hg.size (nl _)).low (by omega),gk hg H5.box (qsn (by omega))⟩;clear hg hk hd hS H5 f;refine ⟨HZ.2.2.2.2,?_⟩;have hS:=HZ.2.2.2.2;refine yJ 5 4 (I U (k - 1)) hS ?_;refine h_dn ?_;clear hS;go_wp2;refine bodyPost_ret (v:=.tuple #[.slice gt ps.length ct,.agg (zA p t),I U (k - 1)]) (results_tct3 results66 _ _ w.heap.size 35 _ (0,0) _ _ _ rfl rfl HZ.1 underlying35 rfl (by kernel_rfl) rfl) rfl ?_;exact ⟨ps,_,p,t,_,rfl,HT,HP,HZ.2.2.1,HZ.2.2.2.1,HZ.2.1⟩
theorem drawThrough_any (hc:Code w ao len b off) :
  Calls prog 25 #[.slice ao len cap] w fun e w'=>∃ ps v p t k,e=.returned (.tuple #[v,yZ p t,I U k])/\smT (bks ps)/\smW p/\xH w' w.heap.size v ps/\zO w.heap.size w'.heap.size w' p t/\Be w w':=by
 obtain ⟨W,hW⟩:=nw (w.alloc (.cells zF 35))
 have HW:Hid (Code W ao len b off/\Bx W w.heap.size zF 35/\Be w W):=(by
  have hb:Be w W:=by rw [hW];exact yA _ _
  exact ⟨hc.below hb,by rw [hW];exact heap_alloc_new _ _,hb⟩:_/\_)
 clear hc;unfold zF at hW;go_enter func25,ntmps25;go_wp2_with (rw [<- hW];clear hW)
 refine (pair10_any HW.1).mono ?_;rintro e w1 ⟨ps,v,p,t,k,rfl,f,d,hT,hD,hb⟩;have HT:=hid f;have HP:=hid d;have lW:w.heap.size < W.heap.size:=(gl HW.2.1);have H1:=hid (qad4 ((hb.block _ lW).trans HW.2.1) (bt HW.2.2 hb) hT hD);obtain ⟨gt,ct,g⟩:∃ gt ct,v=.slice gt ps.length ct:=(by obtain ⟨a,c,e,-⟩:=hT.read.q.1;exact ⟨a,c,e⟩:∃ gt ct,v=.slice gt ps.length ct);subst g;clear f d hT hD hb HW;go_wp2_with (refine w_st w.heap.size (zA p t) H1.1 (zJ H1.2.2.2.1) ?_;intro z hg hk hz;have HZ:Hid (Bx z w.heap.size (zA p t) 35/\Be w z/\xH z w.heap.size (.slice gt ps.length ct) ps/\zO w.heap.size z.heap.size z p t):=⟨hk,H1.2.1.grown hg H1.2.1.size (qkk (by omega)),(H1.2.2.1.boxed H1.1 hg).base (by omega),((H1.2.2.2.boxed H1.1 hg).wide hg.size (nl _)).low (by omega)⟩;clear hg hk hz H1)
 refine bodyPost_ret (v:=.tuple #[.slice gt ps.length ct,.agg (zA p t),I U k]) (results_tct3 results25 _ _ w.heap.size 35 _ (0,0) _ _ _ rfl rfl HZ.1 underlying35 rfl (by kernel_rfl) rfl) rfl ?_;exact ⟨ps,_,p,t,k,rfl,HT,HP,HZ.2.2.1,HZ.2.2.2,HZ.2.1⟩
theorem drawEarly_any (hc:Code w ao len b off) :
  Calls prog 26 #[.slice ao len cap] w fun e w'=>∃ ps v p t k,e=.returned (.tuple #[v,yZ p t,I U k])/\smT (bks ps)/\smW p/\xH w' w.heap.size v ps/\zO w.heap.size w'.heap.size w' p t/\Be w w':=by
 obtain ⟨W,hW⟩:=nw (w.alloc (.cells zF 35))
 have HW:Hid (Code W ao len b off/\Bx W w.heap.size zF 35/\Be w W):=(by
  have hb:Be w W:=by rw [hW];exact yA _ _
  exact ⟨hc.below hb,by rw [hW];exact heap_alloc_new _ _,hb⟩:_/\_)
 clear hc;unfold zF at hW;go_enter func26,ntmps26;go_wp2_with (rw [<- hW];clear hW)
 refine (pair10_any HW.1).mono ?_;rintro e w1 ⟨ps,v,p,t,k,rfl,f,d,hT,hD,hb⟩;have HT:=hid f;have HP:=hid d;have lW:w.heap.size < W.heap.size:=(gl HW.2.1);have H1:=hid (qad4 ((hb.block _ lW).trans HW.2.1) (bt HW.2.2 hb) hT hD);obtain ⟨gt,ct,g⟩:∃ gt ct,v=.slice gt ps.length ct:=(by obtain ⟨a,c,e,-⟩:=hT.read.q.1;exact ⟨a,c,e⟩:∃ gt ct,v=.slice gt ps.length ct);subst g;clear f d hT hD hb HW;go_wp2_with (refine w_st w.heap.size (zA p t) H1.1 (zJ H1.2.2.2.1) ?_;intro z hg hk hz;have HZ:Hid (Bx z w.heap.size (zA p t) 35/\Be w z/\xH z w.heap.size (.slice gt ps.length ct) ps/\zO w.heap.size z.heap.size z p t):=⟨hk,H1.2.1.grown hg H1.2.1.size (qkk (by omega)),(H1.2.2.1.boxed H1.1 hg).base (by omega),((H1.2.2.2.boxed H1.1 hg).wide hg.size (nl _)).low (by omega)⟩;clear hg hk hz H1)
 refine bodyPost_ret (v:=.tuple #[.slice gt ps.length ct,.agg (zA p t),I U k]) (results_tct3 results26 _ _ w.heap.size 35 _ (0,0) _ _ _ rfl rfl HZ.1 underlying35 rfl (by kernel_rfl) rfl) rfl ?_;exact ⟨ps,_,p,t,k,rfl,HT,HP,HZ.2.2.1,HZ.2.2.2,HZ.2.1⟩
def wayF (t:List BK):Nat->Nat->Int->List Int
 | 0,_,_=>[-1]
 | f+1,ab,x=>if 0<=x/\x < (ab:Int) then (if x=0 then [0] else x :: wayF t f x.toNat (zDI t x.toNat)) else [-1]
theorem wayF_out (t:List BK) {f:Nat} (h:¬ (0<=x/\x < (ab:Int))):wayF t f ab x=[-1]:=by
 cases f with
 | zero=>rfl
 | succ f=>unfold wayF;rw [if_neg h]
theorem wayF_more (t:List BK):∀ (f g ab:Nat) (x:Int),ab<=f->ab<=g->wayF t f ab x=wayF t g ab x
 | 0,g,ab,x,hf,_=>by rw [wayF_out t (by omega),wayF_out t (by omega)]
 | f+1,0,ab,x,_,hg=>by rw [wayF_out t (by omega),wayF_out t (by omega)]
 | f+1,g+1,ab,x,hf,hg=>by
  by_cases h:0<=x/\x < (ab:Int)
  ·unfold wayF;rw [if_pos h,if_pos h,wayF_more t f g x.toNat (zDI t x.toNat) (by omega) (by omega)]
  ·rw [wayF_out t h,wayF_out t h]
def wayA (t:List BK) (ab:Nat) (x:Int):List Int:=wayF t ab ab x
def way (t:List BK) (k:Int):List Int:=wayA t t.length k
theorem wayA_zero (t:List BK) (h:0 < ab):wayA t ab 0=[0]:=by
 obtain ⟨f,rfl⟩:∃ f,ab=f+1:=⟨ab - 1,by omega⟩;unfold wayA wayF;rw [if_pos ⟨Int.le_refl _,by omega⟩,if_pos rfl]
theorem wayA_step (t:List BK) {j:Nat} (h0:0 < j) (h:j < ab):wayA t ab (j:Int)=(j:Int) :: wayA t j (zDI t j):=by
 obtain ⟨f,rfl⟩:∃ f,ab=f+1:=⟨ab - 1,by omega⟩;unfold wayA;rw [show wayF t (f+1) (f+1) (j:Int)=(if 0<=(j:Int)/\(j:Int) < ((f+1:Nat):Int) then (if (j:Int)=0 then [0] else (j:Int) :: wayF t f (j:Int).toNat (zDI t (j:Int).toNat)) else [-1]) from rfl,if_pos ⟨by omega,by omega⟩,if_neg (by omega),Int.toNat_natCast,wayF_more t f j j _ (by omega) (nl _)]
theorem wayA_out (t:List BK) (h:¬ (0<=x/\x < (ab:Int))):wayA t ab x=[-1]:=wayF_out t h
theorem wayA_some (t:List BK):∀ (n ab:Nat) (x:Int) (l:List Nat),ab<=n->ab<=t.length->x < (ab:Int)->qH t x=some l->wayA t ab x=qG l ++ [0]
 | 0,ab,x,l,hn,_,hx,h=>by have:=(down_range h).1;omega
 | n+1,ab,x,l,hn,ht,hx,h=>by
  obtain ⟨x0,x1⟩:=down_range h;obtain ⟨j,rfl⟩:=Int.eq_ofNat_of_zero_le x0
  by_cases hz:j=0
  ·subst hz;have:l=[]:=by rw [show ((0:Nat):Int)=0 from rfl,down_zero (by omega)] at h;exact (Option.some.inj h).symm
   subst this;rw [show ((0:Nat):Int)=0 from rfl,wayA_zero t (by omega)]
   rfl
  ·obtain ⟨a,l',b,rfl⟩:=down_some (by omega) h;have h3:=a.2.2.2;rw [wayA_step t (by omega) (by omega),wayA_some t n j (zDI t j) l' (by omega) (by omega) (by omega) b,intsN_cons,List.cons_append]
theorem wayA_none (t:List BK):∀ (n ab:Nat) (x:Int),ab<=n->ab<=t.length->x < (ab:Int)∨ab=t.length->qH t x=none->∃ pre,wayA t ab x=pre ++ [-1]/\∀ y∈pre,y ≠ -1
 | n,ab,x,hn,ht,hx,h=>by
  by_cases hr:0<=x/\x < (ab:Int)
  ·obtain ⟨x0,x1⟩:=hr;obtain ⟨j,rfl⟩:=Int.eq_ofNat_of_zero_le x0
   have hz:j ≠ 0:=by
    intro hz;subst hz;rw [show ((0:Nat):Int)=0 from rfl,down_zero (by omega)] at h
    cases h
   rw [wayA_step t (by omega) (by omega)]
   by_cases hok:okAtT t j
   ·cases n with
    | zero=>omega
    | succ n=>
     have h3:=hok.2.2.2;rw [down_step hok] at h
     have h2:qH t (zDI t j)=none:=by cases hp:qH t (zDI t j) with
      | none=>rfl
      | some l=>rw [hp] at h;cases h
     obtain ⟨pre,hp,hy⟩:=wayA_none t n j (zDI t j) (by omega) (by omega) (Or.inl (by omega)) h2;refine ⟨(j:Int) :: pre,by rw [hp,List.cons_append],fun y hm=>?_⟩
     rcases List.mem_cons.1 hm with rfl | hm
     ·omega
     ·exact hy y hm
   ·have:¬ (0<=zDI t j/\zDI t j < (j:Int)):=fun hc=>hok ⟨by omega,by omega,hc.1,by omega⟩
    rw [wayA_out t this];refine ⟨[(j:Int)],rfl,fun y hm=>?_⟩;simp at hm;omega
  ·exact ⟨[],by rw [wayA_out t hr];rfl,fun y hm=>by cases hm⟩
theorem way_some (h:qH t k=some l):way t k=qG l ++ [0]:=wayA_some t t.length t.length k l (nl _) (nl _) (down_range h).2 h
theorem way_none (h:qH t k=none):∃ pre,way t k=pre ++ [-1]/\∀ y∈pre,y ≠ -1:=wayA_none t t.length t.length k (nl _) (nl _) (Or.inr rfl) h
theorem wayA_len (t:List BK):∀ (n ab:Nat) (x:Int),ab<=n->(wayA t ab x).length<=ab+1
 | n,ab,x,hn=>by
  by_cases hr:0<=x/\x < (ab:Int)
  ·obtain ⟨x0,x1⟩:=hr;obtain ⟨j,rfl⟩:=Int.eq_ofNat_of_zero_le x0
   by_cases hz:j=0
   ·subst hz;rw [show ((0:Nat):Int)=0 from rfl,wayA_zero t (by omega)];simp
   ·cases n with
    | zero=>omega
    | succ n=>
     rw [wayA_step t (by omega) (by omega),Ag];have:=wayA_len t n j (zDI t j) (by omega);omega
  ·rw [wayA_out t hr];simp
theorem way_len (t:List BK) (k:Int):(way t k).length<=t.length+1:=wayA_len t t.length t.length k (nl _)
theorem intsN_ne {y:Int} (h:y∈qG l):0<=y:=by
 unfold qG at h;obtain ⟨x,_,rfl⟩:=List.mem_map.1 h;omega
theorem way_all (h:∀ y∈way t k,y ≠ -1):∃ l,qH t k=some l:=by
 cases hd:qH t k with
 | some l=>exact ⟨l,rfl⟩
 | none=>
  obtain ⟨a,hp,_⟩:=way_none hd;exact absurd rfl (h (-1) (by rw [hp];simp))
theorem way_bad (h:pre <+: way t k) (hm:(-1:Int)∈pre):qH t k=none:=by
 cases hd:qH t k with
 | none=>rfl
 | some l=>
  have:=h.subset hm;rw [way_some hd] at this
  rcases List.mem_append.1 this with h1 | h1
  ·have:=intsN_ne h1;omega
  ·simp at h1
theorem extL_way (l:List Nat) (under:Int):extL l under=(qG l ++ [0]).any fun x=>decide (x=under):=by
 unfold extL qG;rw [List.any_append,List.any_map,Bool.or_comm]
 congr 1
 simp
 by_cases h:under=0
 ·subst h;simp
 ·have:¬ 0=under:=fun e=>h e.symm
  simp [h,this]
theorem down_desc (t:List BK):∀ (n k:Nat) (l:List Nat),k<=n->qH t (k:Int)=some l->(∀ x∈l,0 < x/\x<=k)/\l.Pairwise (· > ·)
 | n,k,l,hn,h=>by
  by_cases hz:k=0
  ·subst hz;obtain ⟨_,x1⟩:=down_range h;have:l=[]:=by rw [show ((0:Nat):Int)=0 from rfl,down_zero (by omega)] at h;exact (Option.some.inj h).symm
   subst this;exact ⟨fun x hx=>(by cases hx),List.Pairwise.nil⟩
  ·obtain ⟨a,l',b,rfl⟩:=down_some (by omega) h;have h2:=a.2.2.1;have h3:=a.2.2.2;obtain ⟨p,hp⟩:=Int.eq_ofNat_of_zero_le h2
   cases n with
   | zero=>omega
   | succ n=>
    rw [hp] at b;obtain ⟨ha,hb⟩:=down_desc t n p l' (by omega) b;refine ⟨fun x hx=>?_,List.pairwise_cons.2 ⟨fun x hx=>?_,hb⟩⟩
    ·rcases List.mem_cons.1 hx with rfl | hx
     ·omega
     ·have:=ha x hx;omega
    ·have:=ha x hx;omega
theorem down_falls (h:qH t k=some l):(∀ x∈l,0 < x)/\(qG l ++ [0]).Pairwise (· > ·):=by
 obtain ⟨x0,x1⟩:=down_range h;obtain ⟨j,rfl⟩:=Int.eq_ofNat_of_zero_le x0;obtain ⟨ha,hb⟩:=down_desc t j j l (nl _) h;refine ⟨fun x hx=>(ha x hx).1,List.pairwise_append.2 ⟨?_,by simp,fun a hm b c=>?_⟩⟩
 ·unfold qG;rw [List.pairwise_map];exact hb.imp fun h=>by omega
 ·unfold qG at hm;obtain ⟨x,hx,rfl⟩:=List.mem_map.1 hm;simp at c;have:=(ha x hx).1;omega
open Go.Shelf
attribute [local go_sem] Oper.semAt_some
def KpW (n₀ Bs:Nat) (A B:World):Prop:=Below n₀ A B/\B.heap[Bs]?=A.heap[Bs]?
theorem kpW_refl (n₀ Bs:Nat) (A:World):KpW n₀ Bs A A:=⟨br _ _,rfl⟩
theorem kpW_t {n₀ Bs:Nat} {A B C:World} (h:KpW n₀ Bs A B) (k:KpW n₀ Bs B C):KpW n₀ Bs A C:=⟨h.1.trans k.1,k.2.trans h.2⟩
theorem kpW_b {n₀ Bs:Nat} (hn:n₀<=w.heap.size) (hB:Bs < w.heap.size) (W:World) (l:Nat) (o o':Obj) (hl:w.heap.size<=l) (h:W.heap[l]?=some o) (h1:o.isCells=false) (h2:o.isWalk=false):KpW n₀ Bs W (W.putObj l o'):=
 ⟨belowK_b hn W l o o' hl h h1 h2,World.putObj_heap_other (by omega)⟩
def encW (x:Int):Array Value:=#[I U x]
theorem pre_lt {l rest:List Int} (h:l=pre ++ x:: rest):pre.length < l.length:=by rw [h];simp
theorem pre_is {l rest:List Int} (h:l=pre ++ x:: rest):pre ++ [x] <+: l:=⟨rest,by rw [h];simp⟩
theorem way1_in (F:Fence) (n:Nat) (hf:F.fn 128) (hro:F.round=none) (hn:1<=n) (l Bt Bk n₀ cap:Nat) (a:Option Addr) (ps:TL) (k:Int) (hlen:(ps.length:Int)<=1048576) (J Jx:List Int->World->Prop)
  (hY:∀ pre x W,J pre W->pre.length < (way (bks ps) k).length->YieldAt F (n - 1) prog l (encW x) W fun e W'=>
   (e=.returned (.bool true)/\J (pre ++ [x]) W'/\KpW n₀ Bt W W')∨(e=.returned (.bool false)/\Jx (pre ++ [x]) W'))
  (W:World) (hBt:W.cell? ⟨Bt,0,Aa⟩=Ab (.slice a ps.length cap)) (hBk:W.cell? ⟨Bk,0,Aa⟩=Ab (I U k))
  (hI:0 < ps.length->∃ g off,a=Ab ⟨g,off,Aa⟩/\g < n₀/\∀ j (_:j < ps.length),W.cell? ⟨g,off+j * 7,Aa⟩=Ab (I U ps[j].1.1.1)) (h0:J [] W) :
  CallsIn F n prog 128 #[.func (.yield l) #[] #[],.pointer (Ab ⟨Bt,0,Aa⟩),.pointer (Ab ⟨Bk,0,Aa⟩)] W fun e W'=>(∃ v,e=.returned v)/\
   ((∃ ys,ys=way (bks ps) k/\J ys W')∨(∃ pre,pre <+: way (bks ps) k/\Jx pre W')):=by
 refine callsIn_of_wp func128 rfl hf ?_ hro;simp only [ntmps128,List.size_toArray,Ag,List.length_nil,Nat.reduceAdd,Nat.reduceSub,Array.replicate_succ,Array.replicate_zero,List.push_toArray,List.append_toArray,List.nil_append,List.cons_append];have HI:Hid (0 < ps.length->∃ g off,a=Ab ⟨g,off,Aa⟩/\g < n₀/\∀ j (_:j < ps.length),W.cell? ⟨g,off+j * 7,Aa⟩=Ab (I U ps[j].1.1.1)):=hI;have HB:Hid (W.cell? ⟨Bt,0,Aa⟩=Ab (.slice a ps.length cap)):=hBt;have aa:=yO ps;clear hI
 gi_wp2
 clear hBt hBk
 gi_loopw [4,5] (fun ab p wr=>∃ (m:Nat) (x:Int) (pre:List Int),ab=I U (m:Int)/\p=I U x/\m<=ps.length/\Hid (way (bks ps) k=pre ++ wayA (bks ps) m x)/\J pre wr/\KpW n₀ Bt W wr)
  (fun ab _ _=>(intOf ab).toNat)
 case atStart=>exact ⟨ps.length,k,[],rfl,rfl,nl _,(by unfold way;rw [aa];rfl:way (bks ps) k=[] ++ wayA (bks ps) ps.length k),h0,kpW_refl _ _ _⟩
 case round=>
  obtain ⟨m,x,pre,rfl,rfl,hm,HW,t,y⟩:=hrel
  by_cases hx:0<=x/\x < (m:Int)
  ·obtain ⟨x0,x1⟩:=hx
   by_cases hz:x=0
   ·subst hz;have hw:way (bks ps) k=pre ++ [0]:=by rw [HW.out,wayA_zero _ (by omega)]
    have c:Hid (way (bks ps) k=pre ++ [0]):=hw;obtain ⟨fn,r,f,s,hy,hR⟩:=hY pre 0 wr t (by rw [hw];simp);unfold encW at hy;clear hw
    gi_wp2
    refine hR.mono ?_;rintro e W3 (⟨rfl,d,i⟩ | ⟨rfl,b⟩)
    ·gi_wp2
     refine bodyPost_ret (results_none rfl _ _ _) rfl ?_;exact ⟨⟨_,rfl⟩,.inl ⟨_,c.symm,d⟩⟩
    ·gi_wp2
     refine bodyPost_ret (results_none rfl _ _ _) rfl ?_;exact ⟨⟨_,rfl⟩,.inr ⟨_,⟨[],by rw [c.out];simp⟩,b⟩⟩
   ·obtain ⟨j,rfl⟩:=Int.eq_ofNat_of_zero_le x0;have hj:j < ps.length:=by omega
    have hw:way (bks ps) k=pre ++ (j:Int) :: wayA (bks ps) j ps[j].1.1.1:=by rw [HW.out,wayA_step _ (by omega) (by omega),yCC hj]
    have c:Hid (way (bks ps) k=pre ++ (j:Int) :: wayA (bks ps) j ps[j].1.1.1):=hw;have d0:((j:Int) == 0)=false:=by simpa using hz
    have q1:(j:Int) < ps.length:=by omega
    obtain ⟨g,off,rfl,hg,hc⟩:=HI (by omega);obtain ⟨fn,r,f,s,hy,hR⟩:=hY pre (j:Int) wr t (pre_lt hw);unfold encW at hy;have c0:=hc j hj;have HN:=hid y;clear hw hc y hz
    gi_wp2
    refine hR.mono ?_;rintro e W3 (⟨rfl,d,i⟩ | ⟨rfl,b⟩)
    ·have o:=kpW_t HN i;have c1:W3.cell? ⟨g,off+j * 7,Aa⟩=Ab (I U ps[j].1.1.1):=by rw [o.1.cell (by exact hg)];exact c0
     have c2:W3.cell? ⟨Bt,0,Aa⟩=Ab (.slice (Ab ⟨g,off,Aa⟩) ps.length cap):=by rw [World.cell?_of_block (w:=W) o.2];exact HB.out
     have z:=hid o;clear o i c0
     gi_wp2
     go_roundw
     case rel=>exact ⟨j,ps[j].1.1.1,pre ++ [(j:Int)],rfl,rfl,by omega,(by rw [c.out];simp:way (bks ps) k=(pre ++ [(j:Int)]) ++ wayA (bks ps) j ps[j].1.1.1),d,z⟩
     case measure=>simp [intOf];omega
    ·gi_wp2
     refine bodyPost_ret (results_none rfl _ _ _) rfl ?_;exact ⟨⟨_,rfl⟩,.inr ⟨_,pre_is c,b⟩⟩
  ·have hw:way (bks ps) k=pre ++ [-1]:=by rw [HW.out,wayA_out _ hx]
   have c:Hid (way (bks ps) k=pre ++ [-1]):=hw;obtain ⟨fn,r,f,s,hy,hR⟩:=hY pre (-1) wr t (by rw [hw];simp);unfold encW at hy;clear hw
   by_cases x0:0<=x
   ·have x1:¬ x < (m:Int):=fun h=>hx ⟨x0,h⟩
    clear hx
    gi_wp2
    refine hR.mono ?_;rintro e W3 (⟨rfl,d,i⟩ | ⟨rfl,b⟩)
    ·gi_wp2
     go_end0
     exact ⟨⟨_,rfl⟩,.inl ⟨_,c.symm,d⟩⟩
    ·gi_wp2
     go_end0
     exact ⟨⟨_,rfl⟩,.inr ⟨_,⟨[],by rw [c.out];simp⟩,b⟩⟩
   ·clear hx
    gi_wp2
    refine hR.mono ?_;rintro e W3 (⟨rfl,d,i⟩ | ⟨rfl,b⟩)
    ·gi_wp2
     go_end0
     exact ⟨⟨_,rfl⟩,.inl ⟨_,c.symm,d⟩⟩
    ·gi_wp2
     go_end0
     exact ⟨⟨_,rfl⟩,.inr ⟨_,⟨[],by rw [c.out];simp⟩,b⟩⟩
theorem way_in (F:Fence) (n:Nat) (hf:F.fn 89) (hro:F.round=none) (a:Option Addr) (len cap:Nat) (k:Int) (w:World) :
  CallsIn F n prog 89 #[.slice a len cap,I U k] w fun e w'=>e=.returned (.func (.func 128) #[] #[.pointer (Ab ⟨w.heap.size,0,Aa⟩),.pointer (Ab ⟨w.heap.size+1,0,Aa⟩)])/\w'=(w.alloc (.cells #[.slice a len cap] 24)).alloc (.cells #[I U k] 3):=by
 refine callsIn_of_wp func89 rfl hf ?_ hro;simp only [ntmps89,List.size_toArray,Ag,List.length_nil,Nat.reduceAdd,Nat.reduceSub,Array.replicate_succ,Array.replicate_zero,List.push_toArray,List.append_toArray,List.nil_append,List.cons_append]
 gi_wp2
 go_ret;exact ⟨by simp,rfl⟩
theorem way_stops (F:Fence) (n:Nat) (hf:F.fn 128) (hro:F.round=none) (hn:1<=n) (Bt Bk n₀ cap:Nat) (a:Option Addr) (ps:TL) (k:Int) (hlen:(ps.length:Int)<=1048576) (w:World) (hBt:Bt < w.heap.size) (hBk:Bk < w.heap.size) (hn₀:n₀<=w.heap.size)
  (hc:w.cell? ⟨Bt,0,Aa⟩=Ab (.slice a ps.length cap)) (hk:w.cell? ⟨Bk,0,Aa⟩=Ab (I U k)) (hI:0 < ps.length->∃ g off,a=Ab ⟨g,off,Aa⟩/\g < n₀/\∀ j (_:j < ps.length),w.cell? ⟨g,off+j * 7,Aa⟩=Ab (I U ps[j].1.1.1)) :
  SeqStopsK F n prog 128 #[.pointer (Ab ⟨Bt,0,Aa⟩),.pointer (Ab ⟨Bk,0,Aa⟩)] encW (KpW n₀ Bt) (fun ys=>ys=way (bks ps) k) (fun pre=>pre <+: way (bks ps) k) (way (bks ps) k).length w:=fun l J Jx W hW _ _ hY h0=>
 way1_in F n hf hro hn l Bt Bk n₀ cap a ps k hlen J Jx hY W ((hW.cell (p:=⟨Bt,0,Aa⟩) hBt).trans hc) ((hW.cell (p:=⟨Bk,0,Aa⟩) hBk).trans hk) (fun h=>by
  obtain ⟨g,off,e,hg,b⟩:=hI h
  exact ⟨g,off,e,hg,fun j hj=>((hW.mono hn₀).cell (p:=⟨g,off+j * 7,Aa⟩) hg).trans (b j hj)⟩) h0
attribute [local go_sem] Oper.semAt_some
theorem four_box (w:World) (t0 t1 t2 t3:TypeId) (v0 v1 v2 v3:Value) (W:World) (hW:W=(((w.alloc (.cells #[v0] t0)).alloc (.cells #[v1] t1)).alloc (.cells #[v2] t2)).alloc (.cells #[v3] t3)) :
  (Boxed W w.heap.size t0 v0/\Boxed W (w.heap.size+1) t1 v1/\Boxed W (w.heap.size+1+1) t2 v2/\Boxed W (w.heap.size+1+1+1) t3 v3)/\W.heap.size=w.heap.size+4/\Be w W:=by
 have b1:=Boxed.new (w.alloc (.cells #[v0] t0)) t1 v1;have b2:=Boxed.new ((w.alloc (.cells #[v0] t0)).alloc (.cells #[v1] t1)) t2 v2;have b3:=Boxed.new (((w.alloc (.cells #[v0] t0)).alloc (.cells #[v1] t1)).alloc (.cells #[v2] t2)) t3 v3;simp only [World.size_alloc] at b1 b2 b3;subst hW;exact ⟨⟨(((Boxed.new w t0 v0).alloc _).alloc _).alloc _,(b1.alloc _).alloc _,b2.alloc _,b3⟩,by simp,ba (ba (ba (ba (br _ _) _) _) _) _⟩
theorem five_box (w:World) (t0 t1 t2 t3 t4:TypeId) (v0 v1 v2 v3 v4:Value) (W:World) (hW:W=((((w.alloc (.cells #[v0] t0)).alloc (.cells #[v1] t1)).alloc (.cells #[v2] t2)).alloc (.cells #[v3] t3)).alloc (.cells #[v4] t4)) :
  (Boxed W w.heap.size t0 v0/\Boxed W (w.heap.size+1) t1 v1/\Boxed W (w.heap.size+1+1) t2 v2/\Boxed W (w.heap.size+1+1+1) t3 v3/\Boxed W (w.heap.size+1+1+1+1) t4 v4)/\W.heap.size=w.heap.size+5/\Be w W:=by
 obtain ⟨⟨b0,b1,b2,b3⟩,hs,hb⟩:=four_box w t0 t1 t2 t3 v0 v1 v2 v3 _ rfl;have b4:=Boxed.new ((((w.alloc (.cells #[v0] t0)).alloc (.cells #[v1] t1)).alloc (.cells #[v2] t2)).alloc (.cells #[v3] t3)) t4 v4;rw [hs] at b4;subst hW;exact ⟨⟨b0.alloc _,b1.alloc _,b2.alloc _,b3.alloc _,b4⟩,by rw [World.size_alloc,hs],ba hb _⟩
theorem kpW_set (n₀ Bs B:Nat) (W:World) (v:Value) (hB:n₀<=B) (hne:Bs < W.heap.size) (hn:Bs ≠ B):KpW n₀ Bs W (W.setCell ⟨B,0,Aa⟩ v):=
 ⟨(Below.refl n₀ W).setCell (p:=⟨B,0,Aa⟩) hB _,(grownBy_setCell' W B v).block Bs hne (fun e=>hn (by cases e;rfl))⟩
def metB (under:Int) (pre:List Int):Bool:=pre.any fun x=>decide (x=under)
theorem metB_hit {under:Int} (h:metB under pre=true) (x:Int):metB under (pre ++ [x])=true:=by unfold metB at h ⊢;rw [List.any_append,h];rfl
theorem metB_at (under:Int) (pre:List Int):metB under (pre ++ [under])=true:=by unfold metB;simp
theorem metB_miss {under:Int} (h:metB under pre=false) (hx:x ≠ under):metB under (pre ++ [x])=false:=by unfold metB at h ⊢;rw [List.any_append,h];simpa using hx
theorem extends_i (ps:TL) (v:Value) (k under:Int) (w:World) (hT:jB w v ps) (hl:(ps.length:Int)<=1048576) :
  Calls prog 54 #[v,I U k,I U under] w fun e w'=>e=.returned (.bool (yBI (bks ps) k under))/\Be w w':=by
 obtain ⟨a,cap,rfl,hr⟩:=zAI hT
 have HR:Hid (0 < ps.length->∃ g d,a=Ab ⟨g,d,Aa⟩/\g < w.heap.size/\∀ j (_:j < ps.length),w.cell? ⟨g,d+j * 7,Aa⟩=Ab (I U ps[j].1.1.1)):=fun h=>by
  obtain ⟨g,d,e,hg,hc⟩:=hr h;exact ⟨g,d,e,hg,fun j hj=>(hc j hj).1⟩
 clear hr hT;refine (callsIn_wide (n:=9)).1 ?_;refine callsIn_of_wp_marks func54 rfl trivial ?_ rfl;simp only [ntmps54,List.size_toArray,Ag,List.length_nil,Nat.reduceAdd,Nat.reduceSub,Array.replicate_succ,Array.replicate_zero,List.push_toArray,List.append_toArray,List.nil_append,List.cons_append]
 gi_wp2_with (refine ⟨trivial,?_⟩;gi_at_call 89;refine (way_in Fence.wide _ trivial rfl _ _ _ _ _).mono ?_;rintro e w3 ⟨rfl,rfl⟩)
 obtain ⟨W0,i⟩:=nw (((((w.alloc (Ac #[I U under] 3)).alloc (Ac #[Value.bool false] 4)).alloc (Ac #[Value.bool false] 4)).alloc (Ac #[Ad a (List.length ps) cap] 24)).alloc (Ac #[I U k] 3));obtain ⟨⟨bU,bR,bM,bT,bK⟩,ac,z⟩:=five_box w _ _ _ _ _ _ _ _ _ _ W0 i;rw [<- i];clear i
 refine wpIn_rangeFunc_ownF rfl (by omega) (gf:=128) (lb:=#[.pointer (Ab ⟨w.heap.size+1+1+1,0,Aa⟩),.pointer (Ab ⟨w.heap.size+1+1+1+1,0,Aa⟩)]) rfl trivial (enters_of func128 (by kernel_rfl) rfl)
  (way_stops Fence.wide 8 trivial rfl (by omega) (w.heap.size+1+1+1) (w.heap.size+1+1+1+1) w.heap.size cap a ps k hl W0 bT.lt bK.lt (by omega) bT.cell bK.cell (fun h=>by
   obtain ⟨g,d,e,hg,hc⟩:=HR h
   exact ⟨g,d,e,hg,fun j hj=>(z.cell (by exact hg)).trans (hc j hj)⟩)) kpW_t (kpW_b (by omega) bT.lt) (br _ _) (fun _=>rfl)
  (fun b W=>((((Boxed W (w.heap.size+1) 4 (.bool false)/\Boxed W (w.heap.size+1+1) 4 (.bool (metB under b)))/\Boxed W w.heap.size 3 (I U under))/\Boxed W (w.heap.size+1+1+1) 24 (.slice a ps.length cap))/\(∀ y∈b,y ≠ -1))/\Be w W)
  (fun c b W=>(Boxed W (w.heap.size+1) 4 (.bool false)/\(c=.ret/\(-1:Int)∈b))/\Be w W)
  (OwnFrom.and (OwnFrom.and (OwnFrom.and (OwnFrom.and (OwnFrom.and (Own.from (boxed_own _ _ _) _) (Own.from (boxed_own (w.heap.size+1+1) 4 (fun b:List Int=>.bool (metB under b))) _)) (Own.from (boxed_own _ _ _) _)) (Own.from (boxed_own _ _ _) _)) (ownFrom_pure _ _)) (ownFrom_below (nl _) (by omega)))
  (fun c=>OwnFrom.and (OwnFrom.and (Own.from (boxed_own _ _ _) _) (ownFrom_pure _ _)) (ownFrom_below (nl _) (by omega)))
  ⟨⟨⟨⟨⟨bR,bM⟩,bU⟩,bT⟩,by simp⟩,z⟩
  (fun x=>{ tmps:=#[Ad a (List.length ps) cap,I U k,I U under,undef,undef,Af (Ab ⟨w.heap.size,0,Aa⟩),Af (Ab ⟨w.heap.size+1,0,Aa⟩),Af (Ab ⟨w.heap.size+1+1,0,Aa⟩),I U x,Ad a (List.length ps) cap,I U k,.func (.func 128) #[] #[.pointer (Ab ⟨w.heap.size+1+1+1,0,Aa⟩),.pointer (Ab ⟨w.heap.size+1+1+1+1,0,Aa⟩)],I U x,undef,undef,undef,undef,undef,undef,undef,undef,undef],defers:=[] })
  ?assign ?body ?done ?stop
 case assign=>
  intro l x W K hK;unfold encW
  gi_wp2
  exact hK
 case body=>
  rintro l b x W ⟨⟨⟨⟨⟨cR,cM⟩,cU⟩,cT⟩,hp⟩,hB⟩ ab;have x1:=cR.cell;have x2:=cR.frozen;have x3:=cM.cell;have x4:=cM.frozen;have x5:=cU.cell
  by_cases hx:x=-1
  ·subst hx
   gi_wp2
   exact ⟨KeepsOthers.setCell _ _ _,⟨cR.set _,rfl,by simp⟩,hB.setCell (p:=⟨w.heap.size+1,0,Aa⟩) (by simp) _⟩
  ·have d0:(x == -1)=false:=by simpa using hx
   have s:∀ y∈b ++ [x],y ≠ -1:=fun y hy=>(List.mem_append.1 hy).elim (hp y) (fun e=>by simp at e;subst e;exact hx)
   have m:=hid s;clear hp s hx
   cases hm:metB under b with
   | true=>
    have HM:Hid (metB under (b ++ [x])=true):=metB_hit hm x;rw [hm] at x3;clear hm
    gi_wp2
    exact ⟨KeepsOthers.setCell _ _ _,kpW_set _ _ (w.heap.size+1+1) _ _ (by omega) cT.lt (by omega),⟨⟨⟨⟨cR.other (by omega) _,by rw [HM.out];exact cM.set _⟩,cU.other (by omega) _⟩,cT.other (by omega) _⟩,m⟩,hB.setCell (p:=⟨w.heap.size+1+1,0,Aa⟩) (by simp;omega) _⟩
   | false=>
    rw [hm] at x3
    by_cases hu:x=under
    ·subst hu;have HM:Hid (metB x (b ++ [x])=true):=metB_at x b;have d1:(x == x)=true:=by simp
     clear hm
     gi_wp2
     exact ⟨KeepsOthers.setCell _ _ _,kpW_set _ _ (w.heap.size+1+1) _ _ (by omega) cT.lt (by omega),⟨⟨⟨⟨cR.other (by omega) _,by rw [HM.out];exact cM.set _⟩,cU.other (by omega) _⟩,cT.other (by omega) _⟩,m⟩,hB.setCell (p:=⟨w.heap.size+1+1,0,Aa⟩) (by simp;omega) _⟩
    ·have HM:Hid (metB under (b ++ [x])=false):=metB_miss hm hu;have d1:(x == under)=false:=by simpa using hu
     clear hm hu
     gi_wp2
     exact ⟨KeepsOthers.setCell _ _ _,kpW_set _ _ (w.heap.size+1+1) _ _ (by omega) cT.lt (by omega),⟨⟨⟨⟨cR.other (by omega) _,by rw [HM.out];exact cM.set _⟩,cU.other (by omega) _⟩,cT.other (by omega) _⟩,m⟩,hB.setCell (p:=⟨w.heap.size+1+1,0,Aa⟩) (by simp;omega) _⟩
 case done=>
  rintro D ys W hD rfl ⟨⟨⟨⟨⟨cR,cM⟩,cU⟩,cT⟩,hp⟩,hB⟩ hK;obtain ⟨lx,t⟩:=way_all hp;have HE:Hid (yBI (bks ps) k under=metB under (way (bks ps) k)):=hid (by rw [extT_some t,way_some t,extL_way];rfl);have x1:=cR.cell;have x2:=cR.frozen;have x3:=cM.cell
  gi_wp2
  have f:=(KeepsOthers.setCell W ⟨w.heap.size+1,0,Aa⟩ (.bool (metB under (way (bks ps) k)))).same D _ hK rfl;refine ⟨by simp,.inl ⟨_,_,rfl,run_takeDeferred f,?_⟩⟩;have o:=cell_kept (cR.set (.bool (metB under (way (bks ps) k)))).cell (grownBy_putObj' _ D (.deferred none)) (fun r e=>by cases e;exact ⟨_,f,rfl⟩);refine ⟨.bool (metB under (way (bks ps) k)),?_,by rw [HE.out],(hB.setCell (p:=⟨w.heap.size+1,0,Aa⟩) (by simp) _).trans (belowK_b (w:=w) (nl _) _ D _ _ (by omega) f rfl rfl)⟩;simp [results,results54,go_sem,o]
 case stop=>
  rintro D c b W hD aa ⟨⟨cR,rfl,hm⟩,hB⟩ hK;have HE:Hid (yBI (bks ps) k under=false):=extT_none (way_bad aa hm)
  gi_wp2
  refine ⟨by simp,.inl ⟨_,_,rfl,run_takeDeferred hK,?_⟩⟩;have o:=cell_kept cR.cell (grownBy_putObj' _ D (.deferred none)) (fun r e=>by cases e;exact ⟨_,hK,rfl⟩);refine ⟨.bool false,?_,by rw [HE.out],hB.trans (belowK_b (w:=w) (nl _) W D _ _ (by omega) hK rfl rfl)⟩;simp [results,results54,go_sem,o]
def propA (v:Value) (q:QC) (k:Int):Array Value:=#[v,I U q.1,I U q.2.1,I U q.2.2.1,I U q.2.2.2,I U k]
theorem placeOk_is {n:Nat} {a:Option Addr} {r:Bool} (h:inB k 0 ((n:Int) - 1)=r) (w:World) :
  Calls prog 107 #[.slice a n cap,I U k] w fun e w'=>e=.returned (.bool r)/\w'=w:=by
 subst h
 by_cases h0:0<=k
 ·by_cases h1:k < n
  ·have HR:Hid (inB k 0 ((n:Int) - 1)=true):=kY ⟨h0,by omega⟩;go_enter func107,ntmps107;go_wp2;go_ret;exact ⟨zL HR.symm,rfl⟩
  ·have HR:Hid (inB k 0 ((n:Int) - 1)=false):=zAB (by omega);go_enter func107,ntmps107;go_wp2;go_ret;exact ⟨zL HR.symm,rfl⟩
 ·have HR:Hid (inB k 0 ((n:Int) - 1)=false):=zAB (by omega);go_enter func107,ntmps107;go_wp2;go_ret;exact ⟨zL HR.symm,rfl⟩
theorem standsOn_i (ps:TL) (v:Value) (q:QC) (k:Int) (w:World) (hT:jB w v ps) (hl:(ps.length:Int)<=1048576) :
  Calls prog 68 #[.agg (propA v q k)] w fun e w'=>e=.returned (.bool (yBI (bks ps) k q.2.2.1))/\Be w w':=by
 have HT:=hid hT;obtain ⟨W,hW⟩:=nw (w.alloc (.cells (propA v q k) 105));have HW:Hid (Be w W/\Bx W w.heap.size (propA v q k) 105):=hid (by rw [hW];exact ⟨ba (br _ _) _,heap_alloc_new w _⟩);obtain ⟨a,cap,rfl,-⟩:=hT.1;have c0:=zB HW.2 0 (.slice a ps.length cap) rfl;have c3:=zB HW.2 3 (I U q.2.2.1) rfl;have c5:=zB HW.2 5 (I U k) rfl;clear hT;go_enter func68,ntmps68;go_wp2_with (rw [<- hW];clear hW)
 refine (extends_i ps _ k q.2.2.1 W (HT.below HW.1) hl).mono ?_;rintro e w1 ⟨rfl,hb⟩;have HB:Hid (Be w w1):=bt HW.1 hb;clear hb c0 c3 c5;go_wp2;go_ret;exact ⟨rfl,HB⟩
theorem made_below' {y x:World} {o:Obj} (hg:(y.alloc o).grownBy x (some y.heap.size)):Be y x:=
 ((Below.refl y.heap.size y).alloc (nl _) o).grown hg (by simp) (fun k hk=>by cases hk;exact nl _)
def aboveB (t:List BK) (lock:QC) (k:Int):Bool:=if 0<=k/\k<=(t.length:Int) - 1 then decide ((t[k.toNat]?.getD kE).2.2.2.1 > lock.2.1) else false
theorem safe_or {ps:TL} {q:QC} :yDA (bks ps) q k=(yBI (bks ps) k q.2.2.1 || aboveB (bks ps) q k):=by
 unfold yDA aboveB
 by_cases h:0<=k/\k<=((bks ps).length:Int) - 1
 ·rw [if_pos h,if_pos h]
 ·rw [if_neg h,if_neg h,Bool.or_false];exact (extT_none (by unfold qH;rw [if_neg (by omega)])).symm
theorem justAbove_i (ps:TL) (v:Value) (q:QC) (k:Int) (w:World) (hT:jB w v ps) (hl:(ps.length:Int)<=1048576) :
  Calls prog 69 #[.agg (propA v q k)] w fun e w'=>e=.returned (.bool (aboveB (bks ps) q k))/\Be w w':=by
 have HT:=hid hT;have d:Hid ((bks ps).length=ps.length):=yO ps;obtain ⟨W1,b⟩:=nw (w.alloc (.cells (propA v q k) 105))
 have HW:Hid (Bx W1 w.heap.size (propA v q k) 105/\Be w W1):=by
  rw [b];exact ⟨heap_alloc_new w _,ba (br _ _) _⟩
 have l0:w.heap.size < W1.heap.size:=(gl HW.1);have HX:Hid (∀ w',Be W1 w'->Bx w' w.heap.size (propA v q k) 105):=fun w' h'=>(h'.block _ l0).trans HW.1
 have m:=yX W1;obtain ⟨a,cap,rfl,hr⟩:=zAI hT;have HR:=hid hr;have y0:∀ x:Bw W1,x.to.cell? ⟨w.heap.size,0,Aa⟩=Ab (.slice a ps.length cap):=fun x=>zB (HX _ x.below) 0 _ rfl
 have y2:∀ x:Bw W1,x.to.cell? ⟨w.heap.size,2,Aa⟩=Ab (I U q.2.1):=fun x=>zB (HX _ x.below) 2 _ rfl
 have y5:∀ x:Bw W1,x.to.cell? ⟨w.heap.size,5,Aa⟩=Ab (I U k):=fun x=>zB (HX _ x.below) 5 _ rfl
 clear hr hT
 by_cases hin:0<=k/\k<=(ps.length:Int) - 1
 ·have e0:=kY hin;obtain ⟨j,rfl⟩:∃ j:Nat,k=(j:Int):=⟨k.toNat,by omega⟩;have h:j < ps.length:=by omega
  have j0:(0:Int)<=(j:Int):=by omega
  have j1:(j:Int) < ps.length:=by omega
  have HV:Hid (aboveB (bks ps) q (j:Int)=decide (ps[j].1.2.2.2.1 > q.2.1)):=(by unfold aboveB;rw [if_pos (by rw [d.out];exact hin)];simp [bks,h]:aboveB (bks ps) q (j:Int)=_);obtain ⟨g,f,rfl,hg,hc⟩:=HR (by omega);have HQ:=hid HT.out.1
  have c:w.cell? ⟨g,f+j * 7+4,Aa⟩=Ab (I U ps[j].1.2.2.2.1):=by
   obtain ⟨a',c',e',i⟩:=HQ.out;injection e' with e1 _ e3
   subst e1 e3;obtain ⟨g',o',e4,_,l⟩:=i (by omega);injection e4 with e4
   injection e4 with e5 e6
   subst e5 e6;exact l j h 4 (by omega)
  have y7:∀ x:Bw W1,x.to.cell? ⟨g,f+j * 7+4,Aa⟩=Ab (I U ps[j].1.2.2.2.1):=fun x=>by rw [(bt HW.2 x.below).cell (by exact hg)];exact c
  clear c hc hg hin;go_enter func69,ntmps69;go_wp2;rw [<- b];clear b;refine rb ?_;repeat (go_big_quiet_step (first | (refine zI (placeOk_is e0 _))))
  refine qnn fun x=>?_
  go_wp2;go_ret;exact ⟨zL (by rw [HV.out]),bt HW.2 x.below⟩
 ·have e0:=zAB hin;have HV:Hid (aboveB (bks ps) q k=false):=(by unfold aboveB;rw [if_neg (by rw [d.out];exact hin)]:aboveB (bks ps) q k=_);clear hin;go_enter func69,ntmps69;go_wp2;rw [<- b];clear b;refine rb ?_;repeat (go_big_quiet_step (first | (refine zI (placeOk_is e0 _))))
  refine qnn fun x=>?_
  go_wp2;go_ret;exact ⟨zL HV.symm,bt HW.2 x.below⟩
theorem oneProp_i (ps:TL) (v:Value) (q:QC) (k:Int) (hl:(ps.length:Int)<=1048576) (g cap:Nat) (w:World) (hT:jB w v ps) (hg:g < w.heap.size)
  (h0:w.cell? ⟨g,0,Aa⟩=Ab (.func (.func 68) #[] #[])) (h1:w.cell? ⟨g,1,Aa⟩=Ab (.func (.func 69) #[] #[])) :
  Calls prog 67 #[.agg (propA v q k),.slice (Ab ⟨g,0,Aa⟩) 2 cap] w fun e w'=>e=.returned (.bool (yBI (bks ps) k q.2.2.1 || aboveB (bks ps) q k))/\Be w w':=by
 have HT:=hid hT;have H0:=hid h0;have H1:=hid h1;obtain ⟨W,hW⟩:=nw (w.alloc (.cells (propA v q k) 105));have HW:Hid (Be w W/\Bx W w.heap.size (propA v q k) 105):=hid (by rw [hW];exact ⟨ba (br _ _) _,heap_alloc_new w _⟩);clear h0 h1 hT;go_enter func67,ntmps67;go_wp2;rw [<- hW];clear hW
 go_loopw [9] (fun i wr=>∃ m:Nat,m<=2/\i=I U (m:Int)/\Hid (0 < m->yBI (bks ps) k q.2.2.1=false)/\Hid (1 < m->aboveB (bks ps) q k=false)/\Hid (Be w wr/\Bx wr w.heap.size (propA v q k) 105)) (fun i _=>2 - (intOf i).toNat)
 case atStart=>exact ⟨0,by omega,rfl,fun h=>absurd h (by omega),fun h=>absurd h (by omega),HW⟩
 case round=>
  obtain ⟨m,hm,rfl,HA,HB,HC⟩:=hrel;have d:m=0∨m=1∨m=2:=by omega
  rcases d with rfl | rfl | rfl
  ·have cc:wr.cell? ⟨g,0,Aa⟩=Ab (.func (.func 68) #[] #[]):=by rw [HC.out.1.cell (by exact hg)];exact H0.out
   go_wp2_with (refine w_ld w.heap.size HC.2 underlying105 ?_)
   refine (standsOn_i ps v q k wr (HT.below HC.1) hl).mono ?_;rintro e w1 ⟨rfl,hb⟩;have a:=hid (qad2 (bt HC.1 hb) (bk hb HC.2));clear hb cc
   by_cases hv:yBI (bks ps) k q.2.2.1=true
   ·have HV:=hid hv;rw [hv];clear hv;go_wp2;go_ret;exact ⟨by rw [HV.out];rfl,a.1⟩
   ·have HV:Hid (yBI (bks ps) k q.2.2.1=false):=Bool.eq_false_iff.2 hv;rw [HV.out];clear hv;go_wp2
    go_roundw
    case rel=>exact ⟨1,by omega,by go_num,fun _=>HV,fun h=>absurd h (by omega),a⟩
    case measure=>simp [intOf]
  ·have cc:wr.cell? ⟨g,1,Aa⟩=Ab (.func (.func 69) #[] #[]):=by rw [HC.out.1.cell (by exact hg)];exact H1.out
   go_wp2_with (refine w_ld w.heap.size HC.2 underlying105 ?_)
   refine (justAbove_i ps v q k wr (HT.below HC.1) hl).mono ?_;rintro e w1 ⟨rfl,hb⟩;have a:=hid (qad2 (bt HC.1 hb) (bk hb HC.2));clear hb cc;have b:Hid (yBI (bks ps) k q.2.2.1=false):=HA (by omega)
   by_cases hv:aboveB (bks ps) q k=true
   ·have HV:=hid hv;rw [hv];clear hv;go_wp2;go_ret;exact ⟨by rw [b.out,HV.out];rfl,a.1⟩
   ·have HV:Hid (aboveB (bks ps) q k=false):=Bool.eq_false_iff.2 hv;rw [HV.out];clear hv;go_wp2
    go_roundw
    case rel=>exact ⟨2,by omega,by go_num,fun _=>b,fun _=>HV,a⟩
    case measure=>simp [intOf]
  ·have b:Hid (yBI (bks ps) k q.2.2.1=false):=HA (by omega);have c:Hid (aboveB (bks ps) q k=false):=HB (by omega);go_wp2;go_ret;exact ⟨by rw [b.out,c.out];rfl,HC.1⟩
theorem safeBlockQ_i (ps:TL) (v:Value) (q:QC) (k:Int) (w:World) (hT:jB w v ps) (hl:(ps.length:Int)<=1048576) :
  Calls prog 28 #[v,zBF q,I U k] w fun e w'=>e=.returned (.bool (yDA (bks ps) q k))/\Be w w':=by
 have HT:=hid hT;obtain ⟨q0,q1,q2,q3⟩:=q;unfold zBF;simp only;obtain ⟨a,cap,rfl,-⟩:=hT.1;obtain ⟨W,hW⟩:=nw (w.alloc (.cells #[I U q0,I U q1,I U q2,I U q3] 26));have HW:Hid (Be w W/\Bx W w.heap.size #[I U q0,I U q1,I U q2,I U q3] 26):=hid (by rw [hW];exact ⟨ba (br _ _) _,heap_alloc_new w _⟩);clear hT;go_enter func28,ntmps28
 go_wp2_with (first
  | (refine w_st W.heap.size (propA (.slice a ps.length cap) (q0,q1,q2,q3) k) (heap_alloc_new W _) (by simp [propA,Value.oneCell']) ?_;intro y1 hg hk hz;have b:=hid (qad2 (bt HW.1 (made_below' hg)) hk);clear hg hk hz)
  | (rw [<- hW];clear hW;refine w_ld w.heap.size HW.2 underlying26 ?_)
  | (refine w_ld W.heap.size b.2 underlying105 ?_))
 have HZ:Hid (Be w (y1.alloc (Ac #[Value.func (Fn.func 68) #[] #[],Value.func (Fn.func 69) #[] #[]] 107))):=ba b.1 _;refine (oneProp_i ps _ (q0,q1,q2,q3) k hl y1.heap.size 2 _ (HT.below HZ) (by simp) (zB (heap_alloc_new y1 _) 0 _ rfl) (zB (heap_alloc_new y1 _) 1 _ rfl)).mono ?_;rintro e w2 ⟨rfl,hb⟩;have HB:Hid (Be w w2):=bt HZ hb;clear hb HZ;go_wp2;go_ret;exact ⟨zL (safe_or (q:=(q0,q1,q2,q3))).symm,HB⟩
def lays316_ren:Go.Shelf.Ren:=⟨fun | 316=>172 | n=>n,fun | 9=>9 | 3=>3 | 4=>4 | 37=>22 | 0=>0 | 127=>250 | 5=>5 | n=>n,fun | n=>n⟩
theorem lays316:Go.Proofs.LaysM.n316 prog lays316_ren:={
 mixed:=by kernel_rfl
 f316:=func172.trans (congrArg some (by kernel_rfl))
 t0:=underlying0
 a0:=Tryz.isAgg0
 z0:=Tryz.sizeOf0
 v0:=Tryz.zeroValue0
 t3:=underlying3
 a3:=Tryz.isAgg3
 z3:=Tryz.sizeOf3
 v3:=Tryz.zeroValue3
 t4:=underlying4
 a4:=Tryz.isAgg4
 z4:=Tryz.sizeOf4
 v4:=Tryz.zeroValue4
 t9:=underlying9
 a9:=Tryz.isAgg9
 z9:=Tryz.sizeOf9
 v9:=Tryz.zeroValue9
 t37:=underlying22
 a37:=Tryz.isAgg22
 z37:=Tryz.sizeOf22
 v37:=Tryz.zeroValue22
 t127:=underlying250
 a127:=Tryz.isAgg250
 z127:=Tryz.sizeOf250
 v127:=Tryz.zeroValue250
 t5:=underlying5
 a5:=Tryz.isAgg5
 z5:=Tryz.sizeOf5
 v5:=Tryz.zeroValue5
 i0:=by kernel_rfl
 i3:=by kernel_rfl
 i4:=by kernel_rfl
 i5:=by kernel_rfl
 i9:=by kernel_rfl
 i37:=by kernel_rfl
 i127:=by kernel_rfl }
theorem slclone (s:ByteArray) (w:World) (hlim:s.size<=281474976710656) :
  Calls prog 172 #[.string s] w fun e w'=>e=.returned (.string s)/\Be w w':=Any.stringslite_Clone lays316 s w hlim
theorem clone (s:ByteArray) (w:World) (hlim:s.size<=281474976710656) :
  Calls prog 125 #[.string s] w fun e w'=>e=.returned (.string s)/\Be w w':=by
 go_enter func125,ntmps125;go_wp2_with (go_at_call 172;refine (slclone _ _ hlim).mono ?_;rintro e w' ⟨rfl,hb⟩)
 go_ret;exact ⟨rfl,hb⟩
theorem newsC (W:World) (k:ByteArray) (n:Int) (t:TypeId):∀ j u,([.string k,I U n]:List Value)[j]?=some u->(W.alloc (.cells #[.string k,I U n] t)).cell? ((⟨W.heap.size,0,Aa⟩:Addr).add j)=some u:=by
 intro j u hj
 match j,hj with
 | 0,hj=>simp at hj;subst hj;simp [Addr.add]
 | 1,hj=>simp at hj;subst hj;simp [Addr.add]
theorem onesC (k:ByteArray) (n:Int):∀ u∈([.string k,I U n]:List Value),u.oneCell'=true:=by
 intro u hu;simp at hu;rcases hu with h | h <;> subst h <;> rfl
theorem take_snoc' {cs:CL} {k:Nat} (h:k < cs.length):cs.take (k+1)=cs.take k ++ [cs[k]]:=by
 rw [List.take_add_one,List.getElem?_eq_getElem h];rfl
theorem copy_i (cs:CL) (v:Value) (w:World) (hv:qQ w v cs) (hl:(cs.length:Int)<=1048576) (hall:∀ c∈cs,(c.1.size:Int)<=1048576) :
  Calls prog 84 #[v] w fun e w'=>∃ v',e=.returned v'/\w'.ownsRow w.heap.size 92 2 v' cs.length (kM cs)/\Be w w':=by
 have HZ:=hid hall;obtain ⟨a,cap,rfl,hr⟩:=hv;have HR:=hid hr;obtain ⟨i0,hi,ad,y,ae⟩:=info_parts infoC;clear hall hr;go_enter func84,ntmps84;go_wp2_with (at_make;refine wpList_make_own _ rfl _ _ 30 rfl w.heap.size 92 i0 _ 2 underlying30 hi ad y _ _ _ cs.length rfl rfl rfl (by rw [ae];omega) (by unfold maxLen;omega) (nl _) ?_;intro w0 m d)
 have B0:Be w w0:=(br _ _).grown d (nl _) (fun k h=>by cases h);have an:Hid (w0.ownsRow w.heap.size 92 2 (.slice (Ab ⟨w.heap.size,0,Aa⟩) 0 cs.length) 0 []):=m;have ak:Hid (Be w w0):=B0;clear m d B0
 go_loopw [3,11] (fun o i wr=>∃ k:Nat,k<=cs.length/\i=I U (k:Int)/\wr.ownsRow w.heap.size 92 2 o k (kM (cs.take k))/\Be w wr) (fun _ i _=>cs.length - (intOf i).toNat)
 case atStart=>exact ⟨0,Nat.zero_le _,rfl,an,ak⟩
 case round=>
  obtain ⟨k,hk,rfl,r,l⟩:=hrel;have HO:Hid (wr.ownsRow w.heap.size 92 2 u3 k (kM (cs.take k))):=r;have HB:Hid (Be w wr):=l;have aq:=l.size;clear r l
  by_cases hlt:(k:Int) < cs.length
  ·have p:k < cs.length:=by omega
   obtain ⟨g,z,rfl,hg,hc⟩:=HR (by omega);have q0:(0:Int)<=(k:Int):=by omega
   have c0:wr.cell? ⟨g,z+k * 2,Aa⟩=Ab (.string cs[k].1):=by rw [HB.out.cell (by exact hg)];exact (hc k p).1
   have c1:wr.cell? ⟨g,z+k * 2+1,Aa⟩=Ab (I U cs[k].2):=by rw [HB.out.cell (by exact hg)];exact (hc k p).2
   have s:cs[k].1.size<=281474976710656:=by have:=HZ cs[k] (List.getElem_mem p);omega
   obtain ⟨ws,f⟩:=nw (wr.alloc (Ac #[Ae cs[k].1,I U cs[k].2] 92));have aa:ws.heap.size=wr.heap.size+1:=by rw [f];simp
   have HS:Hid (∀ w',Be ws w'->w'.cell? ⟨wr.heap.size,0,Aa⟩=Ab (.string cs[k].1)/\w'.cell? ⟨wr.heap.size,1,Aa⟩=Ab (I U cs[k].2)):=fun w' hb=>by
    constructor <;> rw [hb.cell (by simp [aa]),f] <;> simp
   have ap:Hid (ws=wr.alloc (Ac #[Ae cs[k].1,I U cs[k].2] 92)):=f;have BS:Hid (Be wr ws):=by rw [f];exact ba (br _ _) _
   have ai:Hid (ws.ownsRow w.heap.size 92 2 u3 k (kM (cs.take k))):=zS HO BS.out;clear hc;go_wp2;rw [<- f];clear f
   go_region_held3 (fun w'=>w'.cell? ⟨wr.heap.size,0,Aa⟩=Ab (.string cs[k].1)/\w'.cell? ⟨wr.heap.size,1,Aa⟩=Ab (I U cs[k].2)) (first | exact HS _ (br _ _).drew | exact HS _ j | exact HS _ (ba j _) | exact af) (first | (refine step_append_lies _ (by rfl) (.tmp 15) (.tmp 22) 30 (by rfl) w.heap.size 92 i0 _ 2 24 underlying30 hi ad y ae rfl (by decide) _ _ _ (by rfl) (World.ownsRow.alloc t _) ⟨World.heap _ |>.size,0,Aa⟩ 1 1 [.string cs[k].1,I U cs[k].2] (by rfl) rfl (newsC _ _ _ _) (onesC _ _) (by decide) (by unfold maxLen;omega) (by omega) (by simp;omega) _ rfl ?_;intro g2 ab w3 n b ag ah;clear ag ah;have al:Be w w3:=(ba (bt (bt HB BS.out) j) _).grown b (by simp;omega) (fun x hx=>(t.lt x hx).1);have af:w3.cell? ⟨wr.heap.size,0,Aa⟩=Ab (.string cs[k].1)/\w3.cell? ⟨wr.heap.size,1,Aa⟩=Ab (I U cs[k].2):=(by have h2:=HS _ (ba j (Ac #[Ae cs[k].1,I U cs[k].2] 92));rw [<- h2.1,<- h2.2];exact ⟨yAD b (by simp;omega) (fun e=>by have:=(HO.lt _ e).2;omega),yAD b (by simp;omega) (fun e=>by have:=(HO.lt _ e).2;omega)⟩)) | (go_at_call 125;refine (clone _ _ s).mono ?_;rintro e w2 ⟨rfl,am⟩;have j:Be ws w2:=(br _ _).drew.trans am;have t:Hid (w2.ownsRow w.heap.size 92 2 u3 k (kM (cs.take k))):=zS ai j;have ao:=j.size))
   all_goals
    have aj:Hid (w3.ownsRow w.heap.size 92 2 (.slice (Ab ⟨g2,0,Aa⟩) (k+1) ab) (k+1) (kM (cs.take k) ++ [.string cs[k].1,I U cs[k].2])):=n;clear n b af;go_wp2
    go_roundw
    case rel=>exact ⟨k+1,by omega,by go_num,by rw [take_snoc' p,flat_append];exact aj.out,al⟩
    case measure=>simp [intOf];omega
  ·have ac:k=cs.length:=by omega
   have HK:Hid (k=cs.length):=ac;clear ac;go_wp2;go_ret;have:=HO.out;rw [HK.out,List.take_length] at this;exact ⟨_,rfl,this,HB⟩
end Go.Proofs.YtfnneillakdopacGreatR
