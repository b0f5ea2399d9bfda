/-
  Texts of ours that later ones lean on, in one: DrawSaf, DrawL, ChnN, ChnL, Clone, CopyI, BackwI, MapN, MapI, TakeI, ToldI, CellsI, UndoAllI.
-/
import Derived.Test.YtfnneillakdopadGreatK1
import Derived.Test.YtfnneillakdopadGreatAnyPZ
import Derived.Test.YtfnneillakdopadGreatQcDZ
import Derived.Test.YtfnneillakdopadGreatK2
import Derived.Test.YtfnneillakdopadGreatK5
import Derived.Test.YtfnneillakdopadGreatK6
import Derived.Shelf.LaysM
import Derived.Shelf.Strconv.Clone
import Derived.Test.YtfnneillakdopadGreatRows
import Derived.WalkKit
import Derived.Test.YtfnneillakdopadGreatK3
import Derived.Deep.RegionHeld3
import Derived.Deep.AppendLies
import Derived.RangeFuncNested
import Derived.RangeFuncBound
import Derived.RangeFuncCalls
import Derived.RangeFuncLeaves
import Derived.Shelf.Abstract
import Derived.Shelf.RegionOpen
import Derived.OwnWalkIn
import Derived.TacticsInMore
import Derived.LoopNIn
import Derived.LoopIn
import Derived.Maps.OwnSet
import Derived.Sort.KeysCollected
import Derived.Test.YtfnneillakdopadGreatIter
import Derived.Maps.OwnIn
import Derived.Sort.MapsRangeIn
set_option maxRecDepth 100000
set_option maxHeartbeats 32000000
namespace Go.Proofs.YtfnneillakdopadGreat
open _root_.Go.Proofs.Tryz
open Go.Value renaming int->I,string->Aj,ownBlock->Ak
open Go.IntKind renaming i64->U
open Option renaming none->Aa,some->Ab
open Nat renaming zero_le->Ac
open Option.some renaming inj->Ad
open List renaming getElem_mem->Ae,getElem?_eq_getElem->Ah,length_take->Al,take_length->An,length_cons->Ao
open Go.World.ownsRow renaming kept->Af,alloc->Ag
open Go.Obj renaming cells->Ai
open Bool renaming and_eq_true->Am
open Go.RowKit Num
variable {cs:CL} {D:DataW Unit} {t:List BK} {b cap k len n off:Nat} {ao:Option Addr} {p:PE} {w:World}
theorem results_tct3 {P:Program} {fn:Func} {p q r:Tmp} {ty:TypeId} (h:fn.results=#[.tmp q,.cell p ty,.tmp r]) (tmps:Array Value) (w:World) (g:Nat) (t:TypeId) (cs:Array Value) (fr:Nat × Nat) (d:TypeDesc) (u v:Value)
  (hq:tmps.getD q undef=u) (hp:tmps.getD p undef=.pointer (Ab ⟨g,0,Aa⟩)) (hg:w.heap[g]?=Ab (.cells cs t fr)) (hu:P.underlying ty=some d) (hd:(match d with | .struct _ | .array _ _=>true | _=>false)=true) (hi:(P.info? ty).map (·.size)=some cs.size)
  (hr:tmps.getD r undef=v) :
  (results fn tmps).run P w=.ok (.tuple #[u,.agg cs,v]) w:=by
 have a:tmps[p]?.getD undef=.pointer (Ab ⟨g,0,Aa⟩):=by simpa using hp
 have b:tmps[q]?.getD undef=u:=by simpa using hq
 have c:tmps[r]?.getD undef=v:=by simpa using hr
 simp [results,h,a,b,c,asAddr,run_loadVar_row w g t ty cs fr d hg hu hd hi]
structure SaB (w y:World) (B M lo:Nat) (ao:Option Addr) (len cap b off:Nat) (p:PE) (t:PV):Prop where
 st:St y B ao len cap b off
 below:Be w y
 zero:Bx y w.heap.size zF 35
 box:Bx y M (zA p t) 35
 own:zO lo y.heap.size y p t
 lt:w.heap.size < B/\B < lo/\lo<=M/\(0 < len->b < w.heap.size)
theorem SaB.draw {y x:World} {B M lo:Nat} {t:PV} (h:SaB w y B M lo ao len cap b off p t) (hs:St x B ao len cap b off) (hg:y.grownBy x (some B)):SaB w x B M lo ao len cap b off p t:=by
 have:=h.lt;exact ⟨hs,h.below.grown hg h.below.size (qkk (by omega)),gk hg h.zero (qsn (by omega)),gk hg h.box (qsn (by omega)),(h.own.far hg (Or.inl (by omega))).wide hg.size (nl _),h.lt⟩
theorem pair10_any (hc:Code w ao len b off) :
  Calls prog 44 #[.slice ao len cap] w fun e w'=>∃ ps v p t k,e=.returned (.tuple #[v,yZ p t,I U k])/\smT (bks ps)/\smW p/\xH w' w.heap.size v ps/\zO w.heap.size w'.heap.size w' p t/\Be w w':=by
 have s:Hid (0 < len->b < w.heap.size):=hc.lt;obtain ⟨W,hW⟩:=nw (w.alloc (.cells zF 35))
 have HW:Hid (Code W ao len b off/\Bx W w.heap.size zF 35/\Be w W):=(by
  have hb:Be w W:=by rw [hW];exact yA _ _
  exact ⟨hc.below hb,by rw [hW];exact heap_alloc_new _ _,hb⟩:_/\_)
 clear hc;unfold zF at hW;go_enter func44,ntmps44;go_wp2_with (rw [<- hW];clear hW)
 refine (new_any HW.1).mono ?_;rintro e w1 ⟨B,rfl,hN,hS,hb⟩;have H1:Hid (St w1 B ao len cap b off/\Bx w1 w.heap.size zF 35/\Be w w1/\w.heap.size < B):=⟨hS,bk hb HW.2.1,bt HW.2.2 hb,Nat.lt_of_lt_of_le (gl HW.2.1) hN⟩;clear hN hS hb HW;go_wp2_with fail
 refine (xO 12 (by omega) (by omega) H1.1).mono ?_;rintro e w2 ⟨k,rfl,k0,k1,hS,hg⟩;have H2:=hid (qad4 hS (gk hg H1.2.1 (qsn (by have:=H1.2.2.2;omega))) (H1.2.2.1.grown hg H1.2.2.1.size (qkk (by have:=H1.2.2.2;omega))) H1.out.2.2.2);clear hS hg H1;go_wp2_with fail
 refine (any9_st H2.1).mono ?_;rintro e w3 ⟨ps,v,p,t,rfl,l,i,hT,hD,hS,hg⟩;have HP:=hid i;have HT:=hid l;have H3:=hid (qad6 hS (gk hg H2.2.1 (qsn (by have:=H2.2.2.2;omega))) (H2.2.2.1.grown hg H2.2.2.1.size (qkk (by have:=H2.2.2.2;omega))) hD H2.out.2.2.2 H2.out.1.cur.lt);have m:Hid (xH w3 w2.heap.size v ps):=hT;have j:Hid (w2.heap.size<=w3.heap.size):=hg.size;obtain ⟨gt,ct,y⟩:∃ gt ct,v=.slice gt ps.length ct:=(by obtain ⟨a,c,e,-⟩:=hT.read.q.1;exact ⟨a,c,e⟩:∃ gt ct,v=.slice gt ps.length ct);subst y;clear l i hT hD hS hg H2;have hl:(ps.length:Int)<=60:=by have:=HT.many;rw [yO] at this;omega
 go_wp2_with (first
  | (refine w_st w3.heap.size (zA p t) (heap_alloc_new w3 _) (zJ H3.2.2.2.1.1) ?_;intro w4 hg hk hz;have d:Be w3 w4:=yB hg;have H4:Hid (SaB w w4 B w3.heap.size w2.heap.size ao len cap b off p t):=⟨H3.1.below d,bt H3.2.2.1 d,bk d H3.2.1,hk,(H3.2.2.2.1.below d).wide d.size (nl _),H3.2.2.2.2.1,H3.2.2.2.2.2,j,s⟩;have g:Hid (xH w4 w2.heap.size (.slice gt ps.length ct) ps):=m.below d;clear hg hk hz d))
 obtain ⟨M,hM⟩:=nw w3.heap.size;obtain ⟨lo,h⟩:=nw w2.heap.size;rw [<- hM,<- h] at H4;rw [<- h] at g;rw [<- hM];clear hM h H3 j m;refine (once_st 2 (by decide) (by decide) H4.st).mono ?_;rintro e w5 ⟨o,rfl,hS,hg⟩;have H5:=hid (H4.draw hS hg);have f:Hid (xH w5 lo (.slice gt ps.length ct) ps):=g.st hg H4.lt.2.1;clear hS hg H4 g
 cases o with
 | true=>
  go_upto_region 6 with fail
  have n:w.heap.size < lo:=by have:=H5.lt;omega
  have r:M ≠ w.heap.size:=by have:=H5.lt;omega
  refine xA (fun x=>Bx x M (zA p t) 35) (by kernel_rfl) ?_;show wpAnyH prog _ _ _ _ (5+1) (Array.replicate 6 false) _ _;have hS:Bx w5.drew M (zA p t) 35:=H5.box;refine yJ 0 24 (.slice gt ps.length ct) hS ?_;refine yJ 1 25 (.agg (zA p t)) hS ?_ (hy:=fun x hx=>ldb M hx underlying35);refine yJ 2 26 (I U ((ps.length:Int) - 1)) hS ?_;refine yJ 3 2 (.slice gt ps.length ct) hS ?_;refine h_st 4 w.heap.size (zA p t) H5.zero (zJ H5.own.1) ?_;intro z hg hk;have hd:=bw w5;have HZ:Hid (Bx z w.heap.size (zA p t) 35/\Be w z/\xH z w.heap.size (.slice gt ps.length ct) ps/\zO w.heap.size z.heap.size z p t/\Bx z M (zA p t) 35):=⟨hk,(bt H5.below hd).grown hg H5.below.size (qkk (by omega)),((f.below hd).boxed H5.zero hg).base (by omega),(((H5.own.below hd).boxed H5.zero hg).wide hg.size (nl _)).low (by omega),gk hg H5.box (qsn (by omega))⟩;clear hg hk hd hS H5 f;refine ⟨HZ.2.2.2.2,?_⟩;have hS:=HZ.2.2.2.2;refine yJ 5 4 (I U ((ps.length:Int) - 1)) hS ?_;refine h_dn ?_;clear hS;go_wp2;refine bodyPost_ret (v:=.tuple #[.slice gt ps.length ct,.agg (zA p t),I U ((ps.length:Int) - 1)]) (results_tct3 results44 _ _ w.heap.size 35 _ (0,0) _ _ _ rfl rfl HZ.1 underlying35 rfl (by kernel_rfl) rfl) rfl ?_;exact ⟨ps,_,p,t,_,rfl,HT,HP,HZ.2.2.1,HZ.2.2.2.1,HZ.2.1⟩
 | false=>
  go_upto_region 6 with fail
  have n:w.heap.size < lo:=by have:=H5.lt;omega
  have r:M ≠ w.heap.size:=by have:=H5.lt;omega
  refine xA (fun x=>Bx x M (zA p t) 35) (by kernel_rfl) ?_;show wpAnyH prog _ _ _ _ (5+1) (Array.replicate 6 false) _ _;have hS:Bx w5.drew M (zA p t) 35:=H5.box;refine yJ 0 24 (.slice gt ps.length ct) hS ?_;refine yJ 1 25 (.agg (zA p t)) hS ?_ (hy:=fun x hx=>ldb M hx underlying35);refine yJ 2 26 (I U (k - 1)) hS ?_;refine yJ 3 2 (.slice gt ps.length ct) hS ?_;refine h_st 4 w.heap.size (zA p t) H5.zero (zJ H5.own.1) ?_;intro z hg hk;have hd:=bw w5;have HZ:Hid (Bx z w.heap.size (zA p t) 35/\Be w z/\xH z w.heap.size (.slice gt ps.length ct) ps/\zO w.heap.size z.heap.size z p t/\Bx z M (zA p t) 35):=⟨hk,(bt H5.below hd).grown hg H5.below.size (qkk (by omega)),((f.below hd).boxed H5.zero hg).base (by omega),(((H5.own.below hd).boxed H5.zero hg).wide hg.size (nl _)).low (by omega),gk hg H5.box (qsn (by omega))⟩;clear hg hk hd hS H5 f;refine ⟨HZ.2.2.2.2,?_⟩;have hS:=HZ.2.2.2.2;refine yJ 5 4 (I U (k - 1)) hS ?_;refine h_dn ?_;clear hS;go_wp2;refine bodyPost_ret (v:=.tuple #[.slice gt ps.length ct,.agg (zA p t),I U (k - 1)]) (results_tct3 results44 _ _ w.heap.size 35 _ (0,0) _ _ _ rfl rfl HZ.1 underlying35 rfl (by kernel_rfl) rfl) rfl ?_;exact ⟨ps,_,p,t,_,rfl,HT,HP,HZ.2.2.1,HZ.2.2.2.1,HZ.2.1⟩
theorem drawLearn_any (hc:Code w ao len b off) :
  Calls prog 15 #[.slice ao len cap] w fun e w'=>∃ ps v p t k,e=.returned (.tuple #[v,yZ p t,I U k])/\smT (bks ps)/\smW p/\xH w' w.heap.size v ps/\zO w.heap.size w'.heap.size w' p t/\Be w w':=by
 obtain ⟨W,hW⟩:=nw (w.alloc (.cells zF 35))
 have HW:Hid (Code W ao len b off/\Bx W w.heap.size zF 35/\Be w W):=(by
  have hb:Be w W:=by rw [hW];exact yA _ _
  exact ⟨hc.below hb,by rw [hW];exact heap_alloc_new _ _,hb⟩:_/\_)
 clear hc;unfold zF at hW;go_enter func15,ntmps15;go_wp2_with (rw [<- hW];clear hW)
 refine (pair10_any HW.1).mono ?_;rintro e w1 ⟨ps,v,p,t,k,rfl,f,d,hT,hD,hb⟩;have HT:=hid f;have HP:=hid d;have lW:w.heap.size < W.heap.size:=(gl HW.2.1);have H1:=hid (qad4 ((hb.block _ lW).trans HW.2.1) (bt HW.2.2 hb) hT hD);obtain ⟨gt,ct,g⟩:∃ gt ct,v=.slice gt ps.length ct:=(by obtain ⟨a,c,e,-⟩:=hT.read.q.1;exact ⟨a,c,e⟩:∃ gt ct,v=.slice gt ps.length ct);subst g;clear f d hT hD hb HW;go_wp2_with (refine w_st w.heap.size (zA p t) H1.1 (zJ H1.2.2.2.1) ?_;intro z hg hk hz;have HZ:Hid (Bx z w.heap.size (zA p t) 35/\Be w z/\xH z w.heap.size (.slice gt ps.length ct) ps/\zO w.heap.size z.heap.size z p t):=⟨hk,H1.2.1.grown hg H1.2.1.size (qkk (by omega)),(H1.2.2.1.boxed H1.1 hg).base (by omega),((H1.2.2.2.boxed H1.1 hg).wide hg.size (nl _)).low (by omega)⟩;clear hg hk hz H1)
 refine bodyPost_ret (v:=.tuple #[.slice gt ps.length ct,.agg (zA p t),I U k]) (results_tct3 results15 _ _ w.heap.size 35 _ (0,0) _ _ _ rfl rfl HZ.1 underlying35 rfl (by kernel_rfl) rfl) rfl ?_;exact ⟨ps,_,p,t,k,rfl,HT,HP,HZ.2.2.1,HZ.2.2.2,HZ.2.1⟩
def jusT (t:List BK) (k:Int):Int:=if inB k 0 ((t.length:Int) - 1)=true then (if inB (zHC t k) 0 ((t.length:Int) - 1)=true then zHC t k else -1) else -1
def oneT (t:List BK) (k u:Int):Bool:=inB k 0 ((t.length:Int) - 1) && (inB u 0 ((t.length:Int) - 1) && decide (yR t k=yR t u+1))
def twoT (t:List BK) (k:Int):Option Int:=if jusT t k=0∨jusT t (jusT t k)=0∨oneT t (jusT t k) (jusT t (jusT t k))=false then none else some (jusT t (jusT t k))
def thrT (t:List BK) (k:Int):Option Int:=match twoT t k with
 | some c=>if oneT t c (jusT t c)=false then none else some (jusT t c)
 | none=>none
def learnG (t:List BK) (p:PE) (k:Int):PE:=match thrT t k with
 | some d=>kO t p d
 | none=>p
def learnF (t:List BK) (p:PE) (k:Int):PE:=match twoT t k with
 | some c=>yDF t p c
 | none=>p
def chainI (t:List BK) (p:PE) (k:Int):PE:=if jusT t k=-1 then p else learnF t (learnG t (yDI t p k (jusT t k)) k) k
theorem jusT_in {k b:Int} (hb:b=jusT t k) (h:b ≠ -1):(0<=k/\k < (t.length:Int))/\(0<=b/\b < (t.length:Int))/\b=zHC t k:=by
 unfold jusT at hb
 split at hb
 ·rename_i h1
  split at hb
  ·rename_i h2
   have e1:=zDF h1;have e2:=zDF h2;rw [<- hb] at e2;exact ⟨⟨e1.1,by omega⟩,⟨e2.1,by omega⟩,hb⟩
  ·exact absurd hb h
 ·exact absurd hb h
theorem learnG_small {k:Int} (hs:yC p) (hk:okT t) (hl:jZ p+wtB t<=1048576):yC (learnG t p k):=by
 unfold learnG
 split
 ·exact through_small hs hk hl
 ·exact hs
theorem on_par (ht:smT t) {i:Nat} (h:i < t.length) (h0:0 < i):0<=zDI t i/\zDI t i < (i:Int):=by
 have:=ht.on i h h0;unfold zDI;simp only [Ah h,Option.getD_some];exact ⟨this.1,this.2.1⟩
theorem downN_some {t:List BK} (ht:smT t):∀ (n k:Nat),k<=n->k < t.length->∃ l,zAD t n k=some l/\(0 < k->1<=l.length)
 | n,0,_,_=>by cases n <;> exact ⟨[],rfl,fun h=>absurd h (by decide)⟩
 | 0,k+1,h,_=>by omega
 | n+1,k+1,h,hk=>by
  have hp:=on_par ht hk (by omega);obtain ⟨l,hl,_⟩:=downN_some ht n (zDI t (k+1)).toNat (by omega) (by omega);refine ⟨(k+1) :: l,?_,fun _=>by simp⟩;unfold zAD;rw [if_pos ⟨hk,hp.1,by omega⟩,hl]
  rfl
theorem height_on (ht:smT t) (h0:0 < k) (hk:k < t.length):¬ xZ t (k:Int) < 1:=by
 obtain ⟨l,hl,h1⟩:=downN_some ht t.length k (by omega) hk;unfold xZ qH;rw [if_pos ⟨by omega,by omega⟩,show ((k:Int)).toNat=k by omega,hl];have:=h1 h0;simp only;omega
theorem height_zero (t:List BK):xZ t 0 < 1:=by
 unfold xZ qH
 split
 ·rename_i l hl
  split at hl
  ·have:zAD t t.length 0=some []:=by cases t.length <;> rfl
   rw [show ((0:Int)).toNat=0 by rfl,this] at hl;injection hl with hl
   subst hl
   decide
  ·cases hl
 ·decide
theorem just_on (ht:smT t) (hk:k < t.length):0<=zHC t (k:Int)/\zHC t (k:Int)<=(k:Int)/\(0 < k->zHC t (k:Int) < (k:Int)):=by
 have e:zHC t (k:Int)=(t[k]).2.2.2.2.1:=by unfold zHC zIF;rw [show ((k:Int)).toNat=k by omega,Ah hk];rfl
 rw [e]
 by_cases h0:0 < k
 ·have:=ht.on k hk h0;rw [this.2.2];exact ⟨this.1,by omega,fun _=>this.2.1⟩
 ·obtain rfl:k=0:=by omega
  have h1:=ht.fst;rw [Ah hk] at h1;injection h1 with h1
  rw [h1];exact ⟨by decide,by decide,fun h=>absurd h (by decide)⟩
theorem jusT_on (ht:smT t) (hk:k < t.length):jusT t (k:Int)=zHC t (k:Int):=by
 have hj:=just_on ht hk;unfold jusT;rw [kY ⟨by omega,by omega⟩,kY ⟨hj.1,by omega⟩]
 rfl
theorem high_same {a:QC} (h:0<=a.2.1) (ht:smT t):yF a (zIF t 0)=a:=by
 have h1:=ht.fst;have e:zIF t 0=(0,0,0,0):=by unfold zIF;rw [show ((0:Int)).toNat=0 by rfl,h1];rfl
 rw [e];unfold yF;exact if_neg (by simp only;omega)
theorem one_is (ht:smT t) {c:Nat} (hb:b < t.length) (hc:c < t.length):oneT t (b:Int) (c:Int)=decide (yR t (b:Int)=wrap64 (yR t (c:Int)+1)):=by
 have h1:=ht.view (b:Int);have h2:=ht.view (c:Int);unfold oneT;rw [kY ⟨by omega,by omega⟩,kY ⟨by omega,by omega⟩];have:wrap64 (yR t (c:Int)+1)=yR t (c:Int)+1:=by unfold wrap64;omega
 rw [this]
 rfl
theorem chain_is (ht:smT t) (hh:0<=p.high.2.1) (hl:0<=p.lock.2.1) (k:Int):chainI t p k=jN t p k:=by
 by_cases hk:0<=k/\k < (t.length:Int)
 ·obtain ⟨n,rfl⟩:∃ n:Nat,k=(n:Int):=⟨k.toNat,by omega⟩;have hn:n < t.length:=by omega
  have hj:=just_on ht hn;obtain ⟨b,hb⟩:∃ b:Nat,zHC t (n:Int)=(b:Int):=⟨(zHC t (n:Int)).toNat,by omega⟩;have f:b < t.length:=by omega
  have j:=just_on ht f;obtain ⟨c,hc⟩:∃ c:Nat,zHC t (b:Int)=(c:Int):=⟨(zHC t (b:Int)).toNat,by omega⟩;have a:c < t.length:=by omega
  have i:=just_on ht a;obtain ⟨d,hd⟩:∃ d:Nat,zHC t (c:Int)=(d:Int):=⟨(zHC t (c:Int)).toNat,by omega⟩;have g:d < t.length:=by omega
  have e1:jusT t (n:Int)=(b:Int):=(jusT_on ht hn).trans hb;have e2:jusT t (b:Int)=(c:Int):=(jusT_on ht f).trans hc;have e3:jusT t (c:Int)=(d:Int):=(jusT_on ht a).trans hd;have eT:twoT t (n:Int)=if (b:Int)=0∨(c:Int)=0∨oneT t (b:Int) (c:Int)=false then none else some (c:Int):=by unfold twoT;rw [e1,e2]
  unfold chainI;rw [e1,if_neg (by omega)]
  by_cases h0:0 < n
  ·have h3:zGG t (n:Int)=Ab ((b:Int),(c:Int),(d:Int)):=by
    unfold zGG;rw [if_neg (height_on ht h0 hn),hb,hc,hd,kY ⟨by omega,by have:=hj.2.2 h0;omega⟩,kY ⟨by omega,by omega⟩,kY ⟨by omega,by omega⟩]
    rfl
   have hE:jN t p (n:Int)=yDH t (zGC t (yDI t p (n:Int) (b:Int)) (n:Int)) (b:Int) (c:Int):=by unfold jN;rw [h3]
   rw [hE];have o1:=one_is ht f a;have o2:=one_is ht a g
   have hN:zFB t (b:Int) (c:Int)=true↔¬ ((b:Int)=0∨(c:Int)=0∨oneT t (b:Int) (c:Int)=false):=by
    unfold zFB;rw [o1];simp only [Am,decide_eq_true_eq,decide_eq_false_iff_not,not_or,ne_eq,Decidable.not_not]
   have hF:∀ q,learnF t q (n:Int)=yDH t q (b:Int) (c:Int):=fun q=>by
    unfold learnF yDH;rw [eT]
    by_cases hx:(b:Int)=0∨(c:Int)=0∨oneT t (b:Int) (c:Int)=false
    ·rw [if_pos hx,if_neg (fun h=>(hN.1 h) hx)]
    ·rw [if_neg hx,if_pos (hN.2 hx)]
   have hR:zCH t (n:Int)=thrT t (n:Int):=by
    unfold zCH thrT;rw [h3,eT];simp only
    by_cases hx:(b:Int)=0∨(c:Int)=0∨oneT t (b:Int) (c:Int)=false
    ·rw [if_pos hx,if_neg (fun h=>(hN.1 h.1) hx)]
    ·rw [if_neg hx];simp only;rw [e3]
     by_cases hy:oneT t (c:Int) (d:Int)=false
     ·rw [if_pos hy,if_neg (fun h=>by rw [o2] at hy;exact absurd h.2 (of_decide_eq_false hy))]
     ·rw [if_neg hy,if_pos ⟨hN.2 hx,by rw [o2] at hy;simpa using hy⟩]
   have hG:∀ q,learnG t q (n:Int)=zGC t q (n:Int):=fun q=>by
    unfold learnG zGC;rw [hR]
    cases thrT t (n:Int) <;> rfl
   rw [hF,hG]
  ·obtain rfl:n=0:=by omega
   have b0:b=0:=by omega
   subst b0;have h3:zGG t ((0:Nat):Int)=none:=by unfold zGG;exact if_pos (height_zero t)
   have hE:jN t p ((0:Nat):Int)=p:=by unfold jN;rw [h3]
   have hT:twoT t ((0:Nat):Int)=none:=by rw [eT];exact if_pos (Or.inl rfl)
   have hG:thrT t ((0:Nat):Int)=none:=by unfold thrT;rw [hT]
   have hQ:yDI t p ((0:Nat):Int) ((0:Nat):Int)=p:=by
    unfold yDI;rw [show ((0:Nat):Int)=0 from rfl,high_same hh ht,high_same hl ht]
   rw [hE];unfold learnF learnG;rw [hT,hG];exact hQ
 ·have e:jusT t k=-1:=by
   unfold jusT;rw [zAB (by omega)]
   rfl
  have h3:zGG t k=none:=by
   unfold zGG
   by_cases hx:xZ t k < 1
   ·exact if_pos hx
   ·exact absurd (height_in hx) hk
  unfold chainI jN;rw [e,h3,if_pos rfl]
open Go.Shelf
def lays316_ren:Go.Shelf.Ren:=⟨fun | 316=>153 | n=>n,fun | 9=>9 | 3=>3 | 4=>4 | 37=>22 | 0=>0 | 127=>236 | 5=>5 | n=>n,fun | n=>n⟩
theorem lays316:Go.Proofs.LaysM.n316 prog lays316_ren:={
 mixed:=by kernel_rfl
 f316:=func153.trans (congrArg some (by kernel_rfl))
 t0:=underlying0
 a0:=Tryz.isAgg0
 z0:=Tryz.sizeOf0
 v0:=Tryz.zeroValue0
 t3:=underlying3
 a3:=Tryz.isAgg3
 z3:=Tryz.sizeOf3
 v3:=Tryz.zeroValue3
 t4:=underlying4
 a4:=Tryz.isAgg4
 z4:=Tryz.sizeOf4
 v4:=Tryz.zeroValue4
 t9:=underlying9
 a9:=Tryz.isAgg9
 z9:=Tryz.sizeOf9
 v9:=Tryz.zeroValue9
 t37:=underlying22
 a37:=Tryz.isAgg22
 z37:=Tryz.sizeOf22
 v37:=Tryz.zeroValue22
 t127:=underlying236
 a127:=Tryz.isAgg236
 z127:=Tryz.sizeOf236
 v127:=Tryz.zeroValue236
 t5:=underlying5
 a5:=Tryz.isAgg5
 z5:=Tryz.sizeOf5
 v5:=Tryz.zeroValue5
 i0:=by kernel_rfl
 i3:=by kernel_rfl
 i4:=by kernel_rfl
 i5:=by kernel_rfl
 i9:=by kernel_rfl
 i37:=by kernel_rfl
 i127:=by kernel_rfl }
theorem slclone (s:ByteArray) (w:World) (hlim:s.size<=281474976710656) :
  Calls prog 153 #[.string s] w fun e w'=>e=.returned (.string s)/\Be w w':=Any.stringslite_Clone lays316 s w hlim
theorem clone (s:ByteArray) (w:World) (hlim:s.size<=281474976710656) :
  Calls prog 107 #[.string s] w fun e w'=>e=.returned (.string s)/\Be w w':=by
 go_enter func107,ntmps107;go_wp2_with (go_at_call 153;refine (slclone _ _ hlim).mono ?_;rintro e w' ⟨rfl,hb⟩)
 go_ret;exact ⟨rfl,hb⟩
theorem newsC (W:World) (k:ByteArray) (n:Int) (t:TypeId):∀ j u,([.string k,I U n]:List Value)[j]?=some u->(W.alloc (.cells #[.string k,I U n] t)).cell? ((⟨W.heap.size,0,Aa⟩:Addr).add j)=some u:=by
 intro j u hj
 match j,hj with
 | 0,hj=>simp at hj;subst hj;simp [Addr.add]
 | 1,hj=>simp at hj;subst hj;simp [Addr.add]
theorem onesC (k:ByteArray) (n:Int):∀ u∈([.string k,I U n]:List Value),u.oneCell'=true:=by
 intro u hu;simp at hu;rcases hu with h | h <;> subst h <;> rfl
theorem take_snoc' (h:k < cs.length):cs.take (k+1)=cs.take k ++ [cs[k]]:=by
 rw [List.take_add_one,Ah h];rfl
theorem copy_i (cs:CL) (v:Value) (w:World) (hv:qQ w v cs) (hl:(cs.length:Int)<=1048576) (hall:∀ c∈cs,(c.1.size:Int)<=1048576) :
  Calls prog 69 #[v] w fun e w'=>∃ v',e=.returned v'/\w'.ownsRow w.heap.size 108 2 v' cs.length (kM cs)/\Be w w':=by
 have HZ:=hid hall;obtain ⟨a,cap,rfl,hr⟩:=hv;have HR:=hid hr;obtain ⟨i0,hi,ac,s,y⟩:=info_parts infoC;clear hall hr;go_enter func69,ntmps69;go_wp2_with (at_make;refine wpList_make_own _ rfl _ _ 30 rfl w.heap.size 108 i0 _ 2 underlying30 hi ac s _ _ _ cs.length rfl rfl rfl (by rw [y];omega) (by unfold maxLen;omega) (nl _) ?_;intro w0 m d)
 have B0:Be w w0:=(br _ _).grown d (nl _) (fun k h=>by cases h);have aj:Hid (w0.ownsRow w.heap.size 108 2 (.slice (Ab ⟨w.heap.size,0,Aa⟩) 0 cs.length) 0 []):=m;have ag:Hid (Be w w0):=B0;clear m d B0
 go_loopw [3,11] (fun o i wr=>∃ k:Nat,k<=cs.length/\i=I U (k:Int)/\wr.ownsRow w.heap.size 108 2 o k (kM (cs.take k))/\Be w wr) (fun _ i _=>cs.length - (intOf i).toNat)
 case atStart=>exact ⟨0,Ac _,rfl,aj,ag⟩
 case round=>
  obtain ⟨k,hk,rfl,r,n⟩:=hrel;have HO:Hid (wr.ownsRow w.heap.size 108 2 u3 k (kM (cs.take k))):=r;have HB:Hid (Be w wr):=n;have aq:=n.size;clear r n
  by_cases hlt:(k:Int) < cs.length
  ·have p:k < cs.length:=by omega
   obtain ⟨g,aa,rfl,hg,hc⟩:=HR (by omega);have q0:(0:Int)<=(k:Int):=by omega
   have c0:wr.cell? ⟨g,aa+k * 2,Aa⟩=Ab (.string cs[k].1):=by rw [HB.out.cell (by exact hg)];exact (hc k p).1
   have c1:wr.cell? ⟨g,aa+k * 2+1,Aa⟩=Ab (I U cs[k].2):=by rw [HB.out.cell (by exact hg)];exact (hc k p).2
   have z:cs[k].1.size<=281474976710656:=by have:=HZ cs[k] (Ae p);omega
   obtain ⟨ws,f⟩:=nw (wr.alloc (Ai #[Aj cs[k].1,I U cs[k].2] 108));have ae:ws.heap.size=wr.heap.size+1:=by rw [f];simp
   have HS:Hid (∀ w',Be ws w'->w'.cell? ⟨wr.heap.size,0,Aa⟩=Ab (.string cs[k].1)/\w'.cell? ⟨wr.heap.size,1,Aa⟩=Ab (I U cs[k].2)):=fun w' hb=>by
    constructor <;> rw [hb.cell (by simp [ae]),f] <;> simp
   have ap:Hid (ws=wr.alloc (Ai #[Aj cs[k].1,I U cs[k].2] 108)):=f;have BS:Hid (Be wr ws):=by rw [f];exact ba (br _ _) _
   have ak:Hid (ws.ownsRow w.heap.size 108 2 u3 k (kM (cs.take k))):=zS HO BS.out;clear hc;go_wp2;rw [<- f];clear f
   go_region_held3 (fun w'=>w'.cell? ⟨wr.heap.size,0,Aa⟩=Ab (.string cs[k].1)/\w'.cell? ⟨wr.heap.size,1,Aa⟩=Ab (I U cs[k].2)) (first | exact HS _ (br _ _).drew | exact HS _ j | exact HS _ (ba j _) | exact ad) (first | (refine step_append_lies _ (by rfl) (.tmp 15) (.tmp 22) 30 (by rfl) w.heap.size 108 i0 _ 2 24 underlying30 hi ac s y rfl (by decide) _ _ _ (by rfl) (Ag t _) ⟨World.heap _ |>.size,0,Aa⟩ 1 1 [.string cs[k].1,I U cs[k].2] (by rfl) rfl (newsC _ _ _ _) (onesC _ _) (by decide) (by unfold maxLen;omega) (by omega) (by simp;omega) _ rfl ?_;intro g2 af w3 l b al ai;clear al ai;have ah:Be w w3:=(ba (bt (bt HB BS.out) j) _).grown b (by simp;omega) (fun x hx=>(t.lt x hx).1);have ad:w3.cell? ⟨wr.heap.size,0,Aa⟩=Ab (.string cs[k].1)/\w3.cell? ⟨wr.heap.size,1,Aa⟩=Ab (I U cs[k].2):=(by have h2:=HS _ (ba j (Ai #[Aj cs[k].1,I U cs[k].2] 108));rw [<- h2.1,<- h2.2];exact ⟨yAD b (by simp;omega) (fun e=>by have:=(HO.lt _ e).2;omega),yAD b (by simp;omega) (fun e=>by have:=(HO.lt _ e).2;omega)⟩)) | (go_at_call 107;refine (clone _ _ z).mono ?_;rintro e w2 ⟨rfl,an⟩;have j:Be ws w2:=(br _ _).drew.trans an;have t:Hid (w2.ownsRow w.heap.size 108 2 u3 k (kM (cs.take k))):=zS ak j;have ao:=j.size))
   all_goals
    have am:Hid (w3.ownsRow w.heap.size 108 2 (.slice (Ab ⟨g2,0,Aa⟩) (k+1) af) (k+1) (kM (cs.take k) ++ [.string cs[k].1,I U cs[k].2])):=l;clear l b ad;go_wp2
    go_roundw
    case rel=>exact ⟨k+1,by omega,by go_num,by rw [take_snoc' p,flat_append];exact am.out,ah⟩
    case measure=>simp [intOf];omega
  ·have ab:k=cs.length:=by omega
   have HK:Hid (k=cs.length):=ab;clear ab;go_wp2;go_ret;have:=HO.out;rw [HK.out,An] at this;exact ⟨_,rfl,this,HB⟩
attribute [local go_sem] Oper.semAt_some
abbrev US:={ u:UN // (u.1.size:Int)<=1048576 }
abbrev BI:=Nat × US
def us0:US:=⟨(ByteArray.empty,false,0),by decide⟩
def encB (x:BI):Array Value:=#[I U (x.1:Int),undoV x.2.1]
def backAt (us:List US) (k:Nat):BI:=(us.length - 1 - k,us[us.length - 1 - k]?.getD us0)
def backTo (us:List US) (k:Nat):List BI:=(List.range k).map (backAt us)
theorem backTo_succ (us:List US) (k:Nat):backTo us (k+1)=backTo us k ++ [backAt us k]:=by simp [backTo,List.range_succ]
theorem backTo_len (us:List US) (k:Nat):(backTo us k).length=k:=by simp [backTo]
def KpB (n₀ Bs:Nat) (A B:World):Prop:=Below n₀ A B/\B.heap[Bs]?=A.heap[Bs]?
theorem kpB_refl (n₀ Bs:Nat) (A:World):KpB n₀ Bs A A:=⟨br _ _,rfl⟩
theorem kpB_t {n₀ Bs:Nat} {A B C:World} (h:KpB n₀ Bs A B) (k:KpB n₀ Bs B C):KpB n₀ Bs A C:=⟨h.1.trans k.1,k.2.trans h.2⟩
theorem kpB_b {n₀ Bs:Nat} (hn:n₀<=w.heap.size) (hB:Bs < w.heap.size) (W:World) (l:Nat) (o o':Obj) (hl:w.heap.size<=l) (h:W.heap[l]?=some o) (h1:o.isCells=false) (h2:o.isWalk=false):KpB n₀ Bs W (W.putObj l o'):=
 ⟨belowK_b hn W l o o' hl h h1 h2,World.putObj_heap_other (by omega)⟩
theorem back1_in (F:Fence) (n:Nat) (hf:F.fn 199) (hro:F.round=none) (hn:1<=n) (l Bs n₀ b off cap:Nat) (us:List US) (hlen:(us.length:Int)<=1048576) (hb:b < n₀) (J Jx:List BI->World->Prop)
  (hY:∀ pre x W,J pre W->pre.length < us.length->YieldAt F (n - 1) prog l (encB x) W fun e W'=>
   (e=.returned (.bool true)/\J (pre ++ [x]) W'/\KpB n₀ Bs W W')∨(e=.returned (.bool false)/\Jx (pre ++ [x]) W'))
  (W:World) (hBs:W.cell? ⟨Bs,0,Aa⟩=Ab (.slice (Ab ⟨b,off,Aa⟩) us.length cap)) (hc:∀ j (h:j < us.length) i,i < 3->W.cell? ⟨b,off+j * 3+i,Aa⟩=(kK us[j].1)[i]?) (h0:J [] W) :
  CallsIn F n prog 199 #[.func (.yield l) #[] #[],.pointer (Ab ⟨Bs,0,Aa⟩)] W fun e W'=>(∃ v,e=.returned v)/\
   ((∃ ys,ys=backTo us us.length/\J ys W')∨(∃ pre,(∃ k,k<=us.length/\pre=backTo us k)/\Jx pre W')):=by
 refine callsIn_of_wp func199 rfl hf ?_ hro;simp only [ntmps199,List.size_toArray,Ao,List.length_nil,Nat.reduceAdd,Nat.reduceSub,Array.replicate_succ,Array.replicate_zero,List.push_toArray,List.append_toArray,List.nil_append,List.cons_append];have HC:Hid (∀ j (h:j < us.length) i,i < 3->W.cell? ⟨b,off+j * 3+i,Aa⟩=(kK us[j].1)[i]?):=hc;have HB:Hid (W.cell? ⟨Bs,0,Aa⟩=Ab (.slice (Ab ⟨b,off,Aa⟩) us.length cap)):=hBs;clear hc
 gi_wp2
 clear hBs
 gi_loopw [3] (fun i wr=>∃ k:Nat,k<=us.length/\i=I U ((k:Int) - 1)/\J (backTo us (us.length - k)) wr/\KpB n₀ Bs W wr)
  (fun i _=>(intOf i+1).toNat)
 case atStart=>exact ⟨us.length,nl _,rfl,by rw [Nat.sub_self];exact h0,kpB_refl _ _ _⟩
 case round=>
  obtain ⟨k,hk,rfl,d,a⟩:=hrel
  cases k with
  | zero=>
   rw [show (((0:Nat):Int) - 1)=-1 from rfl]
   gi_wp2
   go_end0
   exact ⟨⟨_,rfl⟩,.inl ⟨_,rfl,d⟩⟩
  | succ j=>
   have hj:j < us.length:=by omega
   have t:wr.cell? ⟨Bs,0,Aa⟩=Ab (.slice (Ab ⟨b,off,Aa⟩) us.length cap):=by rw [World.cell?_of_block (w:=W) a.2];exact HB.out
   have c0:wr.cell? ⟨b,off+j * 3,Aa⟩=Ab (.string us[j].1.1):=by rw [a.1.cell (by exact hb)];exact HC.out j hj 0 (by omega)
   have c1:wr.cell? ⟨b,off+j * 3+1,Aa⟩=Ab (.bool us[j].1.2.1):=by rw [a.1.cell (by exact hb)];exact HC.out j hj 1 (by omega)
   have c2:wr.cell? ⟨b,off+j * 3+2,Aa⟩=Ab (I U us[j].1.2.2):=by rw [a.1.cell (by exact hb)];exact HC.out j hj 2 (by omega)
   have f:backAt us (us.length - (j+1))=(j,us[j]):=by
    unfold backAt;rw [show us.length - 1 - (us.length - (j+1))=j by omega,Ah hj];rfl
   obtain ⟨fn,r,m,s,hy,hR⟩:=hY _ (j,us[j]) wr d (by rw [backTo_len];omega);unfold encB undoV at hy
   dsimp only at hy
   rw [show (((j+1:Nat):Int) - 1)=(j:Int) by omega];have q0:(0:Int)<=(j:Int):=by omega
   have q1:(j:Int) < us.length:=by omega
   have HN:=hid a;have g:Hid (backAt us (us.length - (j+1))=(j,us[j])):=f;clear a f
   gi_wp2
   refine hR.mono ?_;rintro e W3 (⟨rfl,p,o⟩ | ⟨rfl,c⟩)
   ·gi_wp2
    go_roundw
    case rel=>exact ⟨j,by omega,rfl,by rw [show us.length - j=us.length - (j+1)+1 by omega,backTo_succ,g.out];exact p,kpB_t HN o⟩
    case measure=>simp [intOf]
   ·gi_wp2
    refine bodyPost_ret (results_none rfl _ _ _) rfl ?_;exact ⟨⟨_,rfl⟩,.inr ⟨_,⟨us.length - (j+1)+1,by omega,by rw [backTo_succ,g.out]⟩,c⟩⟩
theorem back1_nil_in (F:Fence) (n:Nat) (hf:F.fn 199) (hro:F.round=none) (l Bs:Nat) (a:Option Addr) (cap:Nat) (J:List BI->World->Prop) (W:World) (hBs:W.cell? ⟨Bs,0,Aa⟩=Ab (.slice a 0 cap)) (h0:J [] W) :
  CallsIn F n prog 199 #[.func (.yield l) #[] #[],.pointer (Ab ⟨Bs,0,Aa⟩)] W fun e W'=>(∃ v,e=.returned v)/\J [] W':=by
 refine callsIn_of_wp func199 rfl hf ?_ hro;simp only [ntmps199,List.size_toArray,Ao,List.length_nil,Nat.reduceAdd,Nat.reduceSub,Array.replicate_succ,Array.replicate_zero,List.push_toArray,List.append_toArray,List.nil_append,List.cons_append]
 gi_wp2
 gi_loopw [3] (fun i wr=>i=I U (-1)/\J [] wr) (fun _ _=>0)
 case atStart=>exact ⟨rfl,h0⟩
 case round=>
  obtain ⟨rfl,b⟩:=hrel
  gi_wp2
  go_end0
  exact ⟨⟨_,rfl⟩,b⟩
theorem backward_in (F:Fence) (n:Nat) (hf:F.fn 165) (hro:F.round=none) (a:Option Addr) (len cap:Nat) (w:World) :
  CallsIn F n prog 165 #[.slice a len cap] w fun e w'=>e=.returned (.func (.func 199) #[] #[.pointer (Ab ⟨w.heap.size,0,Aa⟩)])/\w'=w.alloc (.cells #[.slice a len cap] 31):=by
 refine callsIn_of_wp func165 rfl hf ?_ hro;simp only [ntmps165,List.size_toArray,Ao,List.length_nil,Nat.reduceAdd,Nat.reduceSub,Array.replicate_succ,Array.replicate_zero,List.push_toArray,List.append_toArray,List.nil_append,List.cons_append]
 gi_wp2
 go_ret;exact ⟨rfl,rfl⟩
theorem backward_stops (F:Fence) (n:Nat) (hf:F.fn 199) (hro:F.round=none) (hn:1<=n) (Bs n₀:Nat) (a:Option Addr) (cap:Nat) (us:List US) (hlen:(us.length:Int)<=1048576) (w:World) (hBs:Bs < w.heap.size) (hn₀:n₀<=w.heap.size)
  (hc:w.cell? ⟨Bs,0,Aa⟩=Ab (.slice a us.length cap)) (hI:0 < us.length->∃ g off,a=Ab ⟨g,off,Aa⟩/\g < n₀/\∀ j (h:j < us.length) i,i < 3->w.cell? ⟨g,off+j * 3+i,Aa⟩=(kK us[j].1)[i]?) :
  SeqStopsK F n prog 199 #[.pointer (Ab ⟨Bs,0,Aa⟩)] encB (KpB n₀ Bs) (fun ys=>ys=backTo us us.length) (fun pre=>∃ k,k<=us.length/\pre=backTo us k) us.length w:=fun l J Jx W hW _ _ hY h0=>by
 have b:=(hW.cell (p:=⟨Bs,0,Aa⟩) hBs).trans hc
 by_cases h:0 < us.length
 ·obtain ⟨g,off,rfl,hg,c⟩:=hI h;exact back1_in F n hf hro hn l Bs n₀ g off cap us hlen hg J Jx hY W b (fun j hj i hi=>((hW.mono hn₀).cell (p:=⟨g,off+j * 3+i,Aa⟩) hg).trans (c j hj i hi)) h0
 ·have e:us.length=0:=by omega
  rw [e] at b;exact (back1_nil_in F n hf hro l Bs a cap J W b h0).mono fun e' W' ⟨he,hj⟩=>⟨he,.inl ⟨_,rfl,by rw [e];exact hj⟩⟩
open Go.Maps
theorem keyedS:Keyed prog 9:=string_keyed underlying9
def lk (k:ByteArray):Lit:=.string k.data.toList
theorem lk_inj {a b:ByteArray} (h:lk a=lk b):a=b:=by
 apply ByteArray.ext;apply Array.ext';unfold lk at h;injection h
theorem lk_key (k:ByteArray):WideAt.IsKeyLit (lk k):=trivial
def i64D (n:Int):DataW Unit:=.lit (.int U n)
def Rep (D:DataW Unit) (cs:CL):Prop:=Maps.size D=cs.length/\(∀ k,Maps.has D (lk k)=zBB cs k)/\∀ c∈cs,D.atKey (lk c.1) (i64D 0)=i64D c.2
theorem rep_nil:Rep (.map []) []:=⟨rfl,fun _=>rfl,fun c h=>by cases h⟩
theorem rep_put (hD:Tidy D) (h:Rep D cs) (hA:Asc cs) (x:ByteArray × Int):Rep (D.put (lk x.1) (i64D x.2)) (putC cs x):=by
 obtain ⟨hs,hh,ha⟩:=h;refine ⟨?_,fun k=>?_,fun c hc=>?_⟩
 ·rw [size_put hD,hh,hs];have:=len_putC (x:=x) hA
  cases hb:zBB cs x.1 with
  | true=>rw [hb] at this;simp at this ⊢;omega
  | false=>rw [hb] at this;simp at this ⊢;omega
 ·rw [hasK_putC]
  by_cases e:x.1=k
  ·subst e;rw [has_put_same hD.isMap (lk_key _)];simp
  ·rw [has_put_other (fun e'=>e (lk_inj e').symm),hh];simp [e]
 ·rcases mem_putC.1 hc with rfl | ⟨hc,hn⟩
  ·exact atKey_put_same hD.isMap (lk_key _) _ _
  ·rw [atKey_put_other (fun e'=>hn (lk_inj e'))];exact ha c hc
theorem rep_undo (hD:Tidy D) (h:Rep D cs) {k:ByteArray} (hn:zBB cs k=false) (d:DataW Unit):Rep ((D.put (lk k) d).del (lk k)) cs:=by
 obtain ⟨hs,hh,ha⟩:=h;have hT:=hD.put (k:=lk k) (lk_key _) d;refine ⟨?_,fun j=>?_,fun c hc=>?_⟩
 ·have h1:=size_del (k:=lk k) hT;have h2:=size_put (k:=lk k) hD d;rw [has_put_same hD.isMap (lk_key _)] at h1;rw [hh,hn] at h2;simp at h1 h2;omega
 ·by_cases e:j=k
  ·subst e;rw [has_del_same,hn]
  ·rw [has_del_other (fun e'=>e (lk_inj e')),has_put_other (fun e'=>e (lk_inj e')),hh]
 ·have e:c.1 ≠ k:=hasK_no.1 hn c hc;rw [atKey_del_other (fun e'=>e (lk_inj e')),atKey_put_other (fun e'=>e (lk_inj e'))];exact ha c hc
theorem rep_same (h:Rep D cs) {j:Nat} (hj:j < cs.length):D.atKey (lk cs[j].1) (i64D 0)=i64D cs[j].2:=h.2.2 _ (Ae hj)
def MapIs (w:World) (b:Nat) (cs:CL):Prop:=∃ D:DataW Unit,w.ownsMap prog 9 (plainElem prog 3) b cs.length D/\Rep D cs
theorem tight (h:w.ownsMap prog 9 (plainElem prog 3) b n D) (hr:Rep D cs):MapIs w b cs:=by
 refine ⟨D,?_,hr⟩;have hs:=hr.1;obtain ⟨es,a,hb,F,_,rfl⟩:=h;refine ⟨es,a,hb,F,?_,rfl⟩;rw [size_eq,length_sorted] at hs;simp at hs;omega
theorem MapIs.kept {w':World} {r:Option Nat} (h:MapIs w b cs) (hg:w.grownBy w' r) (hne:some b ≠ r):MapIs w' b cs:=by
 obtain ⟨D,hD,hr⟩:=h;exact ⟨D,hD.kept hg hne,hr⟩
theorem MapIs.below {w':World} (h:MapIs w b cs) (hb:Be w w'):MapIs w' b cs:=h.kept (qR hb) (by simp)
theorem MapIs.lt (h:MapIs w b cs):b < w.heap.size:=by obtain ⟨D,hD,_⟩:=h;exact hD.lt
theorem row_not_map {base m:Nat} {e:TypeId} {v:Value} {xs:List Value} (h:w.ownsRow base e m v n xs) (hm:MapIs w b cs):some b ≠ v.ownBlock:=by
 intro he;obtain ⟨D,⟨es,a,hb,_⟩,_⟩:=hm;obtain ⟨_,⟨rfl,_⟩ | ⟨g,cap,c,rfl,_,hh,_⟩⟩:=h
 ·simp [Ak] at he
 ·have:b=g:=by simpa [Ak] using he
  subst this;rw [hb] at hh;cases hh
theorem rep_del (hD:Tidy D) (h:Rep D cs) (hA:Asc cs) (k:ByteArray):Rep (D.del (lk k)) (cs.filter fun c=>decide (c.1 ≠ k)):=by
 obtain ⟨hs,hh,ha⟩:=h
 have a:∀ j,zBB (cs.filter fun c=>decide (c.1 ≠ k)) j=(decide (j ≠ k) && zBB cs j):=fun j=>by
  rw [Bool.eq_iff_iff,yEI,Am,yEI]
  constructor
  ·rintro ⟨c,hc,rfl⟩;have:=List.mem_filter.1 hc;exact ⟨this.2,c,this.1,rfl⟩
  ·rintro ⟨hj,c,hc,rfl⟩;exact ⟨c,List.mem_filter.2 ⟨hc,hj⟩,rfl⟩
 refine ⟨?_,fun j=>?_,fun c hc=>?_⟩
 ·have h1:=size_del (k:=lk k) hD;rw [hh,hs] at h1;have h2:=len_drop (k:=k) hA
  split at h1
  ·rename_i hy;rw [hy] at h2;simp only [if_true] at h2;omega
  ·rename_i hy;rw [if_neg hy] at h2;omega
 ·rw [a]
  by_cases e:j=k
  ·subst e;rw [has_del_same];simp
  ·rw [has_del_other (fun e'=>e (lk_inj e')),hh];simp [e]
 ·have:=List.mem_filter.1 hc;have e:c.1 ≠ k:=by simpa using this.2
  rw [atKey_del_other (fun e'=>e (lk_inj e'))];exact ha c this.1
theorem map_made (w:World):MapIs (w.alloc (.map #[] 0)) w.heap.size []:=⟨.map [],World.ownsMap_made w _ _ _,rep_nil⟩
theorem putC_last {xs:CL} {x:ByteArray × Int} (h:∀ c∈xs,kLt c.1 x.1=true):putC xs x=xs ++ [x]:=by
 unfold putC;rw [List.filter_eq_self.2 h,List.filter_eq_nil_iff.2 fun c hc=>by rw [kLt_asym (h c hc)];simp]
theorem putC_take (hA:Asc cs) (hk:k < cs.length):putC (cs.take k) cs[k]=cs.take (k+1):=by
 rw [putC_last,List.take_add_one,Ah hk]
 ·rfl
 intro c hc;obtain ⟨i,hi,rfl⟩:=List.mem_iff_getElem.1 hc;rw [Al] at hi;rw [List.getElem_take];exact List.pairwise_iff_getElem.1 hA i k (by omega) hk (by omega)
theorem asc_take (hA:Asc cs) (k:Nat):Asc (cs.take k):=List.Pairwise.sublist (List.take_sublist _ _) hA
theorem keys_sorted (h:w.ownsMap prog 9 (plainElem prog 3) b n D) (hr:Rep D cs) (hA:Asc cs) {ss:List (List UInt8)} (hp:ss.Perm (strKeys D)) :
  ss.mergeSort (fun x y=>decide (x<=y))=cs.map fun c=>c.1.data.toList:=by
 have f:(cs.map fun c=>c.1.data.toList).Nodup:=by
  refine List.pairwise_map.2 (hA.imp fun {a b} d e=>?_);have:=kLt_iff.1 d;rw [e] at this;exact List.lt_irrefl _ this
 have hc:Collected D (fun _=>false) (cs.map fun c=>c.1.data.toList):=by
  refine ⟨f,fun x=>?_⟩;have e:Maps.has D (.string x)=zBB cs ⟨x.toArray⟩:=hr.2.1 ⟨x.toArray⟩;rw [e,yEI]
  constructor
  ·intro hx;obtain ⟨c,hc,rfl⟩:=List.mem_map.1 hx;exact ⟨⟨c,hc,by apply ByteArray.ext;apply Array.ext';simp⟩,rfl⟩
  ·rintro ⟨⟨c,hc,g⟩,_⟩;exact List.mem_map.2 ⟨c,hc,by rw [g]⟩
 have i:=hc.perm h keyedS underlying9 fun _=>rfl
 rw [show (ss.mergeSort fun x y=>decide (x<=y))=ss.mergeSort leB from rfl,mergeSort_of_perm (hp.trans i.symm)];refine List.mergeSort_of_pairwise (List.pairwise_map.2 (hA.imp fun {a b} d=>?_));simp only [leB,decide_eq_true_eq];exact List.le_of_lt (kLt_iff.1 d)
theorem zeroI (w:World):(zeroValue 3).run prog w=.ok (I U 0) w:=by kernel_rfl
theorem mapT:prog.underlying 167=Ab (.map 9 3):=underlying167
theorem makeM (t:TypeId) (n:Int) (w:World) (ht:prog.underlying t=Ab (.map 9 3)):(Instr.makeMap t (Ab (I U n))).run prog w=.ok (.map (some w.heap.size)) (w.alloc (.map #[] 0)):=by
 simp [Instr.makeMap,run_underlying ht,asInt,Result.andThen]
 rfl
theorem keyS {k:ByteArray} (h:(k.size:Int)<=1048576):keyOf prog 9 (.string k)=Ab (lk k):=WideMaps.keyOf_string_mk underlying9 (by unfold maxLen;omega)
theorem elemI {n:Int} (h:0<=n/\n<=1000000000):plainElem (H:=Unit) prog 3 (I U n)=Ab (i64D n,[]):=plainElem_int underlying3 (WalkArith.wf_i64 ⟨by omega,by omega⟩)
theorem accounts_i (cs:CL) (v:Value) (w:World) (hv:qQ w v cs) (hcb:kS cs=true) (hall:∀ c∈cs,(c.1.size:Int)<=1048576) :
  Calls prog 127 #[v] w fun e w'=>e=.returned (.map (some w.heap.size))/\MapIs w' w.heap.size cs/\Be w w':=by
 obtain ⟨o,hA,hl⟩:=zFG.1 hcb;have z:Hid (∀ c∈cs,zIJ c.1=true/\zEH c.2=true):=o;have HA:=hid hA;have HZ:=hid hall;obtain ⟨a,cap,rfl,hr⟩:=hv;have HR:=hid hr;have ab:=makeM 167 (cs.length:Int);clear hr o hA hall hcb;go_enter func127,ntmps127;go_wp2
 go_loopw [11] (fun i wr=>∃ k:Nat,k<=cs.length/\i=I U (k:Int)/\MapIs wr w.heap.size (cs.take k)/\Be w wr) (fun i _=>cs.length - (intOf i).toNat)
 case atStart=>exact ⟨0,Ac _,rfl,map_made w,ba (br _ _) _⟩
 case round=>
  obtain ⟨k,hk,rfl,f,d⟩:=hrel
  by_cases hlt:(k:Int) < cs.length
  ·have h:k < cs.length:=by omega
   obtain ⟨g,p,rfl,hg,hc⟩:=HR (by omega);have q0:(0:Int)<=(k:Int):=by omega
   have c0:wr.cell? ⟨g,p+k * 2,Aa⟩=Ab (.string cs[k].1):=by rw [d.cell (by exact hg)];exact (hc k h).1
   have c1:wr.cell? ⟨g,p+k * 2+1,Aa⟩=Ab (I U cs[k].2):=by rw [d.cell (by exact hg)];exact (hc k h).2
   have y:=HZ cs[k] (Ae h);have x:=numB_bd (z cs[k] (Ae h)).2;have l:keyOf prog 9 (.string cs[k].1)=Ab (lk cs[k].1):=keyS y;have s:plainElem (H:=Unit) prog 3 (I U cs[k].2)=Ab (i64D cs[k].2,[]):=elemI x;have ac:=d.size;have aa:=f.lt;obtain ⟨D,hD,m⟩:=f;have t:(cs.take k).length < maxLen:=by rw [Al];unfold maxLen;omega
   have HD:Hid (wr.ownsMap prog 9 (plainElem prog 3) w.heap.size (cs.take k).length D):=hD;have HP:Hid (Rep (D.put (lk cs[k].1) (i64D cs[k].2)) (cs.take (k+1))):=hid (by have:=rep_put (hD.tidy keyedS) m (asc_take HA k) cs[k];rw [putC_take HA.out h] at this;exact this);have HK:Hid (keyOf prog 9 (.string cs[k].1)=Ab (lk cs[k].1)):=l;have HW:Hid (plainElem (H:=Unit) prog 3 (I U cs[k].2)=Ab (i64D cs[k].2,[])):=s;clear hc hD m l s;go_wp2_with (at_mapUpdate;refine wpList_mapUpdate_own _ rfl _ _ _ 167 rfl 9 3 keyedS mapT _ w.heap.size (cs.take k).length D rfl (HD.alloc _) t _ _ _ rfl rfl HK _ [] HW ?_;intro w1 n j)
   go_roundw
   case rel=>exact ⟨k+1,by omega,by go_num,tight n HP,(ba d _).grown j (by simp;omega) fun b hb=>by cases hb;exact nl _⟩
   case measure=>simp [intOf];omega
  ·have r:k=cs.length:=by omega
   have HK:Hid (k=cs.length):=r;have HM:Hid (MapIs wr w.heap.size (cs.take k)):=f;clear r f;go_wp2;go_ret;have:=HM.out;rw [HK.out,An] at this;exact ⟨rfl,this,d⟩
def putCode (cs:CL) (key:ByteArray) (num:Int):Int:=if zEH num=false∨(zBB cs key=false/\12<=cs.length) then 2 else 0
def putRest (cs:CL) (key:ByteArray) (num:Int):CL:=if putCode cs key num=0 then putC cs (key,num) else cs
theorem put_i (cs:CL) (b:Nat) (key:ByteArray) (num:Int) (w:World) (hm:MapIs w b cs) (hA:Asc cs) (hl:cs.length<=12) (hk:(key.size:Int)<=1048576) :
  Calls prog 170 #[.map (some b),.string key,I U num] w fun e w'=>e=.returned (I U (putCode cs key num))/\MapIs w' b (putRest cs key num)/\w.grownBy w' (some b):=by
 cases j:zEH num with
 | false=>
  have HM:=hid hm;have a:putCode cs key num=2:=by unfold putCode;rw [if_pos (Or.inl j)]
  have d:putRest cs key num=cs:=by unfold putRest;rw [a,if_neg (by decide)]
  rw [a,d];clear hm;go_enter func170,ntmps170;go_wp2_with (go_at_call 168;refine (numOk_i _ _).mono ?_;rintro e w' ⟨rfl,rfl⟩;rw [j])
  go_ret;exact ⟨rfl,HM,⟨rfl,rfl,rfl,nl _,fun _ _ _=>rfl⟩⟩
 | true=>
  obtain ⟨D,hD,i⟩:=hm;have HD:=hid hD;have k:=keyS hk;have p:=elemI (numB_bd j);have HK:Hid (keyOf prog 9 (.string key)=Ab (lk key)):=k;have HW:Hid (plainElem (H:=Unit) prog 3 (I U num)=Ab (i64D num,[])):=p;have HP:Hid (Rep (D.put (lk key) (i64D num)) (putC cs (key,num))):=rep_put (hD.tidy keyedS) i hA (key,num);have n:cs.length < maxLen:=by unfold maxLen;omega
  have m:Maps.size (D.put (lk key) (i64D num))=(putC cs (key,num)).length:=HP.1;have g:=len_putC (x:=(key,num)) hA
  by_cases hc:zBB cs key=false/\12<=cs.length
  ·have a:putCode cs key num=2:=by unfold putCode;rw [if_pos (Or.inr hc)]
   have d:putRest cs key num=cs:=by unfold putRest;rw [a,if_neg (by decide)]
   have HU:Hid (Rep ((D.put (lk key) (i64D num)).del (lk key)) cs):=rep_undo (hD.tidy keyedS) i hc.1 _;have r:(12:Int) < (Maps.size (D.put (lk key) (i64D num)):Int):=by rw [m];rw [hc.1] at g;simp at g;omega
   rw [a,d];clear hD i k p m g;go_enter func170,ntmps170
   go_wp2_with (first
    | (go_at_call 168;refine (numOk_i _ _).mono ?_;rintro e w' ⟨rfl,rfl⟩;rw [j])
    | (at_mapUpdate;refine wpList_mapUpdate_own _ rfl _ _ _ 167 rfl 9 3 keyedS mapT _ b cs.length D rfl HD n _ _ _ rfl rfl HK _ [] HW ?_;intro w1 c f)
    | (at_len;refine wpList_len_own _ rfl _ 167 rfl 9 3 mapT _ b _ _ rfl c ?_)
    | (at_delete;refine wpList_delete_own _ rfl _ _ 167 9 rfl 3 keyedS mapT _ b _ _ rfl c _ _ rfl HK ?_;intro w2 o l))
   go_ret;exact ⟨rfl,tight o HU,zP f l.grown⟩
  ·have a:putCode cs key num=0:=by unfold putCode;rw [if_neg (fun h=>h.elim (fun h=>by rw [j] at h;cases h) hc)]
   have d:putRest cs key num=putC cs (key,num):=by unfold putRest;rw [a,if_pos rfl]
   have r:(Maps.size (D.put (lk key) (i64D num)):Int)<=12:=by
    rw [m]
    cases hh:zBB cs key with
    | true=>rw [hh] at g;simp at g;omega
    | false=>
     rw [hh] at g;simp at g;have:¬ 12<=cs.length:=fun h=>hc ⟨hh,h⟩
     omega
   rw [a,d];clear hD i k p m g;go_enter func170,ntmps170
   go_wp2_with (first
    | (go_at_call 168;refine (numOk_i _ _).mono ?_;rintro e w' ⟨rfl,rfl⟩;rw [j])
    | (at_mapUpdate;refine wpList_mapUpdate_own _ rfl _ _ _ 167 rfl 9 3 keyedS mapT _ b cs.length D rfl HD n _ _ _ rfl rfl HK _ [] HW ?_;intro w1 c f)
    | (at_len;refine wpList_len_own _ rfl _ 167 rfl 9 3 mapT _ b _ _ rfl c ?_))
   go_ret;exact ⟨rfl,tight c HP,f⟩
def takeF (u:UN):Nat:=if zHH u=false then 200 else if u.2.1=true then 201 else 202
def takeL (u:UN) (n:Nat):Array Value:=if zHH u=false then #[] else #[.pointer (Ab ⟨n,0,Aa⟩)]
theorem takes_i (u:UN) (w:World) (hk:(u.1.size:Int)<=1048576) :
  Calls prog 166 #[undoV u] w fun e w'=>e=.returned (.func (.func (takeF u)) #[] (takeL u w.heap.size))/\w'=w.alloc (.cells #[.string u.1,.bool u.2.1,I U u.2.2] 110):=by
 obtain ⟨b,c,num⟩:=u;have g:∀ (fn:Fn) (first cap:Array Value) (w:World),(Instr.makeFunc fn first cap).run prog w=.ok (.func fn first cap) w:=fun _ _ _ _=>rfl
 simp only at hk;unfold undoV
 cases d:zIJ b with
 | false=>
  have a:zHH (b,c,num)=false:=by unfold zHH;simp only;rw [d];rfl
  have HF:Hid (takeF (b,c,num)=200):=if_pos a;have HL:Hid (takeL (b,c,num) w.heap.size=#[]):=if_pos a;clear a;go_enter func166,ntmps166
  go_wp2_with (first
   | (go_at_call 167;refine (key_i _ _ hk).mono ?_;rintro e w' ⟨rfl,rfl⟩;rw [d])
   | (go_at_call 168;refine (numOk_i _ _).mono ?_;rintro e w' ⟨rfl,rfl⟩))
  go_ret;exact ⟨by rw [HF.out,HL.out];rfl,rfl⟩
 | true=>
  cases f:zEH num with
  | false=>
   have a:zHH (b,c,num)=false:=by unfold zHH;simp only;rw [d,f];rfl
   have HF:Hid (takeF (b,c,num)=200):=if_pos a;have HL:Hid (takeL (b,c,num) w.heap.size=#[]):=if_pos a;clear a;go_enter func166,ntmps166
   go_wp2_with (first
    | (go_at_call 167;refine (key_i _ _ hk).mono ?_;rintro e w' ⟨rfl,rfl⟩;rw [d])
    | (go_at_call 168;refine (numOk_i _ _).mono ?_;rintro e w' ⟨rfl,rfl⟩;rw [f]))
   go_ret;exact ⟨by rw [HF.out,HL.out];rfl,rfl⟩
  | true=>
   have a:¬ zHH (b,c,num)=false:=by unfold zHH;simp only;rw [d,f];simp
   have HL:Hid (takeL (b,c,num) w.heap.size=#[.pointer (Ab ⟨w.heap.size,0,Aa⟩)]):=if_neg a
   cases c with
   | true=>
    have HF:Hid (takeF (b,true,num)=201):=(if_neg a).trans (if_pos rfl);clear a;go_enter func166,ntmps166
    go_wp2_with (first
     | (go_at_call 167;refine (key_i _ _ hk).mono ?_;rintro e w' ⟨rfl,rfl⟩;rw [d])
     | (go_at_call 168;refine (numOk_i _ _).mono ?_;rintro e w' ⟨rfl,rfl⟩;rw [f]))
    go_ret;exact ⟨by rw [HF.out,HL.out];rfl,rfl⟩
   | false=>
    have HF:Hid (takeF (b,false,num)=202):=(if_neg a).trans (if_neg (by simp));clear a;go_enter func166,ntmps166
    go_wp2_with (first
     | (go_at_call 167;refine (key_i _ _ hk).mono ?_;rintro e w' ⟨rfl,rfl⟩;rw [d])
     | (go_at_call 168;refine (numOk_i _ _).mono ?_;rintro e w' ⟨rfl,rfl⟩;rw [f]))
    go_ret;exact ⟨by rw [HF.out,HL.out];rfl,rfl⟩
theorem take1_i (mb:Option Nat) (w:World):Calls prog 200 #[.map mb] w fun e w'=>e=.returned (.tuple #[])/\w'=w:=by
 go_enter func200,ntmps200;go_wp2
 go_end0
 exact ⟨rfl,rfl⟩
theorem take2_i (cs:CL) (b n:Nat) (key:ByteArray) (num:Int) (w:World) (hm:MapIs w b cs) (hA:Asc cs) (hl:cs.length<=12) (hk:(key.size:Int)<=1048576) (hnb:zEH num=true) (c0:w.cell? ⟨n,0,Aa⟩=Ab (.string key)) (c2:w.cell? ⟨n,2,Aa⟩=Ab (I U num)) :
  Calls prog 201 #[.map (some b),.pointer (Ab ⟨n,0,Aa⟩)] w fun e w'=>e=.returned (.tuple #[])/\MapIs w' b (putC cs (key,num))/\w.grownBy w' (some b):=by
 obtain ⟨D,hD,c⟩:=hm;have HD:=hid hD;have HK:Hid (keyOf prog 9 (.string key)=Ab (lk key)):=keyS hk;have HW:Hid (plainElem (H:=Unit) prog 3 (I U num)=Ab (i64D num,[])):=elemI (numB_bd hnb);have HP:Hid (Rep (D.put (lk key) (i64D num)) (putC cs (key,num))):=rep_put (hD.tidy keyedS) c hA (key,num);have f:cs.length < maxLen:=by unfold maxLen;omega
 clear hD c hA hnb;go_enter func201,ntmps201;go_wp2_with (at_mapUpdate;refine wpList_mapUpdate_own _ rfl _ _ _ 167 rfl 9 3 keyedS mapT _ b cs.length D rfl HD f _ _ _ rfl rfl HK _ [] HW ?_;intro w1 d a)
 go_end0
 exact ⟨rfl,tight d HP,a⟩
theorem take3_i (cs:CL) (b n:Nat) (key:ByteArray) (w:World) (hm:MapIs w b cs) (hA:Asc cs) (hk:(key.size:Int)<=1048576) (c0:w.cell? ⟨n,0,Aa⟩=Ab (.string key)) :
  Calls prog 202 #[.map (some b),.pointer (Ab ⟨n,0,Aa⟩)] w fun e w'=>e=.returned (.tuple #[])/\MapIs w' b (cs.filter fun c=>decide (c.1 ≠ key))/\w.grownBy w' (some b):=by
 obtain ⟨D,hD,d⟩:=hm;have HD:=hid hD;have HK:Hid (keyOf prog 9 (.string key)=Ab (lk key)):=keyS hk;have hp:=rep_del (hD.tidy keyedS) d hA key;obtain ⟨ds,g⟩:∃ ds,ds=cs.filter fun c=>decide (c.1 ≠ key):=⟨_,rfl⟩
 rw [<- g] at hp ⊢;have HP:=hid hp;clear hD d hA hp g;go_enter func202,ntmps202;go_wp2_with (at_delete;refine wpList_delete_own _ rfl _ _ 167 9 rfl 3 keyedS mapT _ b _ _ rfl HD _ _ rfl HK ?_;intro w2 f a)
 go_end0
 exact ⟨rfl,tight f HP,a.grown⟩
theorem takes1 (u:UN) (w:World) (hk:(u.1.size:Int)<=1048576) (h:zHH u=false) :
  Calls prog 166 #[undoV u] w fun e w'=>e=.returned (.func (.func 200) #[] #[])/\w'=w.alloc (.cells #[.string u.1,.bool u.2.1,I U u.2.2] 110):=by
 have:=takes_i u w hk;rw [show takeF u=200 from if_pos h,show takeL u w.heap.size=#[] from if_pos h] at this;exact this
theorem takes2 (key:ByteArray) (num:Int) (w:World) (hk:(key.size:Int)<=1048576) (h:zHH (key,true,num)=true) :
  Calls prog 166 #[.agg #[.string key,.bool true,I U num]] w fun e w'=>e=.returned (.func (.func 201) #[] #[.pointer (Ab ⟨w.heap.size,0,Aa⟩)])/\w'=w.alloc (.cells #[.string key,.bool true,I U num] 110):=by
 have hn:¬ zHH (key,true,num)=false:=by rw [h];simp
 have:=takes_i (key,true,num) w hk;rw [show takeF (key,true,num)=201 from (if_neg hn).trans (if_pos rfl),show takeL (key,true,num) w.heap.size=#[.pointer (Ab ⟨w.heap.size,0,Aa⟩)] from if_neg hn] at this;exact this
theorem takes3 (key:ByteArray) (num:Int) (w:World) (hk:(key.size:Int)<=1048576) (h:zHH (key,false,num)=true) :
  Calls prog 166 #[.agg #[.string key,.bool false,I U num]] w fun e w'=>e=.returned (.func (.func 202) #[] #[.pointer (Ab ⟨w.heap.size,0,Aa⟩)])/\w'=w.alloc (.cells #[.string key,.bool false,I U num] 110):=by
 have hn:¬ zHH (key,false,num)=false:=by rw [h];simp
 have:=takes_i (key,false,num) w hk;rw [show takeF (key,false,num)=202 from (if_neg hn).trans (if_neg (by simp)),show takeL (key,false,num) w.heap.size=#[.pointer (Ab ⟨w.heap.size,0,Aa⟩)] from if_neg hn] at this;exact this
theorem keys_i (mb:Option Nat) (W:World):Calls prog 172 #[.map mb] W fun e w'=>e=.returned (.func (.func 205) #[] #[.pointer (Ab ⟨W.heap.size,0,Aa⟩)])/\w'=W.alloc (.cells #[.map mb] 167):=
 (callsIn_wide (n:=5)).1 (keys_any mb W)
theorem sorted_row {w1:World} {base:Nat} {v:Value} (h:w.ownsMap prog 9 (plainElem prog 3) b n D) (hr:Rep D cs) (hA:Asc cs) {ss:List (List UInt8)} (hp:ss.Perm (strKeys D))
  (hrow:w1.ownsRow base 9 1 v ss.length ((ss.mergeSort (fun x y=>decide (x<=y))).map encStr)):w1.ownsRow base 9 1 v cs.length (cs.map fun c=>Aj c.1)/\ss.length=cs.length:=by
 have e:=keys_sorted h hr hA hp
 have el:ss.length=cs.length:=by
  have:=congrArg List.length e;rw [List.length_mergeSort,List.length_map] at this;exact this
 rw [e,el,List.map_map] at hrow;refine ⟨?_,el⟩
 have:((fun c:ByteArray × Int=>c.1.data.toList) |> fun f=>cs.map (encStr ∘ f))=cs.map fun c=>Aj c.1:=by
  refine List.map_congr_left fun c _=>?_
  simp [encStr]
 simp only at this;rw [this] at hrow;exact hrow
theorem told_i (cs:CL) (b:Nat) (w:World) (hm:MapIs w b cs) (hA:Asc cs) (hl:cs.length<=13) (hall:∀ c∈cs,(c.1.size:Int)<=1048576) :
  Calls prog 129 #[.map (some b)] w fun e w'=>∃ v,e=.returned v/\w'.ownsRow w.heap.size 108 2 v cs.length (kM cs)/\Be w w':=by
 have HM:=hid hm;have HA:=hid hA;have HZ:=hid hall;obtain ⟨D,hD,l⟩:=hm;have HD:=hid hD;have aj:=hid l;have af:Maps.size D=cs.length:=l.1;obtain ⟨i0,hi,ai,ah,ax⟩:=info_parts infoC;clear hD l hA hall;go_enter func129,ntmps129
 go_wp2_with (first
  | (at_len;refine wpList_len_own _ rfl _ 167 rfl 9 3 mapT _ b _ _ rfl HD ?_)
  | (at_make;refine wpList_make_own _ rfl _ _ 30 rfl w.heap.size 108 i0 _ 2 underlying30 hi ai ah _ _ _ cs.length rfl rfl (by rw [af]) (by rw [ax];omega) (by unfold maxLen;omega) (nl _) ?_;intro w0 p a;have B0:Be w w0:=(br _ _).grown a (nl _) (fun k h=>by cases h);have ag:Hid (w0.ownsMap prog 9 (plainElem prog 3) b cs.length D):=HD.kept a (by simp);have au:Hid (w0.ownsRow w.heap.size 108 2 (.slice (Ab ⟨w.heap.size,0,Aa⟩) 0 cs.length) 0 []):=p;clear p a)
  | (go_at_call 172;refine (keys_i _ _).mono ?_;rintro e w1 ⟨rfl,rfl⟩)
  | (go_at_call 171;refine ((callsIn_wide (n:=5)).1 (sorted_any b _ D _ w0 ag (by rw [af];unfold maxLen;omega) (by rw [af];omega))).mono ?_;rintro e w1 ⟨v1,ss,rfl,hS,ad,aw,aa⟩;clear aw;obtain ⟨f,bd⟩:=sorted_row ag aj HA hS ad;obtain ⟨a1,j,rfl,an⟩:=yL f;have ak:Hid (w1.ownsRow _ 9 1 (.slice a1 cs.length j) cs.length (cs.map fun c=>Aj c.1)):=f;have a6:Hid (0 < cs.length->∃ g,a1=Ab ⟨g,0,Aa⟩):=an;clear ad f hS an))
 have B1:Be w w1:=bt B0 (bt (ba (br _ _) _) aa);have a8:Hid (w1.ownsRow w.heap.size 108 2 (.slice (Ab ⟨w.heap.size,0,Aa⟩) 0 cs.length) 0 []):=zS au (bt (ba (br _ _) _) aa);have a2:Hid (Be w w1):=B1;have be:w0.heap.size<=w1.heap.size:=by have:=aa.size;simp at this;omega
 have a9:Hid (Be w w0):=B0;clear aa B0 ag au
 go_loopw [3,13] (fun o i wr=>∃ k:Nat,k<=cs.length/\i=I U (k:Int)/\wr.ownsRow w.heap.size 108 2 o k (kM (cs.take k))/\Hid (∀ g,a1=Ab ⟨g,0,Aa⟩->o.ownBlock ≠ some g)/\wr.ownsRow _ 9 1 (.slice a1 cs.length j) cs.length (cs.map fun c=>Aj c.1)/\Be w wr) (fun _ i _=>cs.length - (intOf i).toNat)
 case atStart=>exact ⟨0,Ac _,rfl,a8,fun g hg e=>(by subst hg;have h1:=(ak.lt g rfl).1;have h2:w.heap.size=g:=Ad e;simp at h1;have:=a9.size;omega),ak,a2⟩
 case round=>
  obtain ⟨k,hk,rfl,ac,ar,r,s⟩:=hrel;have HO:Hid (wr.ownsRow w.heap.size 108 2 u3 k (kM (cs.take k))):=ac;have HW:Hid (wr.ownsRow _ 9 1 (.slice a1 cs.length j) cs.length (cs.map fun c=>Aj c.1)):=r;have HB:Hid (Be w wr):=s;have bg:=s.size;clear ac r s
  by_cases hlt:(k:Int) < cs.length
  ·have ab:k < cs.length:=by omega
   obtain ⟨g,rfl⟩:=a6 (by omega);have q0:(0:Int)<=(k:Int):=by omega
   have c0:wr.cell? ⟨g,k,Aa⟩=Ab (.string cs[k].1):=by rw [World.ownsRow.cellAt HW.out k (by omega),List.getElem?_map,Ah ab];rfl
   have az:=HZ cs[k] (Ae ab);have al:cs[k].1.size<=281474976710656:=by omega
   have HL:Hid (∀ w',Be w w'->(Instr.lookup 167 (.map (some b)) (.string cs[k].1) false).run prog w'=.ok (I U cs[k].2) w'):=fun w' hb=>by
    have hm:=HM.below hb;obtain ⟨D',bb,a4⟩:=hm;obtain ⟨c,ay,a3,_⟩:=bb.lookup_int keyedS mapT underlying3 (zeroI _) (keyS az);have e:=a3.symm.trans (rep_same a4 ab);unfold i64D at e;injection e with t;injection t with _ t
    rw [<- t];exact ay
   go_wp2
   go_region_held3 (fun w'=>(Instr.lookup 167 (.map (some b)) (.string cs[k].1) false).run prog w'=.ok (I U cs[k].2) w') (first | exact HL _ HB.drew | exact HL _ y | exact HL _ (ba y _) | exact HL _ aq) (first | (refine step_append_lies _ (by rfl) (.tmp 17) (.tmp 24) 30 (by rfl) w.heap.size 108 i0 _ 2 24 underlying30 hi ai ah ax rfl (by decide) _ _ _ (by rfl) (Ag ap _) ⟨World.heap _ |>.size,0,Aa⟩ 1 1 [.string cs[k].1,I U cs[k].2] (by rfl) rfl (newsC _ _ _ _) (onesC _ _) (by decide) (by unfold maxLen;omega) (by omega) (by simp;omega) _ rfl ?_;intro g2 ae w3 m d ao bc;clear bc;have aq:Be w w3:=(ba y _).grown d (by simp;omega) (fun x hx=>(ap.lt x hx).1)) | (go_at_call 107;refine (clone _ _ al).mono ?_;rintro e w2 ⟨rfl,a5⟩;have z:Be wr w2:=(br _ _).drew.trans a5;have y:Be w w2:=bt HB z;have ap:Hid (w2.ownsRow w.heap.size 108 2 u3 k (kM (cs.take k))):=zS HO z;have bf:=y.size))
   all_goals
    have a7:Hid (w3.ownsRow w.heap.size 108 2 (.slice (Ab ⟨g2,0,Aa⟩) (k+1) ae) (k+1) (kM (cs.take k) ++ [.string cs[k].1,I U cs[k].2])):=m;have a0:Hid (w3.ownsRow _ 9 1 (.slice (Ab ⟨g,0,Aa⟩) cs.length j) cs.length (cs.map fun c=>Aj c.1)):=Af (Ag (zS HW z) _) d (Or.inr (ar g rfl).symm)
    have av:Hid (∀ x,some (⟨g,0,Aa⟩:Addr)=Ab ⟨x,0,Aa⟩->(Value.slice (Ab ⟨g2,0,Aa⟩) (k+1) ae).ownBlock ≠ some x):=fun x hx e=>by
     cases hx
     have e2:g2=g:=Ad e
     rcases ao with h | h
     ·exact ar.out g rfl (by rw [h,e2])
     ·have:=(HW.lt g rfl).2;have:=z.size;simp at h;omega
    clear m d ao;go_wp2
    go_roundw
    case rel=>exact ⟨k+1,by omega,by go_num,by rw [take_snoc' ab,flat_append];exact a7.out,av,a0,aq⟩
    case measure=>simp [intOf];omega
  ·have am:k=cs.length:=by omega
   have HK:Hid (k=cs.length):=am;clear am;go_wp2;go_ret;have:=HO.out;rw [HK.out,An] at this;exact ⟨_,rfl,this,HB⟩
theorem cellsB_long (h:12 < cs.length):kS cs=false:=by
 unfold kS;rw [show decide (cs.length<=12)=false by simp;omega,Bool.and_false]
theorem cellsOk_i (cs:CL) (v:Value) (w:World) (hv:qQ w v cs) (hl:(cs.length:Int)<=1048576) (hall:∀ c∈cs,(c.1.size:Int)<=1048576) :
  Calls prog 126 #[v] w fun e w'=>e=.returned (.bool (kS cs))/\Be w w':=by
 obtain ⟨a,cap,rfl,hr⟩:=hv;have HR:=hid hr;have HA:=hid hall;clear hr hall
 by_cases h12:12 < (cs.length:Int)
 ·rw [cellsB_long (by omega)];go_enter func126,ntmps126;go_wp2;go_ret;exact ⟨rfl,br _ _⟩
 ·go_enter func126,ntmps126;go_wp2
  go_loopw [10] (fun i wr=>∃ k:Nat,k<=cs.length/\i=I U (k:Int)/\Hid (okTo cs k)/\Be w wr) (fun i _=>cs.length - (intOf i).toNat)
  case atStart=>exact ⟨0,Ac _,rfl,fun i hi=>by omega,br _ _⟩
  case round=>
   obtain ⟨k,hk,rfl,HO,b⟩:=hrel
   by_cases hlt:(k:Int) < cs.length
   ·have d:k < cs.length:=by omega
    obtain ⟨g,n,rfl,hg,hc⟩:=HR (by omega);have m:=HA cs[k] (Ae d);have c0:wr.cell? ⟨g,n+k * 2,Aa⟩=Ab (.string cs[k].1):=by rw [b.cell (by exact hg)];exact (hc k d).1
    have c1:wr.cell? ⟨g,n+k * 2+1,Aa⟩=Ab (I U cs[k].2):=by rw [b.cell (by exact hg)];exact (hc k d).2
    have q0:(0:Int)<=(k:Int):=by omega
    cases f:zIJ cs[k].1 with
    | false=>
     have HN:Hid (okAt cs k=false):=by
      cases k with
      | zero=>rw [yFC d,f];rfl
      | succ j=>rw [zGD d,f];rfl
     clear hc;go_wp2_with (go_at_call 167;refine (key_i _ _ m).mono ?_;rintro e w' ⟨rfl,rfl⟩;rw [f])
     go_ret;exact ⟨zL (cellsB_no d HN).symm,ba b _⟩
    | true=>
     cases h:zEH cs[k].2 with
     | false=>
      have HN:Hid (okAt cs k=false):=by
       cases k with
       | zero=>rw [yFC d,f,h];rfl
       | succ j=>rw [zGD d,f,h];rfl
      clear hc
      go_wp2_with (first
       | (go_at_call 167;refine (key_i _ _ m).mono ?_;rintro e w' ⟨rfl,rfl⟩;rw [f])
       | (go_at_call 168;refine (numOk_i _ _).mono ?_;rintro e w' ⟨rfl,rfl⟩;rw [h]))
      go_ret;exact ⟨zL (cellsB_no d HN).symm,ba b _⟩
     | true=>
      have s:=yX (wr.alloc (Ai #[Aj cs[k].1,I U cs[k].2] 108));have d0:∀ x:Bw (wr.alloc (Ai #[Aj cs[k].1,I U cs[k].2] 108)),x.to.cell? ⟨wr.heap.size,0,Aa⟩=Ab (.string cs[k].1):=fun x=>by rw [x.below.cell (by simp)];simp
      cases k with
      | zero=>
       have HN:Hid (okAt cs 0=true):=by rw [yFC d,f,h];rfl
       have r:wr.cell? ⟨g,n,Aa⟩=Ab (.string cs[0].1):=by simpa using c0
       have t:wr.cell? ⟨g,n+1,Aa⟩=Ab (I U cs[0].2):=by simpa using c1
       have q1:(0:Int) < (cs.length:Int):=by omega
       clear hc
       go_wp2_with (first
        | (go_at_call 167;refine (key_i _ _ m).mono ?_;rintro e w' ⟨rfl,rfl⟩;rw [f])
        | (go_at_call 168;refine (numOk_i _ _).mono ?_;rintro e w' ⟨rfl,rfl⟩;rw [h]))
       refine rb ?_;repeat (go_big_quiet_step (fail))
       refine qnn fun x=>?_
       go_wp2
       go_roundw
       case rel=>exact ⟨1,by omega,by go_num,okTo_next HO HN,bt (ba b _) x.below⟩
       case measure=>simp [intOf];omega
      | succ j=>
       have q1:((j:Int)+1) < (cs.length:Int):=by omega
       have q2:(0:Int)<=(j:Int):=by omega
       have d1:∀ x:Bw (wr.alloc (Ai #[Aj cs[j+1].1,I U cs[j+1].2] 108)),x.to.cell? ⟨g,n+j * 2,Aa⟩=Ab (.string cs[j].1):=fun x=>by rw [(bt (ba b _) x.below).cell (by exact hg)];exact (hc j (by omega)).1
       cases l:Op.bytesLess cs[j].1.toList cs[j+1].1.toList with
       | true=>
        have HN:Hid (okAt cs (j+1)=true):=by rw [zGD d,f,h,l];rfl
        have l1:Op.bytesLess cs[j+1].1.toList cs[j].1.toList=false:=kLt_asym l;have l2:(cs[j+1].1.toList == cs[j].1.toList)=false:=ba_ne (kLt_ne l).symm;clear hc l
        go_wp2_with (first
         | (go_at_call 167;refine (key_i _ _ m).mono ?_;rintro e w' ⟨rfl,rfl⟩;rw [f])
         | (go_at_call 168;refine (numOk_i _ _).mono ?_;rintro e w' ⟨rfl,rfl⟩;rw [h]))
        refine rb ?_;repeat (go_big_quiet_step (fail))
        refine qnn fun x=>?_
        go_wp2
        go_roundw
        case rel=>exact ⟨j+1+1,by omega,by go_num,okTo_next HO HN,bt (ba b _) x.below⟩
        case measure=>simp [intOf];omega
       | false=>
        have HN:Hid (okAt cs (j+1)=false):=by rw [zGD d,f,h,l];rfl
        cases l1:Op.bytesLess cs[j+1].1.toList cs[j].1.toList with
        | true=>
         clear hc l
         go_wp2_with (first
          | (go_at_call 167;refine (key_i _ _ m).mono ?_;rintro e w' ⟨rfl,rfl⟩;rw [f])
          | (go_at_call 168;refine (numOk_i _ _).mono ?_;rintro e w' ⟨rfl,rfl⟩;rw [h]))
         refine rb ?_;repeat (go_big_quiet_step (fail))
         refine qnn fun x=>?_
         go_wp2;go_ret;exact ⟨zL (cellsB_no d HN).symm,bt (ba b _) x.below⟩
        | false=>
         have l2:(cs[j+1].1.toList == cs[j].1.toList)=true:=ba_eq (kLt_tri l1 l);clear hc l
         go_wp2_with (first
          | (go_at_call 167;refine (key_i _ _ m).mono ?_;rintro e w' ⟨rfl,rfl⟩;rw [f])
          | (go_at_call 168;refine (numOk_i _ _).mono ?_;rintro e w' ⟨rfl,rfl⟩;rw [h]))
         refine rb ?_;repeat (go_big_quiet_step (fail))
         refine qnn fun x=>?_
         go_wp2;go_ret;exact ⟨zL (cellsB_no d HN).symm,bt (ba b _) x.below⟩
   ·have p:k=cs.length:=by omega
    have HK:Hid (k=cs.length):=p;clear p;go_wp2;go_ret;have o:=HO.out;rw [HK.out] at o;exact ⟨zL (by rw [cellsB_all o];simp;omega),b⟩
theorem cellAt_i (cs:CL) (v:Value) (key:ByteArray) (w:World) (hv:qQ w v cs) (hl:(cs.length:Int)<=1048576) :
  Calls prog 173 #[v,.string key] w fun e w'=>e=.returned (I U (cellAt cs key))/\Be w w':=by
 obtain ⟨a,cap,rfl,hr⟩:=hv;have HR:=hid hr;clear hr;go_enter func173,ntmps173;go_wp2
 go_loopw [9] (fun i wr=>∃ k:Nat,k<=cs.length/\i=I U (k:Int)/\Hid (cellAt cs key=jF key (cs.drop k) k)/\Be w wr) (fun i _=>cs.length - (intOf i).toNat)
 case atStart=>exact ⟨0,Ac _,rfl,rfl,br _ _⟩
 case round=>
  obtain ⟨k,hk,rfl,HC,b⟩:=hrel
  by_cases hlt:(k:Int) < cs.length
  ·have c:k < cs.length:=by omega
   obtain ⟨g,d,rfl,hg,hc⟩:=HR (by omega);have c0:wr.cell? ⟨g,d+k * 2,Aa⟩=Ab (.string cs[k].1):=by rw [b.cell (by exact hg)];exact (hc k c).1
   have c1:wr.cell? ⟨g,d+k * 2+1,Aa⟩=Ab (I U cs[k].2):=by rw [b.cell (by exact hg)];exact (hc k c).2
   have q0:(0:Int)<=(k:Int):=by omega
   have HS:Hid (jF key (cs.drop k) k=_):=cellAt_drop cs key k c;clear hc
   by_cases he:cs[k].1=key
   ·have h:=ba_eq he;go_wp2;go_ret;exact ⟨jD (by rw [HC.out,HS.out,if_pos he]),ba b _⟩
   ·have h:=ba_ne he;have HE:Hid (¬ cs[k].1=key):=he;clear he;go_wp2
    go_roundw
    case rel=>exact ⟨k+1,by omega,by go_num,(show cellAt cs key=_ from by rw [HC.out,HS.out,if_neg HE.out]),ba b _⟩
    case measure=>simp [intOf];omega
  ·have f:k=cs.length:=by omega
   have HK:Hid (k=cs.length):=f;clear f;go_wp2;go_ret;exact ⟨jD (by rw [HC.out,HK.out,List.drop_length];rfl),b⟩
attribute [local go_sem] Oper.semAt_some
def stB (cs:CL) (pre:List BI):CL:=pre.foldl (fun acc x=>jK acc x.2.1) cs
theorem stB_snoc (cs:CL) (pre:List BI) (x:BI):stB cs (pre ++ [x])=jK (stB cs pre) x.2.1:=by simp [stB]
theorem stB_fair (h:kS cs=true) (pre:List BI):fair (stB cs pre):=by
 unfold stB
 have:∀ (pre:List BI) (a:CL),fair a->fair (pre.foldl (fun a x=>jK a x.2.1) a):=by
  intro pre
  induction pre with
  | nil=>intro a h;exact h
  | cons x pre ih=>intro a h;exact ih _ (undone_fair h)
 exact this pre cs (fair_of h)
theorem stB_to (cs:CL) (us:List US):∀ k,k<=us.length->stB cs (backTo us k)=xY cs ((us.map Subtype.val).drop (us.length - k)):=by
 intro k
 induction k with
 | zero=>intro _;rw [Nat.sub_zero,List.drop_eq_nil_of_le (by simp)];rfl
 | succ k ih=>
  intro hk;have hj:us.length - (k+1) < (us.map Subtype.val).length:=by simp;omega
  rw [backTo_succ,stB_snoc,ih (by omega),undoneAll_step hj,show us.length - (k+1)+1=us.length - k by omega]
  congr 1
  unfold backAt;simp only [List.getElem_map];rw [show us.length - 1 - k=us.length - (k+1) by omega,Ah (by omega)]
  rfl
theorem stB_size (h:okL cs):∀ (pre:List BI),okL (stB cs pre):=by
 intro pre;unfold stB
 have:∀ (pre:List BI) (a:CL),okL a->okL (pre.foldl (fun a x=>jK a x.2.1) a):=by
  intro pre
  induction pre with
  | nil=>intro a h;exact h
  | cons x pre ih=>intro a h;exact ih _ (okL_undone h x.2.2)
 exact this pre cs h
theorem undoneAll_us (cs:CL) (us:List US) (v u:Value) (w:World) (hv:qQ w v cs) (hu:yM w u 3 kK (us.map Subtype.val)) (hok:okL cs) (hl:(us.length:Int)<=1048576) :
  Calls prog 124 #[v,u] w fun e w'=>∃ v',e=.returned v'/\w'.ownsRow w.heap.size 108 2 v' (xY cs (us.map Subtype.val)).length (kM (xY cs (us.map Subtype.val)))/\Be w w':=by
 have HV:=hid hv;have HL:=hid hok;have h1:=hok.1;obtain ⟨a,cap,rfl,_⟩:=hv;obtain ⟨b,h,rfl,hr⟩:=hu;have HR:=hid hr;clear hr hok;refine (callsIn_wide (n:=9)).1 ?_;refine callsIn_of_wp_marks func124 rfl trivial ?_ rfl;simp only [ntmps124,List.size_toArray,Ao,List.length_nil,Nat.reduceAdd,Nat.reduceSub,Array.replicate_succ,Array.replicate_zero,List.push_toArray,List.append_toArray,List.nil_append,List.cons_append]
 cases ai:kS cs with
 | false=>
  have HE:Hid (xY cs (us.map Subtype.val)=cs):=undoneAll_bad ai _
  gi_wp2_with (first
   | (refine ⟨trivial,?_⟩;gi_at_call 126;refine (callsIn_wide.2 (cellsOk_i cs _ w HV HL.1 HL.2)).mono ?_;rintro e w1 ⟨rfl,af⟩;rw [ai])
   | (refine ⟨trivial,?_⟩;gi_at_call 69;refine (callsIn_wide.2 (copy_i cs _ w1 (HV.below af) HL.1 HL.2)).mono ?_;rintro e w2 ⟨v2,rfl,a5,av⟩))
  exact ⟨_,results_tmp rfl _ _ _,v2,rfl,by rw [HE.out];exact zN a5 af.size,bt af av⟩
 | true=>
  have au:Hid (kS cs=true):=ai
  gi_wp2_with (first
   | (refine ⟨trivial,?_⟩;gi_at_call 126;refine (callsIn_wide.2 (cellsOk_i cs _ w HV HL.1 HL.2)).mono ?_;rintro e w1 ⟨rfl,af⟩;rw [ai])
   | (refine ⟨trivial,?_⟩;gi_at_call 127;refine (callsIn_wide.2 (accounts_i cs _ w1 (HV.below af) au HL.2)).mono ?_;rintro e w2 ⟨rfl,a4,av⟩)
   | (refine ⟨trivial,?_⟩;gi_at_call 165;refine (backward_in Fence.wide _ trivial rfl _ _ _ _).mono ?_;rintro e w3 ⟨rfl,rfl⟩))
  have bu:=af.size;have bo:=av.size;have bi:=a4.lt;have bH:=(Boxed.new w2 167 (.map (some w1.heap.size))).alloc (.cells #[.slice b us.length h] 31);have bS:=Boxed.new (w2.alloc (.cells #[.map (some w1.heap.size)] 167)) 31 (.slice b us.length h);simp only [World.size_alloc] at bS;have a6:Be w ((w2.alloc (.cells #[.map (some w1.heap.size)] 167)).alloc (.cells #[.slice b us.length h] 31)):=ba (ba (bt af av) _) _;have bf:((w2.alloc (.cells #[.map (some w1.heap.size)] 167)).alloc (.cells #[.slice b us.length h] 31)).heap.size=w2.heap.size+2:=by simp
  have bb:MapIs ((w2.alloc (.cells #[.map (some w1.heap.size)] 167)).alloc (.cells #[.slice b us.length h] 31)) w1.heap.size cs:=a4.below (ba (ba (br _ _) _) _);obtain ⟨W0,bd⟩:∃ W0,(w2.alloc (.cells #[.map (some w1.heap.size)] 167)).alloc (.cells #[.slice b us.length h] 31)=W0:=⟨_,rfl⟩;rw [bd] at bH bS a6 bf bb ⊢;clear bd ai a4;have an:(us.map Subtype.val).length=us.length:=by simp
  refine wpIn_rangeFunc_ownH rfl (by omega) (gf:=199) (lb:=#[.pointer (Ab ⟨w2.heap.size+1,0,Aa⟩)]) rfl trivial (enters_of func199 (by kernel_rfl) rfl)
   (backward_stops Fence.wide 8 trivial rfl (by omega) (w2.heap.size+1) w.heap.size b h us hl W0 (by omega) (by omega) bS.cell (fun h0=>by
    obtain ⟨g,be,e,hg,hc⟩:=HR (by rw [an];exact h0)
    exact ⟨g,be,e,hg,fun j hj i hi=>by rw [a6.cell (by exact hg),hc j (by rw [an];exact hj) i hi,List.getElem_map]⟩))
   kpB_t (kpB_b (by omega) (by omega)) (br _ _) (fun _=>rfl)
   (fun m W=>((Boxed W w2.heap.size 167 (.map (some w1.heap.size))/\Boxed W (w2.heap.size+1) 31 (.slice b us.length h))/\MapIs W w1.heap.size (stB cs m))/\Be w W)
   (fun c m W=>(Boxed W w2.heap.size 167 (.map (some w1.heap.size))/\(c=.exit 0/\∃ ab last,m=ab ++ [last]/\12 < (stB cs ab).length/\MapIs W w1.heap.size (stB cs ab)))/\Be w W)
   (OwnFrom.and (OwnFrom.and (OwnFrom.and (Own.from (boxed_own _ _ _) _) (Own.from (boxed_own _ _ _) _)) (fun s X Y row hs hg hr=>hs.kept hg (fun e=>by have:=(hr _ e.symm).1;omega))) (ownFrom_below (nl _) (by omega)))
   (fun c=>OwnFrom.and (OwnFrom.and (Own.from (boxed_own _ _ _) _) (fun s X Y row hs hg hr=>by obtain ⟨h1,ab,last,h2,h3,h4⟩:=hs;exact ⟨h1,ab,last,h2,h3,h4.kept hg (fun e=>by have:=(hr _ e.symm).1;omega)⟩)) (ownFrom_below (nl _) (by omega)))
   ⟨⟨⟨bH,bS⟩,bb⟩,a6⟩
   (fun x a' W=>∃ Xb,W0.heap.size<=Xb/\Bx W Xb #[.string x.2.1.1,.bool x.2.1.2.1,I U x.2.1.2.2] 110/\a'={ tmps:=#[.slice a cs.length cap,.slice b us.length h,undef,undef,.slice none 0 0,.pointer (Ab ⟨w2.heap.size,0,Aa⟩),undef,.pointer (Ab ⟨Xb,0,Aa⟩),.slice a cs.length cap,.bool true,.bool false,undef,undef,.slice a cs.length cap,.map (some w1.heap.size),.slice b us.length h,.func (.func 199) #[] #[.pointer (Ab ⟨w2.heap.size+1,0,Aa⟩)],I U (x.1:Int),.agg #[.string x.2.1.1,.bool x.2.1.2.1,I U x.2.1.2.2],undef,undef,undef,undef,undef,undef,undef,undef,undef],defers:=[] })
   (fun x a' _ X Y row hs hg hr=>by
    obtain ⟨Xb,g1,g2,g3⟩:=hs;refine ⟨Xb,g1,(hg.block Xb (gl g2) (fun e=>?_)).trans g2,g3⟩;obtain ⟨_,o,ho,hc⟩:=hr Xb e.symm
    rw [g2] at ho;cases ho;cases hc)
   ?assign ?body ?done ?stop
  case assign=>
   rintro l m x W K ⟨⟨⟨t,y⟩,p⟩,f⟩ hK
   dsimp only [encB,undoV]
   gi_wp2
   exact hK _ _ ((KeepsOthers.alloc _ _).from _) ⟨(Below.refl _ W).alloc f.size _,(Below.heap_alloc W _ _ y.lt)⟩ ⟨⟨⟨t.alloc _,y.alloc _⟩,p.below (ba (br _ _) _)⟩,f.alloc f.size _⟩ ⟨W.heap.size,by have:=y.lt;omega,heap_alloc_new W _,rfl⟩
  case body=>
   rintro l m ⟨xi,⟨⟨d,ae,num⟩,ah⟩⟩ a' W bm ⟨r,hr⟩ ⟨⟨⟨t,y⟩,p⟩,f⟩ ⟨Xb,bk,hX,rfl⟩ bp;simp only at hX ah;have cH:=t.cell;have a9:=p;obtain ⟨D,hD,aw⟩:=a9;have bl:Maps.size D=(stB cs m).length:=aw.1;have HD:Hid (W.ownsMap prog 9 (plainElem prog 3) w1.heap.size (stB cs m).length D):=hD;clear hD aw
   by_cases h12:12 < (stB cs m).length
   ·have bh:(12:Int) < (Maps.size D:Int):=by omega
    gi_wp2_with (gi_at_len;refine wpListIn_len_own _ rfl _ 167 rfl 9 3 mapT _ w1.heap.size _ D rfl HD ?_)
    exact ⟨KeepsFrom.refl _ _,⟨t,rfl,m,_,rfl,h12,p⟩,f⟩
   ·have bh:(Maps.size D:Int)<=12:=by omega
    have aj:kS (stB cs m)=true:=fair_ok (stB_fair au m) (by omega);obtain ⟨_,a8,bg⟩:=zFG.1 aj;have x0:W.cell? ⟨Xb,0,Aa⟩=Ab (.string d):=by rw [cell_of_row W Xb 0 _ _ (0,0) hX];rfl
    have x1:W.cell? ⟨Xb,1,Aa⟩=Ab (.bool ae):=by rw [cell_of_row W Xb 1 _ _ (0,0) hX];rfl
    have x2:W.cell? ⟨Xb,2,Aa⟩=Ab (I U num):=by rw [cell_of_row W Xb 2 _ _ (0,0) hX];rfl
    have bq:prog.follows .mixedOrders=true:=by kernel_rfl
    have bj:=t.lt;have bn:W.drew.cell? ⟨w2.heap.size,0,Aa⟩=Ab (.map (some w1.heap.size)):=cH;have bv:∀ o,(W.drew.alloc o).cell? ⟨w2.heap.size,0,Aa⟩=Ab (.map (some w1.heap.size)):=fun o=>by rw [((Below.refl _ W).drew.alloc (nl _) o).cell (by exact t.lt)];exact cH
    cases ad:zHH (d,ae,num) with
    | false=>
     obtain ⟨F,hF⟩:=nw Fence.wide;have hT:∀ n W,CallsIn F n prog 166 #[.agg #[.string d,.bool ae,I U num]] W fun e w'=>e=.returned (.func (.func 200) #[] #[])/\w'=W.alloc (.cells #[.string d,.bool ae,I U num] 110):=fun n W=>by rw [hF];exact callsIn_wide.2 (takes1 (d,ae,num) W ah ad)
     have ar:∀ n mb W,CallsIn F n prog 200 #[.map mb] W fun e w'=>e=.returned (.tuple #[])/\w'=W:=fun n mb W=>by rw [hF];exact callsIn_wide.2 (take1_i mb W)
     have bc:F.fn 166:=by rw [hF];trivial
     have a7:F.fn 200:=by rw [hF];trivial
     rw [<- hF];clear hF
     gi_wp2_with (gi_at_len;refine wpListIn_len_own _ rfl _ 167 rfl 9 3 mapT _ w1.heap.size _ D rfl HD ?_)
     gi_region_with_o (first
      | (gi_at_call 166;refine (CallsIn.inRound l (hT _ _)).mono ?_;rintro e w' ⟨rfl,rfl⟩)
      | (gi_at_call 200;refine (CallsIn.inRound l (ar _ _ _)).mono ?_;rintro e w' ⟨rfl,rfl⟩))
     all_goals
      refine ⟨((KeepsOthers.alloc W (Ai #[Aj d,Value.bool ae,I U num] 110)).trans (KeepsOthers.drew _)).from _,⟨((Below.refl _ W).alloc f.size _).drew,Below.heap_alloc W _ _ y.lt⟩,⟨⟨t.alloc _,y.alloc _⟩,?_⟩,(f.alloc f.size _).drew⟩;rw [stB_snoc,undone_not ad];exact p.below (ba (br _ _) _).drew
    | true=>
     have ak:=ad;unfold zHH at ak;simp only [Am] at ak
     cases ae with
     | true=>
      have al:MapIs (W.alloc (Ai #[Aj d,Value.bool true,I U num] 110)).drew w1.heap.size (stB cs m):=p.below (ba (br _ _) _).drew;have d0:(W.alloc (Ai #[Aj d,Value.bool true,I U num] 110)).drew.cell? ⟨W.heap.size,0,Aa⟩=Ab (.string d):=by show (W.alloc (Ai #[Aj d,Value.bool true,I U num] 110)).cell? ⟨W.heap.size,0,Aa⟩=Ab (.string d);rw [cell_of_row _ W.heap.size 0 _ _ (0,0) (heap_alloc_new W _)];rfl
      have d2:(W.alloc (Ai #[Aj d,Value.bool true,I U num] 110)).drew.cell? ⟨W.heap.size,2,Aa⟩=Ab (I U num):=by show (W.alloc (Ai #[Aj d,Value.bool true,I U num] 110)).cell? ⟨W.heap.size,2,Aa⟩=Ab (I U num);rw [cell_of_row _ W.heap.size 2 _ _ (0,0) (heap_alloc_new W _)];rfl
      obtain ⟨F,hF⟩:=nw Fence.wide;have hT:∀ n W,CallsIn F n prog 166 #[.agg #[.string d,.bool true,I U num]] W fun e w'=>e=.returned (.func (.func 201) #[] #[.pointer (Ab ⟨W.heap.size,0,Aa⟩)])/\w'=W.alloc (Ai #[Aj d,Value.bool true,I U num] 110):=fun n W=>by rw [hF];exact callsIn_wide.2 (takes2 d num W ah ad)
      have ar:∀ n,CallsIn F n prog 201 #[.map (some w1.heap.size),.pointer (Ab ⟨W.heap.size,0,Aa⟩)] (W.alloc (Ai #[Aj d,Value.bool true,I U num] 110)).drew fun e w'=>e=.returned (.tuple #[])/\MapIs w' w1.heap.size (jK (stB cs m) (d,true,num))/\(W.alloc (Ai #[Aj d,Value.bool true,I U num] 110)).drew.grownBy w' (some w1.heap.size):=fun n=>by
       rw [hF,undone_yes aj ad,back_true];exact callsIn_wide.2 (take2_i (stB cs m) w1.heap.size W.heap.size d num _ al a8 bg ah ak.2 d0 d2)
      have bc:F.fn 166:=by rw [hF];trivial
      have a7:F.fn 201:=by rw [hF];trivial
      rw [<- hF];clear hF d0 d2 al
      gi_wp2_with (gi_at_len;refine wpListIn_len_own _ rfl _ 167 rfl 9 3 mapT _ w1.heap.size _ D rfl HD ?_)
      gi_region_with_o (first
       | (gi_at_call 166;refine (CallsIn.inRound l (hT _ _)).mono ?_;rintro e w' ⟨rfl,rfl⟩)
       | (gi_at_call 201;refine (CallsIn.inRound l (ar _)).mono ?_;rintro e w' ⟨rfl,a2,z⟩))
      all_goals
       have aq:Below w.heap.size W w':=(((Below.refl _ W).alloc f.size (Ai #[Aj d,Value.bool true,I U num] 110)).drew).grown z (Nat.le_trans f.size (by have:=(KeepsOthers.alloc W (Ai #[Aj d,Value.bool true,I U num] 110)).size;exact this)) (fun k e=>by cases e;omega);have ay:Boxed (W.alloc (Ai #[Aj d,Value.bool true,I U num] 110)).drew w2.heap.size 167 (.map (some w1.heap.size)):=t.alloc _;have ap:Boxed (W.alloc (Ai #[Aj d,Value.bool true,I U num] 110)).drew (w2.heap.size+1) 31 (.slice b us.length h):=y.alloc _;have n1:some w2.heap.size ≠ some w1.heap.size:=fun e=>by have:=Ad e;omega
       have n2:some (w2.heap.size+1) ≠ some w1.heap.size:=fun e=>by have:=Ad e;omega
       refine ⟨(((KeepsOthers.alloc W (Ai #[Aj d,Value.bool true,I U num] 110)).trans (KeepsOthers.drew _)).from _).trans (KeepsFrom.of_grownBy z (fun j e=>by cases e;omega)),⟨aq,(z.block (w2.heap.size+1) ap.lt n2).trans (Below.heap_alloc W _ _ y.lt)⟩,⟨⟨ay.kept z n1,ap.kept z n2⟩,?_⟩,f.trans aq⟩;rw [stB_snoc];exact a2
     | false=>
      have al:MapIs (W.alloc (Ai #[Aj d,Value.bool false,I U num] 110)).drew w1.heap.size (stB cs m):=p.below (ba (br _ _) _).drew;have d0:(W.alloc (Ai #[Aj d,Value.bool false,I U num] 110)).drew.cell? ⟨W.heap.size,0,Aa⟩=Ab (.string d):=by show (W.alloc (Ai #[Aj d,Value.bool false,I U num] 110)).cell? ⟨W.heap.size,0,Aa⟩=Ab (.string d);rw [cell_of_row _ W.heap.size 0 _ _ (0,0) (heap_alloc_new W _)];rfl
      have d2:(W.alloc (Ai #[Aj d,Value.bool false,I U num] 110)).drew.cell? ⟨W.heap.size,2,Aa⟩=Ab (I U num):=by show (W.alloc (Ai #[Aj d,Value.bool false,I U num] 110)).cell? ⟨W.heap.size,2,Aa⟩=Ab (I U num);rw [cell_of_row _ W.heap.size 2 _ _ (0,0) (heap_alloc_new W _)];rfl
      obtain ⟨F,hF⟩:=nw Fence.wide;have hT:∀ n W,CallsIn F n prog 166 #[.agg #[.string d,.bool false,I U num]] W fun e w'=>e=.returned (.func (.func 202) #[] #[.pointer (Ab ⟨W.heap.size,0,Aa⟩)])/\w'=W.alloc (Ai #[Aj d,Value.bool false,I U num] 110):=fun n W=>by rw [hF];exact callsIn_wide.2 (takes3 d num W ah ad)
      have ar:∀ n,CallsIn F n prog 202 #[.map (some w1.heap.size),.pointer (Ab ⟨W.heap.size,0,Aa⟩)] (W.alloc (Ai #[Aj d,Value.bool false,I U num] 110)).drew fun e w'=>e=.returned (.tuple #[])/\MapIs w' w1.heap.size (jK (stB cs m) (d,false,num))/\(W.alloc (Ai #[Aj d,Value.bool false,I U num] 110)).drew.grownBy w' (some w1.heap.size):=fun n=>by
       rw [hF,undone_yes aj ad,back_false];exact callsIn_wide.2 (take3_i (stB cs m) w1.heap.size W.heap.size d _ al a8 ah d0)
      have bc:F.fn 166:=by rw [hF];trivial
      have a7:F.fn 202:=by rw [hF];trivial
      rw [<- hF];clear hF d0 d2 al
      gi_wp2_with (gi_at_len;refine wpListIn_len_own _ rfl _ 167 rfl 9 3 mapT _ w1.heap.size _ D rfl HD ?_)
      gi_region_with_o (first
       | (gi_at_call 166;refine (CallsIn.inRound l (hT _ _)).mono ?_;rintro e w' ⟨rfl,rfl⟩)
       | (gi_at_call 202;refine (CallsIn.inRound l (ar _)).mono ?_;rintro e w' ⟨rfl,a2,z⟩))
      all_goals
       have aq:Below w.heap.size W w':=(((Below.refl _ W).alloc f.size (Ai #[Aj d,Value.bool false,I U num] 110)).drew).grown z (Nat.le_trans f.size (by have:=(KeepsOthers.alloc W (Ai #[Aj d,Value.bool false,I U num] 110)).size;exact this)) (fun k e=>by cases e;omega);have ay:Boxed (W.alloc (Ai #[Aj d,Value.bool false,I U num] 110)).drew w2.heap.size 167 (.map (some w1.heap.size)):=t.alloc _;have ap:Boxed (W.alloc (Ai #[Aj d,Value.bool false,I U num] 110)).drew (w2.heap.size+1) 31 (.slice b us.length h):=y.alloc _;have n1:some w2.heap.size ≠ some w1.heap.size:=fun e=>by have:=Ad e;omega
       have n2:some (w2.heap.size+1) ≠ some w1.heap.size:=fun e=>by have:=Ad e;omega
       refine ⟨(((KeepsOthers.alloc W (Ai #[Aj d,Value.bool false,I U num] 110)).trans (KeepsOthers.drew _)).from _).trans (KeepsFrom.of_grownBy z (fun j e=>by cases e;omega)),⟨aq,(z.block (w2.heap.size+1) ap.lt n2).trans (Below.heap_alloc W _ _ y.lt)⟩,⟨⟨ay.kept z n1,ap.kept z n2⟩,?_⟩,f.trans aq⟩;rw [stB_snoc];exact a2
  case done=>
   rintro D ys W hD rfl ⟨⟨⟨t,y⟩,p⟩,f⟩ hK;have ax:stB cs (backTo us us.length)=xY cs (us.map Subtype.val):=by rw [stB_to cs us us.length (nl _),Nat.sub_self,List.drop_zero]
   have a0:D < W.heap.size:=(gl hK);have a1:w.heap.size<=D:=by omega
   have ag:=stB_fair au (backTo us us.length);have aa:=(stB_size HL (backTo us us.length)).2;rw [ax] at ag aa p;have az:Hid (MapIs W w1.heap.size (xY cs (us.map Subtype.val))):=p;have ao:=hid ag;have a3:=hid aa;have cH:=t.cell;clear p ag aa
   gi_wp2_with (refine ⟨trivial,?_⟩;gi_at_call 129;refine (callsIn_wide.2 (told_i (xY cs (us.map Subtype.val)) w1.heap.size W az ao.2.1 ao.2.2 a3)).mono ?_;rintro e w' ⟨v',rfl,ac,hb⟩)
   have am:w'.heap[D]?=Ab (.deferred (some [])):=(hb.block D a0).trans hK;refine ⟨by simp,.inl ⟨_,_,rfl,run_takeDeferred am,?_⟩⟩;refine ⟨_,results_tmp rfl _ _ _,v',rfl,zN (Af ac (grownBy_putObj' _ D _) (Or.inr fun e=>by have:=(ac.lt D e).1;omega)) f.size,?_⟩;exact (f.trans (hb.mono f.size)).trans (belowK_b (w:=w) (nl _) w' D _ _ a1 am rfl rfl)
  case stop=>
   rintro D c m W hD ⟨k,hk,rfl⟩ ⟨⟨t,rfl,ab,last,e1,e2,p⟩,f⟩ hK
   have ax:stB cs ab=xY cs (us.map Subtype.val):=by
    cases k with
    | zero=>simp [backTo] at e1
    | succ k=>
     rw [backTo_succ] at e1;obtain ⟨e3,_⟩:=List.append_inj' e1 rfl;have e4:=stB_to cs us k (by omega);rw [e3] at e4;rw [e4];rw [e4] at e2;exact (undoneAll_over (fair_over e2)).symm
   clear e1 e2;have a0:D < W.heap.size:=(gl hK);have a1:w.heap.size<=D:=by omega
   have ag:=stB_fair au ab;have aa:=(stB_size HL ab).2;rw [ax] at ag aa p;have az:Hid (MapIs W w1.heap.size (xY cs (us.map Subtype.val))):=p;have ao:=hid ag;have a3:=hid aa;have cH:=t.cell;clear p ag aa
   gi_wp2_with (refine ⟨trivial,?_⟩;gi_at_call 129;refine (callsIn_wide.2 (told_i (xY cs (us.map Subtype.val)) w1.heap.size W az ao.2.1 ao.2.2 a3)).mono ?_;rintro e w' ⟨v',rfl,ac,hb⟩)
   have am:w'.heap[D]?=Ab (.deferred (some [])):=(hb.block D a0).trans hK;refine ⟨by simp,.inl ⟨_,_,rfl,run_takeDeferred am,?_⟩⟩;refine ⟨_,results_tmp rfl _ _ _,v',rfl,zN (Af ac (grownBy_putObj' _ D _) (Or.inr fun e=>by have:=(ac.lt D e).1;omega)) f.size,?_⟩;exact (f.trans (hb.mono f.size)).trans (belowK_b (w:=w) (nl _) w' D _ _ a1 am rfl rfl)
theorem undoneAll_i (cs:CL) (us:List UN) (v u:Value) (w:World) (hv:qQ w v cs) (hu:yM w u 3 kK us) (hok:okL cs) (hl:(us.length:Int)<=1048576) (hall:∀ x∈us,(x.1.size:Int)<=1048576) :
  Calls prog 124 #[v,u] w fun e w'=>∃ v',e=.returned v'/\w'.ownsRow w.heap.size 108 2 v' (xY cs us).length (kM (xY cs us))/\Be w w':=by
 obtain ⟨a,rfl⟩:∃ a:List US,us=a.map Subtype.val:=⟨us.attach.map fun x=>⟨x.1,hall x.1 x.2⟩,by rw [List.map_map];exact (List.attach_map_subtype_val us).symm⟩;exact undoneAll_us cs a v u w hv hu hok (by simpa using hl)
end Go.Proofs.YtfnneillakdopadGreat
