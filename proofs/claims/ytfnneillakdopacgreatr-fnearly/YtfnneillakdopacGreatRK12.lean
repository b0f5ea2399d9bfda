/-
  Texts of ours that later ones lean on, in one: BackPI, WayN, WayI, HeightI, RevI, RowI, DoI, DoneAllI.
-/
import Derived.Test.YtfnneillakdopacGreatRK1
import Derived.Test.YtfnneillakdopacGreatRPeerCIZ
import Derived.Test.YtfnneillakdopacGreatRK4
import Derived.Test.YtfnneillakdopacGreatRK11
import Derived.RangeFuncNested
import Derived.RangeFuncBound
import Derived.RangeFuncCalls
import Derived.RangeFuncLeaves
import Derived.Shelf.Abstract
import Derived.Shelf.RegionOpen
import Derived.WalkKit
import Derived.OwnWalkIn
import Derived.TacticsInMore
import Derived.LoopNIn
import Derived.LoopIn
import Derived.RangeFuncFrom
import Derived.RangeFuncBox
import Derived.Shelf.RegionOpenPlain
import Derived.BigQuiet
import Derived.Maps.AppendAt
set_option maxRecDepth 100000
set_option maxHeartbeats 32000000
namespace Go.Proofs.YtfnneillakdopacGreatR
open _root_.Go.Proofs.Tryz
open Go.Value renaming int->I,slice->Af,ownBlock->Ag,pointer->Ai
open Go.IntKind renaming i64->U
open Option renaming none->Aa,some->Ab
open Option.some renaming inj->Ac
open List renaming getElem?_eq_getElem->Ad,append_assoc->Ah,length_cons->Aj
open Go.Obj renaming cells->Ae
open Go.RowKit Num
variable {cs:CL} {k under x:Int} {t:List BK} {pre xs ys:List Int} {l:List Nat} {ab i:Nat}
theorem lastOf_i (l:List Int) (v:Value) (w:World) (hR:yM w v 1 xJ l) (hs:(l.length:Int)<=1048576) :
  Calls prog 52 #[v] w fun e w'=>e=.returned (I U (qS l))/\w'=w:=by
 obtain ⟨a,cap,rfl,hr⟩:=hR;have HR:=hid hr;clear hr
 by_cases h0:(l.length:Int)=0
 ·have b0:((l.length:Int) == 0)=true:=by simpa using h0
  have HE:Hid (qS l=0):=hid (by unfold qS;rw [List.eq_nil_of_length_eq_zero (show l.length=0 by omega)];rfl);clear h0;go_enter func52,ntmps52;go_wp2;go_ret;exact ⟨by rw [HE.out];rfl,rfl⟩
 ·have b0:((l.length:Int) == 0)=false:=by simpa using h0
  have hm:l.length - 1 < l.length:=by omega
  have HE:Hid (qS l=l[l.length - 1]):=(by unfold qS;simp [List.getD,hm]:qS l=_);obtain ⟨g,b,rfl,hg,hc⟩:=HR (by omega);have q0:(0:Int)<=(l.length:Int) - 1:=by omega
  have q1:(l.length:Int) - 1 < l.length:=by omega
  have d:w.cell? ⟨g,b+(l.length - 1),Aa⟩=Ab (I U l[l.length - 1]):=by
   have:=hc (l.length - 1) hm 0 (by omega)
   simpa [xJ] using this
  have c:((l.length:Int) - 1).toNat=l.length - 1:=by omega
  clear hc hg HR;go_enter func52,ntmps52;go_wp2;go_ret;exact ⟨by rw [HE.out];rfl,rfl⟩
theorem withoutEarly_i (p:PE) (s:PV) (w:World) (hR:jS w p s) (hs:yC p) :
  Calls prog 50 #[yZ p s] w fun e w'=>∃ s',e=.returned (yZ (jC p) s')/\zO w.heap.size w'.heap.size w' (jC p) s'/\Be w w':=by
 have HR:=hid hR;have HS:=hid hs;clear hR hs;obtain ⟨W,hW⟩:=nw ((w.alloc (.cells (zA p s) 35)).alloc (.cells zF 35));have HW:Hid (Bx2 w W (zA p s) zF):=hid (by rw [hW];exact two_boxes w _ _);unfold zF at hW;go_enter func50,ntmps50;go_wp2_with (rw [<- hW];clear hW;(refine w_ld w.heap.size HW.box underlying35 ?_))
 refine (copyPeer_i p s W (HR.below HW.below) HS).mono ?_;rintro e x1 ⟨s1,rfl,ho,hb⟩;have k:Hid (zO w.heap.size x1.heap.size x1 p s1):=ho.low HW.below.size;have j:Hid (Bx2 w x1 (zA p s) zF):=HW.more hb;clear ho hb HW;go_wp2_with (refine w_st w.heap.size (zA p s1) j.box (zJ k.1) ?_;intro y1 hg hk hz;have c:Hid (Bx2 w y1 (zA p s1) zF):=j.put hg hk;have i:Hid (zO w.heap.size y1.heap.size y1 p s1):=(k.boxed j.box hg).wide hg.size (nl _);have ad:=zB c.box 15 s1.cells rfl;have ac:=zB c.box 17 s1.undos rfl;clear hg hk hz j k)
 refine (undoneAll_i p.cells p.undos s1.cells s1.undos y1 i.reads.cells i.reads.undos ⟨HS.cells,HS.kcells⟩ HS.undos HS.kundos).mono ?_;rintro e x2 ⟨v1,rfl,ho,hb⟩;have a:Hid (x2.ownsRow y1.heap.size 92 2 v1 (xY p.cells p.undos).length (kM (xY p.cells p.undos))):=ho;have d:Hid (Bx2 w x2 (zA p s1) zF):=c.more hb;have u:Hid (zO w.heap.size y1.heap.size x2 p s1):=i.below hb;have m:=hid (qad2 c.out.below.size hb.size);clear ho hb c i ad ac;obtain ⟨q,hq⟩:∃ q:PE,q={ p with cells:=xY p.cells p.undos }:=⟨_,rfl⟩;obtain ⟨s2,n⟩:∃ s2:PV,s2={ s1 with cells:=v1 }:=⟨_,rfl⟩;obtain ⟨r,hr⟩:∃ r:PE,r={ q with early:=[],undos:=[] }:=⟨_,rfl⟩;obtain ⟨s3,o⟩:∃ s3:PV,s3={ s2 with early:=.slice none 0 0,undos:=.slice none 0 0 }:=⟨_,rfl⟩;have HE:Hid (jC p=r):=hid (by rw [hr,hq];rfl)
 go_wp2_with (first
  | (refine w_sc w.heap.size 15 v1 d.box (by simp [zA]) (zDH a) (zA q s2) (by rw [hq,n];rfl) ?_;intro y2 hg hk;have f:Hid (Bx2 w y2 (zA q s2) zF):=d.put hg hk;have x:Hid (zO w.heap.size y2.heap.size y2 q s2):=hid (by rw [hq,n];exact (u.boxed d.box hg).setCells (Nat.le_trans m.2 hg.size) (nl _) (zN (World.ownsRow.kept a hg (zH a d.box (by decide))) m.1) (fun g e=>Nat.lt_of_lt_of_le (a.lt g e).2 hg.size) (fun g e=>Or.inr (a.lt g e).1));clear hg hk d u a m hq n)
  | (refine w_sc w.heap.size 16 (.slice none 0 0) f.box (by simp [zA]) rfl (zA { q with early:=[] } { s2 with early:=.slice none 0 0 }) rfl ?_;intro y3 hg hk;have h:Hid (Bx2 w y3 (zA { q with early:=[] } { s2 with early:=.slice none 0 0 }) zF):=f.put hg hk;have v:Hid (zO w.heap.size y3.heap.size y3 { q with early:=[] } { s2 with early:=.slice none 0 0 }):=zO.setEarly (l:=[]) ((x.boxed f.box hg).wide hg.size (nl _)) (nl _) (nl _) (World.ownsRow_nil _ _ _ _) (fun g e=>by cases e) (fun g e=>by cases e);clear hg hk f x)
  | (refine w_sc w.heap.size 17 (.slice none 0 0) h.box (by simp [zA]) rfl (zA r s3) (by rw [hr,o];rfl) ?_;intro y4 hg hk;have b:Hid (Bx2 w y4 (zA r s3) zF):=h.put hg hk;have t:Hid (zO w.heap.size y4.heap.size y4 r s3):=hid (by rw [hr,o];exact zO.setUndos (l:=[]) ((v.boxed h.box hg).wide hg.size (nl _)) (nl _) (nl _) (World.ownsRow_nil _ _ _ _) (fun g e=>by cases e) (fun g e=>by cases e));clear hg hk h v hr o)
  | (refine w_ld w.heap.size b.box underlying35 ?_)
  | (refine w_st (w.heap.size+1) (zA r s3) b.zero (zJ t.1) ?_;intro z hg hk hz;have y:Hid (Be w z):=b.below.grown hg b.below.size (qkk (by omega));have aa:Hid (Bx z (w.heap.size+1) (zA r s3) 35):=hk;have ab:Hid (zO w.heap.size z.heap.size z r s3):=(t.boxed b.zero hg).wide hg.size (nl _);clear hg hk hz t b))
 refine b_cr (.agg (zA r s3)) results50 aa underlying35 ?_;rw [HE.out];exact ⟨_,rfl,ab,y⟩
def wayF (t:List BK):Nat->Nat->Int->List Int
 | 0,_,_=>[-1]
 | f+1,ab,x=>if 0<=x/\x < (ab:Int) then (if x=0 then [0] else x :: wayF t f x.toNat (zDI t x.toNat)) else [-1]
theorem wayF_out (t:List BK) {f:Nat} (h:¬ (0<=x/\x < (ab:Int))):wayF t f ab x=[-1]:=by
 cases f with
 | zero=>rfl
 | succ f=>unfold wayF;rw [if_neg h]
theorem wayF_more (t:List BK):∀ (f g ab:Nat) (x:Int),ab<=f->ab<=g->wayF t f ab x=wayF t g ab x
 | 0,g,ab,x,hf,_=>by rw [wayF_out t (by omega),wayF_out t (by omega)]
 | f+1,0,ab,x,_,hg=>by rw [wayF_out t (by omega),wayF_out t (by omega)]
 | f+1,g+1,ab,x,hf,hg=>by
  by_cases h:0<=x/\x < (ab:Int)
  ·unfold wayF;rw [if_pos h,if_pos h,wayF_more t f g x.toNat (zDI t x.toNat) (by omega) (by omega)]
  ·rw [wayF_out t h,wayF_out t h]
def wayA (t:List BK) (ab:Nat) (x:Int):List Int:=wayF t ab ab x
def way (t:List BK) (k:Int):List Int:=wayA t t.length k
theorem wayA_zero (t:List BK) (h:0 < ab):wayA t ab 0=[0]:=by
 obtain ⟨f,rfl⟩:∃ f,ab=f+1:=⟨ab - 1,by omega⟩;unfold wayA wayF;rw [if_pos ⟨Int.le_refl _,by omega⟩,if_pos rfl]
theorem wayA_step (t:List BK) {j:Nat} (h0:0 < j) (h:j < ab):wayA t ab (j:Int)=(j:Int) :: wayA t j (zDI t j):=by
 obtain ⟨f,rfl⟩:∃ f,ab=f+1:=⟨ab - 1,by omega⟩;unfold wayA;rw [show wayF t (f+1) (f+1) (j:Int)=(if 0<=(j:Int)/\(j:Int) < ((f+1:Nat):Int) then (if (j:Int)=0 then [0] else (j:Int) :: wayF t f (j:Int).toNat (zDI t (j:Int).toNat)) else [-1]) from rfl,if_pos ⟨by omega,by omega⟩,if_neg (by omega),Int.toNat_natCast,wayF_more t f j j _ (by omega) (nl _)]
theorem wayA_out (t:List BK) (h:¬ (0<=x/\x < (ab:Int))):wayA t ab x=[-1]:=wayF_out t h
theorem wayA_some (t:List BK):∀ (n ab:Nat) (x:Int) (l:List Nat),ab<=n->ab<=t.length->x < (ab:Int)->qH t x=some l->wayA t ab x=qG l ++ [0]
 | 0,ab,x,l,hn,_,hx,h=>by have:=(down_range h).1;omega
 | n+1,ab,x,l,hn,ht,hx,h=>by
  obtain ⟨x0,x1⟩:=down_range h;obtain ⟨j,rfl⟩:=Int.eq_ofNat_of_zero_le x0
  by_cases hz:j=0
  ·subst hz;have:l=[]:=by rw [show ((0:Nat):Int)=0 from rfl,down_zero (by omega)] at h;exact (Ac h).symm
   subst this;rw [show ((0:Nat):Int)=0 from rfl,wayA_zero t (by omega)]
   rfl
  ·obtain ⟨a,l',b,rfl⟩:=down_some (by omega) h;have h3:=a.2.2.2;rw [wayA_step t (by omega) (by omega),wayA_some t n j (zDI t j) l' (by omega) (by omega) (by omega) b,intsN_cons,List.cons_append]
theorem wayA_none (t:List BK):∀ (n ab:Nat) (x:Int),ab<=n->ab<=t.length->x < (ab:Int)∨ab=t.length->qH t x=none->∃ pre,wayA t ab x=pre ++ [-1]/\∀ y∈pre,y ≠ -1
 | n,ab,x,hn,ht,hx,h=>by
  by_cases hr:0<=x/\x < (ab:Int)
  ·obtain ⟨x0,x1⟩:=hr;obtain ⟨j,rfl⟩:=Int.eq_ofNat_of_zero_le x0
   have hz:j ≠ 0:=by
    intro hz;subst hz;rw [show ((0:Nat):Int)=0 from rfl,down_zero (by omega)] at h
    cases h
   rw [wayA_step t (by omega) (by omega)]
   by_cases hok:okAtT t j
   ·cases n with
    | zero=>omega
    | succ n=>
     have h3:=hok.2.2.2;rw [down_step hok] at h
     have h2:qH t (zDI t j)=none:=by cases hp:qH t (zDI t j) with
      | none=>rfl
      | some l=>rw [hp] at h;cases h
     obtain ⟨pre,hp,hy⟩:=wayA_none t n j (zDI t j) (by omega) (by omega) (Or.inl (by omega)) h2;refine ⟨(j:Int) :: pre,by rw [hp,List.cons_append],fun y hm=>?_⟩
     rcases List.mem_cons.1 hm with rfl | hm
     ·omega
     ·exact hy y hm
   ·have:¬ (0<=zDI t j/\zDI t j < (j:Int)):=fun hc=>hok ⟨by omega,by omega,hc.1,by omega⟩
    rw [wayA_out t this];refine ⟨[(j:Int)],rfl,fun y hm=>?_⟩;simp at hm;omega
  ·exact ⟨[],by rw [wayA_out t hr];rfl,fun y hm=>by cases hm⟩
theorem way_some (h:qH t k=some l):way t k=qG l ++ [0]:=wayA_some t t.length t.length k l (nl _) (nl _) (down_range h).2 h
theorem way_none (h:qH t k=none):∃ pre,way t k=pre ++ [-1]/\∀ y∈pre,y ≠ -1:=wayA_none t t.length t.length k (nl _) (nl _) (Or.inr rfl) h
theorem wayA_len (t:List BK):∀ (n ab:Nat) (x:Int),ab<=n->(wayA t ab x).length<=ab+1
 | n,ab,x,hn=>by
  by_cases hr:0<=x/\x < (ab:Int)
  ·obtain ⟨x0,x1⟩:=hr;obtain ⟨j,rfl⟩:=Int.eq_ofNat_of_zero_le x0
   by_cases hz:j=0
   ·subst hz;rw [show ((0:Nat):Int)=0 from rfl,wayA_zero t (by omega)];simp
   ·cases n with
    | zero=>omega
    | succ n=>
     rw [wayA_step t (by omega) (by omega),Aj];have:=wayA_len t n j (zDI t j) (by omega);omega
  ·rw [wayA_out t hr];simp
theorem way_len (t:List BK) (k:Int):(way t k).length<=t.length+1:=wayA_len t t.length t.length k (nl _)
theorem intsN_ne {y:Int} (h:y∈qG l):0<=y:=by
 unfold qG at h;obtain ⟨x,_,rfl⟩:=List.mem_map.1 h;omega
theorem way_all (h:∀ y∈way t k,y ≠ -1):∃ l,qH t k=some l:=by
 cases hd:qH t k with
 | some l=>exact ⟨l,rfl⟩
 | none=>
  obtain ⟨a,hp,_⟩:=way_none hd;exact absurd rfl (h (-1) (by rw [hp];simp))
theorem way_bad (h:pre <+: way t k) (hm:(-1:Int)∈pre):qH t k=none:=by
 cases hd:qH t k with
 | none=>rfl
 | some l=>
  have:=h.subset hm;rw [way_some hd] at this
  rcases List.mem_append.1 this with h1 | h1
  ·have:=intsN_ne h1;omega
  ·simp at h1
theorem extL_way (l:List Nat) (under:Int):extL l under=(qG l ++ [0]).any fun x=>decide (x=under):=by
 unfold extL qG;rw [List.any_append,List.any_map,Bool.or_comm]
 congr 1
 simp
 by_cases h:under=0
 ·subst h;simp
 ·have:¬ 0=under:=fun e=>h e.symm
  simp [h,this]
theorem down_desc (t:List BK):∀ (n k:Nat) (l:List Nat),k<=n->qH t (k:Int)=some l->(∀ x∈l,0 < x/\x<=k)/\l.Pairwise (· > ·)
 | n,k,l,hn,h=>by
  by_cases hz:k=0
  ·subst hz;obtain ⟨_,x1⟩:=down_range h;have:l=[]:=by rw [show ((0:Nat):Int)=0 from rfl,down_zero (by omega)] at h;exact (Ac h).symm
   subst this;exact ⟨fun x hx=>(by cases hx),List.Pairwise.nil⟩
  ·obtain ⟨a,l',b,rfl⟩:=down_some (by omega) h;have h2:=a.2.2.1;have h3:=a.2.2.2;obtain ⟨p,hp⟩:=Int.eq_ofNat_of_zero_le h2
   cases n with
   | zero=>omega
   | succ n=>
    rw [hp] at b;obtain ⟨ha,hb⟩:=down_desc t n p l' (by omega) b;refine ⟨fun x hx=>?_,List.pairwise_cons.2 ⟨fun x hx=>?_,hb⟩⟩
    ·rcases List.mem_cons.1 hx with rfl | hx
     ·omega
     ·have:=ha x hx;omega
    ·have:=ha x hx;omega
theorem down_falls (h:qH t k=some l):(∀ x∈l,0 < x)/\(qG l ++ [0]).Pairwise (· > ·):=by
 obtain ⟨x0,x1⟩:=down_range h;obtain ⟨j,rfl⟩:=Int.eq_ofNat_of_zero_le x0;obtain ⟨ha,hb⟩:=down_desc t j j l (nl _) h;refine ⟨fun x hx=>(ha x hx).1,List.pairwise_append.2 ⟨?_,by simp,fun a hm b c=>?_⟩⟩
 ·unfold qG;rw [List.pairwise_map];exact hb.imp fun h=>by omega
 ·unfold qG at hm;obtain ⟨x,hx,rfl⟩:=List.mem_map.1 hm;simp at c;have:=(ha x hx).1;omega
open Go.Shelf
attribute [local go_sem] Oper.semAt_some
def KpW (n₀ Bs:Nat) (A B:World):Prop:=Below n₀ A B/\B.heap[Bs]?=A.heap[Bs]?
theorem kpW_refl (n₀ Bs:Nat) (A:World):KpW n₀ Bs A A:=⟨br _ _,rfl⟩
theorem kpW_t {n₀ Bs:Nat} {A B C:World} (h:KpW n₀ Bs A B) (k:KpW n₀ Bs B C):KpW n₀ Bs A C:=⟨h.1.trans k.1,k.2.trans h.2⟩
theorem kpW_b {n₀ Bs:Nat} {w:World} (hn:n₀<=w.heap.size) (hB:Bs < w.heap.size) (W:World) (l:Nat) (o o':Obj) (hl:w.heap.size<=l) (h:W.heap[l]?=some o) (h1:o.isCells=false) (h2:o.isWalk=false):KpW n₀ Bs W (W.putObj l o'):=
 ⟨belowK_b hn W l o o' hl h h1 h2,World.putObj_heap_other (by omega)⟩
def encW (x:Int):Array Value:=#[I U x]
theorem pre_lt {l rest:List Int} (h:l=pre ++ x:: rest):pre.length < l.length:=by rw [h];simp
theorem pre_is {l rest:List Int} (h:l=pre ++ x:: rest):pre ++ [x] <+: l:=⟨rest,by rw [h];simp⟩
theorem way1_in (F:Fence) (n:Nat) (hf:F.fn 128) (hro:F.round=none) (hn:1<=n) (l Bt Bk n₀ cap:Nat) (a:Option Addr) (ps:TL) (k:Int) (hlen:(ps.length:Int)<=1048576) (J Jx:List Int->World->Prop)
  (hY:∀ pre x W,J pre W->pre.length < (way (bks ps) k).length->YieldAt F (n - 1) prog l (encW x) W fun e W'=>
   (e=.returned (.bool true)/\J (pre ++ [x]) W'/\KpW n₀ Bt W W')∨(e=.returned (.bool false)/\Jx (pre ++ [x]) W'))
  (W:World) (hBt:W.cell? ⟨Bt,0,Aa⟩=Ab (.slice a ps.length cap)) (hBk:W.cell? ⟨Bk,0,Aa⟩=Ab (I U k))
  (hI:0 < ps.length->∃ g off,a=Ab ⟨g,off,Aa⟩/\g < n₀/\∀ j (_:j < ps.length),W.cell? ⟨g,off+j * 7,Aa⟩=Ab (I U ps[j].1.1.1)) (h0:J [] W) :
  CallsIn F n prog 128 #[.func (.yield l) #[] #[],.pointer (Ab ⟨Bt,0,Aa⟩),.pointer (Ab ⟨Bk,0,Aa⟩)] W fun e W'=>(∃ v,e=.returned v)/\
   ((∃ ys,ys=way (bks ps) k/\J ys W')∨(∃ pre,pre <+: way (bks ps) k/\Jx pre W')):=by
 refine callsIn_of_wp func128 rfl hf ?_ hro;simp only [ntmps128,List.size_toArray,Aj,List.length_nil,Nat.reduceAdd,Nat.reduceSub,Array.replicate_succ,Array.replicate_zero,List.push_toArray,List.append_toArray,List.nil_append,List.cons_append];have HI:Hid (0 < ps.length->∃ g off,a=Ab ⟨g,off,Aa⟩/\g < n₀/\∀ j (_:j < ps.length),W.cell? ⟨g,off+j * 7,Aa⟩=Ab (I U ps[j].1.1.1)):=hI;have HB:Hid (W.cell? ⟨Bt,0,Aa⟩=Ab (.slice a ps.length cap)):=hBt;have z:=yO ps;clear hI
 gi_wp2
 clear hBt hBk
 gi_loopw [4,5] (fun ab p wr=>∃ (m:Nat) (x:Int) (pre:List Int),ab=I U (m:Int)/\p=I U x/\m<=ps.length/\Hid (way (bks ps) k=pre ++ wayA (bks ps) m x)/\J pre wr/\KpW n₀ Bt W wr)
  (fun ab _ _=>(intOf ab).toNat)
 case atStart=>exact ⟨ps.length,k,[],rfl,rfl,nl _,(by unfold way;rw [z];rfl:way (bks ps) k=[] ++ wayA (bks ps) ps.length k),h0,kpW_refl _ _ _⟩
 case round=>
  obtain ⟨m,x,pre,rfl,rfl,hm,HW,t,u⟩:=hrel
  by_cases hx:0<=x/\x < (m:Int)
  ·obtain ⟨x0,x1⟩:=hx
   by_cases hz:x=0
   ·subst hz;have hw:way (bks ps) k=pre ++ [0]:=by rw [HW.out,wayA_zero _ (by omega)]
    have c:Hid (way (bks ps) k=pre ++ [0]):=hw;obtain ⟨fn,r,f,s,hy,hR⟩:=hY pre 0 wr t (by rw [hw];simp);unfold encW at hy;clear hw
    gi_wp2
    refine hR.mono ?_;rintro e W3 (⟨rfl,d,i⟩ | ⟨rfl,b⟩)
    ·gi_wp2
     refine bodyPost_ret (results_none rfl _ _ _) rfl ?_;exact ⟨⟨_,rfl⟩,.inl ⟨_,c.symm,d⟩⟩
    ·gi_wp2
     refine bodyPost_ret (results_none rfl _ _ _) rfl ?_;exact ⟨⟨_,rfl⟩,.inr ⟨_,⟨[],by rw [c.out];simp⟩,b⟩⟩
   ·obtain ⟨j,rfl⟩:=Int.eq_ofNat_of_zero_le x0;have hj:j < ps.length:=by omega
    have hw:way (bks ps) k=pre ++ (j:Int) :: wayA (bks ps) j ps[j].1.1.1:=by rw [HW.out,wayA_step _ (by omega) (by omega),yCC hj]
    have c:Hid (way (bks ps) k=pre ++ (j:Int) :: wayA (bks ps) j ps[j].1.1.1):=hw;have d0:((j:Int) == 0)=false:=by simpa using hz
    have q1:(j:Int) < ps.length:=by omega
    obtain ⟨g,off,rfl,hg,hc⟩:=HI (by omega);obtain ⟨fn,r,f,s,hy,hR⟩:=hY pre (j:Int) wr t (pre_lt hw);unfold encW at hy;have c0:=hc j hj;have HN:=hid u;clear hw hc u hz
    gi_wp2
    refine hR.mono ?_;rintro e W3 (⟨rfl,d,i⟩ | ⟨rfl,b⟩)
    ·have o:=kpW_t HN i;have c1:W3.cell? ⟨g,off+j * 7,Aa⟩=Ab (I U ps[j].1.1.1):=by rw [o.1.cell (by exact hg)];exact c0
     have c2:W3.cell? ⟨Bt,0,Aa⟩=Ab (.slice (Ab ⟨g,off,Aa⟩) ps.length cap):=by rw [World.cell?_of_block (w:=W) o.2];exact HB.out
     have y:=hid o;clear o i c0
     gi_wp2
     go_roundw
     case rel=>exact ⟨j,ps[j].1.1.1,pre ++ [(j:Int)],rfl,rfl,by omega,(by rw [c.out];simp:way (bks ps) k=(pre ++ [(j:Int)]) ++ wayA (bks ps) j ps[j].1.1.1),d,y⟩
     case measure=>simp [intOf];omega
    ·gi_wp2
     refine bodyPost_ret (results_none rfl _ _ _) rfl ?_;exact ⟨⟨_,rfl⟩,.inr ⟨_,pre_is c,b⟩⟩
  ·have hw:way (bks ps) k=pre ++ [-1]:=by rw [HW.out,wayA_out _ hx]
   have c:Hid (way (bks ps) k=pre ++ [-1]):=hw;obtain ⟨fn,r,f,s,hy,hR⟩:=hY pre (-1) wr t (by rw [hw];simp);unfold encW at hy;clear hw
   by_cases x0:0<=x
   ·have x1:¬ x < (m:Int):=fun h=>hx ⟨x0,h⟩
    clear hx
    gi_wp2
    refine hR.mono ?_;rintro e W3 (⟨rfl,d,i⟩ | ⟨rfl,b⟩)
    ·gi_wp2
     go_end0
     exact ⟨⟨_,rfl⟩,.inl ⟨_,c.symm,d⟩⟩
    ·gi_wp2
     go_end0
     exact ⟨⟨_,rfl⟩,.inr ⟨_,⟨[],by rw [c.out];simp⟩,b⟩⟩
   ·clear hx
    gi_wp2
    refine hR.mono ?_;rintro e W3 (⟨rfl,d,i⟩ | ⟨rfl,b⟩)
    ·gi_wp2
     go_end0
     exact ⟨⟨_,rfl⟩,.inl ⟨_,c.symm,d⟩⟩
    ·gi_wp2
     go_end0
     exact ⟨⟨_,rfl⟩,.inr ⟨_,⟨[],by rw [c.out];simp⟩,b⟩⟩
theorem way_in (F:Fence) (n:Nat) (hf:F.fn 89) (hro:F.round=none) (a:Option Addr) (len cap:Nat) (k:Int) (w:World) :
  CallsIn F n prog 89 #[.slice a len cap,I U k] w fun e w'=>e=.returned (.func (.func 128) #[] #[.pointer (Ab ⟨w.heap.size,0,Aa⟩),.pointer (Ab ⟨w.heap.size+1,0,Aa⟩)])/\w'=(w.alloc (.cells #[.slice a len cap] 24)).alloc (.cells #[I U k] 3):=by
 refine callsIn_of_wp func89 rfl hf ?_ hro;simp only [ntmps89,List.size_toArray,Aj,List.length_nil,Nat.reduceAdd,Nat.reduceSub,Array.replicate_succ,Array.replicate_zero,List.push_toArray,List.append_toArray,List.nil_append,List.cons_append]
 gi_wp2
 go_ret;exact ⟨by simp,rfl⟩
theorem way_stops (F:Fence) (n:Nat) (hf:F.fn 128) (hro:F.round=none) (hn:1<=n) (Bt Bk n₀ cap:Nat) (a:Option Addr) (ps:TL) (k:Int) (hlen:(ps.length:Int)<=1048576) (w:World) (hBt:Bt < w.heap.size) (hBk:Bk < w.heap.size) (hn₀:n₀<=w.heap.size)
  (hc:w.cell? ⟨Bt,0,Aa⟩=Ab (.slice a ps.length cap)) (hk:w.cell? ⟨Bk,0,Aa⟩=Ab (I U k)) (hI:0 < ps.length->∃ g off,a=Ab ⟨g,off,Aa⟩/\g < n₀/\∀ j (_:j < ps.length),w.cell? ⟨g,off+j * 7,Aa⟩=Ab (I U ps[j].1.1.1)) :
  SeqStopsK F n prog 128 #[.pointer (Ab ⟨Bt,0,Aa⟩),.pointer (Ab ⟨Bk,0,Aa⟩)] encW (KpW n₀ Bt) (fun ys=>ys=way (bks ps) k) (fun pre=>pre <+: way (bks ps) k) (way (bks ps) k).length w:=fun l J Jx W hW _ _ hY h0=>
 way1_in F n hf hro hn l Bt Bk n₀ cap a ps k hlen J Jx hY W ((hW.cell (p:=⟨Bt,0,Aa⟩) hBt).trans hc) ((hW.cell (p:=⟨Bk,0,Aa⟩) hBk).trans hk) (fun h=>by
  obtain ⟨g,off,e,hg,b⟩:=hI h
  exact ⟨g,off,e,hg,fun j hj=>((hW.mono hn₀).cell (p:=⟨g,off+j * 7,Aa⟩) hg).trans (b j hj)⟩) h0
attribute [local go_sem] Oper.semAt_some
theorem four_box (w:World) (t0 t1 t2 t3:TypeId) (v0 v1 v2 v3:Value) (W:World) (hW:W=(((w.alloc (.cells #[v0] t0)).alloc (.cells #[v1] t1)).alloc (.cells #[v2] t2)).alloc (.cells #[v3] t3)) :
  (Boxed W w.heap.size t0 v0/\Boxed W (w.heap.size+1) t1 v1/\Boxed W (w.heap.size+1+1) t2 v2/\Boxed W (w.heap.size+1+1+1) t3 v3)/\W.heap.size=w.heap.size+4/\Be w W:=by
 have b1:=Boxed.new (w.alloc (.cells #[v0] t0)) t1 v1;have b2:=Boxed.new ((w.alloc (.cells #[v0] t0)).alloc (.cells #[v1] t1)) t2 v2;have b3:=Boxed.new (((w.alloc (.cells #[v0] t0)).alloc (.cells #[v1] t1)).alloc (.cells #[v2] t2)) t3 v3;simp only [World.size_alloc] at b1 b2 b3;subst hW;exact ⟨⟨(((Boxed.new w t0 v0).alloc _).alloc _).alloc _,(b1.alloc _).alloc _,b2.alloc _,b3⟩,by simp,ba (ba (ba (ba (br _ _) _) _) _) _⟩
theorem five_box (w:World) (t0 t1 t2 t3 t4:TypeId) (v0 v1 v2 v3 v4:Value) (W:World) (hW:W=((((w.alloc (.cells #[v0] t0)).alloc (.cells #[v1] t1)).alloc (.cells #[v2] t2)).alloc (.cells #[v3] t3)).alloc (.cells #[v4] t4)) :
  (Boxed W w.heap.size t0 v0/\Boxed W (w.heap.size+1) t1 v1/\Boxed W (w.heap.size+1+1) t2 v2/\Boxed W (w.heap.size+1+1+1) t3 v3/\Boxed W (w.heap.size+1+1+1+1) t4 v4)/\W.heap.size=w.heap.size+5/\Be w W:=by
 obtain ⟨⟨b0,b1,b2,b3⟩,hs,hb⟩:=four_box w t0 t1 t2 t3 v0 v1 v2 v3 _ rfl;have b4:=Boxed.new ((((w.alloc (.cells #[v0] t0)).alloc (.cells #[v1] t1)).alloc (.cells #[v2] t2)).alloc (.cells #[v3] t3)) t4 v4;rw [hs] at b4;subst hW;exact ⟨⟨b0.alloc _,b1.alloc _,b2.alloc _,b3.alloc _,b4⟩,by rw [World.size_alloc,hs],ba hb _⟩
theorem kpW_set (n₀ Bs B:Nat) (W:World) (v:Value) (hB:n₀<=B) (hne:Bs < W.heap.size) (hn:Bs ≠ B):KpW n₀ Bs W (W.setCell ⟨B,0,Aa⟩ v):=
 ⟨(Below.refl n₀ W).setCell (p:=⟨B,0,Aa⟩) hB _,(grownBy_setCell' W B v).block Bs hne (fun e=>hn (by cases e;rfl))⟩
def metB (under:Int) (pre:List Int):Bool:=pre.any fun x=>decide (x=under)
theorem metB_hit (h:metB under pre=true) (x:Int):metB under (pre ++ [x])=true:=by unfold metB at h ⊢;rw [List.any_append,h];rfl
theorem metB_at (under:Int) (pre:List Int):metB under (pre ++ [under])=true:=by unfold metB;simp
theorem metB_miss (h:metB under pre=false) (hx:x ≠ under):metB under (pre ++ [x])=false:=by unfold metB at h ⊢;rw [List.any_append,h];simpa using hx
theorem extends_i (ps:TL) (v:Value) (k under:Int) (w:World) (hT:jB w v ps) (hl:(ps.length:Int)<=1048576) :
  Calls prog 54 #[v,I U k,I U under] w fun e w'=>e=.returned (.bool (yBI (bks ps) k under))/\Be w w':=by
 obtain ⟨a,cap,rfl,hr⟩:=zAI hT
 have HR:Hid (0 < ps.length->∃ g d,a=Ab ⟨g,d,Aa⟩/\g < w.heap.size/\∀ j (_:j < ps.length),w.cell? ⟨g,d+j * 7,Aa⟩=Ab (I U ps[j].1.1.1)):=fun h=>by
  obtain ⟨g,d,e,hg,hc⟩:=hr h;exact ⟨g,d,e,hg,fun j hj=>(hc j hj).1⟩
 clear hr hT;refine (callsIn_wide (n:=9)).1 ?_;refine callsIn_of_wp_marks func54 rfl trivial ?_ rfl;simp only [ntmps54,List.size_toArray,Aj,List.length_nil,Nat.reduceAdd,Nat.reduceSub,Array.replicate_succ,Array.replicate_zero,List.push_toArray,List.append_toArray,List.nil_append,List.cons_append]
 gi_wp2_with (refine ⟨trivial,?_⟩;gi_at_call 89;refine (way_in Fence.wide _ trivial rfl _ _ _ _ _).mono ?_;rintro e w3 ⟨rfl,rfl⟩)
 obtain ⟨W0,f⟩:=nw (((((w.alloc (Ae #[I U under] 3)).alloc (Ae #[Value.bool false] 4)).alloc (Ae #[Value.bool false] 4)).alloc (Ae #[Af a (List.length ps) cap] 24)).alloc (Ae #[I U k] 3));obtain ⟨⟨bU,bR,bM,bT,bK⟩,ab,t⟩:=five_box w _ _ _ _ _ _ _ _ _ _ W0 f;rw [<- f];clear f
 refine wpIn_rangeFunc_ownF rfl (by omega) (gf:=128) (lb:=#[.pointer (Ab ⟨w.heap.size+1+1+1,0,Aa⟩),.pointer (Ab ⟨w.heap.size+1+1+1+1,0,Aa⟩)]) rfl trivial (enters_of func128 (by kernel_rfl) rfl)
  (way_stops Fence.wide 8 trivial rfl (by omega) (w.heap.size+1+1+1) (w.heap.size+1+1+1+1) w.heap.size cap a ps k hl W0 bT.lt bK.lt (by omega) bT.cell bK.cell (fun h=>by
   obtain ⟨g,d,e,hg,hc⟩:=HR h
   exact ⟨g,d,e,hg,fun j hj=>(t.cell (by exact hg)).trans (hc j hj)⟩)) kpW_t (kpW_b (by omega) bT.lt) (br _ _) (fun _=>rfl)
  (fun b W=>((((Boxed W (w.heap.size+1) 4 (.bool false)/\Boxed W (w.heap.size+1+1) 4 (.bool (metB under b)))/\Boxed W w.heap.size 3 (I U under))/\Boxed W (w.heap.size+1+1+1) 24 (.slice a ps.length cap))/\(∀ y∈b,y ≠ -1))/\Be w W)
  (fun c b W=>(Boxed W (w.heap.size+1) 4 (.bool false)/\(c=.ret/\(-1:Int)∈b))/\Be w W)
  (OwnFrom.and (OwnFrom.and (OwnFrom.and (OwnFrom.and (OwnFrom.and (Own.from (boxed_own _ _ _) _) (Own.from (boxed_own (w.heap.size+1+1) 4 (fun b:List Int=>.bool (metB under b))) _)) (Own.from (boxed_own _ _ _) _)) (Own.from (boxed_own _ _ _) _)) (ownFrom_pure _ _)) (ownFrom_below (nl _) (by omega)))
  (fun c=>OwnFrom.and (OwnFrom.and (Own.from (boxed_own _ _ _) _) (ownFrom_pure _ _)) (ownFrom_below (nl _) (by omega)))
  ⟨⟨⟨⟨⟨bR,bM⟩,bU⟩,bT⟩,by simp⟩,t⟩
  (fun x=>{ tmps:=#[Af a (List.length ps) cap,I U k,I U under,undef,undef,Ai (Ab ⟨w.heap.size,0,Aa⟩),Ai (Ab ⟨w.heap.size+1,0,Aa⟩),Ai (Ab ⟨w.heap.size+1+1,0,Aa⟩),I U x,Af a (List.length ps) cap,I U k,.func (.func 128) #[] #[.pointer (Ab ⟨w.heap.size+1+1+1,0,Aa⟩),.pointer (Ab ⟨w.heap.size+1+1+1+1,0,Aa⟩)],I U x,undef,undef,undef,undef,undef,undef,undef,undef,undef],defers:=[] })
  ?assign ?body ?done ?stop
 case assign=>
  intro l x W K hK;unfold encW
  gi_wp2
  exact hK
 case body=>
  rintro l b x W ⟨⟨⟨⟨⟨cR,cM⟩,cU⟩,cT⟩,hp⟩,hB⟩ aa;have x1:=cR.cell;have x2:=cR.frozen;have x3:=cM.cell;have x4:=cM.frozen;have x5:=cU.cell
  by_cases hx:x=-1
  ·subst hx
   gi_wp2
   exact ⟨KeepsOthers.setCell _ _ _,⟨cR.set _,rfl,by simp⟩,hB.setCell (p:=⟨w.heap.size+1,0,Aa⟩) (by simp) _⟩
  ·have d0:(x == -1)=false:=by simpa using hx
   have z:∀ y∈b ++ [x],y ≠ -1:=fun y hy=>(List.mem_append.1 hy).elim (hp y) (fun e=>by simp at e;subst e;exact hx)
   have m:=hid z;clear hp z hx
   cases hm:metB under b with
   | true=>
    have HM:Hid (metB under (b ++ [x])=true):=metB_hit hm x;rw [hm] at x3;clear hm
    gi_wp2
    exact ⟨KeepsOthers.setCell _ _ _,kpW_set _ _ (w.heap.size+1+1) _ _ (by omega) cT.lt (by omega),⟨⟨⟨⟨cR.other (by omega) _,by rw [HM.out];exact cM.set _⟩,cU.other (by omega) _⟩,cT.other (by omega) _⟩,m⟩,hB.setCell (p:=⟨w.heap.size+1+1,0,Aa⟩) (by simp;omega) _⟩
   | false=>
    rw [hm] at x3
    by_cases hu:x=under
    ·subst hu;have HM:Hid (metB x (b ++ [x])=true):=metB_at x b;have d1:(x == x)=true:=by simp
     clear hm
     gi_wp2
     exact ⟨KeepsOthers.setCell _ _ _,kpW_set _ _ (w.heap.size+1+1) _ _ (by omega) cT.lt (by omega),⟨⟨⟨⟨cR.other (by omega) _,by rw [HM.out];exact cM.set _⟩,cU.other (by omega) _⟩,cT.other (by omega) _⟩,m⟩,hB.setCell (p:=⟨w.heap.size+1+1,0,Aa⟩) (by simp;omega) _⟩
    ·have HM:Hid (metB under (b ++ [x])=false):=metB_miss hm hu;have d1:(x == under)=false:=by simpa using hu
     clear hm hu
     gi_wp2
     exact ⟨KeepsOthers.setCell _ _ _,kpW_set _ _ (w.heap.size+1+1) _ _ (by omega) cT.lt (by omega),⟨⟨⟨⟨cR.other (by omega) _,by rw [HM.out];exact cM.set _⟩,cU.other (by omega) _⟩,cT.other (by omega) _⟩,m⟩,hB.setCell (p:=⟨w.heap.size+1+1,0,Aa⟩) (by simp;omega) _⟩
 case done=>
  rintro D ys W hD rfl ⟨⟨⟨⟨⟨cR,cM⟩,cU⟩,cT⟩,hp⟩,hB⟩ hK;obtain ⟨lx,u⟩:=way_all hp;have HE:Hid (yBI (bks ps) k under=metB under (way (bks ps) k)):=hid (by rw [extT_some u,way_some u,extL_way];rfl);have x1:=cR.cell;have x2:=cR.frozen;have x3:=cM.cell
  gi_wp2
  have o:=(KeepsOthers.setCell W ⟨w.heap.size+1,0,Aa⟩ (.bool (metB under (way (bks ps) k)))).same D _ hK rfl;refine ⟨by simp,.inl ⟨_,_,rfl,run_takeDeferred o,?_⟩⟩;have i:=cell_kept (cR.set (.bool (metB under (way (bks ps) k)))).cell (grownBy_putObj' _ D (.deferred none)) (fun r e=>by cases e;exact ⟨_,o,rfl⟩);refine ⟨.bool (metB under (way (bks ps) k)),?_,by rw [HE.out],(hB.setCell (p:=⟨w.heap.size+1,0,Aa⟩) (by simp) _).trans (belowK_b (w:=w) (nl _) _ D _ _ (by omega) o rfl rfl)⟩;simp [results,results54,go_sem,i]
 case stop=>
  rintro D c b W hD s ⟨⟨cR,rfl,hm⟩,hB⟩ hK;have HE:Hid (yBI (bks ps) k under=false):=extT_none (way_bad s hm)
  gi_wp2
  refine ⟨by simp,.inl ⟨_,_,rfl,run_takeDeferred hK,?_⟩⟩;have i:=cell_kept cR.cell (grownBy_putObj' _ D (.deferred none)) (fun r e=>by cases e;exact ⟨_,hK,rfl⟩);refine ⟨.bool false,?_,by rw [HE.out],hB.trans (belowK_b (w:=w) (nl _) W D _ _ (by omega) hK rfl rfl)⟩;simp [results,results54,go_sem,i]
def RevTo (xs ys:List Int) (i:Nat):Prop:=ys.length=xs.length/\∀ p (h:p < xs.length) (h':p < ys.length),ys[p]=if p < i∨xs.length<=p+i then xs[xs.length - 1 - p]'(by omega) else xs[p]
theorem revTo_zero (xs:List Int):RevTo xs xs 0:=⟨rfl,fun p h h'=>by rw [if_neg (by omega)]⟩
theorem revTo_step {j:Nat} (h:RevTo xs ys i) (hij:i < j) (hj:j+i+1=xs.length) (a b:Int) (ha:∀ h':i < ys.length,a=ys[i]) (hb:∀ h':j < ys.length,b=ys[j]):RevTo xs ((ys.set i b).set j a) (i+1):=by
 obtain ⟨hl,hp⟩:=h;refine ⟨by simp [hl],fun p c e=>?_⟩;have d:p < ys.length:=by omega
 rw [List.getElem_set,List.getElem_set]
 by_cases e1:j=p
 ·subst e1;rw [if_pos rfl,if_pos (by omega),ha (by omega),hp i (by omega) (by omega),if_neg (by omega)]
  congr 1;omega
 ·rw [if_neg e1]
  by_cases e2:i=p
  ·subst e2;rw [if_pos rfl,if_pos (by omega),hb (by omega),hp j (by omega) (by omega),if_neg (by omega)]
   congr 1;omega
  ·rw [if_neg e2,hp p c d]
   by_cases e3:p < i∨xs.length<=p+i
   ·rw [if_pos e3,if_pos (by omega)]
   ·rw [if_neg e3,if_neg (by omega)]
theorem revTo_all (h:RevTo xs ys i) (hi:xs.length<=2 * i+1):ys=xs.reverse:=by
 obtain ⟨hl,hp⟩:=h;refine List.ext_getElem (by simp [hl]) fun p h1 h2=>?_
 rw [List.getElem_reverse,hp p (by omega) h1]
 by_cases e:p < i∨xs.length<=p+i
 ·rw [if_pos e]
 ·rw [if_neg e];congr 1;omega
theorem flatI_set (ys:List Int) (i:Nat) (x:Int):zE xJ (ys.set i x)=(zE xJ ys).set i (I U x):=by rw [flat_int,flat_int,List.map_set]
theorem flatI_at (h:i < ys.length):(zE xJ ys)[i]?=Ab (I U ys[i]):=by rw [flat_int,List.getElem?_map,Ad h];rfl
theorem reverse_i (xs:List Int) (v:Value) (base:Nat) (w:World) (h:w.ownsRow base 3 1 v xs.length (zE xJ xs)) (hl:(xs.length:Int)<=1048576) :
  Calls prog 90 #[v] w fun e w'=>e=.returned (.tuple #[])/\w'.ownsRow base 3 1 v xs.length (zE xJ xs.reverse)/\w.grownBy w' v.ownBlock:=by
 obtain ⟨a,cap,rfl,hg⟩:=yL h;have HG:Hid (0 < xs.length->∃ g,a=Ab ⟨g,0,Aa⟩):=hg;have HO:=hid h;clear hg h;go_enter func90,ntmps90;go_wp2
 go_loopw [2,3] (fun p q wr=>∃ (i:Nat) (ys:List Int),i<=xs.length/\p=I U (i:Int)/\q=I U ((xs.length:Int) - 1 - (i:Int))/\Hid (RevTo xs ys i)/\Hid (wr.ownsRow base 3 1 (.slice a xs.length cap) xs.length (zE xJ ys))/\Hid (w.grownBy wr (Af a xs.length cap).ownBlock)) (fun p _ _=>xs.length - (intOf p).toNat)
 case atStart=>exact ⟨0,xs,Nat.zero_le _,rfl,by simp,revTo_zero xs,HO,⟨rfl,rfl,rfl,nl _,fun _ _ _=>rfl⟩⟩
 case round=>
  obtain ⟨i,ys,hi,rfl,rfl,HR,b,c⟩:=hrel
  by_cases hlt:(i:Int) < (xs.length:Int) - 1 - (i:Int)
  ·obtain ⟨j,hj⟩:∃ j:Nat,(xs.length:Int) - 1 - (i:Int)=(j:Int):=⟨xs.length - 1 - i,by omega⟩;rw [hj] at hlt ⊢;have k:ys.length=xs.length:=HR.1;have HJ:Hid (j+i+1=xs.length):=hid (by omega);obtain ⟨g,rfl⟩:=HG (by omega);have q0:(0:Int)<=(i:Int):=by omega
   have q1:(i:Int) < xs.length:=by omega
   have q2:(0:Int)<=(j:Int):=by omega
   have q3:(j:Int) < xs.length:=by omega
   have f:i < ys.length:=by omega
   have d:j < ys.length:=by omega
   obtain ⟨c0,f0⟩:=zDG b i (by omega);obtain ⟨c1,f1⟩:=zDG b j (by omega);rw [flatI_at f] at c0;rw [flatI_at d] at c1;have l:i ≠ j:=by omega
   clear hj k;have m:prog.follows .mixedOrders=true:=by kernel_rfl
   go_wp2_with fail
   go_region_o
   go_wp2
   go_roundw
   case rel=>
    have s0:=b.stored i (I U ys[j]);have s1:=s0.1.stored j (I U ys[i]);have hj:=HJ.out;refine ⟨i+1,(ys.set i ys[j]).set j ys[i],by omega,by go_num,?_,revTo_step HR (by omega) HJ _ _ (fun _=>rfl) (fun _=>rfl),?_,?_⟩
    ·congr 1;omega
    ·rw [flatI_set,flatI_set];exact s1.1
    ·have g1:=zP c (zP s0.2 s1.2);exact ⟨g1.os,g1.tape,g1.output,g1.size,g1.block⟩
   case measure=>simp [intOf];omega
  ·go_wp2
   go_end0
   have h1:=revTo_all HR (by omega);exact ⟨rfl,by rw [<- h1];exact b.out,c⟩
attribute [local go_sem] Oper.semAt_some
theorem after_is {ini:List Int} (he:yBI t k under=true) (h:ini ++ [under] <+: way t k):kB t k under=ini.reverse:=by
 cases hd:qH t k with
 | none=>rw [extT_none hd] at he;cases he
 | some l=>
  obtain ⟨c,hr⟩:=h;obtain ⟨d,b⟩:=down_falls hd;have hw:=way_some hd;rw [<- hw,<- hr] at b
  have hu:0<=under:=by
   have hm:under∈way t k:=by rw [<- hr];simp
   rw [hw] at hm
   rcases List.mem_append.1 hm with h1 | h1
   ·exact intsN_ne h1
   ·simp at h1;omega
  have e1:(way t k).filter (fun x=>decide (under < x))=(qG l).filter (fun x=>decide (under < x)):=by
   rw [hw,List.filter_append];have:¬ under < 0:=by omega
   simp [this]
  rw [Ah,List.singleton_append] at b;obtain ⟨_,h2,h3⟩:=List.pairwise_append.1 b;have h4:=(List.pairwise_cons.1 h2).1
  have e2:(way t k).filter (fun x=>decide (under < x))=ini:=by
   rw [<- hr,Ah,List.singleton_append,List.filter_append,List.filter_cons]
   have h5:ini.filter (fun x=>decide (under < x))=ini:=List.filter_eq_self.2 fun a ha=>by
    have:=h3 a ha under (by simp)
    simpa using this
   have h6:c.filter (fun x=>decide (under < x))=[]:=List.filter_eq_nil_iff.2 fun a ha=>by
    have:=h4 a ha;simp;omega
   rw [h5,h6];simp
  unfold kB;rw [if_pos he,zJF hd,show qG l.reverse=(qG l).reverse by simp [qG],List.filter_reverse,<- e1,e2]
theorem after_met (he:yBI t k under=true) (h:∀ y∈way t k,y ≠ under):False:=by
 cases hd:qH t k with
 | none=>rw [extT_none hd] at he;cases he
 | some l=>
  rw [extT_some hd,extL_way,<- way_some hd] at he;obtain ⟨y,hy,a⟩:=List.any_eq_true.1 he;exact h y hy (by simpa using a)
theorem own_not_def {w:World} {base m n D:Nat} {e:TypeId} {v:Value} {xs:List Value} {o:Obj} (h:w.ownsRow base e m v n xs) (hD:w.heap[D]?=some o) (ho:o.isCells=false):some D ≠ v.ownBlock:=by
 rcases h.2 with ⟨rfl,_⟩ | ⟨g,cap,b,rfl,_,a,_⟩
 ·simp [Ag]
 ·intro e';obtain rfl:D=g:=by simpa [Ag] using e'
  rw [a] at hD;cases hD;cases ho
theorem rowAfter_i (ps:TL) (v:Value) (k under:Int) (w:World) (hT:jB w v ps) (hl:(ps.length:Int)<=1048576) :
  Calls prog 51 #[v,I U k,I U under] w fun e w'=>∃ v',e=.returned v'/\w'.ownsRow w.heap.size 3 1 v' (kB (bks ps) k under).length (zE xJ (kB (bks ps) k under))/\Be w w':=by
 have HT:=hid hT;obtain ⟨a,cap,rfl,hr⟩:=zAI hT
 have HR:Hid (0 < ps.length->∃ g m,a=Ab ⟨g,m,Aa⟩/\g < w.heap.size/\∀ j (_:j < ps.length),w.cell? ⟨g,m+j * 7,Aa⟩=Ab (I U ps[j].1.1.1)):=fun h=>by
  obtain ⟨g,m,e,hg,hc⟩:=hr h;exact ⟨g,m,e,hg,fun j hj=>(hc j hj).1⟩
 have al:=way_len (bks ps) k;rw [yO] at al;obtain ⟨i0,hi,ak,am,ao⟩:=info_parts infoInt1;clear hr hT;have s:Hid (Be w (w.alloc (.cells #[I U under] 3))):=ba (br _ _) _;refine (callsIn_wide (n:=9)).1 ?_;refine callsIn_of_wp_marks func51 rfl trivial ?_ rfl;simp only [ntmps51,List.size_toArray,Aj,List.length_nil,Nat.reduceAdd,Nat.reduceSub,Array.replicate_succ,Array.replicate_zero,List.push_toArray,List.append_toArray,List.nil_append,List.cons_append]
 cases he:yBI (bks ps) k under with
 | false=>
  have HF:Hid (kB (bks ps) k under=[]):=hid (by unfold kB;rw [he];rfl)
  gi_wp2_with (refine ⟨trivial,?_⟩;gi_at_call 54;refine (callsIn_wide.2 (extends_i ps _ k under _ (HT.below s) hl)).mono ?_;rintro e w1 ⟨rfl,o⟩;rw [he])
  exact ⟨_,results_tmp rfl _ _ _,_,rfl,by rw [HF.out];exact World.ownsRow_nil _ _ _ _,bt s o⟩
 | true=>
  have HE:Hid (yBI (bks ps) k under=true):=he
  gi_wp2_with (first
   | (refine ⟨trivial,?_⟩;gi_at_call 54;refine (callsIn_wide.2 (extends_i ps _ k under _ (HT.below s) hl)).mono ?_;rintro e w1 ⟨rfl,o⟩;rw [he])
   | (refine ⟨trivial,?_⟩;gi_at_call 89;refine (way_in Fence.wide _ trivial rfl _ _ _ _ _).mono ?_;rintro e w3 ⟨rfl,rfl⟩))
  clear he;have ai:Boxed w1 w.heap.size 3 (I U under):=(o.block w.heap.size (by simp)).trans (Boxed.new w 3 (I U under));have av:Be w w1:=bt s o;have ar:=o.size;rw [World.size_alloc] at ar;obtain ⟨W0,i⟩:=nw (((w1.alloc (Ae #[Af none 0 0] 29)).alloc (Ae #[Af a (List.length ps) cap] 24)).alloc (Ae #[I U k] 3));have bO:Boxed W0 w1.heap.size 29 (.slice none 0 0):=by rw [i];exact ((Boxed.new w1 _ _).alloc _).alloc _
  have bU:Boxed W0 w.heap.size 3 (I U under):=by rw [i];exact ((ai.alloc _).alloc _).alloc _
  have bT:Boxed W0 (w1.heap.size+1) 24 (.slice a ps.length cap):=by
   rw [i];have:=(Boxed.new (w1.alloc (Ae #[Af none 0 0] 29)) 24 (.slice a ps.length cap)).alloc (Ae #[I U k] 3);rw [World.size_alloc] at this;exact this
  have bK:Boxed W0 (w1.heap.size+1+1) 3 (I U k):=by
   rw [i];have:=Boxed.new ((w1.alloc (Ae #[Af none 0 0] 29)).alloc (Ae #[Af a (List.length ps) cap] 24)) 3 (I U k);rw [World.size_alloc,World.size_alloc] at this;exact this
  have a1:W0.heap.size=w1.heap.size+3:=by rw [i];simp
  have ad:Be w W0:=by rw [i];exact ba (ba (ba av _) _) _
  rw [<- i];clear i o ai
  refine wpIn_rangeFunc_ownG rfl (by omega) (gf:=128) (lb:=#[.pointer (Ab ⟨w1.heap.size+1,0,Aa⟩),.pointer (Ab ⟨w1.heap.size+1+1,0,Aa⟩)]) rfl trivial (enters_of func128 (by kernel_rfl) rfl)
   (way_stops Fence.wide 8 trivial rfl (by omega) (w1.heap.size+1) (w1.heap.size+1+1) w.heap.size cap a ps k hl W0 bT.lt bK.lt (by omega) bT.cell bK.cell (fun h=>by
    obtain ⟨g,m,e,hg,hc⟩:=HR h
    exact ⟨g,m,e,hg,fun j hj=>(ad.cell (by exact hg)).trans (hc j hj)⟩)) kpW_t (kpW_b (by omega) bT.lt) (br _ _) (fun _=>rfl)
   (fun b W=>((((∃ u,Boxed W w1.heap.size 29 u/\W.ownsRow w1.heap.size 3 1 u b.length (b.map (Value.int U))/\True)/\Boxed W w.heap.size 3 (I U under))/\Boxed W (w1.heap.size+1) 24 (.slice a ps.length cap))/\(∀ y∈b,y ≠ under))/\Be w W)
   (fun c b W=>(((∃ u,Boxed W w1.heap.size 29 u/\W.ownsRow w1.heap.size 3 1 u (b.length - 1) ((b.take (b.length - 1)).map (Value.int U))/\True))/\(c=.exit 0/\∃ f,b=f ++ [under]))/\Be w W)
   (OwnFrom.and (OwnFrom.and (OwnFrom.and (OwnFrom.and (Own.from (holdsRow_own w1.heap.size w1.heap.size 29 3 1 (fun b:List Int=>b.length) (fun b=>b.map (Value.int U)) (fun _ _=>True)) _) (Own.from (boxed_own _ _ _) _)) (Own.from (boxed_own _ _ _) _)) (ownFrom_pure _ _)) (ownFrom_below (nl _) (by omega)))
   (fun c=>OwnFrom.and (OwnFrom.and (Own.from (holdsRow_own w1.heap.size w1.heap.size 29 3 1 (fun b:List Int=>b.length - 1) (fun b=>(b.take (b.length - 1)).map (Value.int U)) (fun _ _=>True)) _) (ownFrom_pure _ _)) (ownFrom_below (nl _) (by omega)))
   ⟨⟨⟨⟨⟨_,bO,World.ownsRow_nil _ _ _ _,trivial⟩,bU⟩,bT⟩,by simp⟩,ad⟩
   (fun x=>{ tmps:=#[Af a (List.length ps) cap,I U k,I U under,undef,undef,Ai (Ab ⟨w.heap.size,0,Aa⟩),.slice none 0 0,Ai (Ab ⟨w1.heap.size,0,Aa⟩),I U x,Af a (List.length ps) cap,I U k,I U under,.bool true,.bool false,Af a (List.length ps) cap,I U k,.func (.func 128) #[] #[.pointer (Ab ⟨w1.heap.size+1,0,Aa⟩),.pointer (Ab ⟨w1.heap.size+1+1,0,Aa⟩)],I U x,undef,undef,undef,undef,undef,undef,undef,undef,undef,undef],defers:=[] })
   ?assign ?body ?done ?stop
  case assign=>
   intro l x W K hK;unfold encW
   gi_wp2
   exact hK
  case body=>
   rintro l b x W ⟨⟨⟨⟨⟨u,cO,d,_⟩,cU⟩,cT⟩,hp⟩,hB⟩ a3;have x1:=cO.cell;have x2:=cU.cell;have az:b.length<=1048577:=by omega
   by_cases hx:x=under
   ·subst hx;have d0:(x == x)=true:=by simp
    gi_wp2
    exact ⟨KeepsFrom.refl _ _,⟨⟨u,cO,by simpa using d,trivial⟩,rfl,b,rfl⟩,hB⟩
   ·have d0:(x == under)=false:=by simpa using hx
    have an:Hid (∀ y∈b ++ [x],y ≠ under):=fun y hy=>(List.mem_append.1 hy).elim (hp y) (fun e=>by simp at e;subst e;exact hx)
    clear hp hx
    gi_wp2_with (gi_at_builtin;refine wpListIn_append_own _ rfl _ _ 29 rfl w1.heap.size 3 i0 (I U 0) 1 8 underlying29 hi ak am ao rfl (by decide) _ _ _ rfl (d.alloc _) ⟨W.heap.size,0,Aa⟩ 1 1 [I U x] rfl rfl (cell_one_new _ _ _) (by simp [Value.oneCell']) (by unfold maxLen;omega) (by omega) (by have:=cO.lt;simp;omega) ?_;intro v' aj p r _;obtain ⟨g',ay,rfl⟩:=ownsRow_succ p;obtain ⟨ah,ax,au,aq,af⟩:=cO.appended (by decide) d (Nat.le_of_lt cO.lt) (nl _) p r;have a2:=ah.cell;have a0:=ah.frozen)
    have ag:Boxed aj (w1.heap.size+1) 24 (.slice a ps.length cap):=(cT.alloc _).kept r (cT.not_row (by decide) d);have ae:=af.mono (show w.heap.size<=w1.heap.size by omega);exact ⟨aq.from _,⟨ae,(ag.other (by omega) _).trans cT.symm⟩,⟨⟨⟨⟨_,ax,by simpa using au,trivial⟩,(af.block w.heap.size (by omega)).trans cU⟩,ag.other (by omega) _⟩,an⟩,hB.trans ae⟩
  case done=>
   rintro D ys W hD rfl ⟨⟨⟨⟨_,_⟩,_⟩,hp⟩,_⟩ hK;exact (after_met HE hp).elim
  case stop=>
   rintro D c b W hD t ⟨⟨⟨u,cO,d,_⟩,rfl,f,rfl⟩,hB⟩ hK;have HA:Hid (kB (bks ps) k under=f.reverse):=after_is HE t;have z:W.ownsRow w1.heap.size 3 1 u f.length (zE xJ f):=by rw [flat_int];simpa using d
   have HO:Hid (W.ownsRow w1.heap.size 3 1 u f.length (zE xJ f)):=z
   have aw:(f.length:Int)<=1048576:=by
    have h1:=t.length_le;rw [List.length_append] at h1;simp at h1;omega
   have x1:=cO.cell
   gi_wp2_with (refine ⟨trivial,?_⟩;gi_at_call 90;refine (callsIn_wide.2 (reverse_i f u w1.heap.size W HO aw)).mono ?_;rintro e w4 ⟨rfl,ac,aa⟩;have ap:Boxed w4 w1.heap.size 29 u:=cO.kept aa (cO.not_row (by decide) HO);have x4:=ap.cell)
   have ab:w4.heap[D]?=Ab (.deferred (some [])):=(aa.block D (gl hK) (own_not_def HO hK rfl)).trans hK;refine ⟨by simp,.inl ⟨_,_,rfl,run_takeDeferred ab,?_⟩⟩;refine ⟨_,results_tmp rfl _ _ _,u,rfl,?_,?_⟩
   ·rw [HA.out,List.length_reverse];exact zN (ownsRow_putObj ac _ ab rfl) (by omega)
   ·exact (hB.grown aa hB.size (fun y hy=>by have:=(HO.lt y hy).1;omega)).trans (belowK_b (w:=w) (nl _) w4 D _ _ (by omega) ab rfl rfl)
open Go.Maps
theorem code_put {c:CM} (h:kS cs=true) (h2:zAF c=true) (h3:¬ (c.1 ≠ 1/\zBB cs c.2.1=false)):jL cs c=putCode cs c.2.1 (zEI cs c):=by
 unfold jL putCode;rw [h,h2,if_neg (by decide),if_neg h3]
theorem rest_put {c:CM} (h:kS cs=true) (h2:zAF c=true) (h3:¬ (c.1 ≠ 1/\zBB cs c.2.1=false)):yAA cs c=putRest cs c.2.1 (zEI cs c):=by
 unfold yAA putRest;rw [code_put h h2 h3]
theorem do_i (cs:CL) (b:Nat) (c:CM) (w:World) (hm:MapIs w b cs) (hcb:kS cs=true) (hk:(c.2.1.size:Int)<=1048576) :
  Calls prog 95 #[.map (some b),cmdV c] w fun e w'=>e=.returned (I U (jL cs c))/\MapIs w' b (yAA cs c)/\w.grownBy w' (some b):=by
 obtain ⟨kd,a,num⟩:=c;have HM:=hid hm;obtain ⟨v,hA,p⟩:=zFG.1 hcb;have HA:=hid hA;have HL:Hid (∀ c∈cs,zIJ c.1=true/\zEH c.2=true):=v;clear hm v hA;unfold cmdV;go_enter func95,ntmps95;go_wp2_with fail
 refine (cmd_i (kd,a,num) _ hk).mono ?_;rintro e w2 ⟨rfl,l⟩;obtain ⟨w1,g⟩:=nw (w.alloc (Ae #[I U kd,Value.string a,I U num] 139));rw [<- g] at l;have u:w1.heap.size=w.heap.size+1:=by rw [g];simp
 have B1:Be w w1:=by rw [g];exact ba (br _ _) _
 have B2:Be w w2:=bt B1 l;have k0:w2.cell? ⟨w.heap.size,0,Aa⟩=Ab (I U kd):=by rw [l.cell (by simp [u]),g];simp
 have k1:w2.cell? ⟨w.heap.size,1,Aa⟩=Ab (.string a):=by rw [l.cell (by simp [u]),g];simp
 have k2:w2.cell? ⟨w.heap.size,2,Aa⟩=Ab (I U num):=by rw [l.cell (by simp [u]),g];simp
 have k:Hid (MapIs w2 b cs):=HM.below B2;have m:Hid (Be w w2):=B2;clear g l u B1 B2
 cases s:zAF (kd,a,num) with
 | false=>
  have HE:Hid (jL cs (kd,a,num)=2):=code_cmd s;go_wp2;go_ret;exact ⟨jD HE.symm,by rw [zFI (by rw [HE.out];decide)];exact k.out,zGA (qR m)⟩
 | true=>
  obtain ⟨ad,aa,y⟩:=cmdB_bd s;obtain ⟨af,ag⟩:=numB_bd y;simp only at ad aa y af ag;have f:Hid (zAF (kd,a,num)=true):=s;have h:Hid (kS cs=true):=hcb;clear s hcb;have ac:=k.out;obtain ⟨D,hD,n⟩:=ac;have HD:=hid hD;have HK:Hid (keyOf prog 9 (.string a)=Ab (lk a)):=keyS hk;have ab:=hid n;have x:Maps.has D (lk a)=zBB cs a:=n.2.1 a;clear hD n
  by_cases h1:kd=1
  ·subst h1;have HN:Hid (zEI cs (1,a,num)=num):=comes_set rfl;have HE:Hid (jL cs (1,a,num)=putCode cs a num):=by have:=code_put h f (by simp);rw [HN.out] at this;exact this
   have HR:Hid (yAA cs (1,a,num)=putRest cs a num):=by have:=rest_put h f (by simp);rw [HN.out] at this;exact this
   go_wp2_with (first
    | (at_lookup;refine wpList_lookup_own_ok_int _ rfl _ _ 142 rfl 9 3 U keyedS mapT underlying3 (zeroI _) b _ _ rfl HD _ _ rfl HK ?_;intro c d i;clear d i)
    | (go_at_call 133;refine (put_i cs b _ (num) _ k HA p hk).mono ?_;rintro e w3 ⟨rfl,r,o⟩))
   go_ret;exact ⟨jD HE.symm,by rw [HR.out];exact r,zP (zGA (qR m)) o⟩
  ·have ai:(kd == 1)=false:=by simpa using h1
   cases hh:zBB cs a with
   | false=>
    rw [hh] at x;have HE:Hid (jL cs (kd,a,num)=1):=code_none h f h1 hh;go_wp2_with (at_lookup;refine wpList_lookup_own_ok_int _ rfl _ _ 142 rfl 9 3 U keyedS mapT underlying3 (zeroI _) b _ _ rfl HD _ _ rfl HK ?_;intro c d i;clear d i)
    go_ret;exact ⟨jD HE.symm,by rw [zFI (by rw [HE.out];decide)];exact k.out,zGA (qR m)⟩
   | true=>
    rw [hh] at x;obtain ⟨j,hj,_,ae⟩:=cellAt_yes hh;subst ae;have z:Hid (D.atKey (lk cs[j].1) (i64D 0)=i64D cs[j].2):=rep_same ab hj;obtain ⟨ah,aj⟩:=numB_bd (HL cs[j] (List.getElem_mem hj)).2
    by_cases h2:kd=2
    ·subst h2;have HN:Hid (zEI cs (2,cs[j].1,num)=cs[j].2+num):=comes_add HA hj (by decide) (by decide);have HE:Hid (jL cs (2,cs[j].1,num)=putCode cs cs[j].1 (cs[j].2+num)):=by have:=code_put h f (by simp [hh]);rw [HN.out] at this;exact this
     have HR:Hid (yAA cs (2,cs[j].1,num)=putRest cs cs[j].1 (cs[j].2+num)):=by have:=rest_put h f (by simp [hh]);rw [HN.out] at this;exact this
     go_wp2_with (first
      | (at_lookup;refine wpList_lookup_own_ok_int _ rfl _ _ 142 rfl 9 3 U keyedS mapT underlying3 (zeroI _) b _ _ rfl HD _ _ rfl HK ?_;intro c d i;have e:c=cs[j].2:=(by have:=d.symm.trans z;unfold i64D at this;injection this with t;injection t);subst e;clear d i)
      | (go_at_call 133;refine (put_i cs b _ (cs[j].2+num) _ k HA p hk).mono ?_;rintro e w3 ⟨rfl,r,o⟩))
     go_ret;exact ⟨jD HE.symm,by rw [HR.out];exact r,zP (zGA (qR m)) o⟩
    ·obtain rfl:kd=3:=by omega
     have HN:Hid (zEI cs (3,cs[j].1,num)=cs[j].2 - num):=comes_take HA hj;have HE:Hid (jL cs (3,cs[j].1,num)=putCode cs cs[j].1 (cs[j].2 - num)):=by have:=code_put h f (by simp [hh]);rw [HN.out] at this;exact this
     have HR:Hid (yAA cs (3,cs[j].1,num)=putRest cs cs[j].1 (cs[j].2 - num)):=by have:=rest_put h f (by simp [hh]);rw [HN.out] at this;exact this
     go_wp2_with (first
      | (at_lookup;refine wpList_lookup_own_ok_int _ rfl _ _ 142 rfl 9 3 U keyedS mapT underlying3 (zeroI _) b _ _ rfl HD _ _ rfl HK ?_;intro c d i;have e:c=cs[j].2:=(by have:=d.symm.trans z;unfold i64D at this;injection this with t;injection t);subst e;clear d i)
      | (go_at_call 133;refine (put_i cs b _ (cs[j].2 - num) _ k HA p hk).mono ?_;rintro e w3 ⟨rfl,r,o⟩))
     go_ret;exact ⟨jD HE.symm,by rw [HR.out];exact r,zP (zGA (qR m)) o⟩
theorem upToI_step {ys:List Value} {k:Nat} (h:upToR xJ 1 xs ys k) (hk:k < xs.length) (hx:xs[k]?=some x):upToR xJ 1 xs (ys.set k (I U x)) (k+1):=by
 have hl:=h.1;have a:xs[k]=x:=by rw [Ad hk] at hx;exact Ac hx
 refine upToR_step jG h hk (by simp) (fun j hj=>?_) (fun j hj=>?_)
 ·rw [List.getElem?_set_ne (by omega)]
 ·have:j=0:=by omega
  subst this;rw [Nat.mul_one,Nat.add_zero,List.getElem?_set_self (by omega),a];rfl
theorem codes_at {l:List CM} {k:Nat} (h:k < l.length):(zHI cs l)[k]?=Ab (jL (yD cs (l.take k)) l[k]):=by
 induction l generalizing cs k with
 | nil=>simp at h
 | cons c l ih=>
  cases k with
  | zero=>rfl
  | succ k=>
   have:=ih (cs:=yAA cs c) (k:=k) (by simpa using h)
   simpa [zHI,yD] using this
theorem doneAll_i (cs:CL) (l:List CM) (v u:Value) (w:World) (hv:qQ w v cs) (hu:yM w u 3 kL l) (hok:okL cs) (hl:(l.length:Int)<=1048576) (hall:∀ c∈l,(c.2.1.size:Int)<=1048576) :
  Calls prog 55 #[v,u] w fun e w'=>∃ v1 v2,e=.returned (.tuple #[v1,v2])/\w'.ownsRow w.heap.size 92 2 v1 (yD cs l).length (kM (yD cs l))/\w'.ownsRow w.heap.size 3 1 v2 l.length ((zHI cs l).map (Value.int U))/\(v1.ownBlock=none∨v1.ownBlock ≠ v2.ownBlock)/\Be w w':=by
 have HV:=hid hv;have HL:=hid hok;have HA:=hid hall;have h1:=hok.1;have y:=codesC_len cs l;obtain ⟨a,cap,rfl,_⟩:=hv;obtain ⟨b,a5,rfl,hr⟩:=hu;have HR:=hid hr;obtain ⟨i0,hi,av,a1,a2⟩:=info_parts infoInt;clear hall hr hok;go_enter func55,ntmps55;go_wp2_with (at_make;refine wpList_make_full _ rfl _ _ 29 rfl w.heap.size 3 i0 _ 1 underlying29 hi av a1 _ _ _ _ l.length rfl rfl rfl rfl (by rw [a2];omega) (by unfold maxLen;omega) (nl _) ?_;intro w0 o p)
 have B0:Be w w0:=(br _ _).grown p (nl _) (fun k h=>by cases h);have an:Hid (w0.ownsRow w.heap.size 3 1 (.slice (Ab ⟨w.heap.size,0,Aa⟩) l.length l.length) l.length _):=o;have ad:Hid (Be w w0):=B0;have aa:w.heap.size < w0.heap.size:=(o.lt w.heap.size rfl).2;clear o p B0;refine (cellsOk_i cs _ w0 (HV.below ad) HL.1 HL.2).mono ?_;rintro e w1 ⟨rfl,z⟩;have ac:Hid (w1.ownsRow w.heap.size 3 1 (.slice (Ab ⟨w.heap.size,0,Aa⟩) l.length l.length) l.length _):=zS an z;have af:Hid (Be w w1):=bt ad z;have a6:w.heap.size < w1.heap.size:=Nat.lt_of_lt_of_le aa z.size;clear z an ad aa
 cases ag:kS cs with
 | false=>
  obtain ⟨ed,ec⟩:=doneAll_bad ag l;have a4:Hid (yD cs l=cs):=ed;have ax:Hid (zHI cs l=List.replicate l.length 2):=ec;clear ed ec;go_wp2
  go_loopw [19] (fun i wr=>∃ (k:Nat) (ys:List Value),k<=l.length/\i=I U (k:Int)/\Hid (upToR xJ 1 (zHI cs l) ys k)/\wr.ownsRow w.heap.size 3 1 (.slice (Ab ⟨w.heap.size,0,Aa⟩) l.length l.length) l.length ys/\Be w wr) (fun i _=>l.length - (intOf i).toNat)
  case atStart=>exact ⟨0,_,Nat.zero_le _,rfl,upToR_zero (by rw [ac.out.1,y]),ac,af⟩
  case round=>
   obtain ⟨k,ys,hk,rfl,HY,m,f⟩:=hrel;have HO:Hid (wr.ownsRow w.heap.size 3 1 (.slice (Ab ⟨w.heap.size,0,Aa⟩) l.length l.length) l.length ys):=m;have HB:Hid (Be w wr):=f;clear m f
   by_cases hlt:(k:Int) < l.length
   ·have n:k < l.length:=by omega
    have q0:(0:Int)<=(k:Int):=by omega
    have az:=HO.1;obtain ⟨x0,f0⟩:=zDG HO k (by omega);rw [Ad (by omega)] at x0;have R:=HO.stored k (I U 2);have s:Hid ((wr.setCell ⟨w.heap.size,k,Aa⟩ (I U 2)).ownsRow w.heap.size 3 1 (.slice (Ab ⟨w.heap.size,0,Aa⟩) l.length l.length) l.length (ys.set k (I U 2))/\wr.grownBy (wr.setCell ⟨w.heap.size,k,Aa⟩ (I U 2)) (some w.heap.size)):=R;have HX:Hid ((zHI cs l)[k]?=some 2):=hid (by rw [ax.out,List.getElem?_replicate,if_pos n]);clear R;go_wp2
    go_roundw
    case rel=>exact ⟨k+1,_,by omega,by go_num,upToI_step HY (by omega) HX,s.1,HB.grown s.2 HB.size fun x hx=>by cases hx;exact nl _⟩
    case measure=>simp [intOf];omega
   ·have r:k=l.length:=by omega
    have HK:Hid (k=l.length):=r;clear r;go_wp2_with fail
    refine (copy_i cs _ wr (HV.below HB) HL.1 HL.2).mono ?_;rintro e w3 ⟨v3,rfl,d,t⟩;have j:Hid (w3.ownsRow wr.heap.size 92 2 v3 cs.length (kM cs)):=d;have aj:Hid (w3.ownsRow w.heap.size 3 1 (.slice (Ab ⟨w.heap.size,0,Aa⟩) l.length l.length) l.length ys):=zS HO t;clear d;go_wp2
    go_ret2
    refine ⟨v3,_,rfl,by rw [a4.out];exact zN j HB.size,?_,own_ne HO j (nl _),bt HB t⟩;have hy:=HY.out;rw [HK.out,<- y] at hy;have:=aj.out;rw [upToR_all jG hy,flat_int] at this;exact this
 | true=>
  have ai:Hid (kS cs=true):=ag;clear ag;go_wp2_with fail
  refine (accounts_i cs _ w1 (HV.below af) ai HL.2).mono ?_;rintro e w2 ⟨rfl,al,ah⟩;have ay:Hid (MapIs w2 w1.heap.size cs):=al;have aq:Hid (w2.ownsRow w.heap.size 3 1 (.slice (Ab ⟨w.heap.size,0,Aa⟩) l.length l.length) l.length _):=zS ac ah;have ar:Hid (Be w w2):=bt af ah;clear al ah;go_wp2
  go_loopw [33] (fun i wr=>∃ (k:Nat) (ys:List Value),k<=l.length/\i=I U (k:Int)/\Hid (upToR xJ 1 (zHI cs l) ys k)/\wr.ownsRow w.heap.size 3 1 (.slice (Ab ⟨w.heap.size,0,Aa⟩) l.length l.length) l.length ys/\MapIs wr w1.heap.size (yD cs (l.take k))/\Be w wr) (fun i _=>l.length - (intOf i).toNat)
  case atStart=>exact ⟨0,_,Nat.zero_le _,rfl,upToR_zero (by rw [aq.out.1,y]),aq,ay,ar⟩
  case round=>
   obtain ⟨k,ys,hk,rfl,HY,m,ab,f⟩:=hrel;have HO:Hid (wr.ownsRow w.heap.size 3 1 (.slice (Ab ⟨w.heap.size,0,Aa⟩) l.length l.length) l.length ys):=m;have HB:Hid (Be w wr):=f;have HM:Hid (MapIs wr w1.heap.size (yD cs (l.take k))):=ab;have a7:=f.size;clear m f ab
   by_cases hlt:(k:Int) < l.length
   ·have n:k < l.length:=by omega
    have q0:(0:Int)<=(k:Int):=by omega
    obtain ⟨g,ae,rfl,hg,hc⟩:=HR (by omega);have c0:wr.cell? ⟨g,ae+k * 3,Aa⟩=Ab (I U l[k].1):=by rw [HB.out.cell (by exact hg)];exact hc k n 0 (by omega)
    have c1:wr.cell? ⟨g,ae+k * 3+1,Aa⟩=Ab (.string l[k].2.1):=by rw [HB.out.cell (by exact hg)];exact hc k n 1 (by omega)
    have c2:wr.cell? ⟨g,ae+k * 3+2,Aa⟩=Ab (I U l[k].2.2):=by rw [HB.out.cell (by exact hg)];exact hc k n 2 (by omega)
    have HS:Hid (l.take (k+1)=l.take k ++ [l[k]]):=take_snoc n;have HX:Hid ((zHI cs l)[k]?=Ab (jL (yD cs (l.take k)) l[k])):=codes_at n;clear hc;go_wp2_with fail
    refine (do_i (yD cs (l.take k)) w1.heap.size l[k] _ (HM.below (ba (br _ _) _)) (doneAll_ok _ ai) (HA _ (List.getElem_mem n))).mono ?_;rintro e w3 ⟨rfl,am,ak⟩;have au:Hid (MapIs w3 w1.heap.size (yAA (yD cs (l.take k)) l[k])):=am;have j:Hid (w3.ownsRow w.heap.size 3 1 (.slice (Ab ⟨w.heap.size,0,Aa⟩) l.length l.length) l.length ys):=World.ownsRow.kept (World.ownsRow.alloc HO _) ak (Or.inr fun e=>by have e2:w.heap.size=w1.heap.size:=Ac e;omega);have ao:Hid (Be w w3):=(ba HB _).grown ak (by simp;omega) fun x hx=>by cases hx;omega
    clear am ak c0 c1 c2;have az:=j.1;obtain ⟨x0,f0⟩:=zDG j k (by omega);rw [Ad (by omega)] at x0;have R:=j.stored k (I U (jL (yD cs (l.take k)) l[k]));have s:Hid ((w3.setCell ⟨w.heap.size,k,Aa⟩ (I U (jL (yD cs (l.take k)) l[k]))).ownsRow w.heap.size 3 1 (.slice (Ab ⟨w.heap.size,0,Aa⟩) l.length l.length) l.length (ys.set k (I U (jL (yD cs (l.take k)) l[k])))/\w3.grownBy (w3.setCell ⟨w.heap.size,k,Aa⟩ (I U (jL (yD cs (l.take k)) l[k]))) (some w.heap.size)):=R;clear R;go_wp2
    go_roundw
    case rel=>exact ⟨k+1,_,by omega,by go_num,upToI_step HY (by omega) HX,s.1,by rw [HS.out,doneAll_snoc];exact au.out.kept s.2 (qsn (by omega)),ao.grown s.2 ao.size fun x hx=>by cases hx;exact nl _⟩
    case measure=>simp [intOf];omega
   ·have r:k=l.length:=by omega
    have HK:Hid (k=l.length):=r;have aw:Hid (MapIs wr w1.heap.size (yD cs l)):=hid (by have:=HM.out;rw [r,List.take_length] at this;exact this);clear r;obtain ⟨_,ap,a3⟩:=zFG.1 (doneAll_ok l ai);have a0:=hid ap;clear ap;go_wp2_with fail
    refine (told_i (yD cs l) w1.heap.size wr aw a0 (Nat.le_succ_of_le a3) (okL_all l HL HA).2).mono ?_;rintro e w3 ⟨v3,rfl,d,t⟩;have j:Hid (w3.ownsRow wr.heap.size 92 2 v3 _ _):=d;have aj:Hid (w3.ownsRow w.heap.size 3 1 (.slice (Ab ⟨w.heap.size,0,Aa⟩) l.length l.length) l.length ys):=zS HO t;clear d;go_wp2
    go_ret2
    refine ⟨v3,_,rfl,zN j HB.size,?_,own_ne HO j (nl _),bt HB t⟩;have hy:=HY.out;rw [HK.out,<- y] at hy;have:=aj.out;rw [upToR_all jG hy,flat_int] at this;exact this
end Go.Proofs.YtfnneillakdopacGreatR
