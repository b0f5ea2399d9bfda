/-
  Texts of ours that later ones lean on, in one: LifeD, Draw, Draw2, DrawC, DrawB2, DrawB3, AnyD, LifeV, LifeK.
-/
import Derived.Test.YtfnneillakdopacGreatRK7
import Derived.Test.YtfnneillakdopacGreatRDoCZ
import Derived.Test.YtfnneillakdopacGreatRK1
import Derived.Laws.OwnMore
import Derived.Test.YtfnneillakdopacGreatRPutBSZ
import Derived.Deep.RegionHeld3
import Derived.Deep.AppendLies
import Derived.Test.YtfnneillakdopacGreatRK3
import Derived.Laws.AppendOwn
import Derived.Laws.Cells
import Derived.OwnWalk
import Derived.Deep.Cut
set_option maxRecDepth 100000
set_option maxHeartbeats 32000000
namespace Go.Proofs.YtfnneillakdopacGreatR
open _root_.Go.Proofs.Tryz
open Go.Value renaming int->I
open Go.IntKind renaming i64->U
open Option renaming none->Aa
open Nat renaming le_trans->Ab,lt_of_lt_of_le->Ac,zero_le->Ad
open Option.some renaming inj->Ae
open List renaming getElem_mem->Af,length_append->Ag,getElem?_eq_getElem->Ah,length_cons->Ak
open _root_.ByteArray renaming empty->Ai
open Bool renaming and_eq_true->Aj
open Go.RowKit Num
variable {c:CU} {e:EV} {B n x:Int} {l:LT} {t:List BK} {L b cap m off:Nat} {ao:Option Addr} {r:Option Nat} {p:PE} {a w w' w1 w2:World}
theorem wf_in (h:-9223372036854775808<=x/\x<=9223372036854775807):(Lit.int U x).wf=true:=by
 have h1:=wrap64_wf x;have h2:wrap64 x=x:=by unfold wrap64;omega
 rw [h2] at h1;exact h1
theorem zFE (h:sm x):(Lit.int U x).wf=true:=wf_in ⟨by have:=h.1;omega,by have:=h.2;omega⟩
theorem smQ_wf {q:QC} (h:smQ q):wfQ q:=⟨zFE h.1,zFE h.2.1,zFE h.2.2.1,zFE h.2.2.2⟩
theorem smV_wf {v:VT} (h:smV v):wfV v:=⟨zFE h.1,zFE h.2.1,zFE h.2.2.1,zFE h.2.2.2⟩
theorem smL_wf (h:smL l):wfL l:=⟨⟨zFE h.1.1,zFE h.1.2.1,zFE h.1.2.2.1,zFE h.1.2.2.2.1,zFE h.1.2.2.2.2⟩,smQ_wf h.2.1,smQ_wf h.2.2⟩
theorem cmd_small {c:CM} (h:zAF c=true):(c.2.1.size:Int)<=3:=by
 have:=(cmdB_bd h).2.1;unfold zIJ at this;simp only [Aj] at this;exact (zDF this.2).2
theorem yFA {k:ByteArray} (h:zIJ k=true):(k.size:Int)<=3:=by
 unfold zIJ at h;simp only [Aj] at h;exact (zDF h.2).2
theorem smT.ok (h:smT t):okT t:=⟨by have:=h.many;omega,fun b hb=>⟨by have:=(h.each b hb).many;omega,fun c hc=>by have:=cmd_small ((h.each b hb).cmds c hc);omega⟩⟩
theorem wtC_le :(∀ b∈t,b.2.1.length<=4)->wtC t<=4 * t.length:=by
 induction t with
 | nil=>intro _;simp [wtC]
 | cons b t ih=>
  intro h;have h1:=h b (List.mem_cons_self ..);have h2:=ih (fun x hx=>h x (List.mem_cons_of_mem _ hx));show b.2.1.length+wtC t<=4 * (b :: t).length;simp only [Ak];omega
theorem smT.wt (h:smT t):wtB t<=300:=by
 have:=wtC_le (fun b hb=>(h.each b hb).many);have:=h.many;unfold wtB;omega
theorem smP.small (h:smP m p) (hm:m<=1000):yC p:=by
 have h1:=h.row.len;have h2:=h.cells.2.2;have h3:=h.early.1;have h4:=h.undos.1;have h5:=h.votes.1;have h6:=h.news.1
 exact ⟨by omega,by omega,by omega,by omega,by omega,by omega,fun c hc=>by have:=yFA (h.cells.1 c hc).1;omega,fun u hu=>by
  have:=h.undos.2 u hu;unfold zHH at this;simp only [Aj] at this;have:=yFA this.1
  omega⟩
theorem smP.len (h:smP m p):jZ p<=433+2 * m:=by
 have h1:=h.row.len;have h2:=h.cells.2.2;have h3:=h.early.1;have h4:=h.undos.1;have h5:=h.votes.1;have h6:=h.news.1;unfold jZ;omega
theorem smP.kept (h:smP m p):yAG p:=by
 refine ⟨fun n hn=>?_,by have:=h.row.len;omega⟩;have g:∀ x,sm x->0<=x/\x<=1000000000:=fun x hx=>⟨hx.1,by have:=hx.2;omega⟩
 unfold xK at hn
 rcases List.mem_append.1 hn with hn | hn
 ·simp only [List.mem_cons,List.not_mem_nil,or_false] at hn
  rcases hn with rfl | rfl | rfl | rfl | rfl | rfl | rfl | rfl | rfl | rfl | rfl | rfl | rfl | rfl | rfl
  ·exact g _ (id_sm h)
  ·exact g _ (view_sm h)
  ·exact g _ h.high.1
  ·exact g _ h.high.2.1
  ·exact g _ h.high.2.2.1
  ·exact g _ h.high.2.2.2
  ·exact g _ h.lock.1
  ·exact g _ h.lock.2.1
  ·exact g _ h.lock.2.2.1
  ·exact g _ h.lock.2.2.2
  ·exact g _ h.last.1
  ·exact g _ h.last.2.1
  ·exact g _ h.last.2.2.1
  ·exact g _ h.last.2.2.2
  ·have:=h.row.len;exact ⟨by omega,by omega⟩
 ·exact g _ (h.row.sm n hn)
theorem far_le {l:List PE}:∀ {n:Int},0<=n->n<=900->(∀ p∈l,0<=p.view/\p.view<=900)->0<=yEH l n/\yEH l n<=900:=by
 induction l with
 | nil=>intro n h0 h1 _;exact ⟨h0,h1⟩
 | cons p l ih=>
  intro n h0 h1 h;have hp:=h p (List.mem_cons_self ..);unfold yEH
  split
  ·exact ih hp.1 hp.2 (fun x hx=>h x (List.mem_cons_of_mem _ hx))
  ·exact ih h0 h1 (fun x hx=>h x (List.mem_cons_of_mem _ hx))
theorem smP.good (h:smP m p) (hm:m<=1000):yDG p:=by
 have h1:=h.row.len;have h2:=h.cells.2.2;have h3:=h.early.1;have h4:=h.undos.1;have h5:=h.votes.1;have h6:=h.news.1;have a:maxLen=9223372036854775807:=rfl;have nb:∀ {x:Int},zEH x=true->(Lit.int U x).wf=true:=fun hx=>wf_in (by have:=numB_bd hx;omega)
 refine ⟨by omega,by omega,by omega,by omega,by omega,by omega,fun c hc=>by have:=yFA (h.cells.1 c hc).1;omega,fun c hc=>nb (h.cells.1 c hc).2,fun u hu=>?_,fun x hx=>zFE (h.row.sm x hx),fun x hx=>zFE (h.early.2 x hx),fun v hv=>smV_wf (h.votes.2 v hv),fun l hl=>smL_wf (h.news.2 l hl),zFE (id_sm h),zFE (view_sm h),zFE h.shown,smQ_wf h.high,smQ_wf h.lock,smQ_wf h.last⟩;have hb:=h.undos.2 u hu;unfold zHH at hb;simp only [Aj] at hb;have:=yFA hb.1;exact ⟨by omega,nb hb.2⟩
theorem jJ.ok (h:jJ m c) (hm:m<=1000):doOk c:=by
 have hn:=h.n;have ht:=h.tree.many;have ho:=h.tree.one;have a:=h.net.1;have f:=h.said.1;have e:=h.lpeers;have b:=h.pend.1;have d:=h.tree.wt;refine ⟨⟨by omega,⟨by omega,by omega⟩,h.tree.ok,by omega,ho,by omega,by omega,?_,fun k=>?_⟩,⟨by omega,by omega,⟨by omega,by omega⟩,by omega,h.tree.ok,fun p hp=>?_,fun l hl=>?_,by omega⟩,⟨by omega,by omega,wf_in (by omega),h.tree.ok,by omega,fun p hp=>⟨(h.peers p hp).good hm,(h.peers p hp).small hm⟩,⟨by omega,fun x hx=>by have:=cmd_small (h.pend.2 x hx);omega⟩⟩,fun p hp=>(h.peers p hp).kept⟩
 ·have:=far_le (l:=c.peers) (n:=0) (by omega) (by omega) (fun p hp=>(h.peers p hp).view);omega
 ·have:=h.tree.view k;omega
 ·have h1:=(h.peers p hp).len;have h2:=(h.peers p hp).votes.1;have h3:=(h.peers p hp).view;exact ⟨by omega,(h.peers p hp).small hm,by omega,by omega,by omega⟩
 ·have:=(h.net.2 l hl).2.1.2.2.2;exact ⟨by have:=this.1;omega,by have:=this.2;omega⟩
structure evFit (e:EV):Prop where
 at0:0<=e.at'/\e.at'<=1000
 to0:0<=e.to'/\e.to'<=1000
 num:0<=e.num/\e.num<=1000
 cmd:e.kind=1->zAF e.cmd=true
 size:(e.cmd.2.1.size:Int)<=3
theorem peAt_sm (h:jJ m c) {i:Int} (hi:xT c i=true):smP m (zCJ c i):=by
 unfold xT at hi;have:=zDF (Aj _ _ ▸ hi).1;have hl:i.toNat < c.peers.length:=by omega
 unfold zCJ;rw [Ah hl];exact h.peers _ (Af hl)
theorem out_sm (h:jJ m c) (k:Int):jJ m (zAC c k):=by
 unfold zAC
 split
 ·refine { h with net:=⟨?_,fun l hl=>?_⟩ }
  ·have:=h.net.1;show (c.net.take k.toNat ++ c.net.drop (k.toNat+1)).length<=60;rw [Ag,List.length_take,List.length_drop];omega
  ·rcases List.mem_append.1 hl with hl | hl
   ·exact h.net.2 l (List.mem_of_mem_take hl)
   ·exact h.net.2 l (List.mem_of_mem_drop hl)
 ·exact h
theorem outL_sm (h:jJ m c) (k:Int):smL (zBH c k):=by
 unfold zBH
 split
 ·rename_i l hl
  split
  ·exact h.net.2 l (List.mem_of_getElem? hl)
  ·exact ⟨⟨sm0,sm0,sm0,sm0,sm0⟩,smQ0,smV0⟩
 ·exact ⟨⟨sm0,sm0,sm0,sm0,sm0⟩,smQ0,smV0⟩
theorem carry_sm (h:jJ m c) (k:Int):jJ (m+1) (carryC c k).1:=by
 unfold carryC
 split
 ·have ho:=out_sm h k;have hl:=outL_sm h k;show jJ (m+1) (if xT (zAC c k) (zBH c k).1.2.2.1=true then heardC (zAC c k) (zBH c k) else zAC c k)
  split
  ·rename_i hh
   have hp:=peAt_sm ho hh;have hr:=hear_sm ho hp hl;unfold heardC;have h1:jJ (m+1) (zCG (zAC c k) (zBH c k).1.2.2.1 (zFA (zAC c k) (zCJ (zAC c k) (zBH c k).1.2.2.1) (zBH c k)).1):=set_sm (ho.mono (Nat.le_succ m)) _ hr.1 (hear_id _ _ _);have h2:LifeS m 10 (zCG (zAC c k) (zBH c k).1.2.2.1 (zFA (zAC c k) (zCJ (zAC c k) (zBH c k).1.2.2.1) (zBH c k)).1):=⟨{ h1 with said:=⟨by simp,fun v hv=>by simp at hv⟩ },by have:=ho.said.1;show (zAC c k).said.length+10<=10 * (m+1);omega,ho.said.2⟩;refine LifeS.to (k:=10 - (zFA (zAC c k) (zCJ (zAC c k) (zBH c k).1.2.2.1) (zBH c k)).2.length) (sayAll_sm _ ?_ hr.2.2);have:=hr.2.1;rw [show 10 - (zFA (zAC c k) (zCJ (zAC c k) (zBH c k).1.2.2.1) (zBH c k)).2.length+(zFA (zAC c k) (zCJ (zAC c k) (zBH c k).1.2.2.1) (zBH c k)).2.length=10 by omega];exact h2
  ·exact ho.mono (Nat.le_succ m)
 ·exact h.mono (Nat.le_succ m)
theorem timed_sm (hn:n=4) (h:smP m p):smP m (zGH p n)/\smL (yEB p n)/\(zGH p n).id=p.id:=by
 unfold zGH yEB
 split
 ·have h1:=yAB h (p.view+1);exact ⟨h1,answer_sm h1 ⟨by decide,by decide⟩ (leader_sm hn) h1.high smV0,qY _ _⟩
 ·exact ⟨h,⟨⟨sm0,sm0,sm0,sm0,sm0⟩,smQ0,smV0⟩,rfl⟩
theorem wait_sm (h:jJ m c) (i:Int):jJ m (waitC c i).1:=by
 unfold waitC
 split
 ·rename_i hh
  have ht:=timed_sm h.n (peAt_sm h hh.1);exact post_sm (set_sm h i ht.1 ht.2.2) (fun x hx=>by rcases List.mem_singleton.1 hx with rfl;exact ht.2.1)
 ·exact h
theorem put_sm (h:smT t) {b:BK} (hb:smQ b.2.2):smT (zGE t b):=by
 unfold zGE
 split
 ·exact h
 ·split
  ·exact h
  ·rename_i hn
   have a:xV t b=true:=by
    cases hx:xV t b with
    | true=>rfl
    | false=>exact absurd (Or.inl hx) hn
   have e:t.length < 60:=by
    by_cases hx:60<=t.length
    ·exact absurd (Or.inr hx) hn
    ·omega
   refine ⟨by simp,by simp;omega,fun x hx=>?_,by rw [List.getElem?_append_left (by have:=h.one;omega)];exact h.fst,fun i hi h0=>?_⟩
   rcases List.mem_append.1 hx with hx | hx
   ·exact h.each x hx
   ·rcases List.mem_singleton.1 hx with rfl
    unfold xV at a;simp only [Aj,decide_eq_true_eq] at a;have h0:=zDF a.1;have hv:=h.view x.1.1;exact ⟨⟨by omega,by omega⟩,⟨by have:=a.2.1;omega,a.2.2.1⟩,a.2.2.2.1,fun c hc=>List.all_eq_true.1 a.2.2.2.2.1 c hc,hb⟩
   by_cases hit:i < t.length
   ·rw [List.getElem_append_left hit];exact h.on i hit h0
   ·have d:i=t.length:=by simp at hi;omega
    subst d;rw [List.getElem_append_right (nl _)];simp only [Nat.sub_self,List.getElem_cons_zero];unfold xV at a;simp only [Aj,decide_eq_true_eq] at a;have h1:=zDF a.1;exact ⟨h1.1,by omega,a.2.2.2.2.2.1⟩
theorem at_from_le (b:BK):∀ (t:List BK) (i:Nat),yW b t i<=(i:Int)+t.length
 | [],i=>by unfold yW;simp only [List.length_nil];omega
 | x :: t,i=>by
  unfold yW
  split
  ·simp only [Ak];omega
  ·have:=at_from_le b t (i+1);simp only [Ak];omega
theorem put_at_le (t:List BK) (b:BK):zBE t b<=t.length:=by
 have:=at_from_le b t 0;unfold zBE kI
 split
 ·omega
 ·split <;> omega
theorem sm1:sm 1:=⟨by decide,by decide⟩
theorem sm2:sm 2:=⟨by decide,by decide⟩
theorem sm3:sm 3:=⟨by decide,by decide⟩
theorem sm4:sm 4:=⟨by decide,by decide⟩
theorem putAt_sm (h:smT t) {b:BK} (hp:¬ zBE t b < 0):sm (zBE t b):=by
 have hk:=put_at_le t b;have:=h.many;exact ⟨by omega,by omega⟩
theorem best_sm (h:smP m p):smQ (bestT p):=by
 unfold bestT zAE
 have a:∀ (l:List LT) (q:QC),smQ q->(∀ x∈l,smL x)->smQ (l.foldl (fun q x=>yF q x.2.1) q):=by
  intro l
  induction l with
  | nil=>intro q hq _;exact hq
  | cons x l ih=>intro q hq hl;exact ih _ (yEJ hq (hl x (List.mem_cons_self ..)).2.1) (fun y hy=>hl y (List.mem_cons_of_mem _ hy))
 exact a _ _ h.high h.news.2
theorem shown_sm {m:Nat} {p:PE} (h:smP m p) {k:Int} {q:QC} (hk:sm k) (hq:smQ q):∀ i,i<=100->∀ x∈qX p k q i,smL x
 | 0,_=>fun x hx=>by simp [qX] at hx
 | i+1,hi=>fun x hx=>by
  unfold qX at hx
  rcases List.mem_append.1 hx with hx | hx
  ·exact shown_sm h hk hq i (by omega) x hx
  ·rcases List.mem_singleton.1 hx with rfl
   exact ⟨⟨sm1,id_sm h,⟨by show (0:Int)<=(i:Int);omega,by show (i:Int)<=1000;omega⟩,view_sm h,hk⟩,hq,smV0⟩
theorem show_sm (h:jJ m c) (i:Int):jJ m (showC c i).1:=by
 unfold showC
 split
 ·rename_i hh
  have hp:=peAt_sm h hh.1;have hb:=best_sm hp;have ht:smT (showA c i):=put_sm h.tree hb
  have hP:smP m (showP c i)/\(showP c i).id=(zCJ c i).id:=by
   unfold showP showsP
   split
   ·exact ⟨hp,rfl⟩
   ·exact ⟨{ hp with high:=hb,shown:=view_sm hp },rfl⟩
  have hk:sm (showK c i):=by
   have h0:=hh.2.2.2;unfold showK showsK at h0 ⊢
   split at h0
   ·omega
   ·rename_i h1
    rw [if_neg h1];exact putAt_sm h.tree h1
  have hs:jJ m (showsC c i):=by
   have h1:=set_sm h i hP.1 hP.2;refine { h1 with tree:=ht,pend:=⟨?_,fun x hx=>h.pend.2 x (List.mem_of_mem_drop hx)⟩ };have:=h.pend.1;show (c.pend.drop (showM c)).length<=8;rw [List.length_drop];omega
  refine post_sm hs ?_;unfold zCA;refine shown_sm hP.1 hk ?_ _ (by have:=many_le c.n;omega);unfold justOr
  split
  ·exact (ht.at _).just
  ·exact smQ0
 ·exact h
theorem fall_sm (h:jJ m c) (i:Int):jJ m (fallC c i).1:=by
 unfold fallC
 split
 ·rename_i hh
  have hp:=peAt_sm h hh;refine set_sm h i ?_ rfl;have hf:fair ([]:CL):=fair_of (by decide);exact ⟨hp.id,hp.view,hp.high,hp.lock,hp.last,hp.row,fair_rowC _ _ hf,⟨by simp [yCF,jO],fun x hx=>by simp [yCF,jO] at hx⟩,⟨by simp [yCF,jO],fun x hx=>by simp [yCF,jO] at hx⟩,⟨by simp [yCF,jO],fun x hx=>by simp [yCF,jO] at hx⟩,⟨by simp [yCF,jO],fun x hx=>by simp [yCF,jO] at hx⟩,sm0⟩
 ·exact h
theorem offer_sm (h:jJ m c) {x:CM} (hx:zAF x=true):jJ m (offerP c x).1:=by
 unfold offerP
 split
 ·exact h
 ·refine { h with pend:=⟨?_,fun y hy=>?_⟩ }
  ·show (c.pend ++ [x]).length<=8;rw [Ag,List.length_singleton];omega
  ·rcases List.mem_append.1 hy with hy | hy
   ·exact h.pend.2 y hy
   ·rcases List.mem_singleton.1 hy with rfl;exact hx
theorem twice_sm (h:jJ m c) (k:Int):jJ m (yEC c k).1:=by
 unfold yEC
 split
 ·refine post_sm h (fun x hx=>?_);unfold atC at hx
  split at hx
  ·rename_i l hl
   rcases List.mem_singleton.1 hx with rfl
   exact h.net.2 _ (List.mem_of_getElem? hl)
  ·cases hx
 ·exact h
theorem hand_sm (h:jJ m c) (hl:smL l):jJ m (jM c l).1:=by
 unfold jM
 split
 ·exact post_sm h (fun x hx=>by rcases List.mem_singleton.1 hx with rfl;exact hl)
 ·exact h
theorem lieK_sm (h:jJ m c) (e:EV):0<=yBJ c e/\yBJ c e < 60:=by
 have h1:=h.tree.one;have h2:=h.tree.many;unfold yBJ;have:=Int.emod_nonneg e.num (show (c.tree.length:Int) ≠ 0 by omega);have:=Int.emod_lt_of_pos e.num (show (0:Int) < (c.tree.length:Int) by omega);omega
theorem lieQc_sm (h:jJ m c) {ph k:Int} (h1:sm ph) (h2:sm k):smQ (qM c ph k).1:=by
 unfold qM
 split
 ·have hv:=h.tree.view k;exact qcOf_sm h1 ⟨hv.1,by omega⟩ h2
 ·exact smQ0
theorem phase_sm (c:CU) {num:Int}:sm (qP c num):=by
 unfold qP
 split
 ·exact ⟨by decide,by decide⟩
 ·exact ⟨by omega,by omega⟩
theorem lieW_sm (h:jJ m c) (e:EV):sm (lieW c e):=by
 unfold lieW
 split
 ·have:=h.tree.view (yBJ c e);exact ⟨by omega,by omega⟩
 ·have:=far_le (l:=c.peers) (n:=0) (by omega) (by omega) (fun p hp=>(h.peers p hp).view);exact ⟨by omega,by omega⟩
theorem lie_sm (h:jJ m c) (he:evFit e):jJ m (lieC c e).1:=by
 have ha:sm e.at':=he.at0;have a:sm e.to':=he.to0;have hk:=lieK_sm h e;have b:sm (yBJ c e):=⟨hk.1,by omega⟩;unfold lieC
 split
 ·exact h
 ·split
  ·have hv:sm (lieView c (yBJ c e)):=by
    unfold lieView
    split
    ·have:=h.tree.view (yBJ c e);exact ⟨this.1,by omega⟩
    ·exact sm0
   exact hand_sm h ⟨⟨sm2,ha,a,hv,sm0⟩,smQ0,⟨phase_sm c,hv,b,ha⟩⟩
  ·split
   ·split
    ·have hq:=lieQc_sm h (phase_sm c (num:=e.num)) b;exact hand_sm h ⟨⟨sm3,ha,a,hq.2.1,sm0⟩,hq,smV0⟩
    ·exact h
   ·split
    ·unfold zBC
     split
     ·exact h
     ·split
      ·rename_i hh
       have hq:smQ (lieQ c e).1:=by
        unfold lieQ;exact lieQc_sm h (by split <;> exact ⟨by decide,by decide⟩) b
       have ht:jJ m (lieT c e):={ h with tree:=put_sm h.tree hq };exact hand_sm ht ⟨⟨sm1,ha,a,lieW_sm h e,putAt_sm h.tree hh.2.2.2.1⟩,hq,smV0⟩
      ·exact h
    ·exact hand_sm h ⟨⟨sm4,ha,a,(show sm (e.num % 900+1) from ⟨by omega,by omega⟩),sm0⟩,smQ0,smV0⟩
theorem do_sm (h:jJ m c) (he:evFit e):jJ (m+1) (doC c e).1:=by
 have hs:=Nat.le_succ m;unfold doC
 split
 ·rename_i k;exact (offer_sm h (he.cmd k)).mono hs
 ·split
  ·exact (show_sm h _).mono hs
  ·split
   ·exact carry_sm h _
   ·split
    ·exact (out_sm h _).mono hs
    ·split
     ·exact (twice_sm h _).mono hs
     ·split
      ·exact (wait_sm h _).mono hs
      ·split
       ·exact (fall_sm h _).mono hs
       ·exact (lie_sm h he).mono hs
theorem and255 (x:Int):0<=bits .and U x 255/\bits .and U x 255<=255:=by
 unfold bits;simp only
 have h:(BitVec.ofInt IntKind.i64.bits x &&& BitVec.ofInt IntKind.i64.bits 255).toNat<=255:=by
  rw [BitVec.toNat_and];exact Ab Nat.and_le_right (by decide)
 generalize (BitVec.ofInt IntKind.i64.bits x &&& BitVec.ofInt IntKind.i64.bits 255).toNat=n at h
 rw [IntKind.wrap_i64];omega
structure Code (w:World) (ao:Option Addr) (len b off:Nat):Prop where
 le:len<=1048576
 some:0 < len->ao=Option.some ⟨b,off,Aa⟩
 cell:∀ k,k < len->∃ z:Int,0<=z/\z<=255/\w.cell? ⟨b,off+k,Aa⟩=Option.some (.int .u8 z)
 lt:0 < len->b < w.heap.size
theorem Code.grown {len:Nat} (h:Code w ao len b off) (hg:w.grownBy w' r) (hr:0 < len->Option.some b ≠ r):Code w' ao len b off:=
 ⟨h.le,h.some,fun k hk=>by
  obtain ⟨z,h0,h1,h2⟩:=h.cell k hk
  exact ⟨z,h0,h1,by rw [World.cell?_of_block (w:=w) (hg.block b (h.lt (by omega)) (hr (by omega)))];exact h2⟩,fun hl=>Ac (h.lt hl) hg.size⟩
theorem Code.below {len:Nat} (h:Code w ao len b off) (hg:Below w.heap.size w w'):Code w' ao len b off:=
 ⟨h.le,h.some,fun k hk=>by
  obtain ⟨z,h0,h1,h2⟩:=h.cell k hk
  exact ⟨z,h0,h1,by rw [hg.cell (by exact h.lt (by omega))];exact h2⟩,fun hl=>Ac (h.lt hl) hg.size⟩
def Cur (w:World) (B:Nat) (ao:Option Addr) (len cap:Nat):Prop:=
 ∃ (i:Nat) (h:Int),i<=len/\w.heap[B]?=Option.some (.cells #[.slice ao len cap,I U (i:Int),I U h] 127 (0,0))
theorem Cur.keep {B:Nat} {len:Nat} (h:Cur w B ao len cap) (hg:w'.heap[B]?=w.heap[B]?):Cur w' B ao len cap:=by
 obtain ⟨i,x,h1,h2⟩:=h;exact ⟨i,x,h1,by rw [hg];exact h2⟩
theorem Cur.lt {B:Nat} {len:Nat} (h:Cur w B ao len cap):B < w.heap.size:=by
 obtain ⟨i,x,h1,h2⟩:=h
 rcases Nat.lt_or_ge B w.heap.size with h | h
 ·exact h
 ·rw [Array.getElem?_eq_none h] at h2;simp at h2
theorem cur_set {B:Nat} {a b c v:Value} {t:TypeId} (h:w.heap[B]?=Option.some (.cells #[a,b,c] t (0,0))) :
  (w.setCell ⟨B,2,Aa⟩ v).heap[B]?=Option.some (.cells #[a,b,v] t (0,0))/\(w.setCell ⟨B,1,Aa⟩ v).heap[B]?=Option.some (.cells #[a,v,c] t (0,0)):=
 ⟨heap_setCell_same w B 2 _ t v h,heap_setCell_same w B 1 _ t v h⟩
theorem xC {b c:World} (h:a.grownBy b r) (k:b.grownBy c r):a.grownBy c r:=
 ⟨k.os.trans h.os,k.tape.trans h.tape,k.output.trans h.output,Ab h.size k.size,fun i hi hr=>(k.block i (Ac hi h.size) hr).trans (h.block i hi hr)⟩
theorem grown_drew {b:World} (h:a.grownBy b r) (n:Nat):a.grownBy (b.drewN n) r:=⟨h.os,h.tape,h.output,h.size,h.block⟩
theorem byte_any (w:World) (B:Nat) (ao:Option Addr) (len cap b off:Nat) (hc:Code w ao len b off) (hB:Cur w B ao len cap) (hne:0 < len->b ≠ B) :
  Calls prog 43 #[.pointer (Option.some ⟨B,0,Aa⟩)] w fun e w'=>∃ x:Int,e=.returned (I U x)/\0<=x/\x<=255/\Cur w' B ao len cap/\w.grownBy w' (Option.some B):=by
 obtain ⟨i,h,c,hb⟩:=hB;have g:=hc.le;have c0:w.cell? ⟨B,0,Aa⟩=Option.some (.slice ao len cap):=by rw [cell_of_row w B 0 _ _ (0,0) hb];rfl
 have c1:w.cell? ⟨B,1,Aa⟩=Option.some (I U (i:Int)):=by rw [cell_of_row w B 1 _ _ (0,0) hb];rfl
 have c2:w.cell? ⟨B,2,Aa⟩=Option.some (I U h):=by rw [cell_of_row w B 2 _ _ (0,0) hb];rfl
 have f2:w.frozen? ⟨B,2,Aa⟩=false:=frozen_of_row w B 2 _ _ hb;have f1:w.frozen? ⟨B,1,Aa⟩=false:=frozen_of_row w B 1 _ _ hb;have HB:=hid hb;clear hb
 by_cases hlt:(i:Int) < len
 ·obtain rfl:=hc.some (by omega);obtain ⟨z,j,f,hz⟩:=hc.cell i (by omega);have d:=hne (by omega);have q0:(0:Int)<=(i:Int):=by omega
  have k:∀ v:Value,(w.setCell ⟨B,2,Aa⟩ v).cell? ⟨b,off+i,Aa⟩=Option.some (.int .u8 z):=fun v=>by
   rw [World.cell?_of_block (w:=w) (heap_setCell_other w ⟨B,2,Aa⟩ b v (by exact d))];exact hz
  clear hc hne;go_enter func43,ntmps43;go_wp2
  generalize wrap64 (wrap64 (h * 6364136223846793005)+1442695040888963407)=H
  go_quiet (fail)
  have a:=and255 (bits .xor U (H / 8589934592) (H / 35184372088832))
  generalize bits .and U (bits .xor U (H / 8589934592) (H / 35184372088832)) 255=x0 at a ⊢
  go_wp2
  go_quiet (fail)
  go_wp2
  go_quiet (fail)
  go_wp2;go_ret;refine ⟨_,rfl,(and255 _).1,(and255 _).2,?_,?_⟩
  ·refine ⟨i+1,H,by omega,?_⟩;have e:=(cur_set (v:=I U ((i:Int)+1)) (cur_set (v:=I U H) HB).1).2;exact e
  ·exact xC (grown_drew (yK w B 2 (I U H)) _) (yK _ B 1 _)
 ·have q0:(0:Int)<=(i:Int):=by omega
  clear hc hne;go_enter func43,ntmps43;go_wp2
  generalize wrap64 (wrap64 (h * 6364136223846793005)+1442695040888963407)=H
  go_quiet (fail)
  have a:=and255 (bits .xor U (H / 8589934592) (H / 35184372088832))
  generalize bits .and U (bits .xor U (H / 8589934592) (H / 35184372088832)) 255=x0 at a ⊢
  go_wp2
  go_quiet (fail)
  go_wp2;go_ret;refine ⟨_,rfl,a.1,a.2,⟨i,H,c,?_⟩,?_⟩
  ·exact (cur_set HB).1
  ·exact grown_drew (grown_drew (yK w B 2 _) _) _
structure St (w:World) (B:Nat) (ao:Option Addr) (len cap b off:Nat):Prop where
 code:Code w ao len b off
 cur:Cur w B ao len cap
 ne:0 < len->b ≠ B
theorem St.step {B:Nat} {len:Nat} (h:St w B ao len cap b off) (hc:Cur w' B ao len cap) (hg:w.grownBy w' (Option.some B)):St w' B ao len cap b off:=
 ⟨h.code.grown hg (fun hl e=>h.ne hl (Ae e)),hc,h.ne⟩
theorem St.below {B:Nat} {len:Nat} (h:St w B ao len cap b off) (hb:Below w.heap.size w w'):St w' B ao len cap b off:=
 ⟨h.code.below hb,h.cur.keep (hb.block B h.cur.lt),h.ne⟩
theorem byte_st {B:Nat} {len:Nat} (h:St w B ao len cap b off) :
  Calls prog 43 #[.pointer (Option.some ⟨B,0,Aa⟩)] w fun e w'=>∃ x:Int,e=.returned (I U x)/\0<=x/\x<=255/\St w' B ao len cap b off/\w.grownBy w' (Option.some B):=
 (byte_any w B ao len cap b off h.code h.cur h.ne).mono fun _ _ ⟨x,he,h0,h1,hc,hg⟩=>⟨x,he,h0,h1,h.step hc hg,hg⟩
theorem xO {B:Nat} {len:Nat} (n:Int) (hn:0 < n) (hn2:n<=1000000000) (h:St w B ao len cap b off) :
  Calls prog 44 #[.pointer (Option.some ⟨B,0,Aa⟩),I U n] w fun e w'=>∃ x:Int,e=.returned (I U x)/\0<=x/\x < n/\St w' B ao len cap b off/\w.grownBy w' (Option.some B):=by
 have H:=hid h;clear h
 by_cases h256:n<=256
 ·go_enter func44,ntmps44;go_wp2_with (go_at_call 43;refine (byte_st H).mono ?_;rintro e w' ⟨x,rfl,ac,ab,hS,hg⟩;have HS:=hid hS;clear hS)
  go_ret;exact ⟨_,rfl,Int.emod_nonneg _ (by omega),Int.emod_lt_of_pos _ hn,HS,hg⟩
 ·go_enter func44,ntmps44;go_wp2_with fail
  refine (byte_st H).mono ?_;rintro e w1 ⟨x1,rfl,y,z,f,o⟩;have p:=hid f;clear f;go_wp2_with fail
  refine (byte_st p).mono ?_;rintro e w2 ⟨x2,rfl,r,t,c,k⟩;have m:=hid c;clear c;go_wp2_with fail
  refine (byte_st m).mono ?_;rintro e w3 ⟨x3,rfl,v,aa,d,i⟩;have g:=hid d;clear d;go_wp2_with fail
  refine (byte_st g).mono ?_;rintro e w4 ⟨x4,rfl,s,u,a,l⟩;have j:=hid a;clear a;go_wp2;go_ret;exact ⟨_,rfl,Int.emod_nonneg _ (by omega),Int.emod_lt_of_pos _ hn,j,xC (xC (xC o k) i) l⟩
theorem once_st {B:Nat} {len:Nat} (n:Int) (hn:0 < n) (hn2:n<=1000000000) (h:St w B ao len cap b off) :
  Calls prog 106 #[.pointer (Option.some ⟨B,0,Aa⟩),I U n] w fun e w'=>∃ x:Bool,e=.returned (.bool x)/\St w' B ao len cap b off/\w.grownBy w' (Option.some B):=by
 have H:=hid h;clear h;go_enter func106,ntmps106;go_wp2_with (go_at_call 44;refine (xO _ hn hn2 H).mono ?_;rintro e w' ⟨x,rfl,c,a,hS,hg⟩;have HS:=hid hS;clear hS)
 go_ret;exact ⟨_,rfl,HS,hg⟩
theorem kV {b:World} (h:Be a b):a.grownBy b r:=⟨h.os,h.tape,h.output,h.size,fun k hk _=>h.block k hk⟩
theorem new_any {len:Nat} (hc:Code w ao len b off) :
  Calls prog 42 #[.slice ao len cap] w fun e w'=>∃ N,e=.returned (.pointer (Option.some ⟨N,0,Aa⟩))/\w.heap.size<=N/\St w' N ao len cap b off/\Be w w':=by
 have d:=hc.le;have HC:=hid hc;clear hc;go_enter func42,ntmps42;go_wp2
 go_loop [3,4] (fun h i=>∃ (k:Nat) (H:Int),k<=len/\h=I U H/\i=I U k) (fun _ i=>len - (intOf i).toNat)
 case atStart=>exact ⟨0,_,Ad _,rfl,rfl⟩
 case round=>
  obtain ⟨k,H,hk,rfl,rfl⟩:=hrel
  have a:∀ H:Int,∃ N,Ending.returned (.pointer (Option.some ⟨w.heap.size,0,Aa⟩))=Ending.returned (.pointer (Option.some ⟨N,0,Aa⟩))/\w.heap.size<=N/\St (w.alloc (.cells #[.slice ao len cap,I U 0,I U H] 127)) N ao len cap b off/\Be w (w.alloc (.cells #[.slice ao len cap,I U 0,I U H] 127)):=fun H=>
   have hb:Be w (w.alloc (.cells #[.slice ao len cap,I U 0,I U H] 127)):=(br _ _).alloc (nl _) _
   ⟨w.heap.size,rfl,nl _,⟨HC.below hb,⟨0,H,Ad _,heap_alloc_new w _⟩,fun hl e=>by have:=HC.lt hl;omega⟩,hb⟩
  have HF:Hid _:=a;clear a
  by_cases hlt:(k:Int) < len
  ·by_cases h4:(k:Int) < 4000
   ·obtain rfl:=HC.some (by omega);obtain ⟨z,f,c,hz⟩:=HC.cell k (by omega);have q0:(0:Int)<=(k:Int):=by omega
    go_wp2
    go_round
    case rel=>exact ⟨k+1,_,by omega,rfl,by go_num⟩
    case measure=>simp [intOf];omega
   ·go_wp2;go_ret;exact HF.out _
  ·go_wp2;go_ret;exact HF.out _
theorem drawn_below {B:Nat} (hb:Be w w1) (hB:w.heap.size<=B) (hg:w1.grownBy w2 (Option.some B)):Be w w2:=
 hb.grown hg hb.size fun k hk=>by rw [Ae hk.symm];exact hB
theorem all_snoc {α:Type} {P:α->Prop} {l:List α} {c:α} (h:∀ d∈l,P d) (hc:P c):∀ d∈l ++ [c],P d:=by
 intro d hd
 rcases List.mem_append.1 hd with h1 | h1
 ·exact h d h1
 ·simp at h1;subst h1;exact hc
theorem pickS_st {B:Nat} {len:Nat} (f:Nat->ByteArray) (n:Nat) (hn:0 < n) (hn2:n<=1000) (h:St w B ao len cap b off) (hL:L ≠ B) (hLl:L < w.heap.size) (hc:∀ k,k < n->w.cell? ⟨L,k,Aa⟩=Option.some (.string (f k))) :
  Calls prog 143 #[.pointer (Option.some ⟨B,0,Aa⟩),.slice (Option.some ⟨L,0,Aa⟩) n n] w fun e w'=>∃ k,k < n/\e=.returned (.string (f k))/\St w' B ao len cap b off/\w.grownBy w' (Option.some B):=by
 have H:=hid h;have HC:Hid (∀ k,k < n->w.cell? ⟨L,k,Aa⟩=Option.some (.string (f k))):=hc;clear h hc;go_enter func143,ntmps143;go_wp2_with fail
 refine (xO (n:Int) (by omega) (by omega) H).mono ?_;rintro e w' ⟨x,rfl,c,g,hS,hg⟩;obtain ⟨k,rfl⟩:=Int.eq_ofNat_of_zero_le c;have a:k < n:=by omega
 have d:w'.cell? ⟨L,k,Aa⟩=Option.some (.string (f k)):=by
  rw [World.cell?_of_block (w:=w) (hg.block L hLl (fun e=>hL (Ae e)))];exact HC.out k a
 have HS:=hid hS;clear hS;go_wp2;go_ret;exact ⟨k,a,rfl,HS,hg⟩
theorem pickI_st {B:Nat} {len:Nat} (f:Nat->Int) (n:Nat) (hn:0 < n) (hn2:n<=1000) (h:St w B ao len cap b off) (hL:L ≠ B) (hLl:L < w.heap.size) (hc:∀ k,k < n->w.cell? ⟨L,k,Aa⟩=Option.some (I U (f k))) :
  Calls prog 65 #[.pointer (Option.some ⟨B,0,Aa⟩),.slice (Option.some ⟨L,0,Aa⟩) n n] w fun e w'=>∃ k,k < n/\e=.returned (I U (f k))/\St w' B ao len cap b off/\w.grownBy w' (Option.some B):=by
 have H:=hid h;have HC:Hid (∀ k,k < n->w.cell? ⟨L,k,Aa⟩=Option.some (I U (f k))):=hc;clear h hc;go_enter func65,ntmps65;go_wp2_with fail
 refine (xO (n:Int) (by omega) (by omega) H).mono ?_;rintro e w' ⟨x,rfl,c,g,hS,hg⟩;obtain ⟨k,rfl⟩:=Int.eq_ofNat_of_zero_le c;have a:k < n:=by omega
 have d:w'.cell? ⟨L,k,Aa⟩=Option.some (I U (f k)):=by
  rw [World.cell?_of_block (w:=w) (hg.block L hLl (fun e=>hL (Ae e)))];exact HC.out k a
 have HS:=hid hS;clear hS;go_wp2;go_ret;exact ⟨k,a,rfl,HS,hg⟩
def dkey (k:Nat):ByteArray:=match k with
 | 0=>⟨#[97]⟩
 | 1=>⟨#[98]⟩
 | 2=>⟨#[99]⟩
 | _=>⟨#[97,98,99]⟩
theorem dkey_ok (k:Nat):zIJ (dkey k)=true:=by
 match k with
 | 0=>decide
 | 1=>decide
 | 2=>decide
 | _+3=>exact (by decide:zIJ ⟨#[97,98,99]⟩=true)
theorem dkey_size (k:Nat):(dkey k).size<=3:=by
 match k with
 | 0=>decide
 | 1=>decide
 | 2=>decide
 | _+3=>exact (by decide:(⟨#[97,98,99]⟩:ByteArray).size<=3)
theorem key_st {B:Nat} {len:Nat} (h:St w B ao len cap b off) :
  Calls prog 183 #[.pointer (Option.some ⟨B,0,Aa⟩)] w fun e w'=>∃ k,e=.returned (.string (dkey k))/\St w' B ao len cap b off/\w.grownBy w' (Option.some B):=by
 have H:=hid h;clear h;go_enter func183,ntmps183;go_wp2_with fail
 have hb:Be w (w.alloc (.cells #[.string ⟨#[97]⟩,.string ⟨#[98]⟩,.string ⟨#[99]⟩,.string ⟨#[97,98,99]⟩] 9)):=(br _ _).alloc (nl _) _;refine (pickS_st dkey 4 (by omega) (by omega) (H.below hb) (by have:=H.cur.lt;omega) (by simp) (fun k hk=>?_)).mono ?_
 ·rw [cell_of_row _ w.heap.size k _ _ (0,0) (heap_alloc_new w _)]
  match k,hk with
  | 0,_=>rfl
  | 1,_=>rfl
  | 2,_=>rfl
  | 3,_=>rfl
 rintro e w2 ⟨k,_,rfl,a,d⟩;have c:=hid a;clear a;go_wp2;go_ret;exact ⟨k,rfl,c,xC (kV hb) d⟩
def dnum (k:Nat):Int:=match k with
 | 0=>0
 | 1=>1
 | 2=>7
 | 3=>500
 | _=>999999999
theorem dnum_ok (k:Nat):zEH (dnum k)=true:=by
 match k with
 | 0=>decide
 | 1=>decide
 | 2=>decide
 | 3=>decide
 | _+4=>exact (by decide:zEH 999999999=true)
theorem yT {N:Nat} (h:w.grownBy w1 r) (hN:w.heap.size<=N) (k:w1.grownBy w2 (Option.some N)):w.grownBy w2 r:=
 ⟨k.os.trans h.os,k.tape.trans h.tape,k.output.trans h.output,Ab h.size k.size,fun i hi hr=>(k.block i (Ac hi h.size) (qsn (by omega))).trans (h.block i hi hr)⟩
theorem St.other {B N:Nat} {len:Nat} (h:St w B ao len cap b off) (hg:w.grownBy w' (Option.some N)) (hN:B ≠ N) (hb:0 < len->b ≠ N):St w' B ao len cap b off:=
 ⟨h.code.grown hg (fun hl e=>hb hl (Ae e)),h.cur.keep (hg.block B h.cur.lt (fun e=>hN (Ae e))),h.ne⟩
theorem St.row {B:Nat} {len:Nat} (h:St w B ao len cap b off) (hg:w.grownBy w' r) (hN:∀ g,r=Option.some g->B ≠ g) (hb:0 < len->∀ g,r=Option.some g->b ≠ g):St w' B ao len cap b off:=
 ⟨h.code.grown hg (fun hl e=>hb hl b e.symm rfl),h.cur.keep (hg.block B h.cur.lt (fun e=>hN B e.symm rfl)),h.ne⟩
theorem grown_row {w3:World} {q:Option Nat} (h:w.grownBy w1 r) (hb:Be w1 w2) (k:w2.grownBy w3 q) (hq:∀ g,q=Option.some g->w.heap.size<=g):w.grownBy w3 r:=
 ⟨(k.os.trans hb.os).trans h.os,(k.tape.trans hb.tape).trans h.tape,(k.output.trans hb.output).trans h.output,Ab h.size (Ab hb.size k.size),fun i hi hr=>((k.block i (Ac hi (Ab h.size hb.size)) (fun e=>by have:=hq i e.symm;omega)).trans (hb.block i (Ac hi h.size))).trans (h.block i hi hr)⟩
theorem cmd_st {B:Nat} {len:Nat} (h:St w B ao len cap b off) :
  Calls prog 142 #[.pointer (Option.some ⟨B,0,Aa⟩)] w fun e w'=>∃ c:CM,e=.returned (cmdV c)/\zAF c=true/\c.2.1.size<=3/\St w' B ao len cap b off/\w.grownBy w' (Option.some B):=by
 have H:=hid h;have ai:=h.cur.lt;clear h;go_enter func142,ntmps142;go_wp2_with fail
 have hb:Be w (w.alloc (.cells #[I U 0,.string Ai,I U 0] 139)):=(br _ _).alloc (nl _) _;refine (xO 3 (by omega) (by omega) (H.below hb)).mono ?_;rintro e w2 ⟨x,rfl,ah,ag,r,i⟩;have ae:=hid r;have p:Hid (Bx w2 w.heap.size #[I U 0,.string Ai,I U 0] 139):=(i.block w.heap.size (by simp) (qsn (by omega))).trans (heap_alloc_new w _);have y:Hid (w.grownBy w2 (Option.some B)):=xC (kV hb) i;clear r i hb;go_wp2_with fail
 refine (key_st ae).mono ?_;rintro e w3 ⟨k,rfl,s,f⟩;have l:=hid s;have ac:w.heap.size < w2.heap.size:=(gl p);have o:Hid (Bx w3 w.heap.size #[I U 0,.string Ai,I U 0] 139):=(f.block w.heap.size ac (qsn (by omega))).trans p;have aa:Hid (w.grownBy w3 (Option.some B)):=xC y f;clear s f;go_wp2_with fail
 have a:Be w3 (w3.alloc (.cells #[I U 0,I U 1,I U 7,I U 500,I U 999999999] 3)):=(br _ _).alloc (nl _) _;refine (pickI_st dnum 5 (by omega) (by omega) (l.below a) (by have:=l.cur.lt;omega) (by simp) (fun j hj=>?_)).mono ?_
 ·rw [cell_of_row _ w3.heap.size j _ _ (0,0) (heap_alloc_new w3 _)]
  match j,hj with
  | 0,_=>rfl
  | 1,_=>rfl
  | 2,_=>rfl
  | 3,_=>rfl
  | 4,_=>rfl
 rintro e w4 ⟨j,_,rfl,n,g⟩;have ad:w.heap.size < w3.heap.size:=(gl o);have z:Hid (Bx w4 w.heap.size #[I U 0,.string Ai,I U 0] 139):=((g.block w.heap.size (by simp;omega) (qsn (by omega))).trans (a.block _ ad)).trans o;have u:Hid (w.grownBy w4 (Option.some B)):=xC aa (xC (kV a) g);have ab:=hid n;clear n g a;obtain ⟨⟨x0,f0⟩,⟨af,f1⟩,⟨x2,f2⟩,d,m⟩:=blk_three z (I U (1+x)) (.string (dkey k)) (I U (dnum j));have y0:(((w4.setCell ⟨w.heap.size,0,Aa⟩ (I U (1+x))).setCell ⟨w.heap.size,1,Aa⟩ (.string (dkey k))).setCell ⟨w.heap.size,2,Aa⟩ (I U (dnum j))).cell? ⟨w.heap.size,0,Aa⟩=Option.some (I U (1+x)):=by rw [cell_of_row _ w.heap.size 0 _ _ (0,0) d];rfl
 have y1:(((w4.setCell ⟨w.heap.size,0,Aa⟩ (I U (1+x))).setCell ⟨w.heap.size,1,Aa⟩ (.string (dkey k))).setCell ⟨w.heap.size,2,Aa⟩ (I U (dnum j))).cell? ⟨w.heap.size,1,Aa⟩=Option.some (.string (dkey k)):=by rw [cell_of_row _ w.heap.size 1 _ _ (0,0) d];rfl
 have y2:(((w4.setCell ⟨w.heap.size,0,Aa⟩ (I U (1+x))).setCell ⟨w.heap.size,1,Aa⟩ (.string (dkey k))).setCell ⟨w.heap.size,2,Aa⟩ (I U (dnum j))).cell? ⟨w.heap.size,2,Aa⟩=Option.some (I U (dnum j)):=by rw [cell_of_row _ w.heap.size 2 _ _ (0,0) d];rfl
 have t:Hid (w4.grownBy (((w4.setCell ⟨w.heap.size,0,Aa⟩ (I U (1+x))).setCell ⟨w.heap.size,1,Aa⟩ (.string (dkey k))).setCell ⟨w.heap.size,2,Aa⟩ (I U (dnum j))) (Option.some w.heap.size)):=m;clear d m;go_wp2;refine bodyPost_ret (v:=.agg #[_,_,_]) (by simp [results,results142,go_sem,y0,y1,y2];exact ⟨rfl,rfl,rfl⟩) rfl ?_;refine ⟨(1+x,dkey k,dnum j),rfl,?_,dkey_size k,ab.other t (by omega) (fun hl e=>by have:=H.code.lt hl;omega),yT u (nl _) t⟩;rw [cmdB_rest ⟨by simp only;omega,by simp only;omega⟩ (dkey_ok k)];exact dnum_ok j
theorem xH.st {base B:Nat} {v:Value} {ps:TL} (h:xH w base v ps) (hg:w.grownBy w' (Option.some B)) (hB:B < base):xH w' base v ps:=
 h.same fun g a hl=>hg.block g hl fun e=>by have:=Ae e;omega
theorem infoI1:(prog.info? 3).map (fun i=>(i.zero,i.size,i.bytes))=some (some (I U 0),1,8):=by kernel_rfl
theorem newsI (W:World) (x:Int) (t:TypeId):∀ j u,([Value.int U x]:List Value)[j]?=some u->(W.alloc (.cells #[I U x] t)).cell? ((⟨W.heap.size,0,Aa⟩:Addr).add j)=some u:=by
 intro j u hj;have hp:(⟨W.heap.size,0,Aa⟩:Addr).add j=⟨W.heap.size,j,Aa⟩:=by unfold Addr.add;split <;> simp_all
 rw [hp,cell_of_row _ W.heap.size j _ _ (0,0) (heap_alloc_new W _),<- hj];simp
theorem onesI (x:Int):∀ u∈([Value.int U x]:List Value),u.oneCell'=true:=by
 intro u hu;simp at hu;subst hu;rfl
theorem drawPlaces_any {len:Nat} (hc:Code w ao len b off) :
  Calls prog 9 #[.slice ao len cap] w fun e w'=>∃ (v:Value) (l:List Int),e=.returned v/\l.length=12/\(∀ x∈l,0<=x/\x < 10000)/\w'.ownsRow w.heap.size 3 1 v l.length (zE xJ l)/\Be w w':=by
 have HC:=hid hc;obtain ⟨i0,hi,ag,af,ah⟩:=info_parts infoI1;clear hc;go_enter func9,ntmps9;go_wp2_with fail
 refine (new_any HC).mono ?_;rintro e w1 ⟨N,rfl,hN,hS,p⟩;have ai:=hid hS;have m:Hid (Be w w1):=p;have aj:=hS.cur.lt;clear hS p;go_wp2_with fail
 refine (byte_st ai).mono ?_;rintro e w2 ⟨x,rfl,_,_,hS,hg⟩;have n:=hid hS;have t:=hid hg;have ak:=hg.size;clear hS hg;go_wp2
 go_loopw [4,5] (fun o i wr=>∃ l:List Int,l.length<=12/\i=I U (l.length:Int)/\Hid (∀ x∈l,0<=x/\x < 10000)/\Hid (wr.ownsRow w2.heap.size 3 1 o l.length (zE xJ l))/\Hid (St wr N ao len cap b off)/\Hid (w1.grownBy wr (Option.some N))/\w2.heap.size<=wr.heap.size) (fun _ i _=>12 - (intOf i).toNat)
 case atStart=>
  have hb:Be w2 (w2.alloc (.cells #[] 3)):=(br _ _).alloc (nl _) _;exact ⟨[],by simp,rfl,fun c hc=>(by cases hc),yH w2 3 1,n.below hb,xC t (kV hb),hb.size⟩
 case round=>
  obtain ⟨l,hl,rfl,HL,HO,HS,HG,am⟩:=hrel
  by_cases hlt:(l.length:Int) < 12
  ·go_wp2_with fail
   refine (xO 10000 (by omega) (by omega) HS).mono ?_;rintro e w3 ⟨y,rfl,ae,u,k,f⟩;have r:=hid k;have h:Hid (w3.ownsRow w2.heap.size 3 1 u4 l.length (zE xJ l)):=World.ownsRow.kept HO f (own_far HO (by omega));have z:Hid (w1.grownBy w3 (Option.some N)):=xC HG f;have al:=f.size;have HY:=hid (qad2 ae u);clear k f;go_wp2_with (at_builtin;refine wpList_append_own _ rfl _ _ 29 rfl w2.heap.size 3 i0 _ 1 8 underlying29 hi ag af ah rfl (by decide) _ _ _ rfl (World.ownsRow.alloc h _) ⟨World.heap _ |>.size,0,Aa⟩ 1 1 [I U y] rfl rfl (newsI _ y _) (onesI y) (by unfold maxLen;omega) (by omega) (by simp;omega) ?_;intro v4 w4 d a _)
   have ad:Hid (w4.ownsRow w2.heap.size 3 1 v4 (l.length+1) (zE xJ l ++ [I U y])):=d;have ab:Hid (St w4 N ao len cap b off):=((r.below ((br _ _).alloc (nl _) _)).row a (fun g hg=>by have:=(h.lt g hg).1;omega) (fun hl=>by have:=n.code.lt hl;intro g hg;have:=(h.lt g hg).1;omega));have s:Hid (w1.grownBy w4 (Option.some N)):=grown_row z ((br _ _).alloc (nl _) _) a (fun g hg=>by have:=(h.lt g hg).1;omega);have ac:=a.size;simp at ac;clear d a
   go_roundw
   case rel=>exact ⟨l ++ [y],by simp;omega,by simp,all_snoc HL HY,(by rw [zY,Ag];exact ad.out),ab,s,by omega⟩
   case measure=>simp [intOf];omega
  ·have j:l.length=12:=by omega
   have aa:Hid (l.length=12):=j;have an:=m.size;clear j;go_wp2;go_ret;exact ⟨_,rfl,l,aa,HL,zN HO (by omega),drawn_below m hN HG⟩
def intsA (xs:List Int):Array Value:=(xs.map fun x=>Value.int U x).toArray
theorem pickL_st {B:Nat} {len:Nat} (xs:List Int) (hn:0 < xs.length) (hn2:xs.length<=1000) (h:St w B ao len cap b off) (hL:L ≠ B) {t:TypeId} (hc:w.heap[L]?=Option.some (.cells (intsA xs) t (0,0))) :
  Calls prog 65 #[.pointer (Option.some ⟨B,0,Aa⟩),.slice (Option.some ⟨L,0,Aa⟩) xs.length xs.length] w fun e w'=>∃ z,z∈xs/\e=.returned (I U z)/\St w' B ao len cap b off/\w.grownBy w' (Option.some B):=by
 refine (pickI_st (fun k=>xs.getD k 0) xs.length hn hn2 h hL (gl hc) (fun k hk=>?_)).mono ?_
 ·rw [cell_of_row _ L k _ _ (0,0) hc];unfold intsA;simp [hk]
 ·rintro e w' ⟨k,hk,rfl,hS,hg⟩;exact ⟨_,by simp [hk],rfl,hS,hg⟩
structure Vw (B:Int) (c:CU):Prop where
 tree:∀ b∈c.tree,b.1.2<=B
 peers:∀ p∈c.peers,p.view<=B
theorem Vw.mono {B':Int} (h:Vw B c) (hb:B<=B'):Vw B' c:=⟨fun b hm=>Int.le_trans (h.tree b hm) hb,fun p hm=>Int.le_trans (h.peers p hm) hb⟩
theorem enter_vw {v:Int} (h:p.view<=B) (hv:v<=B):(yI p v).view<=B:=by
 unfold yI
 split
 ·exact hv
 ·exact h
theorem at_vw (h0:0<=B) (h:∀ b∈t,b.1.2<=B) (k:Int):yR t k<=B:=by
 unfold yR
 by_cases hk:k.toNat < t.length
 ·rw [Ah hk];exact h _ (Af hk)
 ·rw [List.getElem?_eq_none (by omega)];exact h0
theorem leadV_vw {v:VT} (h:p.view<=B):(zCF p n v).1.view<=B+1:=by
 have h1:(ledP p n v).view<=B+1:=by
  unfold ledP
  split
  ·rename_i e;exact enter_vw (by omega) (by have:=e.2.2;omega)
  ·omega
 unfold zCF leadR
 split
 ·unfold leadQ
  split
  ·split
   ·exact h1
   ·exact h1
  ·exact h1
 ·exact h1
theorem news_vw (h:p.view<=B):(newsP p n l).view<=B+1:=by
 unfold newsP
 split
 ·rename_i e
  have hv:(yI p l.1.2.2.2.1).view<=B+1:=enter_vw (by omega) (by rcases e.2 with e | e <;> omega)
  split
  ·exact hv
  ·exact hv
 ·omega
theorem lead_vw (h:p.view<=B):(kZ t n p l).1.view<=B+1:=by
 have h1:p.view<=B+1:=by omega
 unfold kZ
 split
 ·split
  ·exact leadV_vw h
  ·split
   ·exact news_vw h
   ·exact h1
 ·exact h1
theorem lok_vw (h0:0<=B) (ht:∀ b∈t,b.1.2<=B) (h:qI t n l=true) (h2:l.1.1 ≠ 2) (h4:l.1.1 ≠ 4):l.1.2.2.2.1<=B:=by
 unfold qI at h;simp only [Aj] at h;obtain ⟨a,-,-,-,b⟩:=h;have ha:=zDF a;unfold yCA at b
 by_cases h1:l.1.1=1
 ·rw [if_pos h1] at b;simp only [Aj,decide_eq_true_eq] at b;rw [<- b.2.2.1];exact at_vw h0 ht _
 ·rw [if_neg h1,if_neg h2,if_pos (by omega)] at b;simp only [Aj,decide_eq_true_eq] at b;obtain ⟨-,-,b,c⟩:=b;rw [<- c];unfold kH at b
  split at b
  ·rename_i e;rw [e];exact h0
  ·simp only [Aj] at b;have d:=b.1;unfold zCI at d;simp only [Aj,decide_eq_true_eq] at d;rw [<- d.2.2.2.2.1];exact at_vw h0 ht _
theorem next_vw (p:PE) (a b c d:Int):(zIG p a b c d).1.view=p.view:=by unfold zIG;split <;> rfl
theorem qc_vw (h:p.view<=B) (hl:l.1.2.2.2.1<=B):(qcH t n p l).1.view<=B+1:=by
 have h1:(yI p l.1.2.2.2.1).view<=B:=enter_vw h hl;unfold qcH
 split
 ·rw [next_vw];show (yI p l.1.2.2.2.1).view<=B+1;omega
 ·split
  ·rw [next_vw];show (yI p l.1.2.2.2.1).view<=B+1;omega
  ·split
   ·unfold doneV;exact enter_vw (by rw [through_view];omega) (by omega)
   ·show (yI p l.1.2.2.2.1).view<=B+1;omega
theorem block_vw (h:p.view<=B) (hl:l.1.2.2.2.1<=B):(blockH t p l).1.view<=B:=by
 have h1:(yI p l.1.2.2.2.1).view<=B:=enter_vw h hl;unfold blockH
 split
 ·exact h1
 ·exact h1
theorem ask_vw (h0:0<=B) (ht:∀ b∈t,b.1.2<=B) (h:p.view<=B):(qC t n p l).1.view<=B+1:=by
 have h1:p.view<=B+1:=by omega
 unfold qC
 split
 ·rename_i e
  split
  ·exact lead_vw h
  ·rename_i k
   have hl:=lok_vw h0 ht e.1 (fun x=>k (Or.inl x)) (fun x=>k (Or.inr x))
   split
   ·split
    ·exact qc_vw h hl
    ·have:=block_vw (t:=t) h hl;omega
   ·exact h1
 ·exact h1
theorem early_view (t:List BK) (p:PE) (k:Int):(yDF t p k).view=p.view:=rfl
theorem chain_view (t:List BK) (p:PE) (k:Int):(jN t p k).view=p.view:=by
 unfold jN
 split
 ·have h2:∀ (q:PE),(zGC t q k).view=q.view:=fun q=>by
   unfold zGC
   split
   ·exact through_view _ _ _
   ·rfl
  unfold yDH
  split
  ·rw [early_view,h2];rfl
  ·rw [h2];rfl
 ·rfl
theorem chainH_vw (h0:0<=B) (ht:∀ b∈t,b.1.2<=B) (h:p.view<=B):(xI t n p l).1.view<=B+1:=by
 have h1:p.view<=B+1:=by omega
 unfold xI
 split
 ·rename_i e
  split
  ·exact lead_vw h
  ·rename_i k2
   split
   ·exact lead_vw h
   ·rename_i k4
    have hl:=lok_vw h0 ht e.1 k2 k4
    split
    ·exact h1
    ·split
     ·unfold yBD
      split
      ·unfold votesH;exact enter_vw (by show (jN t p l.1.2.2.2.2).view<=B+1;rw [chain_view];exact h1) (by omega)
      ·show (jN t p l.1.2.2.2.2).view<=B+1;rw [chain_view];exact h1
     ·exact h1
 ·exact h1
theorem hear_vw (h0:0<=B) (hc:Vw B c) (h:p.view<=B):(zFA c p l).1.view<=B+1:=by
 unfold zFA
 split
 ·exact chainH_vw h0 hc.tree h
 ·exact ask_vw h0 hc.tree h
theorem set_vw (h:Vw B c) (i:Int) (hp:p.view<=B):Vw B (zCG c i p):=by
 refine ⟨h.tree,fun x hx=>?_⟩
 rcases List.mem_or_eq_of_mem_set hx with hx | rfl
 ·exact h.peers x hx
 ·exact hp
theorem post_vw (h:Vw B c) (ls:List LT):Vw B (jV c ls):=by
 unfold jV
 split
 ·exact h
 ·exact ⟨h.tree,h.peers⟩
theorem say_vw {B:Int}:∀ (ls:List LT) {c:CU},Vw B c->Vw B (zIC c ls)
 | [],_,h=>h
 | l :: ls,c,h=>by
  refine say_vw ls (c:=yFD c l) ?_;unfold yFD;refine post_vw ?_ _
  split
  ·unfold zHF
   split
   ·exact h
   ·exact ⟨h.tree,h.peers⟩
  ·exact h
theorem peAt_vw (h0:0<=B) (h:Vw B c) (i:Int):(zCJ c i).view<=B:=by
 unfold zCJ
 by_cases hk:i.toNat < c.peers.length
 ·rw [Ah hk];exact h.peers _ (Af hk)
 ·rw [List.getElem?_eq_none (by omega)];exact h0
theorem out_vw (h:Vw B c) (k:Int):Vw B (zAC c k):=by
 unfold zAC
 split
 ·exact ⟨h.tree,h.peers⟩
 ·exact h
theorem put_vw (h:∀ b∈t,b.1.2<=B) {b:BK} (hb:b.1.2<=B):∀ x∈zGE t b,x.1.2<=B:=by
 unfold zGE
 split
 ·exact h
 ·split
  ·exact h
  ·intro x hx
   rcases List.mem_append.1 hx with hx | hx
   ·exact h x hx
   ·rcases List.mem_singleton.1 hx with rfl;exact hb
theorem hand_vw (h:Vw B c) (l:LT):Vw B (jM c l).1:=by
 unfold jM
 split
 ·exact post_vw h _
 ·exact h
theorem far_vw {B:Int}:∀ (l:List PE) (n:Int),n<=B->(∀ p∈l,p.view<=B)->yEH l n<=B
 | [],_,hn,_=>hn
 | p :: l,n,hn,h=>by
  unfold yEH;refine far_vw l _ ?_ (fun x hx=>h x (List.mem_cons_of_mem _ hx))
  split
  ·exact h p (List.mem_cons_self ..)
  ·exact hn
theorem do_vw (h0:0<=B) (h:Vw B c) (e:EV):Vw (B+1) (doC c e).1:=by
 have hm:Vw (B+1) c:=h.mono (by omega);unfold doC
 split
 ·unfold offerP
  split
  ·exact hm
  ·exact ⟨hm.tree,hm.peers⟩
 ·split
  ·unfold showC
   split
   ·refine post_vw ?_ _;have hp:=peAt_vw h0 h e.at'
    have hs:(showP c e.at').view<=B+1:=by
     unfold showP showsP
     split
     ·omega
     ·show (zCJ c e.at').view<=B+1;omega
    refine ⟨put_vw hm.tree ?_,(set_vw hm e.at' hs).peers⟩;show (zCJ c e.at').view<=B+1;omega
   ·exact hm
  ·split
   ·unfold carryC
    split
    ·have ho:=out_vw h e.at';show Vw (B+1) (if _ then _ else _)
     split
     ·unfold heardC;exact say_vw _ (set_vw (ho.mono (by omega)) _ (hear_vw h0 ho (peAt_vw h0 ho _)))
     ·exact ho.mono (by omega)
    ·exact hm
   ·split
    ·exact out_vw hm _
    ·split
     ·unfold yEC
      split
      ·exact post_vw hm _
      ·exact hm
     ·split
      ·unfold waitC
       split
       ·refine post_vw (set_vw hm _ ?_) _;have hp:=peAt_vw h0 h e.at';unfold zGH
        split
        ·exact enter_vw (by omega) (by omega)
        ·omega
       ·exact hm
      ·split
       ·unfold fallC
        split
        ·exact set_vw hm _ (peAt_vw (by omega) hm _)
        ·exact hm
       ·unfold lieC
        split
        ·exact hm
        ·split
         ·exact hand_vw hm _
         ·split
          ·split
           ·exact hand_vw hm _
           ·exact hm
          ·split
           ·unfold zBC
            split
            ·exact hm
            ·split
             ·refine hand_vw ?_ _;refine ⟨put_vw hm.tree ?_,hm.peers⟩;show lieW c e<=B+1;unfold lieW
              split
              ·have:=at_vw h0 h.tree (yBJ c e);omega
              ·have:=far_vw c.peers 0 h0 h.peers;omega
             ·exact hm
           ·exact hand_vw hm _
structure LifeW (m:Nat) (c:CU):Prop extends jJ m c where
 vw:Vw ((m:Int)+1) c
theorem LifeW.mono {m':Nat} (h:LifeW m c) (hm:m<=m'):LifeW m' c:=⟨h.1.mono hm,h.vw.mono (by omega)⟩
theorem LifeW.step (h:LifeW m c) (he:evFit e):LifeW (m+1) (doC c e).1:=⟨do_sm h.1 he,(do_vw (by omega) h.vw e).mono (by omega)⟩
def rowL (t:List BK):List Int->List CM
 | []=>[]
 | k :: l=>kN t k ++ rowL t l
theorem doneAll_app:∀ (l r:List CM) (cs:CL),yD cs (l ++ r)=yD (yD cs l) r
 | [],_,_=>rfl
 | c :: l,r,cs=>doneAll_app l r (yAA cs c)
theorem undos_app:∀ (l r:List CM) (cs:CL),jQ cs (l ++ r)=jQ cs l ++ jQ (yD cs l) r
 | [],_,_=>rfl
 | c :: l,r,cs=>by
  show yDB cs c.2.1 :: jQ (yAA cs c) (l ++ r)=_;rw [undos_app l r (yAA cs c)]
  rfl
theorem rowC_is (t:List BK):∀ (l:List Int) (cs:CL),zGF t cs l=yD cs (rowL t l)
 | [],_=>rfl
 | k :: l,cs=>by
  show zGF t (yD cs (kN t k)) l=yD cs (kN t k ++ rowL t l);rw [rowC_is t l,doneAll_app]
theorem earU_is (t:List BK):∀ (l:List Int) (cs:CL),yDE t cs l=jQ cs (rowL t l)
 | [],_=>rfl
 | k :: l,cs=>by
  show jQ cs (kN t k) ++ yDE t (yD cs (kN t k)) l=jQ cs (kN t k ++ rowL t l);rw [earU_is t l,undos_app]
theorem rowC_app (t:List BK):∀ (l r:List Int) (cs:CL),zGF t cs (l ++ r)=zGF t (zGF t cs l) r
 | [],_,_=>rfl
 | k :: l,r,cs=>rowC_app t l r (yD cs (kN t k))
theorem rowC_right (t:List BK) {cs:CL} (h:kS cs=true) (l:List Int):kS (zGF t cs l)=true:=by rw [rowC_is];exact doneAll_ok _ h
theorem row_back (t:List BK) {cs:CL} (h:kS cs=true) (l:List Int):xY (zGF t cs l) (yDE t cs l)=cs:=by rw [rowC_is,earU_is];exact undoneAll_done _ h
theorem cmds_more (b:BK) (h:0<=x/\x < (t.length:Int)):kN (t ++ [b]) x=kN t x:=by
 unfold kN;rw [if_pos ⟨h.1,by simp;omega⟩,if_pos ⟨h.1,by omega⟩,List.getElem?_append_left (by omega)]
theorem rowL_more {t:List BK} (b:BK):∀ (l:List Int),(∀ x∈l,0<=x/\x < (t.length:Int))->rowL (t ++ [b]) l=rowL t l
 | [],_=>rfl
 | k :: l,h=>by
  show kN (t ++ [b]) k ++ rowL (t ++ [b]) l=kN t k ++ rowL t l;rw [cmds_more b (h k (List.mem_cons_self ..)),rowL_more b l (fun x hx=>h x (List.mem_cons_of_mem _ hx))]
theorem rowC_more (b:BK) {l:List Int} (h:∀ x∈l,0<=x/\x < (t.length:Int)) (cs:CL):zGF (t ++ [b]) cs l=zGF t cs l:=by rw [rowC_is,rowC_is,rowL_more b l h]
theorem earU_more (b:BK) {l:List Int} (h:∀ x∈l,0<=x/\x < (t.length:Int)) (cs:CL):yDE (t ++ [b]) cs l=yDE t cs l:=by rw [earU_is,earU_is,rowL_more b l h]
structure KA (t:List BK) (p:PE):Prop where
 row:∀ x∈p.row,0<=x/\x < (t.length:Int)
 ear:∀ x∈p.early,0<=x/\x < (t.length:Int)
 cells:p.cells=zGF t (zGF t [] p.row) p.early
 undos:p.undos=yDE t (zGF t [] p.row) p.early
def same4 (p q:PE):Prop:=q.row=p.row/\q.cells=p.cells/\q.early=p.early/\q.undos=p.undos
theorem same4.refl (p:PE):same4 p p:=⟨rfl,rfl,rfl,rfl⟩
theorem same4.trans {q r:PE} (h:same4 p q) (k:same4 q r):same4 p r:=⟨k.1.trans h.1,k.2.1.trans h.2.1,k.2.2.1.trans h.2.2.1,k.2.2.2.trans h.2.2.2⟩
theorem KA.same {q:PE} (h:KA t p) (e:same4 p q):KA t q:=
 ⟨by rw [e.1];exact h.row,by rw [e.2.2.1];exact h.ear,by rw [e.1,e.2.1,e.2.2.1];exact h.cells,by rw [e.1,e.2.2.1,e.2.2.2];exact h.undos⟩
theorem KA.base (h:KA t p):xY p.cells p.undos=zGF t [] p.row:=by
 rw [h.cells,h.undos];exact row_back t (rowC_right t (by decide) _) _
theorem KA.none (t:List BK) (hr:∀ x∈p.row,0<=x/\x < (t.length:Int)) (hc:p.cells=zGF t [] p.row) (he:p.early=[]) (hu:p.undos=[]):KA t p:=
 ⟨hr,by rw [he];intro x hx;simp at hx,by rw [he];exact hc,by rw [he,hu];rfl⟩
theorem KA.put (h:KA t p) (b:BK):KA (zGE t b) p:=by
 unfold zGE
 split
 ·exact h
 ·split
  ·exact h
  ·have e:zGF (t ++ [b]) [] p.row=zGF t [] p.row:=rowC_more b h.row [];exact ⟨fun x hx=>by have:=h.row x hx;simp;omega,fun x hx=>by have:=h.ear x hx;simp;omega,by rw [e,rowC_more b h.ear];exact h.cells,by rw [e,earU_more b h.ear];exact h.undos⟩
theorem after_in (t:List BK) (k u:Int):∀ x∈kB t k u,0<=x/\x < (t.length:Int):=fun x hx=>by
 obtain ⟨j,rfl,hj⟩:=after_mem hx;exact ⟨by omega,by omega⟩
theorem through_ka (h:KA t p) (k:Int):KA t (kO t p k):=by
 unfold kO
 split
 ·refine KA.none t (fun x hx=>?_) ?_ rfl rfl
  ·have a:x∈p.row ++ kB t k (qS p.row):=hx
   rcases List.mem_append.1 a with hx | hx
   ·exact h.row x hx
   ·exact after_in t k _ x hx
  ·show zGF t (xY p.cells p.undos) _=zGF t [] (p.row ++ _);rw [h.base,rowC_app]
 ·exact h
theorem early_ka (h:KA t p) (k:Int):KA t (yDF t p k):=
 ⟨h.row,after_in t k _,by show zGF t (xY p.cells p.undos) _=_;rw [h.base];rfl,by show yDE t (xY p.cells p.undos) _=_;rw [h.base];rfl⟩
theorem fall_ka (h:KA t p):KA t (yCF t p):=KA.none t h.row rfl rfl rfl
theorem enter_s4 (p:PE) (v:Int):same4 p (yI p v):=by unfold yI;split <;> exact ⟨rfl,rfl,rfl,rfl⟩
theorem leadV_s4 (p:PE) (n:Int) (v:VT):same4 p (zCF p n v).1:=by
 have h1:same4 p (ledP p n v):=by
  unfold ledP
  split
  ·exact enter_s4 _ _
  ·exact same4.refl p
 unfold zCF leadR leadQ
 split
 ·split
  ·split
   ·exact h1
   ·exact h1
  ·exact h1
 ·exact h1
theorem news_s4 (p:PE) (n:Int) (l:LT):same4 p (newsP p n l):=by
 unfold newsP
 split
 ·split
  ·exact enter_s4 _ _
  ·exact enter_s4 _ _
 ·exact same4.refl p
theorem lead_s4 (t:List BK) (n:Int) (p:PE) (l:LT):same4 p (kZ t n p l).1:=by
 unfold kZ
 split
 ·split
  ·exact leadV_s4 _ _ _
  ·split
   ·exact news_s4 _ _ _
   ·exact same4.refl p
 ·exact same4.refl p
theorem next_s4 (p:PE) (a b c d:Int):same4 p (zIG p a b c d).1:=by unfold zIG;split <;> exact ⟨rfl,rfl,rfl,rfl⟩
theorem qc_ka (n:Int) (h:KA t p) (l:LT):KA t (qcH t n p l).1:=by
 have h1:=h.same (enter_s4 p l.1.2.2.2.1);unfold qcH
 split
 ·exact KA.same (KA.same h1 (q:={ yI p l.1.2.2.2.1 with high:=yF (yI p l.1.2.2.2.1).high l.2.1 }) ⟨rfl,rfl,rfl,rfl⟩) (next_s4 _ _ _ _ _)
 ·split
  ·exact KA.same (KA.same h1 (q:={ yI p l.1.2.2.2.1 with lock:=yF (yI p l.1.2.2.2.1).lock l.2.1 }) ⟨rfl,rfl,rfl,rfl⟩) (next_s4 _ _ _ _ _)
  ·split
   ·unfold doneV;exact (through_ka h1 _).same (enter_s4 _ _)
   ·exact h1
theorem block_s4 (t:List BK) (p:PE) (l:LT):same4 p (blockH t p l).1:=by
 have h1:=enter_s4 p l.1.2.2.2.1;unfold blockH
 split
 ·exact h1
 ·exact h1
theorem ask_ka (n:Int) (h:KA t p) (l:LT):KA t (qC t n p l).1:=by
 unfold qC
 split
 ·split
  ·exact h.same (lead_s4 _ _ _ _)
  ·split
   ·split
    ·exact qc_ka n h l
    ·exact h.same (block_s4 _ _ _)
   ·exact h
 ·exact h
theorem chain_ka (h:KA t p) (k:Int):KA t (jN t p k):=by
 unfold jN
 split
 ·rename_i b c _ _
  have h2:KA t (zGC t (yDI t p k b) k):=by
   have h1:KA t (yDI t p k b):=h.same ⟨rfl,rfl,rfl,rfl⟩;unfold zGC
   split
   ·exact through_ka h1 _
   ·exact h1
  unfold yDH
  split
  ·exact early_ka h2 _
  ·exact h2
 ·exact h
theorem chainH_ka (n:Int) (h:KA t p) (l:LT):KA t (xI t n p l).1:=by
 unfold xI
 split
 ·split
  ·exact h.same (lead_s4 _ _ _ _)
  ·split
   ·exact KA.same (KA.same h (q:={ p with high:=yF p.high l.2.1 }) ⟨rfl,rfl,rfl,rfl⟩) (lead_s4 _ _ _ _)
   ·split
    ·exact h
    ·split
     ·unfold yBD
      split
      ·unfold votesH;exact KA.same (KA.same (chain_ka h l.1.2.2.2.2) (q:=yP (jN t p l.1.2.2.2.2) 4 l.1.2.2.2.1 l.1.2.2.2.2) ⟨rfl,rfl,rfl,rfl⟩) (enter_s4 _ _)
      ·exact chain_ka h _
     ·exact h
 ·exact h
theorem hear_ka (h:KA c.tree p) (l:LT):KA c.tree (zFA c p l).1:=by
 unfold zFA
 split
 ·exact chainH_ka _ h _
 ·exact ask_ka _ h _
def KAC (c:CU):Prop:=∀ p∈c.peers,KA c.tree p
theorem set_ka (h:KAC c) (i:Int) (hp:KA c.tree p):KAC (zCG c i p):=fun x hx=>by
 rcases List.mem_or_eq_of_mem_set hx with hx | rfl
 ·exact h x hx
 ·exact hp
theorem post_ka (h:KAC c) (ls:List LT):KAC (jV c ls):=by
 unfold jV
 split
 ·exact h
 ·exact h
theorem say_ka:∀ (ls:List LT) {c:CU},KAC c->KAC (zIC c ls)
 | [],_,h=>h
 | l :: ls,c,h=>by
  refine say_ka ls (c:=yFD c l) ?_;unfold yFD;refine post_ka ?_ _
  split
  ·unfold zHF
   split
   ·exact h
   ·exact h
  ·exact h
theorem peAt_ka (h:KAC c) (i:Int):KA c.tree (zCJ c i):=by
 unfold zCJ
 by_cases hk:i.toNat < c.peers.length
 ·rw [Ah hk];exact h _ (Af hk)
 ·rw [List.getElem?_eq_none (by omega)];exact KA.none _ (fun x hx=>by simp [zeroPe] at hx) rfl rfl rfl
theorem out_ka (h:KAC c) (k:Int):KAC (zAC c k):=by
 unfold zAC
 split
 ·exact h
 ·exact h
theorem hand_ka (h:KAC c) (l:LT):KAC (jM c l).1:=by
 unfold jM
 split
 ·exact post_ka h _
 ·exact h
theorem do_ka (h:KAC c) (e:EV):KAC (doC c e).1:=by
 unfold doC
 split
 ·unfold offerP
  split
  ·exact h
  ·exact h
 ·split
  ·unfold showC
   split
   ·refine post_ka ?_ _;have hp:=peAt_ka h e.at'
    have hs:same4 (zCJ c e.at') (showP c e.at'):=by
     unfold showP showsP
     split
     ·exact same4.refl _
     ·exact ⟨rfl,rfl,rfl,rfl⟩
    have hk:=set_ka h e.at' (hp.same hs);exact fun p hm=>(hk p hm).put _
   ·exact h
  ·split
   ·unfold carryC
    split
    ·have ho:=out_ka h e.at';show KAC (if _ then _ else _)
     split
     ·unfold heardC;exact say_ka _ (set_ka ho _ (hear_ka (peAt_ka ho _) _))
     ·exact ho
    ·exact h
   ·split
    ·exact out_ka h _
    ·split
     ·unfold yEC
      split
      ·exact post_ka h _
      ·exact h
     ·split
      ·unfold waitC
       split
       ·refine post_ka (set_ka h _ ?_) _;have hp:=peAt_ka h e.at';unfold zGH
        split
        ·exact hp.same (enter_s4 _ _)
        ·exact hp
       ·exact h
      ·split
       ·unfold fallC
        split
        ·exact set_ka h _ (fall_ka (peAt_ka h _))
        ·exact h
       ·unfold lieC
        split
        ·exact h
        ·split
         ·exact hand_ka h _
         ·split
          ·split
           ·exact hand_ka h _
           ·exact h
          ·split
           ·unfold zBC
            split
            ·exact h
            ·split
             ·refine hand_ka ?_ _;exact fun p hm=>(h p hm).put _
             ·exact h
           ·exact hand_ka h _
structure LifeX (m:Nat) (c:CU):Prop extends LifeW m c where
 ka:KAC c
theorem LifeX.mono {m':Nat} (h:LifeX m c) (hm:m<=m'):LifeX m' c:=⟨h.1.mono hm,h.ka⟩
theorem LifeX.step (h:LifeX m c) (he:evFit e):LifeX (m+1) (doC c e).1:=⟨h.1.step he,do_ka h.ka e⟩
end Go.Proofs.YtfnneillakdopacGreatR
