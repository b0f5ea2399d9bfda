/-
  Texts of ours that later ones lean on, in one: LifeD, Draw, Draw2, DrawC, BlockP, DrawC2, DrawB, DrawB2, DrawB4, DrawB5, Draw7, VotesD, AnyD, LifeV, LifeK.
-/
import Derived.Test.YtfnneillakdopacGreatRK7
import Derived.Test.YtfnneillakdopacGreatRDoCZ
import Derived.Test.YtfnneillakdopacGreatRK1
import Derived.Laws.OwnMore
import Derived.Test.YtfnneillakdopacGreatRPutBSZ
import Derived.Deep.RegionHeld3
import Derived.Deep.AppendLies
import Derived.Test.YtfnneillakdopacGreatRK3
import Derived.Laws.AppendOwn
import Derived.Laws.Cells
import Derived.OwnWalk
import Derived.Deep.Cut
set_option maxRecDepth 100000
set_option maxHeartbeats 32000000
namespace Go.Proofs.YtfnneillakdopacGreatR
open _root_.Go.Proofs.Tryz
open Go.Value renaming int->I,slice->Ao
open Go.IntKind renaming i64->U,wrap_i64->Ap
open Option renaming none->Aa,some->Ab
open Nat renaming le_trans->Ac,lt_of_lt_of_le->Ad,zero_le->Ae
open Option.some renaming inj->Af
open List renaming getElem_mem->Ag,length_append->Ah,getElem?_eq_getElem->Ak,length_take->Aq,getElem_append_left->As,length_cons->At,getElem_append_right->Au,getElem_cons_zero->Av
open Go.World.ownsRow renaming kept->Ai,alloc->Aj
open Or renaming inl->Al,inr->Am
open _root_.ByteArray renaming empty->An
open Bool renaming and_eq_true->Ar
open Go.World renaming grownBy->Aw
open Go.RowKit Num
variable {c:CU} {e:EV} {ph x:Int} {l:LT} {t:List BK} {B b cap g k m n off:Nat} {ao:Option Addr} {r:Option Nat} {p:PE} {L ps:TL} {v:Value} {a w w' w1 w2:World}
theorem wf_in (h:-9223372036854775808<=x/\x<=9223372036854775807):(Lit.int U x).wf=true:=by
 have h1:=wrap64_wf x;have h2:wrap64 x=x:=by unfold wrap64;omega
 rw [h2] at h1;exact h1
theorem zFE (h:sm x):(Lit.int U x).wf=true:=wf_in ⟨by have:=h.1;omega,by have:=h.2;omega⟩
theorem smQ_wf {q:QC} (h:smQ q):wfQ q:=⟨zFE h.1,zFE h.2.1,zFE h.2.2.1,zFE h.2.2.2⟩
theorem smV_wf {v:VT} (h:smV v):wfV v:=⟨zFE h.1,zFE h.2.1,zFE h.2.2.1,zFE h.2.2.2⟩
theorem smL_wf (h:smL l):wfL l:=⟨⟨zFE h.1.1,zFE h.1.2.1,zFE h.1.2.2.1,zFE h.1.2.2.2.1,zFE h.1.2.2.2.2⟩,smQ_wf h.2.1,smQ_wf h.2.2⟩
theorem cmd_small {c:CM} (h:zAF c=true):(c.2.1.size:Int)<=3:=by
 have:=(cmdB_bd h).2.1;unfold zIJ at this;simp only [Ar] at this;exact (zDF this.2).2
theorem yFA {k:ByteArray} (h:zIJ k=true):(k.size:Int)<=3:=by
 unfold zIJ at h;simp only [Ar] at h;exact (zDF h.2).2
theorem smT.ok (h:smT t):okT t:=⟨by have:=h.many;omega,fun b hb=>⟨by have:=(h.each b hb).many;omega,fun c hc=>by have:=cmd_small ((h.each b hb).cmds c hc);omega⟩⟩
theorem wtC_le :(∀ b∈t,b.2.1.length<=4)->wtC t<=4 * t.length:=by
 induction t with
 | nil=>intro _;simp [wtC]
 | cons b t ih=>
  intro h;have h1:=h b (List.mem_cons_self ..);have h2:=ih (fun x hx=>h x (List.mem_cons_of_mem _ hx));show b.2.1.length+wtC t<=4 * (b :: t).length;simp only [At];omega
theorem smT.wt (h:smT t):wtB t<=300:=by
 have:=wtC_le (fun b hb=>(h.each b hb).many);have:=h.many;unfold wtB;omega
theorem smP.small (h:smP m p) (hm:m<=1000):yC p:=by
 have h1:=h.row.len;have h2:=h.cells.2.2;have h3:=h.early.1;have h4:=h.undos.1;have h5:=h.votes.1;have h6:=h.news.1
 exact ⟨by omega,by omega,by omega,by omega,by omega,by omega,fun c hc=>by have:=yFA (h.cells.1 c hc).1;omega,fun u hu=>by
  have:=h.undos.2 u hu;unfold zHH at this;simp only [Ar] at this;have:=yFA this.1
  omega⟩
theorem smP.len (h:smP m p):jZ p<=433+2 * m:=by
 have h1:=h.row.len;have h2:=h.cells.2.2;have h3:=h.early.1;have h4:=h.undos.1;have h5:=h.votes.1;have h6:=h.news.1;unfold jZ;omega
theorem smP.kept (h:smP m p):yAG p:=by
 refine ⟨fun n hn=>?_,by have:=h.row.len;omega⟩;have g:∀ x,sm x->0<=x/\x<=1000000000:=fun x hx=>⟨hx.1,by have:=hx.2;omega⟩
 unfold xK at hn
 rcases List.mem_append.1 hn with hn | hn
 ·simp only [List.mem_cons,List.not_mem_nil,or_false] at hn
  rcases hn with rfl | rfl | rfl | rfl | rfl | rfl | rfl | rfl | rfl | rfl | rfl | rfl | rfl | rfl | rfl
  ·exact g _ (id_sm h)
  ·exact g _ (view_sm h)
  ·exact g _ h.high.1
  ·exact g _ h.high.2.1
  ·exact g _ h.high.2.2.1
  ·exact g _ h.high.2.2.2
  ·exact g _ h.lock.1
  ·exact g _ h.lock.2.1
  ·exact g _ h.lock.2.2.1
  ·exact g _ h.lock.2.2.2
  ·exact g _ h.last.1
  ·exact g _ h.last.2.1
  ·exact g _ h.last.2.2.1
  ·exact g _ h.last.2.2.2
  ·have:=h.row.len;exact ⟨by omega,by omega⟩
 ·exact g _ (h.row.sm n hn)
theorem far_le {l:List PE}:∀ {n:Int},0<=n->n<=900->(∀ p∈l,0<=p.view/\p.view<=900)->0<=yEH l n/\yEH l n<=900:=by
 induction l with
 | nil=>intro n h0 h1 _;exact ⟨h0,h1⟩
 | cons p l ih=>
  intro n h0 h1 h;have hp:=h p (List.mem_cons_self ..);unfold yEH
  split
  ·exact ih hp.1 hp.2 (fun x hx=>h x (List.mem_cons_of_mem _ hx))
  ·exact ih h0 h1 (fun x hx=>h x (List.mem_cons_of_mem _ hx))
theorem smP.good (h:smP m p) (hm:m<=1000):yDG p:=by
 have h1:=h.row.len;have h2:=h.cells.2.2;have h3:=h.early.1;have h4:=h.undos.1;have h5:=h.votes.1;have h6:=h.news.1;have a:maxLen=9223372036854775807:=rfl;have nb:∀ {x:Int},zEH x=true->(Lit.int U x).wf=true:=fun hx=>wf_in (by have:=numB_bd hx;omega)
 refine ⟨by omega,by omega,by omega,by omega,by omega,by omega,fun c hc=>by have:=yFA (h.cells.1 c hc).1;omega,fun c hc=>nb (h.cells.1 c hc).2,fun u hu=>?_,fun x hx=>zFE (h.row.sm x hx),fun x hx=>zFE (h.early.2 x hx),fun v hv=>smV_wf (h.votes.2 v hv),fun l hl=>smL_wf (h.news.2 l hl),zFE (id_sm h),zFE (view_sm h),zFE h.shown,smQ_wf h.high,smQ_wf h.lock,smQ_wf h.last⟩;have hb:=h.undos.2 u hu;unfold zHH at hb;simp only [Ar] at hb;have:=yFA hb.1;exact ⟨by omega,nb hb.2⟩
theorem jJ.ok (h:jJ m c) (hm:m<=1000):doOk c:=by
 have hn:=h.n;have ht:=h.tree.many;have ho:=h.tree.one;have a:=h.net.1;have d:=h.said.1;have e:=h.lpeers;have f:=h.pend.1;have b:=h.tree.wt;refine ⟨⟨by omega,⟨by omega,by omega⟩,h.tree.ok,by omega,ho,by omega,by omega,?_,fun k=>?_⟩,⟨by omega,by omega,⟨by omega,by omega⟩,by omega,h.tree.ok,fun p hp=>?_,fun l hl=>?_,by omega⟩,⟨by omega,by omega,wf_in (by omega),h.tree.ok,by omega,fun p hp=>⟨(h.peers p hp).good hm,(h.peers p hp).small hm⟩,⟨by omega,fun x hx=>by have:=cmd_small (h.pend.2 x hx);omega⟩⟩,fun p hp=>(h.peers p hp).kept⟩
 ·have:=far_le (l:=c.peers) (n:=0) (by omega) (by omega) (fun p hp=>(h.peers p hp).view);omega
 ·have:=h.tree.view k;omega
 ·have h1:=(h.peers p hp).len;have h2:=(h.peers p hp).votes.1;have h3:=(h.peers p hp).view;exact ⟨by omega,(h.peers p hp).small hm,by omega,by omega,by omega⟩
 ·have:=(h.net.2 l hl).2.1.2.2.2;exact ⟨by have:=this.1;omega,by have:=this.2;omega⟩
structure evFit (e:EV):Prop where
 at0:0<=e.at'/\e.at'<=1000
 to0:0<=e.to'/\e.to'<=1000
 num:0<=e.num/\e.num<=1000
 cmd:e.kind=1->zAF e.cmd=true
 size:(e.cmd.2.1.size:Int)<=3
theorem peAt_sm (h:jJ m c) {i:Int} (hi:xT c i=true):smP m (zCJ c i):=by
 unfold xT at hi;have:=zDF (Ar _ _ ▸ hi).1;have hl:i.toNat < c.peers.length:=by omega
 unfold zCJ;rw [Ak hl];exact h.peers _ (Ag hl)
theorem out_sm (h:jJ m c) (k:Int):jJ m (zAC c k):=by
 unfold zAC
 split
 ·refine { h with net:=⟨?_,fun l hl=>?_⟩ }
  ·have:=h.net.1;show (c.net.take k.toNat ++ c.net.drop (k.toNat+1)).length<=60;rw [Ah,Aq,List.length_drop];omega
  ·rcases List.mem_append.1 hl with hl | hl
   ·exact h.net.2 l (List.mem_of_mem_take hl)
   ·exact h.net.2 l (List.mem_of_mem_drop hl)
 ·exact h
theorem outL_sm (h:jJ m c) (k:Int):smL (zBH c k):=by
 unfold zBH
 split
 ·rename_i l hl
  split
  ·exact h.net.2 l (List.mem_of_getElem? hl)
  ·exact ⟨⟨sm0,sm0,sm0,sm0,sm0⟩,smQ0,smV0⟩
 ·exact ⟨⟨sm0,sm0,sm0,sm0,sm0⟩,smQ0,smV0⟩
theorem carry_sm (h:jJ m c) (k:Int):jJ (m+1) (carryC c k).1:=by
 unfold carryC
 split
 ·have ho:=out_sm h k;have hl:=outL_sm h k;show jJ (m+1) (if xT (zAC c k) (zBH c k).1.2.2.1=true then heardC (zAC c k) (zBH c k) else zAC c k)
  split
  ·rename_i hh
   have hp:=peAt_sm ho hh;have hr:=hear_sm ho hp hl;unfold heardC;have h1:jJ (m+1) (zCG (zAC c k) (zBH c k).1.2.2.1 (zFA (zAC c k) (zCJ (zAC c k) (zBH c k).1.2.2.1) (zBH c k)).1):=set_sm (ho.mono (Nat.le_succ m)) _ hr.1 (hear_id _ _ _);have h2:LifeS m 10 (zCG (zAC c k) (zBH c k).1.2.2.1 (zFA (zAC c k) (zCJ (zAC c k) (zBH c k).1.2.2.1) (zBH c k)).1):=⟨{ h1 with said:=⟨by simp,fun v hv=>by simp at hv⟩ },by have:=ho.said.1;show (zAC c k).said.length+10<=10 * (m+1);omega,ho.said.2⟩;refine LifeS.to (k:=10 - (zFA (zAC c k) (zCJ (zAC c k) (zBH c k).1.2.2.1) (zBH c k)).2.length) (sayAll_sm _ ?_ hr.2.2);have:=hr.2.1;rw [show 10 - (zFA (zAC c k) (zCJ (zAC c k) (zBH c k).1.2.2.1) (zBH c k)).2.length+(zFA (zAC c k) (zCJ (zAC c k) (zBH c k).1.2.2.1) (zBH c k)).2.length=10 by omega];exact h2
  ·exact ho.mono (Nat.le_succ m)
 ·exact h.mono (Nat.le_succ m)
theorem timed_sm {n:Int} (hn:n=4) (h:smP m p):smP m (zGH p n)/\smL (yEB p n)/\(zGH p n).id=p.id:=by
 unfold zGH yEB
 split
 ·have h1:=yAB h (p.view+1);exact ⟨h1,answer_sm h1 ⟨by decide,by decide⟩ (leader_sm hn) h1.high smV0,qY _ _⟩
 ·exact ⟨h,⟨⟨sm0,sm0,sm0,sm0,sm0⟩,smQ0,smV0⟩,rfl⟩
theorem wait_sm (h:jJ m c) (i:Int):jJ m (waitC c i).1:=by
 unfold waitC
 split
 ·rename_i hh
  have ht:=timed_sm h.n (peAt_sm h hh.1);exact post_sm (set_sm h i ht.1 ht.2.2) (fun x hx=>by rcases List.mem_singleton.1 hx with rfl;exact ht.2.1)
 ·exact h
theorem put_sm (h:smT t) {b:BK} (hb:smQ b.2.2):smT (zGE t b):=by
 unfold zGE
 split
 ·exact h
 ·split
  ·exact h
  ·rename_i hn
   have a:xV t b=true:=by
    cases hx:xV t b with
    | true=>rfl
    | false=>exact absurd (Al hx) hn
   have e:t.length < 60:=by
    by_cases hx:60<=t.length
    ·exact absurd (Am hx) hn
    ·omega
   refine ⟨by simp,by simp;omega,fun x hx=>?_,by rw [List.getElem?_append_left (by have:=h.one;omega)];exact h.fst,fun i hi h0=>?_⟩
   rcases List.mem_append.1 hx with hx | hx
   ·exact h.each x hx
   ·rcases List.mem_singleton.1 hx with rfl
    unfold xV at a;simp only [Ar,decide_eq_true_eq] at a;have h0:=zDF a.1;have hv:=h.view x.1.1;exact ⟨⟨by omega,by omega⟩,⟨by have:=a.2.1;omega,a.2.2.1⟩,a.2.2.2.1,fun c hc=>List.all_eq_true.1 a.2.2.2.2.1 c hc,hb⟩
   by_cases hit:i < t.length
   ·rw [As hit];exact h.on i hit h0
   ·have d:i=t.length:=by simp at hi;omega
    subst d;rw [Au (nl _)];simp only [Nat.sub_self,Av];unfold xV at a;simp only [Ar,decide_eq_true_eq] at a;have h1:=zDF a.1;exact ⟨h1.1,by omega,a.2.2.2.2.2.1⟩
theorem at_from_le (b:BK):∀ (t:List BK) (i:Nat),yW b t i<=(i:Int)+t.length
 | [],i=>by unfold yW;simp only [List.length_nil];omega
 | x :: t,i=>by
  unfold yW
  split
  ·simp only [At];omega
  ·have:=at_from_le b t (i+1);simp only [At];omega
theorem put_at_le (t:List BK) (b:BK):zBE t b<=t.length:=by
 have:=at_from_le b t 0;unfold zBE kI
 split
 ·omega
 ·split <;> omega
theorem sm1:sm 1:=⟨by decide,by decide⟩
theorem sm2:sm 2:=⟨by decide,by decide⟩
theorem sm3:sm 3:=⟨by decide,by decide⟩
theorem sm4:sm 4:=⟨by decide,by decide⟩
theorem putAt_sm (h:smT t) {b:BK} (hp:¬ zBE t b < 0):sm (zBE t b):=by
 have hk:=put_at_le t b;have:=h.many;exact ⟨by omega,by omega⟩
theorem best_sm (h:smP m p):smQ (bestT p):=by
 unfold bestT zAE
 have a:∀ (l:List LT) (q:QC),smQ q->(∀ x∈l,smL x)->smQ (l.foldl (fun q x=>yF q x.2.1) q):=by
  intro l
  induction l with
  | nil=>intro q hq _;exact hq
  | cons x l ih=>intro q hq hl;exact ih _ (yEJ hq (hl x (List.mem_cons_self ..)).2.1) (fun y hy=>hl y (List.mem_cons_of_mem _ hy))
 exact a _ _ h.high h.news.2
theorem shown_sm {m:Nat} {p:PE} (h:smP m p) {k:Int} {q:QC} (hk:sm k) (hq:smQ q):∀ i,i<=100->∀ x∈qX p k q i,smL x
 | 0,_=>fun x hx=>by simp [qX] at hx
 | i+1,hi=>fun x hx=>by
  unfold qX at hx
  rcases List.mem_append.1 hx with hx | hx
  ·exact shown_sm h hk hq i (by omega) x hx
  ·rcases List.mem_singleton.1 hx with rfl
   exact ⟨⟨sm1,id_sm h,⟨by show (0:Int)<=(i:Int);omega,by show (i:Int)<=1000;omega⟩,view_sm h,hk⟩,hq,smV0⟩
theorem show_sm (h:jJ m c) (i:Int):jJ m (showC c i).1:=by
 unfold showC
 split
 ·rename_i hh
  have hp:=peAt_sm h hh.1;have hb:=best_sm hp;have ht:smT (showA c i):=put_sm h.tree hb
  have hP:smP m (showP c i)/\(showP c i).id=(zCJ c i).id:=by
   unfold showP showsP
   split
   ·exact ⟨hp,rfl⟩
   ·exact ⟨{ hp with high:=hb,shown:=view_sm hp },rfl⟩
  have hk:sm (showK c i):=by
   have h0:=hh.2.2.2;unfold showK showsK at h0 ⊢
   split at h0
   ·omega
   ·rename_i h1
    rw [if_neg h1];exact putAt_sm h.tree h1
  have hs:jJ m (showsC c i):=by
   have h1:=set_sm h i hP.1 hP.2;refine { h1 with tree:=ht,pend:=⟨?_,fun x hx=>h.pend.2 x (List.mem_of_mem_drop hx)⟩ };have:=h.pend.1;show (c.pend.drop (showM c)).length<=8;rw [List.length_drop];omega
  refine post_sm hs ?_;unfold zCA;refine shown_sm hP.1 hk ?_ _ (by have:=many_le c.n;omega);unfold justOr
  split
  ·exact (ht.at _).just
  ·exact smQ0
 ·exact h
theorem fall_sm (h:jJ m c) (i:Int):jJ m (fallC c i).1:=by
 unfold fallC
 split
 ·rename_i hh
  have hp:=peAt_sm h hh;refine set_sm h i ?_ rfl;have hf:fair ([]:CL):=fair_of (by decide);exact ⟨hp.id,hp.view,hp.high,hp.lock,hp.last,hp.row,fair_rowC _ _ hf,⟨by simp [yCF,jO],fun x hx=>by simp [yCF,jO] at hx⟩,⟨by simp [yCF,jO],fun x hx=>by simp [yCF,jO] at hx⟩,⟨by simp [yCF,jO],fun x hx=>by simp [yCF,jO] at hx⟩,⟨by simp [yCF,jO],fun x hx=>by simp [yCF,jO] at hx⟩,sm0⟩
 ·exact h
theorem offer_sm (h:jJ m c) {x:CM} (hx:zAF x=true):jJ m (offerP c x).1:=by
 unfold offerP
 split
 ·exact h
 ·refine { h with pend:=⟨?_,fun y hy=>?_⟩ }
  ·show (c.pend ++ [x]).length<=8;rw [Ah,List.length_singleton];omega
  ·rcases List.mem_append.1 hy with hy | hy
   ·exact h.pend.2 y hy
   ·rcases List.mem_singleton.1 hy with rfl;exact hx
theorem twice_sm (h:jJ m c) (k:Int):jJ m (yEC c k).1:=by
 unfold yEC
 split
 ·refine post_sm h (fun x hx=>?_);unfold atC at hx
  split at hx
  ·rename_i l hl
   rcases List.mem_singleton.1 hx with rfl
   exact h.net.2 _ (List.mem_of_getElem? hl)
  ·cases hx
 ·exact h
theorem hand_sm (h:jJ m c) (hl:smL l):jJ m (jM c l).1:=by
 unfold jM
 split
 ·exact post_sm h (fun x hx=>by rcases List.mem_singleton.1 hx with rfl;exact hl)
 ·exact h
theorem lieK_sm (h:jJ m c) (e:EV):0<=yBJ c e/\yBJ c e < 60:=by
 have h1:=h.tree.one;have h2:=h.tree.many;unfold yBJ;have:=Int.emod_nonneg e.num (show (c.tree.length:Int) ≠ 0 by omega);have:=Int.emod_lt_of_pos e.num (show (0:Int) < (c.tree.length:Int) by omega);omega
theorem lieQc_sm (h:jJ m c) {k:Int} (h1:sm ph) (h2:sm k):smQ (qM c ph k).1:=by
 unfold qM
 split
 ·have hv:=h.tree.view k;exact qcOf_sm h1 ⟨hv.1,by omega⟩ h2
 ·exact smQ0
theorem phase_sm (c:CU) {num:Int}:sm (qP c num):=by
 unfold qP
 split
 ·exact ⟨by decide,by decide⟩
 ·exact ⟨by omega,by omega⟩
theorem lieW_sm (h:jJ m c) (e:EV):sm (lieW c e):=by
 unfold lieW
 split
 ·have:=h.tree.view (yBJ c e);exact ⟨by omega,by omega⟩
 ·have:=far_le (l:=c.peers) (n:=0) (by omega) (by omega) (fun p hp=>(h.peers p hp).view);exact ⟨by omega,by omega⟩
theorem lie_sm (h:jJ m c) (he:evFit e):jJ m (lieC c e).1:=by
 have ha:sm e.at':=he.at0;have a:sm e.to':=he.to0;have hk:=lieK_sm h e;have b:sm (yBJ c e):=⟨hk.1,by omega⟩;unfold lieC
 split
 ·exact h
 ·split
  ·have hv:sm (lieView c (yBJ c e)):=by
    unfold lieView
    split
    ·have:=h.tree.view (yBJ c e);exact ⟨this.1,by omega⟩
    ·exact sm0
   exact hand_sm h ⟨⟨sm2,ha,a,hv,sm0⟩,smQ0,⟨phase_sm c,hv,b,ha⟩⟩
  ·split
   ·split
    ·have hq:=lieQc_sm h (phase_sm c (num:=e.num)) b;exact hand_sm h ⟨⟨sm3,ha,a,hq.2.1,sm0⟩,hq,smV0⟩
    ·exact h
   ·split
    ·unfold zBC
     split
     ·exact h
     ·split
      ·rename_i hh
       have hq:smQ (lieQ c e).1:=by
        unfold lieQ;exact lieQc_sm h (by split <;> exact ⟨by decide,by decide⟩) b
       have ht:jJ m (lieT c e):={ h with tree:=put_sm h.tree hq };exact hand_sm ht ⟨⟨sm1,ha,a,lieW_sm h e,putAt_sm h.tree hh.2.2.2.1⟩,hq,smV0⟩
      ·exact h
    ·exact hand_sm h ⟨⟨sm4,ha,a,(show sm (e.num % 900+1) from ⟨by omega,by omega⟩),sm0⟩,smQ0,smV0⟩
theorem do_sm (h:jJ m c) (he:evFit e):jJ (m+1) (doC c e).1:=by
 have hs:=Nat.le_succ m;unfold doC
 split
 ·rename_i k;exact (offer_sm h (he.cmd k)).mono hs
 ·split
  ·exact (show_sm h _).mono hs
  ·split
   ·exact carry_sm h _
   ·split
    ·exact (out_sm h _).mono hs
    ·split
     ·exact (twice_sm h _).mono hs
     ·split
      ·exact (wait_sm h _).mono hs
      ·split
       ·exact (fall_sm h _).mono hs
       ·exact (lie_sm h he).mono hs
theorem and255 (x:Int):0<=bits .and U x 255/\bits .and U x 255<=255:=by
 unfold bits;simp only
 have h:(BitVec.ofInt IntKind.i64.bits x &&& BitVec.ofInt IntKind.i64.bits 255).toNat<=255:=by
  rw [BitVec.toNat_and];exact Ac Nat.and_le_right (by decide)
 generalize (BitVec.ofInt IntKind.i64.bits x &&& BitVec.ofInt IntKind.i64.bits 255).toNat=n at h
 rw [Ap];omega
structure Code (w:World) (ao:Option Addr) (len b off:Nat):Prop where
 le:len<=1048576
 some:0 < len->ao=Option.some ⟨b,off,Aa⟩
 cell:∀ k,k < len->∃ z:Int,0<=z/\z<=255/\w.cell? ⟨b,off+k,Aa⟩=Option.some (.int .u8 z)
 lt:0 < len->b < w.heap.size
theorem Code.grown {len:Nat} (h:Code w ao len b off) (hg:w.grownBy w' r) (hr:0 < len->Option.some b ≠ r):Code w' ao len b off:=
 ⟨h.le,h.some,fun k hk=>by
  obtain ⟨z,h0,h1,h2⟩:=h.cell k hk
  exact ⟨z,h0,h1,by rw [World.cell?_of_block (w:=w) (hg.block b (h.lt (by omega)) (hr (by omega)))];exact h2⟩,fun hl=>Ad (h.lt hl) hg.size⟩
theorem Code.below {len:Nat} (h:Code w ao len b off) (hg:Below w.heap.size w w'):Code w' ao len b off:=
 ⟨h.le,h.some,fun k hk=>by
  obtain ⟨z,h0,h1,h2⟩:=h.cell k hk
  exact ⟨z,h0,h1,by rw [hg.cell (by exact h.lt (by omega))];exact h2⟩,fun hl=>Ad (h.lt hl) hg.size⟩
def Cur (w:World) (B:Nat) (ao:Option Addr) (len cap:Nat):Prop:=
 ∃ (i:Nat) (h:Int),i<=len/\w.heap[B]?=Option.some (.cells #[.slice ao len cap,I U (i:Int),I U h] 127 (0,0))
theorem Cur.keep {len:Nat} (h:Cur w B ao len cap) (hg:w'.heap[B]?=w.heap[B]?):Cur w' B ao len cap:=by
 obtain ⟨i,x,h1,h2⟩:=h;exact ⟨i,x,h1,by rw [hg];exact h2⟩
theorem Cur.lt {len:Nat} (h:Cur w B ao len cap):B < w.heap.size:=by
 obtain ⟨i,x,h1,h2⟩:=h
 rcases Nat.lt_or_ge B w.heap.size with h | h
 ·exact h
 ·rw [Array.getElem?_eq_none h] at h2;simp at h2
theorem cur_set {a b c:Value} {t:TypeId} (h:w.heap[B]?=Option.some (.cells #[a,b,c] t (0,0))) :
  (w.setCell ⟨B,2,Aa⟩ v).heap[B]?=Option.some (.cells #[a,b,v] t (0,0))/\(w.setCell ⟨B,1,Aa⟩ v).heap[B]?=Option.some (.cells #[a,v,c] t (0,0)):=
 ⟨heap_setCell_same w B 2 _ t v h,heap_setCell_same w B 1 _ t v h⟩
theorem xC {b c:World} (h:a.grownBy b r) (k:b.grownBy c r):a.grownBy c r:=
 ⟨k.os.trans h.os,k.tape.trans h.tape,k.output.trans h.output,Ac h.size k.size,fun i hi hr=>(k.block i (Ad hi h.size) hr).trans (h.block i hi hr)⟩
theorem grown_drew {b:World} (h:a.grownBy b r) (n:Nat):a.grownBy (b.drewN n) r:=⟨h.os,h.tape,h.output,h.size,h.block⟩
theorem byte_any (w:World) (B:Nat) (ao:Option Addr) (len cap b off:Nat) (hc:Code w ao len b off) (hB:Cur w B ao len cap) (hne:0 < len->b ≠ B) :
  Calls prog 43 #[.pointer (Option.some ⟨B,0,Aa⟩)] w fun e w'=>∃ x:Int,e=.returned (I U x)/\0<=x/\x<=255/\Cur w' B ao len cap/\w.grownBy w' (Option.some B):=by
 obtain ⟨i,h,d,hb⟩:=hB;have k:=hc.le;have c0:w.cell? ⟨B,0,Aa⟩=Option.some (.slice ao len cap):=by rw [cell_of_row w B 0 _ _ (0,0) hb];rfl
 have c1:w.cell? ⟨B,1,Aa⟩=Option.some (I U (i:Int)):=by rw [cell_of_row w B 1 _ _ (0,0) hb];rfl
 have c2:w.cell? ⟨B,2,Aa⟩=Option.some (I U h):=by rw [cell_of_row w B 2 _ _ (0,0) hb];rfl
 have f2:w.frozen? ⟨B,2,Aa⟩=false:=frozen_of_row w B 2 _ _ hb;have f1:w.frozen? ⟨B,1,Aa⟩=false:=frozen_of_row w B 1 _ _ hb;have HB:=hid hb;clear hb
 by_cases hlt:(i:Int) < len
 ·obtain rfl:=hc.some (by omega);obtain ⟨z,g,f,hz⟩:=hc.cell i (by omega);have c:=hne (by omega);have q0:(0:Int)<=(i:Int):=by omega
  have j:∀ v:Value,(w.setCell ⟨B,2,Aa⟩ v).cell? ⟨b,off+i,Aa⟩=Option.some (.int .u8 z):=fun v=>by
   rw [World.cell?_of_block (w:=w) (heap_setCell_other w ⟨B,2,Aa⟩ b v (by exact c))];exact hz
  clear hc hne;go_enter func43,ntmps43;go_wp2
  generalize wrap64 (wrap64 (h * 6364136223846793005)+1442695040888963407)=H
  go_quiet (fail)
  have a:=and255 (bits .xor U (H / 8589934592) (H / 35184372088832))
  generalize bits .and U (bits .xor U (H / 8589934592) (H / 35184372088832)) 255=x0 at a ⊢
  go_wp2
  go_quiet (fail)
  go_wp2
  go_quiet (fail)
  go_wp2;go_ret;refine ⟨_,rfl,(and255 _).1,(and255 _).2,?_,?_⟩
  ·refine ⟨i+1,H,by omega,?_⟩;have e:=(cur_set (v:=I U ((i:Int)+1)) (cur_set (v:=I U H) HB).1).2;exact e
  ·exact xC (grown_drew (yK w B 2 (I U H)) _) (yK _ B 1 _)
 ·have q0:(0:Int)<=(i:Int):=by omega
  clear hc hne;go_enter func43,ntmps43;go_wp2
  generalize wrap64 (wrap64 (h * 6364136223846793005)+1442695040888963407)=H
  go_quiet (fail)
  have a:=and255 (bits .xor U (H / 8589934592) (H / 35184372088832))
  generalize bits .and U (bits .xor U (H / 8589934592) (H / 35184372088832)) 255=x0 at a ⊢
  go_wp2
  go_quiet (fail)
  go_wp2;go_ret;refine ⟨_,rfl,a.1,a.2,⟨i,H,d,?_⟩,?_⟩
  ·exact (cur_set HB).1
  ·exact grown_drew (grown_drew (yK w B 2 _) _) _
structure St (w:World) (B:Nat) (ao:Option Addr) (len cap b off:Nat):Prop where
 code:Code w ao len b off
 cur:Cur w B ao len cap
 ne:0 < len->b ≠ B
theorem St.step {len:Nat} (h:St w B ao len cap b off) (hc:Cur w' B ao len cap) (hg:w.grownBy w' (Option.some B)):St w' B ao len cap b off:=
 ⟨h.code.grown hg (fun hl e=>h.ne hl (Af e)),hc,h.ne⟩
theorem St.below {len:Nat} (h:St w B ao len cap b off) (hb:Below w.heap.size w w'):St w' B ao len cap b off:=
 ⟨h.code.below hb,h.cur.keep (hb.block B h.cur.lt),h.ne⟩
theorem byte_st {len:Nat} (h:St w B ao len cap b off) :
  Calls prog 43 #[.pointer (Option.some ⟨B,0,Aa⟩)] w fun e w'=>∃ x:Int,e=.returned (I U x)/\0<=x/\x<=255/\St w' B ao len cap b off/\w.grownBy w' (Option.some B):=
 (byte_any w B ao len cap b off h.code h.cur h.ne).mono fun _ _ ⟨x,he,h0,h1,hc,hg⟩=>⟨x,he,h0,h1,h.step hc hg,hg⟩
theorem xO {len:Nat} (n:Int) (hn:0 < n) (hn2:n<=1000000000) (h:St w B ao len cap b off) :
  Calls prog 44 #[.pointer (Option.some ⟨B,0,Aa⟩),I U n] w fun e w'=>∃ x:Int,e=.returned (I U x)/\0<=x/\x < n/\St w' B ao len cap b off/\w.grownBy w' (Option.some B):=by
 have H:=hid h;clear h
 by_cases h256:n<=256
 ·go_enter func44,ntmps44;go_wp2_with (go_at_call 43;refine (byte_st H).mono ?_;rintro e w' ⟨x,rfl,ad,ac,hS,hg⟩;have HS:=hid hS;clear hS)
  go_ret;exact ⟨_,rfl,Int.emod_nonneg _ (by omega),Int.emod_lt_of_pos _ hn,HS,hg⟩
 ·go_enter func44,ntmps44;go_wp2_with fail
  refine (byte_st H).mono ?_;rintro e w1 ⟨x1,rfl,z,r,d,k⟩;have g:=hid d;clear d;go_wp2_with fail
  refine (byte_st g).mono ?_;rintro e w2 ⟨x2,rfl,ab,aa,c,p⟩;have o:=hid c;clear c;go_wp2_with fail
  refine (byte_st o).mono ?_;rintro e w3 ⟨x3,rfl,s,y,f,l⟩;have m:=hid f;clear f;go_wp2_with fail
  refine (byte_st m).mono ?_;rintro e w4 ⟨x4,rfl,t,v,a,i⟩;have j:=hid a;clear a;go_wp2;go_ret;exact ⟨_,rfl,Int.emod_nonneg _ (by omega),Int.emod_lt_of_pos _ hn,j,xC (xC (xC k p) l) i⟩
theorem once_st {len:Nat} (n:Int) (hn:0 < n) (hn2:n<=1000000000) (h:St w B ao len cap b off) :
  Calls prog 106 #[.pointer (Option.some ⟨B,0,Aa⟩),I U n] w fun e w'=>∃ x:Bool,e=.returned (.bool x)/\St w' B ao len cap b off/\w.grownBy w' (Option.some B):=by
 have H:=hid h;clear h;go_enter func106,ntmps106;go_wp2_with (go_at_call 44;refine (xO _ hn hn2 H).mono ?_;rintro e w' ⟨x,rfl,c,a,hS,hg⟩;have HS:=hid hS;clear hS)
 go_ret;exact ⟨_,rfl,HS,hg⟩
theorem kV {b:World} (h:Be a b):a.grownBy b r:=⟨h.os,h.tape,h.output,h.size,fun k hk _=>h.block k hk⟩
theorem new_any {len:Nat} (hc:Code w ao len b off) :
  Calls prog 42 #[.slice ao len cap] w fun e w'=>∃ N,e=.returned (.pointer (Option.some ⟨N,0,Aa⟩))/\w.heap.size<=N/\St w' N ao len cap b off/\Be w w':=by
 have f:=hc.le;have HC:=hid hc;clear hc;go_enter func42,ntmps42;go_wp2
 go_loop [3,4] (fun h i=>∃ (k:Nat) (H:Int),k<=len/\h=I U H/\i=I U k) (fun _ i=>len - (intOf i).toNat)
 case atStart=>exact ⟨0,_,Ae _,rfl,rfl⟩
 case round=>
  obtain ⟨k,H,hk,rfl,rfl⟩:=hrel
  have a:∀ H:Int,∃ N,Ending.returned (.pointer (Option.some ⟨w.heap.size,0,Aa⟩))=Ending.returned (.pointer (Option.some ⟨N,0,Aa⟩))/\w.heap.size<=N/\St (w.alloc (.cells #[.slice ao len cap,I U 0,I U H] 127)) N ao len cap b off/\Be w (w.alloc (.cells #[.slice ao len cap,I U 0,I U H] 127)):=fun H=>
   have hb:Be w (w.alloc (.cells #[.slice ao len cap,I U 0,I U H] 127)):=(br _ _).alloc (nl _) _
   ⟨w.heap.size,rfl,nl _,⟨HC.below hb,⟨0,H,Ae _,heap_alloc_new w _⟩,fun hl e=>by have:=HC.lt hl;omega⟩,hb⟩
  have HF:Hid _:=a;clear a
  by_cases hlt:(k:Int) < len
  ·by_cases h4:(k:Int) < 4000
   ·obtain rfl:=HC.some (by omega);obtain ⟨z,d,c,hz⟩:=HC.cell k (by omega);have q0:(0:Int)<=(k:Int):=by omega
    go_wp2
    go_round
    case rel=>exact ⟨k+1,_,by omega,rfl,by go_num⟩
    case measure=>simp [intOf];omega
   ·go_wp2;go_ret;exact HF.out _
  ·go_wp2;go_ret;exact HF.out _
theorem drawn_below (hb:Be w w1) (hB:w.heap.size<=B) (hg:w1.grownBy w2 (Option.some B)):Be w w2:=
 hb.grown hg hb.size fun k hk=>by rw [Af hk.symm];exact hB
theorem all_snoc {α:Type} {P:α->Prop} {l:List α} {c:α} (h:∀ d∈l,P d) (hc:P c):∀ d∈l ++ [c],P d:=by
 intro d hd
 rcases List.mem_append.1 hd with h1 | h1
 ·exact h d h1
 ·simp at h1;subst h1;exact hc
theorem pickS_st {L:Nat} {len:Nat} (f:Nat->ByteArray) (n:Nat) (hn:0 < n) (hn2:n<=1000) (h:St w B ao len cap b off) (hL:L ≠ B) (hLl:L < w.heap.size) (hc:∀ k,k < n->w.cell? ⟨L,k,Aa⟩=Option.some (.string (f k))) :
  Calls prog 143 #[.pointer (Option.some ⟨B,0,Aa⟩),.slice (Option.some ⟨L,0,Aa⟩) n n] w fun e w'=>∃ k,k < n/\e=.returned (.string (f k))/\St w' B ao len cap b off/\w.grownBy w' (Option.some B):=by
 have H:=hid h;have HC:Hid (∀ k,k < n->w.cell? ⟨L,k,Aa⟩=Option.some (.string (f k))):=hc;clear h hc;go_enter func143,ntmps143;go_wp2_with fail
 refine (xO (n:Int) (by omega) (by omega) H).mono ?_;rintro e w' ⟨x,rfl,c,d,hS,hg⟩;obtain ⟨k,rfl⟩:=Int.eq_ofNat_of_zero_le c;have a:k < n:=by omega
 have g:w'.cell? ⟨L,k,Aa⟩=Option.some (.string (f k)):=by
  rw [World.cell?_of_block (w:=w) (hg.block L hLl (fun e=>hL (Af e)))];exact HC.out k a
 have HS:=hid hS;clear hS;go_wp2;go_ret;exact ⟨k,a,rfl,HS,hg⟩
theorem pickI_st {L:Nat} {len:Nat} (f:Nat->Int) (n:Nat) (hn:0 < n) (hn2:n<=1000) (h:St w B ao len cap b off) (hL:L ≠ B) (hLl:L < w.heap.size) (hc:∀ k,k < n->w.cell? ⟨L,k,Aa⟩=Option.some (I U (f k))) :
  Calls prog 65 #[.pointer (Option.some ⟨B,0,Aa⟩),.slice (Option.some ⟨L,0,Aa⟩) n n] w fun e w'=>∃ k,k < n/\e=.returned (I U (f k))/\St w' B ao len cap b off/\w.grownBy w' (Option.some B):=by
 have H:=hid h;have HC:Hid (∀ k,k < n->w.cell? ⟨L,k,Aa⟩=Option.some (I U (f k))):=hc;clear h hc;go_enter func65,ntmps65;go_wp2_with fail
 refine (xO (n:Int) (by omega) (by omega) H).mono ?_;rintro e w' ⟨x,rfl,c,d,hS,hg⟩;obtain ⟨k,rfl⟩:=Int.eq_ofNat_of_zero_le c;have a:k < n:=by omega
 have g:w'.cell? ⟨L,k,Aa⟩=Option.some (I U (f k)):=by
  rw [World.cell?_of_block (w:=w) (hg.block L hLl (fun e=>hL (Af e)))];exact HC.out k a
 have HS:=hid hS;clear hS;go_wp2;go_ret;exact ⟨k,a,rfl,HS,hg⟩
def dkey (k:Nat):ByteArray:=match k with
 | 0=>⟨#[97]⟩
 | 1=>⟨#[98]⟩
 | 2=>⟨#[99]⟩
 | _=>⟨#[97,98,99]⟩
theorem dkey_ok (k:Nat):zIJ (dkey k)=true:=by
 match k with
 | 0=>decide
 | 1=>decide
 | 2=>decide
 | _+3=>exact (by decide:zIJ ⟨#[97,98,99]⟩=true)
theorem dkey_size (k:Nat):(dkey k).size<=3:=by
 match k with
 | 0=>decide
 | 1=>decide
 | 2=>decide
 | _+3=>exact (by decide:(⟨#[97,98,99]⟩:ByteArray).size<=3)
theorem key_st {len:Nat} (h:St w B ao len cap b off) :
  Calls prog 183 #[.pointer (Option.some ⟨B,0,Aa⟩)] w fun e w'=>∃ k,e=.returned (.string (dkey k))/\St w' B ao len cap b off/\w.grownBy w' (Option.some B):=by
 have H:=hid h;clear h;go_enter func183,ntmps183;go_wp2_with fail
 have hb:Be w (w.alloc (.cells #[.string ⟨#[97]⟩,.string ⟨#[98]⟩,.string ⟨#[99]⟩,.string ⟨#[97,98,99]⟩] 9)):=(br _ _).alloc (nl _) _;refine (pickS_st dkey 4 (by omega) (by omega) (H.below hb) (by have:=H.cur.lt;omega) (by simp) (fun k hk=>?_)).mono ?_
 ·rw [cell_of_row _ w.heap.size k _ _ (0,0) (heap_alloc_new w _)]
  match k,hk with
  | 0,_=>rfl
  | 1,_=>rfl
  | 2,_=>rfl
  | 3,_=>rfl
 rintro e w2 ⟨k,_,rfl,a,c⟩;have d:=hid a;clear a;go_wp2;go_ret;exact ⟨k,rfl,d,xC (kV hb) c⟩
def dnum (k:Nat):Int:=match k with
 | 0=>0
 | 1=>1
 | 2=>7
 | 3=>500
 | _=>999999999
theorem dnum_ok (k:Nat):zEH (dnum k)=true:=by
 match k with
 | 0=>decide
 | 1=>decide
 | 2=>decide
 | 3=>decide
 | _+4=>exact (by decide:zEH 999999999=true)
theorem yT {N:Nat} (h:w.grownBy w1 r) (hN:w.heap.size<=N) (k:w1.grownBy w2 (Option.some N)):w.grownBy w2 r:=
 ⟨k.os.trans h.os,k.tape.trans h.tape,k.output.trans h.output,Ac h.size k.size,fun i hi hr=>(k.block i (Ad hi h.size) (qsn (by omega))).trans (h.block i hi hr)⟩
theorem St.other {N:Nat} {len:Nat} (h:St w B ao len cap b off) (hg:w.grownBy w' (Option.some N)) (hN:B ≠ N) (hb:0 < len->b ≠ N):St w' B ao len cap b off:=
 ⟨h.code.grown hg (fun hl e=>hb hl (Af e)),h.cur.keep (hg.block B h.cur.lt (fun e=>hN (Af e))),h.ne⟩
theorem St.row {len:Nat} (h:St w B ao len cap b off) (hg:w.grownBy w' r) (hN:∀ g,r=Option.some g->B ≠ g) (hb:0 < len->∀ g,r=Option.some g->b ≠ g):St w' B ao len cap b off:=
 ⟨h.code.grown hg (fun hl e=>hb hl b e.symm rfl),h.cur.keep (hg.block B h.cur.lt (fun e=>hN B e.symm rfl)),h.ne⟩
theorem grown_row {w3:World} {q:Option Nat} (h:w.grownBy w1 r) (hb:Be w1 w2) (k:w2.grownBy w3 q) (hq:∀ g,q=Option.some g->w.heap.size<=g):w.grownBy w3 r:=
 ⟨(k.os.trans hb.os).trans h.os,(k.tape.trans hb.tape).trans h.tape,(k.output.trans hb.output).trans h.output,Ac h.size (Ac hb.size k.size),fun i hi hr=>((k.block i (Ad hi (Ac h.size hb.size)) (fun e=>by have:=hq i e.symm;omega)).trans (hb.block i (Ad hi h.size))).trans (h.block i hi hr)⟩
theorem cmd_st {len:Nat} (h:St w B ao len cap b off) :
  Calls prog 142 #[.pointer (Option.some ⟨B,0,Aa⟩)] w fun e w'=>∃ c:CM,e=.returned (cmdV c)/\zAF c=true/\c.2.1.size<=3/\St w' B ao len cap b off/\w.grownBy w' (Option.some B):=by
 have H:=hid h;have aj:=h.cur.lt;clear h;go_enter func142,ntmps142;go_wp2_with fail
 have hb:Be w (w.alloc (.cells #[I U 0,.string An,I U 0] 139)):=(br _ _).alloc (nl _) _;refine (xO 3 (by omega) (by omega) (H.below hb)).mono ?_;rintro e w2 ⟨x,rfl,ai,ag,o,i⟩;have ae:=hid o;have n:Hid (Bx w2 w.heap.size #[I U 0,.string An,I U 0] 139):=(i.block w.heap.size (by simp) (qsn (by omega))).trans (heap_alloc_new w _);have ac:Hid (w.grownBy w2 (Option.some B)):=xC (kV hb) i;clear o i hb;go_wp2_with fail
 refine (key_st ae).mono ?_;rintro e w3 ⟨k,rfl,r,g⟩;have s:=hid r;have y:w.heap.size < w2.heap.size:=(gl n);have m:Hid (Bx w3 w.heap.size #[I U 0,.string An,I U 0] 139):=(g.block w.heap.size y (qsn (by omega))).trans n;have z:Hid (w.grownBy w3 (Option.some B)):=xC ac g;clear r g;go_wp2_with fail
 have d:Be w3 (w3.alloc (.cells #[I U 0,I U 1,I U 7,I U 500,I U 999999999] 3)):=(br _ _).alloc (nl _) _;refine (pickI_st dnum 5 (by omega) (by omega) (s.below d) (by have:=s.cur.lt;omega) (by simp) (fun j hj=>?_)).mono ?_
 ·rw [cell_of_row _ w3.heap.size j _ _ (0,0) (heap_alloc_new w3 _)]
  match j,hj with
  | 0,_=>rfl
  | 1,_=>rfl
  | 2,_=>rfl
  | 3,_=>rfl
  | 4,_=>rfl
 rintro e w4 ⟨j,_,rfl,l,f⟩;have ad:w.heap.size < w3.heap.size:=(gl m);have af:Hid (Bx w4 w.heap.size #[I U 0,.string An,I U 0] 139):=((f.block w.heap.size (by simp;omega) (qsn (by omega))).trans (d.block _ ad)).trans m;have ab:Hid (w.grownBy w4 (Option.some B)):=xC z (xC (kV d) f);have aa:=hid l;clear l f d;obtain ⟨⟨x0,f0⟩,⟨ah,f1⟩,⟨x2,f2⟩,a,t⟩:=blk_three af (I U (1+x)) (.string (dkey k)) (I U (dnum j));have y0:(((w4.setCell ⟨w.heap.size,0,Aa⟩ (I U (1+x))).setCell ⟨w.heap.size,1,Aa⟩ (.string (dkey k))).setCell ⟨w.heap.size,2,Aa⟩ (I U (dnum j))).cell? ⟨w.heap.size,0,Aa⟩=Option.some (I U (1+x)):=by rw [cell_of_row _ w.heap.size 0 _ _ (0,0) a];rfl
 have y1:(((w4.setCell ⟨w.heap.size,0,Aa⟩ (I U (1+x))).setCell ⟨w.heap.size,1,Aa⟩ (.string (dkey k))).setCell ⟨w.heap.size,2,Aa⟩ (I U (dnum j))).cell? ⟨w.heap.size,1,Aa⟩=Option.some (.string (dkey k)):=by rw [cell_of_row _ w.heap.size 1 _ _ (0,0) a];rfl
 have y2:(((w4.setCell ⟨w.heap.size,0,Aa⟩ (I U (1+x))).setCell ⟨w.heap.size,1,Aa⟩ (.string (dkey k))).setCell ⟨w.heap.size,2,Aa⟩ (I U (dnum j))).cell? ⟨w.heap.size,2,Aa⟩=Option.some (I U (dnum j)):=by rw [cell_of_row _ w.heap.size 2 _ _ (0,0) a];rfl
 have p:Hid (w4.grownBy (((w4.setCell ⟨w.heap.size,0,Aa⟩ (I U (1+x))).setCell ⟨w.heap.size,1,Aa⟩ (.string (dkey k))).setCell ⟨w.heap.size,2,Aa⟩ (I U (dnum j))) (Option.some w.heap.size)):=t;clear a t;go_wp2;refine bodyPost_ret (v:=.agg #[_,_,_]) (by simp [results,results142,go_sem,y0,y1,y2];exact ⟨rfl,rfl,rfl⟩) rfl ?_;refine ⟨(1+x,dkey k,dnum j),rfl,?_,dkey_size k,aa.other p (by omega) (fun hl e=>by have:=H.code.lt hl;omega),yT ab (nl _) p⟩;rw [cmdB_rest ⟨by simp only;omega,by simp only;omega⟩ (dkey_ok k)];exact dnum_ok j
theorem infoCm:(prog.info? 139).map (fun i=>(i.zero,i.size,i.bytes))=Ab (Ab (.agg #[I U 0,.string An,I U 0]),3,32):=by kernel_rfl
theorem news3 (W:World) (c:CM) (t:TypeId):∀ j u,(kL c)[j]?=some u->(W.alloc (.cells #[I U c.1,.string c.2.1,I U c.2.2] t)).cell? ((⟨W.heap.size,0,Aa⟩:Addr).add j)=some u:=by
 intro j u hj
 match j,hj with
 | 0,hj=>simp [kL] at hj;subst hj;simp [Addr.add]
 | 1,hj=>simp [kL] at hj;subst hj;simp [Addr.add]
 | 2,hj=>simp [kL] at hj;subst hj;simp [Addr.add]
theorem ones3 (c:CM):∀ u∈kL c,u.oneCell'=true:=by
 intro u hu;simp [kL] at hu;rcases hu with h | h | h <;> subst h <;> rfl
theorem cmds_st4 {len:Nat} (h:St w B ao len cap b off) :
  Calls prog 139 #[.pointer (Option.some ⟨B,0,Aa⟩)] w fun e w'=>∃ (v:Value) (l:List CM),e=.returned v/\l.length<=4/\(∀ c∈l,zAF c=true/\c.2.1.size<=3)/\w'.ownsRow w.heap.size 139 3 v l.length (zE kL l)/\St w' B ao len cap b off/\w.grownBy w' (Option.some B):=by
 have H:=hid h;have aa:=h.cur.lt;obtain ⟨i0,hi,ad,ab,ae⟩:=info_parts infoCm;have hb:Be w (w.alloc (.cells #[] 139)):=(br _ _).alloc (nl _) _;have HB:Hid (Be w (w.alloc (.cells #[] 139))):=hb;clear h hb;go_enter func139,ntmps139;go_wp2
 go_loopw [3,4] (fun o i wr=>∃ l:List CM,l.length<=4/\i=I U (l.length:Int)/\Hid (∀ c∈l,zAF c=true/\c.2.1.size<=3)/\Hid (wr.ownsRow w.heap.size 139 3 o l.length (zE kL l))/\Hid (St wr B ao len cap b off)/\Hid (w.grownBy wr (Option.some B))) (fun _ i _=>6 - (intOf i).toNat)
 case atStart=>exact ⟨[],by simp,rfl,fun c hc=>(by cases hc),yH w 139 3,H.below HB,kV HB⟩
 case round=>
  obtain ⟨l,hl,rfl,HL,HO,HS,HG⟩:=hrel;have am:=HG.size;go_wp2_with fail
  refine (xO 5 (by omega) (by omega) HS).mono ?_;rintro e w2 ⟨x,rfl,an,aj,t,n⟩;have z:=hid t;have j:Hid (w2.ownsRow w.heap.size 139 3 u3 l.length (zE kL l)):=Ai HO n (own_far HO aa);have m:Hid (w.grownBy w2 (Option.some B)):=xC HG n;have ak:=m.size;clear t n
  by_cases hlt:(l.length:Int) < x
  ·go_wp2_with fail
   refine (cmd_st z).mono ?_;rintro e w3 ⟨c,rfl,s,r,y,k⟩;have ag:=hid y;have f:Hid (w3.ownsRow w.heap.size 139 3 u3 l.length (zE kL l)):=Ai j k (own_far j aa);have p:Hid (w.grownBy w3 (Option.some B)):=xC m k;have al:=p.size;have ai:=hid (qad2 s r);clear y k s r;unfold cmdV;go_wp2_with (at_builtin;refine wpList_append_own _ rfl _ _ 86 rfl w.heap.size 139 i0 _ 3 32 underlying86 hi ad ab ae rfl (by decide) _ _ _ rfl (Aj f _) ⟨World.heap _ |>.size,0,Aa⟩ 1 1 (kL c) rfl rfl (news3 _ _ _) (ones3 _) (by unfold maxLen;omega) (by omega) (by simp;omega) ?_;intro v4 w4 d a _)
   have ah:Hid (w4.ownsRow w.heap.size 139 3 v4 (l.length+1) (zE kL l ++ kL c)):=d;have ac:Hid (St w4 B ao len cap b off):=((ag.below ((br _ _).alloc (nl _) _)).row a (fun g hg=>by have:=(f.lt g hg).1;omega) (fun hl=>by have:=H.code.lt hl;intro g hg;have:=(f.lt g hg).1;omega));have af:Hid (w.grownBy w4 (Option.some B)):=grown_row p ((br _ _).alloc (nl _) _) a (fun g hg=>(f.lt g hg).1);clear d a
   go_roundw
   case rel=>exact ⟨l ++ [c],by simp;omega,by simp,all_snoc HL ai,(by rw [zY,Ah];exact ah.out),ac,af⟩
   case measure=>simp [intOf];omega
  ·go_wp2;go_ret;exact ⟨u3,l,rfl,hl,HL,j,z,m⟩
theorem blockAtFrom_in (x:BK) (u:List BK):∀ (t:List BK) (k:Nat),x∈t->yW x (t ++ u) k=yW x t k
 | [],_,h=>by cases h
 | y :: t,k,h=>by
  rw [List.cons_append];unfold yW
  by_cases e:y=x
  ·rw [if_pos e,if_pos e]
  ·rw [if_neg e,if_neg e];exact blockAtFrom_in x u t (k+1) ((List.mem_cons.1 h).resolve_left fun h=>e h.symm)
theorem blockAtFrom_out (x:BK) (u:List BK):∀ (t:List BK) (k:Nat),x ∉ t->yW x (t ++ u) k=yW x u (k+t.length)
 | [],k,_=>by simp
 | y :: t,k,h=>by
  rw [List.cons_append];have e:¬ y=x:=fun e=>h (by rw [e];exact List.mem_cons_self)
  conv=>lhs;unfold yW
  rw [if_neg e,blockAtFrom_out x u t (k+1) fun h'=>h (List.mem_cons_of_mem _ h'),At];rw [show k+1+t.length=k+(t.length+1) by omega]
theorem blockAt_in {u:List BK} {x:BK} (h:x∈t):kI (t ++ u) x=kI t x:=blockAtFrom_in x u t 0 h
theorem blockAt_new {x:BK} (h:x ∉ t):kI (t ++ [x]) x=(t.length:Int):=by
 unfold kI;rw [blockAtFrom_out x _ t 0 h];simp [yW]
theorem blockAt_out {x:BK} (h:x ∉ t):kI t x=-1:=by
 rcases blockAt_cases t x with h1 | ⟨j,hj,_,h2,_⟩
 ·exact h1.1
 ·exact absurd (by rw [<- h2];exact Ag hj) h
theorem treeB_inv (h:treeB t=true):inB (t.length:Int) 1 60=true/\headB t=kE/\treeTo t t.length:=by
 unfold treeB at h;simp only [Ar,decide_eq_true_eq] at h;refine ⟨h.1,h.2.1,fun i hi h0=>?_⟩;have:=List.all_eq_true.1 h.2.2 i (List.mem_range.2 hi)
 simpa [h0] using this
theorem inB_iff {lo hi:Int}:inB x lo hi=true↔lo<=x/\x<=hi:=by unfold inB;simp
theorem treeB_push {b:BK} (h:treeB t=true) (hb:xV t b=true) (hn:b ∉ t) (hl:t.length < 60):treeB (t ++ [b])=true:=by
 obtain ⟨h0,h1,h2⟩:=treeB_inv h;have hp:=inB_iff.1 h0;refine treeB_all (inB_iff.2 ⟨by simp;omega,by simp;omega⟩) ?_ fun i hi a=>?_
 ·rw [<- h1];unfold headB;rw [List.getElem?_append_left (by omega)]
 ·simp at hi
  by_cases e:i < t.length
  ·have:=h2 i e a;unfold treeAt at this ⊢;rw [List.getElem?_append_left e,List.take_append_of_le_length (by omega)];rw [Ak e] at this ⊢;simp only at this ⊢;rw [blockAt_in (Ag e)];exact this
  ·have e:i=t.length:=by omega
   subst e;unfold treeAt;rw [List.getElem?_append_right (nl _)];simp [hb,blockAt_new hn]
theorem treeB_one:treeB [kE]=true:=by decide
theorem put_new_of {b:BK} (hb:xV t b=true) (hn:b ∉ t) (hl:t.length < 60):zBE t b=(t.length:Int)/\zGE t b=t ++ [b]:=
 put_new (by rw [blockAt_out hn];decide) fun h=>h.elim (fun h=>by rw [hb] at h;cases h) (fun h=>by omega)
def onB (t:List BK) (k:Nat) (more:Int) (l:List CM) (ph:Int):BK:=(((k:Int),yR t k+more),(l,(if k=0 then 0 else ph,yR t k,(k:Int),if k=0 then 0 else 7)))
def smallC (l:List CM):Prop:=l.length<=4/\∀ c∈l,zAF c=true/\c.2.1.size<=3
structure Drw (t:List BK) (n:Nat):Prop where
 tree:treeB t=true
 len:t.length<=n
 views:∀ i (h:i < t.length),0<=t[i].1.2/\t[i].1.2<=2 * (i:Int)
 near:∀ b∈t,b=kE∨∃ p,∃ _:p < t.length,b.1.1=(p:Int)/\b.1.2<=yR t p+2
 small:∀ b∈t,smallC b.2.1
theorem Drw.pos (h:Drw t n):0 < t.length:=by have:=inB_iff.1 (treeB_inv h.tree).1;omega
theorem Drw.le (h:Drw t n) (hm:n<=m):Drw t m:=⟨h.tree,by have:=h.len;omega,h.views,h.near,h.small⟩
theorem drw_one:Drw [kE] 1:=by
 refine ⟨treeB_one,by simp,fun i h=>?_,fun b hb=>Al (by simpa using hb),fun b hb=>?_⟩
 ·have:i=0:=by simpa using h
  subst this;exact ⟨Int.le_refl _,Int.le_refl _⟩
 ·have:b=kE:=by simpa using hb
  subst this;exact ⟨Ae _,fun c hc=>by cases hc⟩
theorem viewAt_app {u:List BK} {p:Nat} (h:p < t.length):yR (t ++ u) p=yR t p:=by
 unfold yR;rw [List.getElem?_append_left (by omega)]
theorem onB_ok {more:Int} {l:List CM} (hk:k < t.length) (hm:1<=more) (hv:yR t k+more<=900) (hl:smallC l):xV t (onB t k more l ph)=true:=by
 rw [blockB_all (inB_iff.2 ⟨by show (0:Int)<=(k:Int);omega,by show (k:Int)<=_;omega⟩) (by show yR t (k:Int) < yR t (k:Int)+more;omega) hv hl.1 (fun j hj _=>(hl.2 _ (Ag hj)).1)];simp [onB]
theorem Drw.put {more:Int} {l:List CM} (h:Drw t n) (hk:k < t.length) (h1:1<=more) (h2:more<=2) (hl:smallC l) (hn:n < 50):Drw (zGE t (onB t k more l ph)) (n+1):=by
 have hv:=h.views k hk;have a:=viewAt_at hk;have c:=h.len;have b:xV t (onB t k more l ph)=true:=onB_ok hk h1 (by rw [a];omega) hl
 by_cases hin:onB t k more l ph∈t
 ·have:zGE t (onB t k more l ph)=t:=by
   refine (put_there ?_).2
   rcases blockAt_cases t (onB t k more l ph) with h3 | ⟨j,_,h3,_⟩
   ·exact absurd hin h3.2
   ·rw [h3];omega
  rw [this];exact h.le (by omega)
 ·rw [(put_new_of b hin (by omega)).2];refine ⟨treeB_push h.tree b hin (by omega),by simp;omega,fun i hi=>?_,fun x hx=>?_,fun x hx=>?_⟩
  ·by_cases e:i < t.length
   ·rw [As e];exact h.views i e
   ·have e:i=t.length:=by simp at hi;omega
    subst e;rw [Au (nl _)];simp only [Nat.sub_self,Av];show 0<=yR t (k:Int)+more/\yR t (k:Int)+more<=_;rw [a];omega
  ·rcases List.mem_append.1 hx with hx | hx
   ·rcases h.near x hx with e | ⟨p,hp,e1,e2⟩
    ·exact Al e
    ·exact Am ⟨p,by simp;omega,e1,by rw [viewAt_app hp];exact e2⟩
   ·simp at hx;subst hx;refine Am ⟨k,by simp;omega,rfl,?_⟩;rw [viewAt_app hk];show yR t (k:Int)+more<=_;omega
  ·rcases List.mem_append.1 hx with hx | hx
   ·exact h.small x hx
   ·simp at hx;subst hx;exact hl
theorem Drw.far (h:Drw t n) {b:BK} (hk:b.1.1=(k:Int)) (hv:b.1.2=yR t k+3):b ∉ t:=fun hb=>by
 rcases h.near b hb with e | ⟨p,_,e1,e2⟩
 ·rw [e] at hk;have:(-1:Int)=(k:Int):=hk;omega
 ·have:p=k:=by omega
  subst this;omega
theorem row_cells {X:Nat} {a b c:Value} {t:TypeId} (h:w.heap[X]?=Option.some (.cells #[a,b,c] t (0,0))):w.cell? ⟨X,0,Aa⟩=Option.some a/\w.cell? ⟨X,1,Aa⟩=Option.some b/\w.cell? ⟨X,2,Aa⟩=Option.some c:=by
 refine ⟨?_,?_,?_⟩
 ·rw [cell_of_row w X 0 _ _ (0,0) h];rfl
 ·rw [cell_of_row w X 1 _ _ (0,0) h];rfl
 ·rw [cell_of_row w X 2 _ _ (0,0) h];rfl
def akey (k:Nat):ByteArray:=match k with
 | 0=>An
 | 1=>⟨#[65]⟩
 | _=>⟨#[97,98,99,100]⟩
theorem akey_size (k:Nat):(akey k).size<=4:=by
 match k with
 | 0=>decide
 | 1=>decide
 | _+2=>exact (by decide:(⟨#[97,98,99,100]⟩:ByteArray).size<=4)
def anum (k:Nat):Int:=match k with
 | 0=>-1
 | 1=>1000000000
 | 2=>1000000001
 | _=>9223372036854775807
theorem any_st {len:Nat} (h:St w B ao len cap b off) :
  Calls prog 103 #[.pointer (Option.some ⟨B,0,Aa⟩)] w fun e w'=>∃ c:CM,e=.returned (cmdV c)/\c.2.1.size<=4/\St w' B ao len cap b off/\w.grownBy w' (Option.some B):=by
 have H:=hid h;have a3:=h.cur.lt;clear h;go_enter func103,ntmps103;go_wp2_with fail
 have hb:Be w (w.alloc (.cells #[I U 0,.string An,I U 0] 139)):=(br _ _).alloc (nl _) _;refine (cmd_st (H.below hb)).mono ?_;rintro e w2 ⟨⟨kd,a,num⟩,rfl,_,ax,an,al⟩;simp only at ax;have ak:Bx w2 w.heap.size #[I U 0,.string An,I U 0] 139:=(al.block w.heap.size (by simp) (qsn (by omega))).trans (heap_alloc_new w _);have af:w.heap.size < w2.heap.size:=(gl ak);have aj:Be w2 (w2.alloc (.cells #[I U kd,.string a,I U num] 139)):=(br _ _).alloc (nl _) _;have aw:Hid (St (w2.alloc (.cells #[I U kd,.string a,I U num] 139)) B ao len cap b off):=an.below aj;have aq:Hid (w.grownBy (w2.alloc (.cells #[I U kd,.string a,I U num] 139)) (Option.some B)):=xC (xC (kV hb) al) (kV aj);have au:Hid ((w2.alloc (.cells #[I U kd,.string a,I U num] 139)).heap[w.heap.size]?=Option.some (.cells #[I U 0,.string An,I U 0] 139 (0,0))):=(aj.block _ af).trans ak;have am:Hid ((w2.alloc (.cells #[I U kd,.string a,I U num] 139)).heap[w2.heap.size]?=Option.some (.cells #[I U kd,.string a,I U num] 139 (0,0))):=heap_alloc_new w2 _;have ap:(w2.alloc (.cells #[I U kd,.string a,I U num] 139)).heap.size=w2.heap.size+1:=by simp
 have aa:0 < len->b < w.heap.size:=H.code.lt;clear hb al an aj ak;unfold cmdV;go_wp2_with fail
 refine (xO 8 (by omega) (by omega) aw).mono ?_;rintro e w3 ⟨x,rfl,a2,ay,av,ah⟩;have ab:=hid av;have ag:Hid (w.grownBy w3 (Option.some B)):=xC aq ah;have ai:Hid (Bx w3 w.heap.size #[I U 0,.string An,I U 0] 139):=(ah.block _ (by omega) (qsn (by omega))).trans au;have ad:Hid (Bx w3 w2.heap.size #[I U kd,.string a,I U num] 139):=(ah.block _ (by omega) (qsn (by omega))).trans am;have ar:w2.heap.size < w3.heap.size:=(gl ad);clear av ah aw aq au am ap
 by_cases h0:x=0
 ·have q0:(x == 0)=true:=by simp [h0]
  clear h0;have z:=ag;have o:=ai;have t:=ad;go_wp2_with fail
  refine (xO 5 (by omega) (by omega) ab).mono ?_;rintro e w4 ⟨y,rfl,az,a1,m,f⟩;have ac:=hid m;have ae:Hid (w.grownBy w4 (Option.some B)):=xC z f;have r:Bx w4 w.heap.size #[I U 0,.string An,I U 0] 139:=(f.block _ (by first | omega | (simp;omega)) (qsn (by omega))).trans o;have d:Bx w4 w2.heap.size #[I U kd,.string a,I U num] 139:=(f.block _ (by first | omega | (simp;omega)) (qsn (by omega))).trans t;have a0:=(row_cells d).1;have b0:=frozen_of_row w4 w2.heap.size 0 _ _ d;have n:(w4.setCell ⟨w2.heap.size,0,Aa⟩ (I U y)).heap[w2.heap.size]?=Option.some (.cells #[I U y,.string a,I U num] 139 (0,0)):=heap_setCell_same w4 w2.heap.size 0 _ _ _ d;have p:(w4.setCell ⟨w2.heap.size,0,Aa⟩ (I U y)).heap[w.heap.size]?=Option.some (.cells #[I U 0,.string An,I U 0] 139 (0,0)):=(heap_setCell_other w4 ⟨w2.heap.size,0,Aa⟩ w.heap.size _ (by exact Nat.ne_of_lt af)).trans r;obtain ⟨c0,c1,c2⟩:=row_cells n;obtain ⟨⟨x0,f0⟩,⟨x1,f1⟩,⟨x2,f2⟩,g,i⟩:=blk_three p (I U y) (.string a) (I U num);obtain ⟨y0,y1,y2⟩:=row_cells g;have k:Hid (Aw _ _ (Option.some w.heap.size)):=i;have s:Hid (Aw w4 _ (Option.some w2.heap.size)):=yK w4 w2.heap.size 0 (I U y);clear m f r d n p g i;go_wp2;refine bodyPost_ret (v:=.agg #[_,_,_]) (by simp [results,results103,go_sem,y0,y1,y2];exact ⟨rfl,rfl,rfl⟩) rfl ?_;exact ⟨(y,a,num),rfl,by simp only;omega,(ac.other s (by omega) (fun hl e=>by have:=aa hl;omega)).other k (by omega) (fun hl e=>by have:=aa hl;omega),yT (yT ae (by omega) s) (by omega) k⟩
 ·have q0:(x == 0)=false:=by simp [h0]
  by_cases h1:x=1
  ·have q1:(x == 1)=true:=by simp [h1]
   clear h0 h1;have l:Be w3 (w3.alloc (.cells #[.string An,.string ⟨#[65]⟩,.string ⟨#[97,98,99,100]⟩] 9)):=(br _ _).alloc (nl _) _;have z:Hid (w.grownBy (w3.alloc (.cells #[.string An,.string ⟨#[65]⟩,.string ⟨#[97,98,99,100]⟩] 9)) (Option.some B)):=xC ag (kV l);have o:Hid ((w3.alloc (.cells #[.string An,.string ⟨#[65]⟩,.string ⟨#[97,98,99,100]⟩] 9)).heap[w.heap.size]?=Option.some (.cells #[I U 0,.string An,I U 0] 139 (0,0))):=(l.block _ (by omega)).trans ai;have t:Hid ((w3.alloc (.cells #[.string An,.string ⟨#[65]⟩,.string ⟨#[97,98,99,100]⟩] 9)).heap[w2.heap.size]?=Option.some (.cells #[I U kd,.string a,I U num] 139 (0,0))):=(l.block _ ar).trans ad;go_wp2_with fail
   refine (pickS_st akey 3 (by omega) (by omega) (ab.below l) (by have:=ab.cur.lt;omega) (by simp) (fun j hj=>?_)).mono ?_
   ·rw [cell_of_row _ w3.heap.size j _ _ (0,0) (heap_alloc_new w3 _)]
    match j,hj with
    | 0,_=>rfl
    | 1,_=>rfl
    | 2,_=>rfl
   rintro e w4 ⟨j,_,rfl,m,f⟩;have ac:=hid m;have ae:Hid (w.grownBy w4 (Option.some B)):=xC z f;have r:Bx w4 w.heap.size #[I U 0,.string An,I U 0] 139:=(f.block _ (by first | omega | (simp;omega)) (qsn (by omega))).trans o;have d:Bx w4 w2.heap.size #[I U kd,.string a,I U num] 139:=(f.block _ (by first | omega | (simp;omega)) (qsn (by omega))).trans t;have a0:=(row_cells d).2.1;have b0:=frozen_of_row w4 w2.heap.size 1 _ _ d;have n:(w4.setCell ⟨w2.heap.size,1,Aa⟩ (.string (akey j))).heap[w2.heap.size]?=Option.some (.cells #[I U kd,.string (akey j),I U num] 139 (0,0)):=heap_setCell_same w4 w2.heap.size 1 _ _ _ d;have p:(w4.setCell ⟨w2.heap.size,1,Aa⟩ (.string (akey j))).heap[w.heap.size]?=Option.some (.cells #[I U 0,.string An,I U 0] 139 (0,0)):=(heap_setCell_other w4 ⟨w2.heap.size,1,Aa⟩ w.heap.size _ (by exact Nat.ne_of_lt af)).trans r;obtain ⟨c0,c1,c2⟩:=row_cells n;obtain ⟨⟨x0,f0⟩,⟨x1,f1⟩,⟨x2,f2⟩,g,i⟩:=blk_three p (I U kd) (.string (akey j)) (I U num);obtain ⟨y0,y1,y2⟩:=row_cells g;have k:Hid (Aw _ _ (Option.some w.heap.size)):=i;have s:Hid (Aw w4 _ (Option.some w2.heap.size)):=yK w4 w2.heap.size 1 (.string (akey j));clear m f r d n p g i;go_wp2;refine bodyPost_ret (v:=.agg #[_,_,_]) (by simp [results,results103,go_sem,y0,y1,y2];exact ⟨rfl,rfl,rfl⟩) rfl ?_;exact ⟨(kd,akey j,num),rfl,akey_size j,(ac.other s (by omega) (fun hl e=>by have:=aa hl;omega)).other k (by omega) (fun hl e=>by have:=aa hl;omega),yT (yT ae (by omega) s) (by omega) k⟩
  ·have q1:(x == 1)=false:=by simp [h1]
   by_cases h2:x=2
   ·have q2:(x == 2)=true:=by simp [h2]
    clear h0 h1 h2;have l:Be w3 (w3.alloc (.cells #[I U (-1),I U 1000000000,I U 1000000001,I U 9223372036854775807] 3)):=(br _ _).alloc (nl _) _;have z:Hid (w.grownBy (w3.alloc (.cells #[I U (-1),I U 1000000000,I U 1000000001,I U 9223372036854775807] 3)) (Option.some B)):=xC ag (kV l);have o:Hid ((w3.alloc (.cells #[I U (-1),I U 1000000000,I U 1000000001,I U 9223372036854775807] 3)).heap[w.heap.size]?=Option.some (.cells #[I U 0,.string An,I U 0] 139 (0,0))):=(l.block _ (by omega)).trans ai;have t:Hid ((w3.alloc (.cells #[I U (-1),I U 1000000000,I U 1000000001,I U 9223372036854775807] 3)).heap[w2.heap.size]?=Option.some (.cells #[I U kd,.string a,I U num] 139 (0,0))):=(l.block _ ar).trans ad;go_wp2_with fail
    refine (pickI_st anum 4 (by omega) (by omega) (ab.below l) (by have:=ab.cur.lt;omega) (by simp) (fun j hj=>?_)).mono ?_
    ·rw [cell_of_row _ w3.heap.size j _ _ (0,0) (heap_alloc_new w3 _)]
     match j,hj with
     | 0,_=>rfl
     | 1,_=>rfl
     | 2,_=>rfl
     | 3,_=>rfl
    rintro e w4 ⟨j,_,rfl,m,f⟩;have ac:=hid m;have ae:Hid (w.grownBy w4 (Option.some B)):=xC z f;have r:Bx w4 w.heap.size #[I U 0,.string An,I U 0] 139:=(f.block _ (by first | omega | (simp;omega)) (qsn (by omega))).trans o;have d:Bx w4 w2.heap.size #[I U kd,.string a,I U num] 139:=(f.block _ (by first | omega | (simp;omega)) (qsn (by omega))).trans t;have a0:=(row_cells d).2.2;have b0:=frozen_of_row w4 w2.heap.size 2 _ _ d;have n:(w4.setCell ⟨w2.heap.size,2,Aa⟩ (I U (anum j))).heap[w2.heap.size]?=Option.some (.cells #[I U kd,.string a,I U (anum j)] 139 (0,0)):=heap_setCell_same w4 w2.heap.size 2 _ _ _ d;have p:(w4.setCell ⟨w2.heap.size,2,Aa⟩ (I U (anum j))).heap[w.heap.size]?=Option.some (.cells #[I U 0,.string An,I U 0] 139 (0,0)):=(heap_setCell_other w4 ⟨w2.heap.size,2,Aa⟩ w.heap.size _ (by exact Nat.ne_of_lt af)).trans r;obtain ⟨c0,c1,c2⟩:=row_cells n;obtain ⟨⟨x0,f0⟩,⟨x1,f1⟩,⟨x2,f2⟩,g,i⟩:=blk_three p (I U kd) (.string a) (I U (anum j));obtain ⟨y0,y1,y2⟩:=row_cells g;have k:Hid (Aw _ _ (Option.some w.heap.size)):=i;have s:Hid (Aw w4 _ (Option.some w2.heap.size)):=yK w4 w2.heap.size 2 (I U (anum j));clear m f r d n p g i;go_wp2;refine bodyPost_ret (v:=.agg #[_,_,_]) (by simp [results,results103,go_sem,y0,y1,y2];exact ⟨rfl,rfl,rfl⟩) rfl ?_;exact ⟨(kd,a,anum j),rfl,by simp only;omega,(ac.other s (by omega) (fun hl e=>by have:=aa hl;omega)).other k (by omega) (fun hl e=>by have:=aa hl;omega),yT (yT ae (by omega) s) (by omega) k⟩
   ·have q2:(x == 2)=false:=by simp [h2]
    clear h0 h1 h2;obtain ⟨c0,c1,c2⟩:=row_cells ad;obtain ⟨⟨x0,f0⟩,⟨x1,f1⟩,⟨x2,f2⟩,g,i⟩:=blk_three ai (I U kd) (.string a) (I U num);obtain ⟨y0,y1,y2⟩:=row_cells g;have k:Hid (Aw _ _ (Option.some w.heap.size)):=i;clear g i;go_wp2;refine bodyPost_ret (v:=.agg #[_,_,_]) (by simp [results,results103,go_sem,y0,y1,y2];exact ⟨rfl,rfl,rfl⟩) rfl ?_;exact ⟨(kd,a,num),rfl,by simp only;omega,ab.other k (by omega) (fun hl e=>by have:=aa hl;omega),yT ag (by omega) k⟩
theorem onB_zero (t:List BK) (more:Int) (l:List CM) (ph:Int):onB t 0 more l ph=((((0:Nat):Int),yR t ((0:Nat):Int)+more),(l,(0,yR t ((0:Nat):Int),((0:Nat):Int),0))):=rfl
theorem onB_pos (t:List BK) (hk:k ≠ 0) (more:Int) (l:List CM) (ph:Int):onB t k more l ph=(((k:Int),yR t (k:Int)+more),(l,(ph,yR t (k:Int),(k:Int),7))):=by
 unfold onB;rw [if_neg hk,if_neg hk]
theorem on_s (ps:TL) (v:Value) (k:Nat) (more:Int) (l:List CM) (ac:Option Addr) (nc cc:Nat) (ph:Int) (w:World) (hT:jB w v ps) (hk:k < ps.length) (hl:(ps.length:Int)<=1048576) (hv:-1000000<=yR (bks ps) k/\yR (bks ps) k<=1000000) (hm:-1000000<=more/\more<=1000000) :
  Calls prog 141 #[v,I U (k:Int),I U more,.slice ac nc cc,I U ph] w fun e w'=>e=.returned (blkV (onB (bks ps) k more l ph) (.slice ac nc cc))/\Be w w':=by
 obtain ⟨a,cap,rfl,hr⟩:=zAI hT;obtain ⟨g,c,rfl,hg,hc⟩:=hr (by omega);have f:yR (bks ps) (k:Int)=ps[k].1.1.2:=by rw [viewAt_at (by rw [yO];exact hk),bks_at hk]
 have HV:Hid (yR (bks ps) (k:Int)=ps[k].1.1.2):=f;rw [f] at hv;obtain ⟨m,n⟩:=hv;obtain ⟨i,j⟩:=hm;have q0:(0:Int)<=(k:Int):=by omega
 have q1:(k:Int) < ps.length:=by omega
 have c1:w.cell? ⟨g,c+k * 7+1,Aa⟩=Ab (I U ps[k].1.1.2):=(hc k hk).2.1;have d:Hid (∀ w',Be w w'->w'.cell? ⟨g,c+k * 7+1,Aa⟩=Ab (I U ps[k].1.1.2)):=fun w' h'=>by rw [h'.cell (by exact hg)];exact (hc k hk).2.1
 clear hc hr f;have b:IntKind.i64.wrap (ps[k].1.1.2+more)=ps[k].1.1.2+more:=by rw [Ap];omega
 go_enter func141,ntmps141
 by_cases hz:0 < (k:Int)
 ·go_wp2
  go_region_held3 (fun w'=>w'.cell? ⟨g,c+k * 7+1,Aa⟩=Ab (I U ps[k].1.1.2)) (first | exact d _ (ba (br _ _) _).drew | exact d _ (ba (ba (br _ _) _).drew _)) (fail)
  clear b c1;go_wp2;refine bodyPost_ret (v:=.agg #[I U (k:Int),I U (ps[k].1.1.2+more),.slice ac nc cc,I U ph,I U ps[k].1.1.2,I U (k:Int),I U 7]) (by simp [results,results141,go_sem]) rfl ⟨?_,?_⟩
  ·rw [onB_pos _ (by omega),HV.out];rfl
  ·exact (ba (ba (br _ _) _) _).drew
 ·go_wp2
  go_region_held3 (fun w'=>w'.cell? ⟨g,c+k * 7+1,Aa⟩=Ab (I U ps[k].1.1.2)) (first | exact d _ (ba (br _ _) _).drew | exact d _ (ba (ba (br _ _) _).drew _)) (fail)
  clear b c1;go_wp2;refine bodyPost_ret (v:=.agg #[I U (k:Int),I U (ps[k].1.1.2+more),.slice ac nc cc,I U 0,I U ps[k].1.1.2,I U (k:Int),I U 0]) (by simp [results,results141,go_sem]) rfl ⟨?_,?_⟩
  ·have h:k=0:=by omega
   have hh:=HV.out;subst h;rw [onB_zero,hh];rfl
  ·exact (ba (ba (br _ _) _) _).drew
theorem xH.st {base:Nat} (h:xH w base v ps) (hg:w.grownBy w' (Option.some B)) (hB:B < base):xH w' base v ps:=
 h.same fun g a hl=>hg.block g hl fun e=>by have:=Af e;omega
theorem small_ok {b:BK} (h:smallC b.2.1):okB b:=⟨by have:=h.1;omega,fun c hc=>by have:=(h.2 c hc).2;omega⟩
theorem drw_ok (h:Drw t n) (hn:n<=1000):okT t:=⟨by have:=h.len;omega,fun b hb=>small_ok (h.small b hb)⟩
def dphase (k:Nat):Int:=match k with
 | 0=>1
 | _=>4
theorem drawn_st {len:Nat} (h:St w B ao len cap b off) :
  Calls prog 102 #[.pointer (Option.some ⟨B,0,Aa⟩)] w fun e w'=>∃ (v:Value) (qs:TL),e=.returned v/\Drw (bks qs) 9/\xH w' w.heap.size v qs/\St w' B ao len cap b off/\w.grownBy w' (Option.some B):=by
 have H:=hid h;have t:=h.cur.lt;clear h;go_enter func102,ntmps102;go_wp2_with fail
 refine (treeNew_s w).mono ?_;rintro e w1 ⟨v1,rfl,a2,au⟩;have bh:Hid (xH w1 w.heap.size v1 [(kE,.slice none 0 0)]):=a2;have a4:Hid (Be w w1):=au;have bn:=au.size;clear a2 au;go_wp2_with fail
 have ap:Be w1 (w1.alloc (.cells #[I U 1,I U 4] 3)):=(br _ _).alloc (nl _) _;refine (pickI_st dphase 2 (by omega) (by omega) ((H.below a4).below ap) (by omega) (by simp) (fun j hj=>?_)).mono ?_
 ·rw [cell_of_row _ w1.heap.size j _ _ (0,0) (heap_alloc_new w1 _)]
  match j,hj with
  | 0,_=>rfl
  | 1,_=>rfl
 rintro e w2 ⟨j,_,rfl,az,ay⟩;have bj:=hid az;have bf:Hid (xH w2 w.heap.size v1 [(kE,.slice none 0 0)]):=(bh.below ap).st ay t;have bg:Hid (w.grownBy w2 (Option.some B)):=xC (kV (bt a4 ap)) ay;clear az ay ap;go_wp2
 go_loopw [3,5] (fun o i wr=>∃ (m:Nat) (qs:TL),m<=8/\i=I U (m:Int)/\Hid (Drw (bks qs) (m+1))/\Hid (xH wr w.heap.size o qs)/\Hid (St wr B ao len cap b off)/\Hid (w.grownBy wr (Option.some B))) (fun _ i _=>9 - (intOf i).toNat)
 case atStart=>exact ⟨0,[(kE,.slice none 0 0)],by omega,rfl,(drw_one:Drw (bks [(kE,Ao none 0 0)]) (0+1)),bf,bj,bg⟩
 case round=>
  obtain ⟨m,qs,hm,rfl,HD,a7,be,bi⟩:=hrel;obtain ⟨a3,c3,h3,_⟩:=yL a7.row;subst h3;have bd:=HD.len;have bc:=HD.pos;rw [yO] at bd bc;have hl:(qs.length:Int)<=1048576:=by omega
  go_wp2_with fail
  refine (xO 9 (by omega) (by omega) be).mono ?_;rintro e w4 ⟨x,rfl,bo,bm,hS,hg⟩;have a1:=hid hS;have a0:Hid (xH w4 w.heap.size (.slice a3 qs.length c3) qs):=a7.st hg t;have a6:Hid (w.grownBy w4 (Option.some B)):=xC bi hg;clear hS hg
  by_cases hlt:(m:Int) < x
  ·have bl:m<=7:=by omega
   go_wp2_with fail
   refine (once_st 4 (by omega) (by omega) a1).mono ?_;rintro e w5 ⟨y1,rfl,hS,hg⟩;have a5:=hid hS;have a8:Hid (xH w5 w.heap.size (.slice a3 qs.length c3) qs):=a0.st hg t;have a9:Hid (w.grownBy w5 (Option.some B)):=xC a6 hg;clear hS hg
   cases y1
   ·go_wp2_with fail
    refine (once_st 4 (by omega) (by omega) a5).mono ?_;rintro e w6 ⟨y2,rfl,hS,hg⟩;have al:=hid hS;have am:Hid (xH w6 w.heap.size (.slice a3 qs.length c3) qs):=a8.st hg t;have an:Hid (w.grownBy w6 (Option.some B)):=xC a9 hg;clear hS hg
    cases y2
    ·go_wp2_with fail
     refine (cmds_st4 al).mono ?_;rintro e w7 ⟨cv,l,rfl,hl,g,a,hS,hg⟩;obtain ⟨ac,cc,rfl,_⟩:=yL a;have HL:Hid (smallC l):=⟨hl,g⟩;have aq:Hid (w7.ownsRow w6.heap.size 139 3 (.slice ac l.length cc) l.length (zE kL l)):=a;have ah:=hid hS;have y:Hid (xH w7 w.heap.size (.slice a3 qs.length c3) qs):=am.st hg t;have z:Hid (w.grownBy w7 (Option.some B)):=xC an hg;clear hS hg;clear hl g a;have f:qs.length - 1 < qs.length:=by omega
     have av:yR (bks qs) ((qs.length - 1:Nat):Int)<=20/\0<=yR (bks qs) ((qs.length - 1:Nat):Int):=by
      have h1:=HD.views (qs.length - 1) (by rw [yO];exact f);rw [viewAt_at (by rw [yO];exact f)];omega
     have d:((qs.length - 1:Nat):Int)=(qs.length:Int) - 1:=by omega
     have p:=on_s qs (.slice a3 qs.length c3) (qs.length - 1) 1 l ac l.length cc (dphase j) w7 y.read.q f (by omega) ⟨by omega,by omega⟩ ⟨by decide,by decide⟩;rw [d] at p;have af:=hid p;clear p d;go_wp2_with fail
     refine af.out.mono ?_;rintro e w8 ⟨rfl,hb⟩;have c:Hid (Be w7 w8):=hb;clear hb;go_wp2_with fail
     refine (putBlock_s qs (.slice a3 qs.length c3) (onB (bks qs) (qs.length - 1) 1 l (dphase j)) (.slice ac l.length cc) w8 (y.read.below c) ((zW kC aq).below c) (drw_ok HD (by omega)) (small_ok HL)).mono ?_;rintro e w9 ⟨v9,q9,rfl,r,s,n⟩;have ax:=z.size;have ai:=c.size;have ad:Hid (Drw (bks q9) (m+1+1)):=hid (by rw [r];exact HD.out.put (by rw [yO];exact f) (by decide) (by decide) HL (by omega));have aa:Hid (xH w9 w.heap.size v9 q9):=s.base (by omega);have ae:Hid (St w9 B ao len cap b off):=ah.below (bt c n);have ab:Hid (w.grownBy w9 (Option.some B)):=xC z (kV (bt c n));clear r s n;go_wp2
     go_roundw
     case rel=>exact ⟨m+1,q9,by omega,by go_num,ad,aa,ae,ab⟩
     case measure=>simp [intOf];omega
    ·go_wp2_with fail
     refine (cmds_st4 al).mono ?_;rintro e w7 ⟨cv,l,rfl,hl,g,a,hS,hg⟩;obtain ⟨ac,cc,rfl,_⟩:=yL a;have HL:Hid (smallC l):=⟨hl,g⟩;have aq:Hid (w7.ownsRow w6.heap.size 139 3 (.slice ac l.length cc) l.length (zE kL l)):=a;have ah:=hid hS;have y:Hid (xH w7 w.heap.size (.slice a3 qs.length c3) qs):=am.st hg t;have z:Hid (w.grownBy w7 (Option.some B)):=xC an hg;clear hS hg;clear hl g a;have f:qs.length - 1 < qs.length:=by omega
     have av:yR (bks qs) ((qs.length - 1:Nat):Int)<=20/\0<=yR (bks qs) ((qs.length - 1:Nat):Int):=by
      have h1:=HD.views (qs.length - 1) (by rw [yO];exact f);rw [viewAt_at (by rw [yO];exact f)];omega
     have d:((qs.length - 1:Nat):Int)=(qs.length:Int) - 1:=by omega
     have p:=on_s qs (.slice a3 qs.length c3) (qs.length - 1) 2 l ac l.length cc (dphase j) w7 y.read.q f (by omega) ⟨by omega,by omega⟩ ⟨by decide,by decide⟩;rw [d] at p;have af:=hid p;clear p d;go_wp2_with fail
     refine af.out.mono ?_;rintro e w8 ⟨rfl,hb⟩;have c:Hid (Be w7 w8):=hb;clear hb;go_wp2_with fail
     refine (putBlock_s qs (.slice a3 qs.length c3) (onB (bks qs) (qs.length - 1) 2 l (dphase j)) (.slice ac l.length cc) w8 (y.read.below c) ((zW kC aq).below c) (drw_ok HD (by omega)) (small_ok HL)).mono ?_;rintro e w9 ⟨v9,q9,rfl,r,s,n⟩;have ax:=z.size;have ai:=c.size;have ad:Hid (Drw (bks q9) (m+1+1)):=hid (by rw [r];exact HD.out.put (by rw [yO];exact f) (by decide) (by decide) HL (by omega));have aa:Hid (xH w9 w.heap.size v9 q9):=s.base (by omega);have ae:Hid (St w9 B ao len cap b off):=ah.below (bt c n);have ab:Hid (w.grownBy w9 (Option.some B)):=xC z (kV (bt c n));clear r s n;go_wp2
     go_roundw
     case rel=>exact ⟨m+1,q9,by omega,by go_num,ad,aa,ae,ab⟩
     case measure=>simp [intOf];omega
   ·go_wp2_with fail
    refine (xO (qs.length:Int) (by omega) (by omega) a5).mono ?_;rintro e w6 ⟨kx,rfl,bb,bk,hS,hg⟩;have al:=hid hS;have am:Hid (xH w6 w.heap.size (.slice a3 qs.length c3) qs):=a8.st hg t;have an:Hid (w.grownBy w6 (Option.some B)):=xC a9 hg;clear hS hg;obtain ⟨k,rfl⟩:=Int.eq_ofNat_of_zero_le bb;go_wp2_with fail
    refine (once_st 4 (by omega) (by omega) al).mono ?_;rintro e w7 ⟨y2,rfl,hS,hg⟩;have ah:=hid hS;have y:Hid (xH w7 w.heap.size (.slice a3 qs.length c3) qs):=am.st hg t;have z:Hid (w.grownBy w7 (Option.some B)):=xC an hg;clear hS hg
    cases y2
    ·go_wp2_with fail
     refine (cmds_st4 ah).mono ?_;rintro e w8 ⟨cv,l,rfl,hl,g,a,hS,hg⟩;obtain ⟨ac,cc,rfl,_⟩:=yL a;have HL:Hid (smallC l):=⟨hl,g⟩;have ar:Hid (w8.ownsRow w7.heap.size 139 3 (.slice ac l.length cc) l.length (zE kL l)):=a;have aw:=hid hS;have aj:Hid (xH w8 w.heap.size (.slice a3 qs.length c3) qs):=y.st hg t;have ak:Hid (w.grownBy w8 (Option.some B)):=xC z hg;clear hS hg;clear hl g a;have f:k < qs.length:=by omega
     have av:yR (bks qs) ((k:Nat):Int)<=20/\0<=yR (bks qs) ((k:Nat):Int):=by
      have h1:=HD.views (k) (by rw [yO];exact f);rw [viewAt_at (by rw [yO];exact f)];omega
     have d:((k:Nat):Int)=(k:Int):=by omega
     have p:=on_s qs (.slice a3 qs.length c3) (k) 1 l ac l.length cc (dphase j) w8 aj.read.q f (by omega) ⟨by omega,by omega⟩ ⟨by decide,by decide⟩;rw [d] at p;have af:=hid p;clear p d;go_wp2_with fail
     refine af.out.mono ?_;rintro e w9 ⟨rfl,hb⟩;have c:Hid (Be w8 w9):=hb;clear hb;go_wp2_with fail
     refine (putBlock_s qs (.slice a3 qs.length c3) (onB (bks qs) (k) 1 l (dphase j)) (.slice ac l.length cc) w9 (aj.read.below c) ((zW kC ar).below c) (drw_ok HD (by omega)) (small_ok HL)).mono ?_;rintro e ag ⟨v9,q9,rfl,r,s,n⟩;have ax:=ak.size;have ai:=c.size;have ad:Hid (Drw (bks q9) (m+1+1)):=hid (by rw [r];exact HD.out.put (by rw [yO];exact f) (by decide) (by decide) HL (by omega));have aa:Hid (xH ag w.heap.size v9 q9):=s.base (by omega);have ae:Hid (St ag B ao len cap b off):=aw.below (bt c n);have ab:Hid (w.grownBy ag (Option.some B)):=xC ak (kV (bt c n));clear r s n;go_wp2
     go_roundw
     case rel=>exact ⟨m+1,q9,by omega,by go_num,ad,aa,ae,ab⟩
     case measure=>simp [intOf];omega
    ·go_wp2_with fail
     refine (cmds_st4 ah).mono ?_;rintro e w8 ⟨cv,l,rfl,hl,g,a,hS,hg⟩;obtain ⟨ac,cc,rfl,_⟩:=yL a;have HL:Hid (smallC l):=⟨hl,g⟩;have ar:Hid (w8.ownsRow w7.heap.size 139 3 (.slice ac l.length cc) l.length (zE kL l)):=a;have aw:=hid hS;have aj:Hid (xH w8 w.heap.size (.slice a3 qs.length c3) qs):=y.st hg t;have ak:Hid (w.grownBy w8 (Option.some B)):=xC z hg;clear hS hg;clear hl g a;have f:k < qs.length:=by omega
     have av:yR (bks qs) ((k:Nat):Int)<=20/\0<=yR (bks qs) ((k:Nat):Int):=by
      have h1:=HD.views (k) (by rw [yO];exact f);rw [viewAt_at (by rw [yO];exact f)];omega
     have d:((k:Nat):Int)=(k:Int):=by omega
     have p:=on_s qs (.slice a3 qs.length c3) (k) 2 l ac l.length cc (dphase j) w8 aj.read.q f (by omega) ⟨by omega,by omega⟩ ⟨by decide,by decide⟩;rw [d] at p;have af:=hid p;clear p d;go_wp2_with fail
     refine af.out.mono ?_;rintro e w9 ⟨rfl,hb⟩;have c:Hid (Be w8 w9):=hb;clear hb;go_wp2_with fail
     refine (putBlock_s qs (.slice a3 qs.length c3) (onB (bks qs) (k) 2 l (dphase j)) (.slice ac l.length cc) w9 (aj.read.below c) ((zW kC ar).below c) (drw_ok HD (by omega)) (small_ok HL)).mono ?_;rintro e ag ⟨v9,q9,rfl,r,s,n⟩;have ax:=ak.size;have ai:=c.size;have ad:Hid (Drw (bks q9) (m+1+1)):=hid (by rw [r];exact HD.out.put (by rw [yO];exact f) (by decide) (by decide) HL (by omega));have aa:Hid (xH ag w.heap.size v9 q9):=s.base (by omega);have ae:Hid (St ag B ao len cap b off):=aw.below (bt c n);have ab:Hid (w.grownBy ag (Option.some B)):=xC ak (kV (bt c n));clear r s n;go_wp2
     go_roundw
     case rel=>exact ⟨m+1,q9,by omega,by go_num,ad,aa,ae,ab⟩
     case measure=>simp [intOf];omega
  ·go_wp2;go_ret;exact ⟨_,qs,rfl,HD.le (by omega),a0,a1,a6⟩
structure OwnU (w:World) (base:Nat) (v:Value) (ps:TL):Prop where
 row:w.ownsRow base 88 7 v ps.length (zE yEE ps)
 cmds:∀ p∈ps,w.ownsRow base 139 3 p.2 p.1.2.1.length (zE kL p.1.2.1)
theorem xH.u {base:Nat} (h:xH w base v ps):OwnU w base v ps:=⟨h.row,h.cmds⟩
theorem OwnU.read {base:Nat} (h:OwnU w base v ps):zID w v ps:=⟨zW zDB h.row,fun p hp=>zW kC (h.cmds p hp),zJB h.row⟩
theorem OwnU.same {base:Nat} (h:OwnU w base v ps) (hk:∀ g,base<=g->g < w.heap.size->w'.heap[g]?=w.heap[g]?):OwnU w' base v ps:=
 ⟨own_same h.row fun g hg=>hk g (h.row.lt g hg).1 (h.row.lt g hg).2,fun p hp=>own_same (h.cmds p hp) fun g hg=>hk g ((h.cmds p hp).lt g hg).1 ((h.cmds p hp).lt g hg).2⟩
theorem OwnU.below {base:Nat} (h:OwnU w base v ps) (hb:Be w w'):OwnU w' base v ps:=h.same fun g _ hg=>hb.block g hg
theorem OwnU.st {base:Nat} (h:OwnU w base v ps) (hg:w.grownBy w' (Option.some B)) (hB:B < base):OwnU w' base v ps:=
 h.same fun g a hl=>hg.block g hl fun e=>by have:=Af e;omega
theorem OwnU.base {base base':Nat} (h:OwnU w base v ps) (hb:base'<=base):OwnU w base' v ps:=⟨zN h.row hb,fun p hp=>zN (h.cmds p hp) hb⟩
theorem flat_set1 {j:Nat} (hk:k < L.length) (hj:j < 7) (u:Value) (p:BK × Value) (hp:yEE p=(yEE L[k]).set j u):(zE yEE L).set (k * 7+j) u=zE yEE (L.set k p):=by
 have e1:L=L.take k ++ L[k] :: L.drop (k+1):=by rw [<- List.drop_eq_getElem_cons hk,List.take_append_drop]
 have hl:(L.take k).length=k:=by rw [Aq];omega
 have hf:(zE yEE (L.take k)).length=k * 7:=by rw [jX zDB,hl]
 have e2:L.set k p=L.take k ++ p :: L.drop (k+1):=by
  conv=>lhs;rw [e1]
  rw [List.set_append_right _ _ (by omega),hl,Nat.sub_self,List.set_cons_zero]
 have e3:zE yEE L=zE yEE (L.take k) ++ (yEE L[k] ++ zE yEE (L.drop (k+1))):=by
  conv=>lhs;rw [e1]
  rw [zY];rfl
 have e4:zE yEE (p :: L.drop (k+1))=yEE p ++ zE yEE (L.drop (k+1)):=rfl;rw [e2,e3,zY,e4,hp,<- hf,List.set_append_right _ _ (by omega),Nat.add_sub_cancel_left,List.set_append_left _ _ (by rw [zDB];exact hj)]
theorem OwnU.set1 {base j:Nat} (h:OwnU w base (.slice (Ab ⟨g,0,Aa⟩) n cap) L) (hk:k < L.length) (hj:j < 7) (u:Value) (b':BK) (hb:b'.2.1=L[k].1.2.1) (hp:yEE (b',L[k].2)=(yEE L[k]).set j u) (hn:n=L.length) :
  OwnU (w.setCell ⟨g,k * 7+j,Aa⟩ u) base (.slice (Ab ⟨g,0,Aa⟩) n cap) (L.set k (b',L[k].2))/\w.grownBy (w.setCell ⟨g,k * 7+j,Aa⟩ u) (some g)/\(∃ x,w.cell? ⟨g,k * 7+j,Aa⟩=some x)/\w.frozen? ⟨g,k * 7+j,Aa⟩=false:=by
 subst hn;have hr:=h.row;have hs:=hr.stored (k * 7+j) u;rw [flat_set1 hk hj u (b',L[k].2) hp] at hs;refine ⟨⟨by rw [List.length_set];exact hs.1,fun p a=>?_⟩,hs.2,?_,(zDG hr (k * 7+j) (by omega)).2⟩
 ·rcases List.mem_or_eq_of_mem_set a with h1 | rfl
  ·exact Ai (h.cmds p h1) hs.2 (yBA (h.cmds p h1) hr ne_ids)
  ·have h1:=h.cmds _ (Ag hk);rw [hb];exact Ai h1 hs.2 (yBA h1 hr ne_ids)
 ·rw [(zDG hr (k * 7+j) (by omega)).1,jY zDB L k hk j hj];exact ⟨_,Ak (by rw [zDB];exact hj)⟩
def BT (t:List BK) (n:Nat):Prop:=0 < t.length/\t.length<=n/\∀ b∈t,b.2.1.length<=5/\(∀ c∈b.2.1,c.2.1.size<=4)/\0<=b.1.2/\b.1.2<=1000
theorem Drw.bt (h:Drw t 9):BT t 9:=⟨h.pos,h.len,fun b hb=>by
 have hs:=h.small b hb;obtain ⟨i,hi,rfl⟩:=List.mem_iff_getElem.1 hb;have hv:=h.views i hi;have hl:=h.len
 exact ⟨by have:=hs.1;omega,fun c hc=>by have:=(hs.2 c hc).2;omega,hv.1,by omega⟩⟩
theorem BT.ok (h:BT t n) (hn:n<=1000):okT t:=⟨by have:=h.2.1;omega,fun b hb=>⟨by have:=(h.2.2 b hb).1;omega,fun c hc=>by have:=(h.2.2 b hb).2.1 c hc;omega⟩⟩
theorem BT.le (h:BT t n) (hm:n<=m):BT t m:=⟨h.1,by have:=h.2.1;omega,h.2.2⟩
theorem BT.set {p:BK × Value} (h:BT (bks L) n) (hp:p.1.2.1.length<=5/\(∀ c∈p.1.2.1,c.2.1.size<=4)/\0<=p.1.1.2/\p.1.1.2<=1000):BT (bks (L.set k p)) n:=by
 refine ⟨by rw [yO,List.length_set,<- yO];exact h.1,by rw [yO,List.length_set,<- yO];exact h.2.1,fun b hb=>?_⟩;obtain ⟨q,hq,rfl⟩:=List.mem_map.1 hb
 rcases List.mem_or_eq_of_mem_set hq with h1 | rfl
 ·exact h.2.2 _ (List.mem_map.2 ⟨q,h1,rfl⟩)
 ·exact hp
theorem BT.at (h:BT (bks L) n) (hk:k < L.length):L[k].1.2.1.length<=5/\(∀ c∈L[k].1.2.1,c.2.1.size<=4)/\0<=L[k].1.1.2/\L[k].1.1.2<=1000:=h.2.2 _ (List.mem_map.2 ⟨L[k],Ag hk,rfl⟩)
theorem own_blk {base:Nat} {e:TypeId} (h:w.ownsRow base e 7 (.slice (Ab ⟨g,0,Aa⟩) n cap) n (zE yEE L)) (hn:n=L.length) (hk:k < L.length) :
  w.cell? ⟨g,k * 7,Aa⟩=Ab (I U L[k].1.1.1)/\w.cell? ⟨g,k * 7+1,Aa⟩=Ab (I U L[k].1.1.2)/\w.cell? ⟨g,k * 7+2,Aa⟩=some L[k].2/\w.cell? ⟨g,k * 7+3,Aa⟩=Ab (I U L[k].1.2.2.1)/\w.cell? ⟨g,k * 7+4,Aa⟩=Ab (I U L[k].1.2.2.2.1)/\w.cell? ⟨g,k * 7+5,Aa⟩=Ab (I U L[k].1.2.2.2.2.1)/\w.cell? ⟨g,k * 7+6,Aa⟩=Ab (I U L[k].1.2.2.2.2.2):=by
 subst hn;refine ⟨?_,?_,?_,?_,?_,?_,?_⟩
 ·have:=(zDG h (k * 7+0) (by omega)).1.trans (jY zDB L k hk 0 (by omega));exact this
 ·exact (zDG h (k * 7+1) (by omega)).1.trans (jY zDB L k hk 1 (by omega))
 ·exact (zDG h (k * 7+2) (by omega)).1.trans (jY zDB L k hk 2 (by omega))
 ·exact (zDG h (k * 7+3) (by omega)).1.trans (jY zDB L k hk 3 (by omega))
 ·exact (zDG h (k * 7+4) (by omega)).1.trans (jY zDB L k hk 4 (by omega))
 ·exact (zDG h (k * 7+5) (by omega)).1.trans (jY zDB L k hk 5 (by omega))
 ·exact (zDG h (k * 7+6) (by omega)).1.trans (jY zDB L k hk 6 (by omega))
theorem xH.cmds3 {w5 w6:World} {base:Nat} {o:Obj} {v':Value} {l':List CM} (h:xH w5 base (.slice (Ab ⟨g,0,Aa⟩) n cap) L) (hn:n=L.length) (hk:k < L.length) (hg:(w5.alloc o).grownBy w6 L[k].2.ownBlock)
  (own6:w6.ownsRow base 139 3 v' l'.length (zE kL l')) :
  OwnU (w6.setCell ⟨g,k * 7+2,Aa⟩ v') base (.slice (Ab ⟨g,0,Aa⟩) n cap) (L.set k ((L[k].1.1,(l',L[k].1.2.2)),v'))/\w6.grownBy (w6.setCell ⟨g,k * 7+2,Aa⟩ v') (some g)/\w6.cell? ⟨g,k * 7+2,Aa⟩=some L[k].2/\w6.frozen? ⟨g,k * 7+2,Aa⟩=false:=by
 subst hn;have b:=h.cmds _ (Ag hk);have hr:=Ai (Aj h.row o) hg (yBA (Aj h.row o) (Aj b o) ne_ids.symm);have hs:=hr.stored (k * 7+2) v';rw [flat_set1 hk (by omega) v' ((L[k].1.1,(l',L[k].1.2.2)),v') rfl] at hs;have a:=List.pairwise_iff_getElem.1 h.apart;refine ⟨⟨by rw [List.length_set];exact hs.1,fun p c=>?_⟩,hs.2,(own_blk hr rfl hk).2.2.1,(zDG hr (k * 7+2) (by omega)).2⟩;obtain ⟨j,hj,rfl⟩:=List.mem_iff_getElem.1 c;rw [List.length_set] at hj
 by_cases e:k=j
 ·subst e;rw [List.getElem_set_self];exact Ai own6 hs.2 (yBA own6 hr ne_ids)
 ·rw [List.getElem_set_ne e];have h0:=Aj (h.cmds _ (Ag hj)) o
  have h1:=Ai h0 hg (by
   rcases Nat.lt_or_gt_of_ne e with l | l
   ·exact a k j hk hj l
   ·rcases a j k hj hk l with q | q
    ·by_cases hz:L[j].2.ownBlock=none
     ·exact Al hz
     ·exact Am (by rw [q];exact hz)
    ·exact Am fun q'=>q q'.symm)
  exact Ai h1 hs.2 (yBA h1 hr ne_ids)
theorem BT.snoc {p:BK × Value} (h:BT (bks L) n) (hp:p.1.2.1.length<=5/\(∀ c∈p.1.2.1,c.2.1.size<=4)/\0<=p.1.1.2/\p.1.1.2<=1000):BT (bks (L ++ [p])) (n+1):=by
 rw [bks_snoc];refine ⟨by simp,by have:=h.2.1;simp;omega,fun b hb=>?_⟩
 rcases List.mem_append.1 hb with h1 | h1
 ·exact h.2.2 b h1
 ·simp at h1;subst h1;exact hp
theorem any5_st {len:Nat} (h:St w B ao len cap b off) :
  Calls prog 63 #[.pointer (Option.some ⟨B,0,Aa⟩)] w fun e w'=>∃ (v:Value) (qs:TL),e=.returned v/\BT (bks qs) 10/\OwnU w' w.heap.size v qs/\St w' B ao len cap b off/\w.grownBy w' (Option.some B):=by
 have H:=hid h;have ca:=h.cur.lt;clear h;go_enter func63,ntmps63;go_wp2_with fail
 refine (xO 12 (by omega) (by omega) H).mono ?_;rintro e w1 ⟨kc,rfl,ah,ai,hS,hg⟩;have bq:=hid hS;have bl:=hid hg;clear hS hg;go_wp2_with fail
 refine (xO 60 (by omega) (by omega) bq).mono ?_;rintro e w2 ⟨x,rfl,b9,bb,hS,hg⟩;have b1:=hid hS;have bv:Hid (w.grownBy w2 (Option.some B)):=xC bl hg;clear hS hg;go_wp2_with fail
 refine (drawn_st b1).mono ?_;rintro e w3 ⟨v3,q3,rfl,hd,z,hS,hg⟩;have HD:=hid hd;have bw:Hid (xH w3 w2.heap.size v3 q3):=z;have bn:=hid hS;have bc:Hid (w.grownBy w3 (Option.some B)):=xC bv hg;clear hS hg z hd;go_wp2_with fail
 refine (l05Tree_s q3 v3 w3 bw.read (drw_ok HD (by omega))).mono ?_;rintro e w4 ⟨v4,q4,rfl,hq,z,hb⟩;have a9:Hid (bks q4=bks q3):=hq;have a7:q4.length=q3.length:=by rw [<- yO,hq,yO]
 have b0:=HD.len;have a3:=HD.pos;rw [yO,<- a7] at b0 a3;have f:Hid (xH w4 w3.heap.size v4 q4):=z;have s:Hid (St w4 B ao len cap b off):=bn.below hb;have ak:Hid (w.grownBy w4 (Option.some B)):=xC bc (kV hb);have al:=bc.size;have bj:=hb.size;obtain ⟨a4,c4,h4,hz⟩:=yL z.row;subst h4;obtain ⟨g,rfl⟩:=hz a3;have b4:w3.heap.size<=g:=(f.row.lt g rfl).1;have bk:(q4.length:Int) ≠ 0:=by omega
 have bg:(0:Int) < (q4.length:Int):=by omega
 clear hq z hb a7;have m:(x % (q4.length:Int)).toNat < q4.length:=by have h1:=Int.emod_nonneg x bk;have h2:=Int.emod_lt_of_pos x bg;omega
 have af:Hid (BT (bks q4) 9):=hid (by rw [a9.out];exact HD.out.bt);have ad:Hid (q4[(x % (q4.length:Int)).toNat].1.2.1.length<=5/\(∀ c∈q4[(x % (q4.length:Int)).toNat].1.2.1,c.2.1.size<=4)/\0<=q4[(x % (q4.length:Int)).toNat].1.1.2/\q4[(x % (q4.length:Int)).toNat].1.1.2<=1000):=af.at m;have b8:0<=x % (q4.length:Int):=Int.emod_nonneg _ (by omega);have b6:x % (q4.length:Int) < (q4.length:Int):=Int.emod_lt_of_pos _ bg
 by_cases hc0:kc=0
 ·subst hc0;have aa:=f.u.set1 (k:=(x % (q4.length:Int)).toNat) (j:=0) m (by omega) (I U (x % 5 - 1)) ((x % 5 - 1,q4[(x % (q4.length:Int)).toNat].1.1.2),q4[(x % (q4.length:Int)).toNat].1.2) rfl rfl rfl;simp only [Nat.add_zero] at aa;obtain ⟨hU,l,⟨y0,x0⟩,f0⟩:=aa;have HU:Hid (OwnU _ w3.heap.size (.slice (Ab ⟨g,0,Aa⟩) q4.length c4) _):=hU;have t:=hid l;clear hU l ah ai;go_wp2;go_ret;exact ⟨_,q4.set ((x % (q4.length:Int)).toNat) (((x % 5 - 1,q4[(x % (q4.length:Int)).toNat].1.1.2),q4[(x % (q4.length:Int)).toNat].1.2),q4[(x % (q4.length:Int)).toNat].2),rfl,BT.le (n:=9) (BT.set (p:=(((x % 5 - 1,q4[(x % (q4.length:Int)).toNat].1.1.2),q4[(x % (q4.length:Int)).toNat].1.2),q4[(x % (q4.length:Int)).toNat].2)) af ad) (by omega),HU.base al,s.other t (by omega) (fun hl=>by have:=H.code.lt hl;omega),yT ak (by omega) t⟩
 by_cases hc1:kc=1
 ·subst hc1;have aa:=f.u.set1 (k:=(x % (q4.length:Int)).toNat) (j:=1) m (by omega) (I U x) ((q4[(x % (q4.length:Int)).toNat].1.1.1,x),q4[(x % (q4.length:Int)).toNat].1.2) rfl rfl rfl;obtain ⟨hU,l,⟨y0,x0⟩,f0⟩:=aa;have HU:Hid (OwnU _ w3.heap.size (.slice (Ab ⟨g,0,Aa⟩) q4.length c4) _):=hU;have t:=hid l;clear hU l ah ai;go_wp2;go_ret;exact ⟨_,q4.set ((x % (q4.length:Int)).toNat) (((q4[(x % (q4.length:Int)).toNat].1.1.1,x),q4[(x % (q4.length:Int)).toNat].1.2),q4[(x % (q4.length:Int)).toNat].2),rfl,BT.le (n:=9) (BT.set (p:=(((q4[(x % (q4.length:Int)).toNat].1.1.1,x),q4[(x % (q4.length:Int)).toNat].1.2),q4[(x % (q4.length:Int)).toNat].2)) af ⟨ad.1,ad.2.1,by show (0:Int)<=x;omega,by show x<=1000;omega⟩) (by omega),HU.base al,s.other t (by omega) (fun hl=>by have:=H.code.lt hl;omega),yT ak (by omega) t⟩
 by_cases hc2:kc=2
 ·subst hc2;have aa:=f.u.set1 (k:=(x % (q4.length:Int)).toNat) (j:=5) m (by omega) (I U (x % 4)) (q4[(x % (q4.length:Int)).toNat].1.1,(q4[(x % (q4.length:Int)).toNat].1.2.1,(q4[(x % (q4.length:Int)).toNat].1.2.2.1,q4[(x % (q4.length:Int)).toNat].1.2.2.2.1,x % 4,q4[(x % (q4.length:Int)).toNat].1.2.2.2.2.2))) rfl rfl rfl;obtain ⟨hU,l,⟨y0,x0⟩,f0⟩:=aa;have HU:Hid (OwnU _ w3.heap.size (.slice (Ab ⟨g,0,Aa⟩) q4.length c4) _):=hU;have t:=hid l;clear hU l ah ai;go_wp2;go_ret;exact ⟨_,q4.set ((x % (q4.length:Int)).toNat) ((q4[(x % (q4.length:Int)).toNat].1.1,(q4[(x % (q4.length:Int)).toNat].1.2.1,(q4[(x % (q4.length:Int)).toNat].1.2.2.1,q4[(x % (q4.length:Int)).toNat].1.2.2.2.1,x % 4,q4[(x % (q4.length:Int)).toNat].1.2.2.2.2.2))),q4[(x % (q4.length:Int)).toNat].2),rfl,BT.le (n:=9) (BT.set (p:=((q4[(x % (q4.length:Int)).toNat].1.1,(q4[(x % (q4.length:Int)).toNat].1.2.1,(q4[(x % (q4.length:Int)).toNat].1.2.2.1,q4[(x % (q4.length:Int)).toNat].1.2.2.2.1,x % 4,q4[(x % (q4.length:Int)).toNat].1.2.2.2.2.2))),q4[(x % (q4.length:Int)).toNat].2)) af ad) (by omega),HU.base al,s.other t (by omega) (fun hl=>by have:=H.code.lt hl;omega),yT ak (by omega) t⟩
 by_cases hc3:kc=3
 ·subst hc3;obtain ⟨i0,hi,ax,az,aw⟩:=info_parts infoCm3;have bf:=f.cmds _ (Ag m);obtain ⟨ac,pc,au,_⟩:=yL bf;have ap:Hid (q4[(x % (q4.length:Int)).toNat].2=.slice ac q4[(x % (q4.length:Int)).toNat].1.2.1.length pc):=au;have a8:Hid (q4[(x % (q4.length:Int)).toNat].1.2.1.length<=4):=hid (by have h1:=(HD.small (q4[(x % (q4.length:Int)).toNat].1) (by rw [<- a9.out];exact List.mem_map.2 ⟨_,Ag m,rfl⟩)).1;exact h1);have b3:=a8.out;have c2:w4.drew.cell? ⟨g,(x % (q4.length:Int)).toNat * 7+2,Aa⟩=Ab (.slice ac q4[(x % (q4.length:Int)).toNat].1.2.1.length pc):=(by rw [<- au];exact (own_blk f.row rfl m).2.2.1);clear ah ai au bf;have b7:Hid (w4.drew.ownsRow w3.heap.size 88 7 (.slice (Ab ⟨g,0,Aa⟩) q4.length c4) q4.length (zE yEE q4)):=f.row;go_wp2;refine p_rg (fun j=>j != 13) (fun w'=>w'.cell? ⟨g,(x % (q4.length:Int)).toNat * 7+2,Aa⟩=Ab (.slice ac q4[(x % (q4.length:Int)).toNat].1.2.1.length pc)) ?_;show zX prog _ _ _ _ _ 14 (Array.replicate 14 false) _ _;refine wpAnyP_take (i:=0) (v:=?_) rfl (by kernel_rfl) (by kernel_rfl) (by kernel_rfl) (by kernel_rfl) (by kernel_rfl) (fun _ _ _ h=>h) (Al ⟨by rfl,?_⟩) c2 ?_
  rotate_left
  ·intro w' ab;go_simp
   try rfl
  simp only [Act.put];refine wpAnyP_take (i:=1) (v:=?_) rfl (by kernel_rfl) (by kernel_rfl) (by kernel_rfl) (by kernel_rfl) (by kernel_rfl) (fun _ _ _ h=>h) (Al ⟨by rfl,?_⟩) c2 ?_
  rotate_left
  ·intro w' ab;go_simp
   try rfl
  simp only [Act.put];refine wpAnyP_take (i:=2) (v:=?_) rfl (by kernel_rfl) (by kernel_rfl) (by kernel_rfl) (by kernel_rfl) (by kernel_rfl) (fun _ _ _ h=>h) (Al ⟨by rfl,?_⟩) c2 ?_
  rotate_left
  ·intro w' ab;go_simp
   try rfl
  simp only [Act.put];refine wpAnyP_take (i:=3) (v:=?_) rfl (by kernel_rfl) (by kernel_rfl) (by kernel_rfl) (by kernel_rfl) (by kernel_rfl) (fun _ _ _ h=>h) (Al ⟨by rfl,?_⟩) c2 ?_
  rotate_left
  ·intro w' ab;go_simp
   try rfl
  simp only [Act.put];refine wpAnyP_take (i:=4) (v:=?_) rfl (by kernel_rfl) (by kernel_rfl) (by kernel_rfl) (by kernel_rfl) (by kernel_rfl) (fun _ _ _ h=>h) (Al ⟨by rfl,?_⟩) c2 ?_
  rotate_left
  ·intro w' ab;go_simp
   try rfl
  simp only [Act.put];refine wpAnyP_take (i:=5) (v:=?_) rfl (by kernel_rfl) (by kernel_rfl) (by kernel_rfl) (by kernel_rfl) (by kernel_rfl) (fun _ _ _ h=>h) (Al ⟨by rfl,?_⟩) c2 ?_
  rotate_left
  ·intro w' ab;go_simp
   try rfl
  simp only [Act.put];refine wpAnyP_take (i:=6) (v:=?_) rfl (by kernel_rfl) (by kernel_rfl) (by kernel_rfl) (by kernel_rfl) (by kernel_rfl) (fun _ _ _ h=>h) (Al ⟨by rfl,?_⟩) c2 ?_
  rotate_left
  ·intro w' ab;go_simp
   try rfl
  simp only [Act.put];refine wpAnyP_take (i:=7) (v:=?_) rfl (by kernel_rfl) (by kernel_rfl) (by kernel_rfl) (by kernel_rfl) (by kernel_rfl) (fun _ _ _ h=>h) (Al ⟨by rfl,?_⟩) c2 ?_
  rotate_left
  ·intro w' ab;go_simp
   try rfl
  simp only [Act.put];refine wpAnyP_one (i:=8) (by kernel_rfl) rfl ?_;intro K hK;go_simp;refine (any_st (w:=w4.drew) ⟨⟨s.code.le,s.code.some,s.code.cell,s.code.lt⟩,s.cur,s.ne⟩).mono ?_;rintro e w5 ⟨c,rfl,a2,bd,l⟩;have bu:=hid bd;have aq:Hid (xH w5 w3.heap.size (.slice (Ab ⟨g,0,Aa⟩) q4.length c4) q4):=(f.below (Below.refl _ w4).drew).st l (by omega);have t:Hid (w.grownBy w5 (Option.some B)):=xC ak (xC (kV (Below.refl _ w4).drew) l);have aj:Hid (w5.ownsRow w3.heap.size 139 3 (.slice ac q4[(x % (q4.length:Int)).toNat].1.2.1.length pc) q4[(x % (q4.length:Int)).toNat].1.2.1.length (zE kL q4[(x % (q4.length:Int)).toNat].1.2.1)):=(by rw [<- ap.out];exact aq.out.cmds _ (Ag m));have a0:w5.cell? ⟨g,(x % (q4.length:Int)).toNat * 7+2,Aa⟩=Ab (.slice ac q4[(x % (q4.length:Int)).toNat].1.2.1.length pc):=(by rw [<- ap.out];exact (own_blk aq.row rfl m).2.2.1);have a6:∀ o,(w5.alloc o).cell? ⟨g,(x % (q4.length:Int)).toNat * 7+2,Aa⟩=Ab (.slice ac q4[(x % (q4.length:Int)).toNat].1.2.1.length pc):=(fun o=>by rw [(ba (Below.refl _ w5) o:Be w5 (w5.alloc o)).cell (by exact (aq.row.lt g rfl).2)];exact a0);have bz:=t.size;have b2:w3.heap.size<=w5.heap.size:=Ac bj l.size;have bp:=hid a2;clear bd l a2;unfold cmdV
  dsimp only
  refine hK.out _ _ (fun _=>a0) ?_;clear hK K;refine wpAnyP_one (i:=9) (by kernel_rfl) rfl ?_;intro K hK;go_simp;refine hK.out _ _ (fun _=>a6 _) ?_;clear hK K;refine wpAnyP_one (i:=10) (by kernel_rfl) rfl ?_;intro K hK;refine step_append_lies _ (by rfl) (.tmp 52) (.tmp 55) 86 (by rfl) w3.heap.size 139 i0 _ 3 32 underlying86 hi ax az aw rfl (by decide) _ _ _ (by rfl) (Aj aj _) ⟨World.heap _ |>.size,0,Aa⟩ 1 1 (kL c) (by rfl) rfl (news3 _ c _) (ones3 c) (by decide) (by unfold maxLen;omega) (by omega) (by simp;omega) _ rfl ?_;intro g6 ar w6 r a bb bx;clear bb bx;have ag:w6.ownsRow w3.heap.size 139 3 (.slice (Ab ⟨g6,0,Aa⟩) (q4[(x % (q4.length:Int)).toNat].1.2.1.length+1) ar) (q4[(x % (q4.length:Int)).toNat].1.2.1 ++ [c]).length (zE kL (q4[(x % (q4.length:Int)).toNat].1.2.1 ++ [c])):=(by rw [zY,Ah];exact r);obtain ⟨be,bh,x7,f7⟩:=aq.cmds3 rfl m (by rw [ap.out];exact a) ag;rw [ap.out] at x7;have bm:Hid (OwnU _ w3.heap.size (.slice (Ab ⟨g,0,Aa⟩) q4.length c4) _):=be;have bi:=hid bh;have av:Hid (St w6 B ao len cap b off):=((bu.below ((br _ _).alloc (nl _) _)).row a (fun g' y=>by have:=(aj.lt g' y).1;omega) (fun hl=>by have:=H.code.lt hl;intro g' y;have:=(aj.lt g' y).1;omega));have ay:Hid (w.grownBy w6 (Option.some B)):=grown_row t ((br _ _).alloc (nl _) _) a (fun g' y=>by have:=(aj.lt g' y).1;omega);clear r ag a be bh c2 a0 a6;refine hK.out _ _ (fun _=>x7) ?_;clear hK K;simp only [Act.put];refine wpAnyP_take (i:=11) (v:=?_) rfl (by kernel_rfl) (by kernel_rfl) (by kernel_rfl) (by kernel_rfl) (by kernel_rfl) (fun _ _ _ h=>h) (Al ⟨by rfl,?_⟩) x7 ?_
  rotate_left
  ·intro w' ab;go_simp
   try rfl
  simp only [Act.put];refine wpAnyP_take (i:=12) (v:=?_) rfl (by kernel_rfl) (by kernel_rfl) (by kernel_rfl) (by kernel_rfl) (by kernel_rfl) (fun _ _ _ h=>h) (Al ⟨by rfl,?_⟩) x7 ?_
  rotate_left
  ·intro w' ab;go_simp
   try rfl
  simp only [Act.put];refine wpAnyP_one (i:=13) (by kernel_rfl) rfl ?_;intro K hK;go_simp;refine hK.out _ _ (fun h=>by cases h) ?_;clear hK K;refine p_do ?_;go_wp2;go_ret
  have bo:(q4[(x % (q4.length:Int)).toNat].1.2.1 ++ [c]).length<=5/\(∀ d∈q4[(x % (q4.length:Int)).toNat].1.2.1 ++ [c],d.2.1.size<=4)/\0<=q4[(x % (q4.length:Int)).toNat].1.1.2/\q4[(x % (q4.length:Int)).toNat].1.1.2<=1000:=⟨by rw [Ah];have:=a8.out;simp;omega,fun d hd=>by
   rcases List.mem_append.1 hd with h | h
   ·exact ad.out.2.1 d h
   ·rw [List.mem_singleton] at h;subst h;exact bp.out,ad.out.2.2⟩
  exact ⟨_,_,rfl,BT.le (n:=9) (BT.set (p:=((q4[(x % (q4.length:Int)).toNat].1.1,q4[(x % (q4.length:Int)).toNat].1.2.1 ++ [c],q4[(x % (q4.length:Int)).toNat].1.2.2),Ao (Ab ⟨g6,0,Aa⟩) (q4[(x % (q4.length:Int)).toNat].1.2.1.length+1) ar)) af bo) (by omega),bm.base al,av.other bi (by omega) (fun hl=>by have:=H.code.lt hl;omega),yT ay (by omega) bi⟩
 by_cases hc4:kc=4
 ·subst hc4;obtain ⟨i0,hi,ax,az,aw⟩:=info_parts infoBlk;obtain ⟨y0,y1,y2,y3,y4,y5,y6⟩:=own_blk (k:=(x % (q4.length:Int)).toNat) f.row rfl m;clear ah ai;go_wp2_with fail
  refine (l05Block_s q4[(x % (q4.length:Int)).toNat].1 q4[(x % (q4.length:Int)).toNat].2 w4 (zW kC (f.cmds _ (Ag m))) (by have:=ad.1;omega)).mono ?_;rintro e w5 ⟨b5,rfl,ae,an⟩;obtain ⟨a5,p5,rfl,_⟩:=yL ae;have aj:Hid (w5.ownsRow w4.heap.size 139 3 (.slice a5 q4[(x % (q4.length:Int)).toNat].1.2.1.length p5) q4[(x % (q4.length:Int)).toNat].1.2.1.length (zE kL q4[(x % (q4.length:Int)).toNat].1.2.1)):=ae;have am:Hid (w5.ownsRow w3.heap.size 88 7 (.slice (Ab ⟨g,0,Aa⟩) q4.length c4) q4.length (zE yEE q4)):=zS f.row an;have a1:Hid (Be w4 w5):=an;have bz:=an.size;unfold blkV;clear ae an y0 y1 y2 y3 y4 y5 y6;go_wp2_with (at_builtin;refine wpList_append_own _ rfl _ _ 24 rfl w3.heap.size 88 i0 _ 7 72 underlying24 hi ax az aw rfl (by decide) _ _ _ rfl (Aj am _) ⟨World.heap _ |>.size,0,Aa⟩ 1 1 (yEE (q4[(x % (q4.length:Int)).toNat].1,.slice a5 q4[(x % (q4.length:Int)).toNat].1.2.1.length p5)) rfl rfl (newsB _ q4[(x % (q4.length:Int)).toNat].1 _ _) (onesB _ _ _ _) (by unfold maxLen;omega) (by omega) (by simp;omega) ?_;intro v6 w6 r a _)
  have HU:Hid (xH w6 w3.heap.size v6 (q4 ++ [(q4[(x % (q4.length:Int)).toNat].1,.slice a5 q4[(x % (q4.length:Int)).toNat].1.2.1.length p5)])):=f.push a1 aj r a (by omega);have av:Hid (St w6 B ao len cap b off):=(((s.below a1).below ((br _ _).alloc (nl _) _)).row a (fun g' y=>by have:=(am.lt g' y).1;omega) (fun hl=>by have:=H.code.lt hl;intro g' y;have:=(am.lt g' y).1;omega));have ay:Hid (w.grownBy w6 (Option.some B)):=grown_row (xC ak (kV a1)) ((br _ _).alloc (nl _) _) a (fun g' y=>by have:=(am.lt g' y).1;omega);clear r a;go_ret;exact ⟨v6,q4 ++ [(q4[(x % (q4.length:Int)).toNat].1,Ao a5 q4[(x % (q4.length:Int)).toNat].1.2.1.length p5)],rfl,BT.snoc (p:=(q4[(x % (q4.length:Int)).toNat].1,Ao a5 q4[(x % (q4.length:Int)).toNat].1.2.1.length p5)) af ad,HU.u.base al,av,ay⟩
 ·clear ah ai;go_wp2;go_ret;exact ⟨_,q4,rfl,af.le (by omega),f.u.base al,s,ak⟩
theorem zIH (h0:-9223372036854775808<=x) (h1:x<=9223372036854775807):(Lit.int U x).wf=true:=by
 have:=wrap64_wf x;rw [wrap64_fit h0 h1] at this;exact this
def VD (t:List BK) (x:VT):Prop:=(1<=x.1/\x.1<=4)/\(0<=x.2.1/\x.2.1<=1000)/\(0<=x.2.2.1/\x.2.2.1 < (t.length:Int))/\(0<=x.2.2.2/\x.2.2.2<=7)
theorem VD.wf {x:VT} (h:VD t x) (ht:t.length<=1000):wfV x:=by
 obtain ⟨h1,h2,h3,h4⟩:=h;exact ⟨zIH (by omega) (by omega),zIH (by omega) (by omega),zIH (by omega) (by omega),zIH (by omega) (by omega)⟩
theorem vote7_st {base:Nat} {len:Nat} {qs:TL} (h:St w B ao len cap b off) (ho:OwnU w base v qs) (hB:B < base) (hbt:BT (bks qs) n) (hn:n<=1000) :
  Calls prog 105 #[.pointer (Option.some ⟨B,0,Aa⟩),v] w fun e w'=>∃ x:VT,e=.returned (voteV x)/\VD (bks qs) x/\St w' B ao len cap b off/\w.grownBy w' (Option.some B):=by
 have H:=hid h;have aq:=h.cur.lt;have HO:=hid ho;have p:=hid hbt;have ab:0 < qs.length:=by have:=hbt.1;rw [yO] at this;exact this
 have an:qs.length<=1000:=by have:=hbt.2.1;rw [yO] at this;omega
 obtain ⟨a1,c1,h4,hz⟩:=yL ho.row;subst h4;obtain ⟨g,rfl⟩:=hz ab;clear h ho hbt hz;have hb:Be w (w.alloc (.cells #[I U 0,I U 0,I U 0,I U 0] 28)):=(br _ _).alloc (nl _) _;have m:Hid (Be w (w.alloc (.cells #[I U 0,I U 0,I U 0,I U 0] 28))):=hb;clear hb;go_enter func105,ntmps105;go_wp2_with fail
 refine (xO 4 (by omega) (by omega) (H.below m)).mono ?_;rintro e w2 ⟨x,rfl,ap,al,hS,hg⟩;have ag:=hid hS;have c:Hid (Bx w2 w.heap.size #[I U 0,I U 0,I U 0,I U 0] 28):=(hg.block w.heap.size (by simp) (qsn (by omega))).trans (heap_alloc_new w _);have ac:Hid (w.grownBy w2 (Option.some B)):=xC (kV m) hg;clear hS hg;go_wp2_with fail
 refine (xO 4 (by omega) (by omega) ag).mono ?_;rintro e w3 ⟨y,rfl,t,am,hS,hg⟩;have r:w.heap.size < w2.heap.size:=(gl c);have ae:=hid hS;have a:Hid (Bx w3 w.heap.size #[I U 0,I U 0,I U 0,I U 0] 28):=(hg.block w.heap.size r (qsn (by omega))).trans c;have s:Hid (w.grownBy w3 (Option.some B)):=xC ac hg;clear hS hg;go_wp2_with fail
 refine (xO (qs.length:Int) (by omega) (by omega) ae).mono ?_;rintro e w4 ⟨z,rfl,d,ak,hS,hg⟩;have ad:w.heap.size < w3.heap.size:=(gl a);have aa:=hid hS;have ai:Hid (Bx w4 w.heap.size #[I U 0,I U 0,I U 0,I U 0] 28):=(hg.block w.heap.size ad (qsn (by omega))).trans a;have f:Hid (w.grownBy w4 (Option.some B)):=xC s hg;clear hS hg;obtain ⟨k,rfl⟩:=Int.eq_ofNat_of_zero_le d;have hk:k < qs.length:=by omega
 have ah:Hid (OwnU w4 base (.slice (Ab ⟨g,0,Aa⟩) qs.length c1) qs):=HO.st f hB;have y1:w4.cell? ⟨g,k * 7+1,Aa⟩=Ab (I U qs[k].1.1.2):=(own_blk ah.row rfl hk).2.1
 have j:0<=qs[k].1.1.2/\qs[k].1.1.2<=1000:=by
  have h1:=p.2.2 qs[k].1 (by unfold bks;exact List.mem_map_of_mem (Ag hk));exact h1.2.2
 have af:Hid (VD (bks qs) (1+x,qs[k].1.1.2,(k:Int),y)):=⟨⟨by simp only;omega,by simp only;omega⟩,j,⟨d,by simp only [yO];omega⟩,⟨t,by simp only;omega⟩⟩;obtain ⟨⟨a0,f0⟩,⟨aj,f1⟩,⟨a2,f2⟩,⟨a3,f3⟩,l,o⟩:=blk_four ai (I U (1+x)) (I U qs[k].1.1.2) (I U (k:Int)) (I U y);obtain ⟨z0,z1,z2,z3⟩:=zZ l;have i:Hid (w4.grownBy _ (Option.some w.heap.size)):=o;clear l o j;go_wp2;refine bodyPost_ret (v:=.agg #[I U (1+x),I U qs[k].1.1.2,I U (k:Int),I U y]) (by simp [results,results105,go_sem,z0,z1,z2,z3]) rfl ?_;exact ⟨(1+x,qs[k].1.1.2,(k:Int),y),rfl,af,aa.other i (by omega) (fun hl e=>by have:=H.code.lt hl;omega),yT f (nl _) i⟩
theorem zEE (a b c d:Int):(#[Value.int U a,I U b,I U c,I U d]).all (·.oneCell')=true:=by simp [Value.oneCell']
theorem wfV_of {a b c d:Int} (h0:-9223372036854775808<=a/\a<=9223372036854775807) (h1:-9223372036854775808<=b/\b<=9223372036854775807) (h2:-9223372036854775808<=c/\c<=9223372036854775807) (h3:-9223372036854775808<=d/\d<=9223372036854775807):wfV (a,b,c,d):=⟨zIH h0.1 h0.2,zIH h1.1 h1.2,zIH h2.1 h2.2,zIH h3.1 h3.2⟩
def intsA (xs:List Int):Array Value:=(xs.map fun x=>Value.int U x).toArray
theorem pickL_st {L:Nat} {len:Nat} (xs:List Int) (hn:0 < xs.length) (hn2:xs.length<=1000) (h:St w B ao len cap b off) (hL:L ≠ B) {t:TypeId} (hc:w.heap[L]?=Option.some (.cells (intsA xs) t (0,0))) :
  Calls prog 65 #[.pointer (Option.some ⟨B,0,Aa⟩),.slice (Option.some ⟨L,0,Aa⟩) xs.length xs.length] w fun e w'=>∃ z,z∈xs/\e=.returned (I U z)/\St w' B ao len cap b off/\w.grownBy w' (Option.some B):=by
 refine (pickI_st (fun k=>xs.getD k 0) xs.length hn hn2 h hL (gl hc) (fun k hk=>?_)).mono ?_
 ·rw [cell_of_row _ L k _ _ (0,0) hc];unfold intsA;simp [hk]
 ·rintro e w' ⟨k,hk,rfl,hS,hg⟩;exact ⟨_,by simp [hk],rfl,hS,hg⟩
theorem any7_st {base:Nat} {len:Nat} {qs:TL} (h:St w B ao len cap b off) (ho:OwnU w base v qs) (hB:B < base) (hbt:BT (bks qs) n) (hn:n<=1000) :
  Calls prog 81 #[.pointer (Option.some ⟨B,0,Aa⟩),v] w fun e w'=>∃ x:VT,e=.returned (voteV x)/\wfV x/\St w' B ao len cap b off/\w.grownBy w' (Option.some B):=by
 have H:=hid h;have ax:=h.cur.lt;have m:Hid (0 < len->b < w.heap.size):=h.code.lt;have HO:=hid ho;have ak:=hid hbt;have av:=hbt.2.1;clear h ho hbt;obtain ⟨W0,z⟩:=nw (w.alloc (.cells #[I U 0,I U 0,I U 0,I U 0] 28));have ac:Hid (Be w W0):=hid (by rw [z];exact (br _ _).alloc (nl _) _);have af:Hid (Bx W0 w.heap.size #[I U 0,I U 0,I U 0,I U 0] 28):=(by rw [z];exact heap_alloc_new w _:W0.heap[w.heap.size]?=_);go_enter func81,ntmps81;go_wp2_with fail
 rw [<- z];clear z;refine (xO 10 (by omega) (by omega) (H.below ac)).mono ?_;rintro e w1 ⟨kk,rfl,aq,ar,hS,hg⟩;have ai:=hid hS;have aj:Hid (Bx w1 w.heap.size #[I U 0,I U 0,I U 0,I U 0] 28):=gk hg af (qsn (by omega));have ag:Hid (w.grownBy w1 (Option.some B)):=xC (kV ac) hg;clear hS hg af ac;go_wp2_with fail
 refine (xO 60 (by omega) (by omega) ai).mono ?_;rintro e w2 ⟨x,rfl,aw,au,hS,hg⟩;have an:=hid hS;have am:Hid (Bx w2 w.heap.size #[I U 0,I U 0,I U 0,I U 0] 28):=gk hg aj (qsn (by omega));have ad:Hid (w.grownBy w2 (Option.some B)):=xC ag hg;clear hS hg ai aj ag;go_wp2_with fail
 refine (vote7_st an (HO.st ad hB) hB ak hn).mono ?_;rintro e w3 ⟨⟨t0,t1,t2,t3⟩,rfl,ap,hS,hg⟩;unfold voteV;simp only;obtain ⟨d0,d1,d2,d3⟩:=ap;simp only at d0 d1 d2 d3;have HD:Hid ((1<=t0/\t0<=4)/\(0<=t1/\t1<=1000)/\(0<=t2/\t2 < 1000)/\(0<=t3/\t3<=7)):=⟨d0,d1,⟨d2.1,by omega⟩,d3⟩;have ah:=hid hS;have ae:Hid (Bx w3 w.heap.size #[I U 0,I U 0,I U 0,I U 0] 28):=gk hg am (qsn (by omega));have al:Hid (w.grownBy w3 (Option.some B)):=xC ad hg;clear hS hg an am ad d0 d1 d2 d3;obtain ⟨W5,aa⟩:=nw (w3.alloc (.cells #[I U t0,I U t1,I U t2,I U t3] 28));have ab:Hid (Be w3 W5):=hid (by rw [aa];exact (br _ _).alloc (nl _) _);have f:Hid (Bx W5 w3.heap.size #[I U t0,I U t1,I U t2,I U t3] 28):=(by rw [aa];exact heap_alloc_new w3 _:W5.heap[w3.heap.size]?=_);have lE:w.heap.size < w3.heap.size:=(gl ae);have t:Hid (Bx W5 w.heap.size #[I U 0,I U 0,I U 0,I U 0] 28):=(ab.block _ lE).trans ae;have s:Hid (St W5 B ao len cap b off):=ah.below ab;have y:Hid (w.grownBy W5 (Option.some B)):=xC al (kV ab);have lX:w3.heap.size < W5.heap.size:=(gl f);obtain ⟨X,hX⟩:=nw w3.heap.size;rw [<- hX] at f lE lX;clear ah ae al ab ak HO
 go_upto_region 4 with fail
 rw [<- aa,<- hX];clear aa hX
 by_cases h0:kk=0
 ·have e0:(kk == 0)=true:=by simpa using h0
  obtain ⟨wd,a⟩:=nw (W5.setCell ⟨X,0,Aa⟩ (I U (x % 6)));obtain ⟨a0,a1,a2,a3⟩:=zZ f;have f0:W5.frozen? ⟨X,0,Aa⟩=false:=frozen_of_row _ X 0 _ _ f;have c:W5.grownBy wd (Option.some X):=by rw [a];exact yK _ X 0 _
  have k:Bx wd X #[I U (x % 6),I U t1,I U t2,I U t3] 28:=by rw [a];exact heap_setCell_same W5 X 0 _ _ _ f
  obtain ⟨k0,k1,k2,k3⟩:=zZ k;have p:Hid (St wd B ao len cap b off):=s.other c (by omega) (fun hl e=>by have:=m hl;omega);have l:Hid (w.grownBy wd (Option.some B)):=yT y (by omega) c;have d:Bx wd w.heap.size #[I U 0,I U 0,I U 0,I U 0] 28:=(c.block _ (by omega) (qsn (by omega))).trans t;have o:Hid ((W5.setCell ⟨X,0,Aa⟩ (I U (x % 6))).heap[w.heap.size]?=Ab (.cells #[I U 0,I U 0,I U 0,I U 0] 28 (0,0))):=(by rw [<- a];exact d:(W5.setCell ⟨X,0,Aa⟩ (I U (x % 6))).heap[w.heap.size]?=_);rw [a] at k0 k1 k2 k3;obtain ⟨⟨p0,p1⟩,⟨p2,p3⟩,⟨p4,p5⟩,p6,p7⟩:=HD.out;clear h0 c k d;go_wp2_with (refine w_st w.heap.size #[I U (x % 6),I U t1,I U t2,I U t3] o (zEE _ _ _ _) ?_;intro wg j i r;clear r;have g:Hid (wd.grownBy wg (Option.some w.heap.size)):=hid (by rw [a];exact j);obtain ⟨m0,m1,m2,m3⟩:=zZ i;clear j i)
  refine bodyPost_ret (v:=.agg #[I U (x % 6),I U t1,I U t2,I U t3]) (by simp [results,results81,go_sem,m0,m1,m2,m3]) rfl ?_;exact ⟨(x % 6,t1,t2,t3),rfl,wfV_of (by omega) (by omega) (by omega) (by omega),p.other g (by omega) (fun hl e=>by have:=m hl;omega),yT l (nl _) g⟩
 have e0:(kk == 0)=false:=by simpa using h0
 clear h0
 by_cases h1:kk=1
 ·have e1:(kk == 1)=true:=by simpa using h1
  obtain ⟨wd,a⟩:=nw (W5.setCell ⟨X,1,Aa⟩ (I U x));obtain ⟨a0,a1,a2,a3⟩:=zZ f;have f0:W5.frozen? ⟨X,1,Aa⟩=false:=frozen_of_row _ X 1 _ _ f;have c:W5.grownBy wd (Option.some X):=by rw [a];exact yK _ X 1 _
  have k:Bx wd X #[I U t0,I U x,I U t2,I U t3] 28:=by rw [a];exact heap_setCell_same W5 X 1 _ _ _ f
  obtain ⟨k0,k1,k2,k3⟩:=zZ k;have p:Hid (St wd B ao len cap b off):=s.other c (by omega) (fun hl e=>by have:=m hl;omega);have l:Hid (w.grownBy wd (Option.some B)):=yT y (by omega) c;have d:Bx wd w.heap.size #[I U 0,I U 0,I U 0,I U 0] 28:=(c.block _ (by omega) (qsn (by omega))).trans t;have o:Hid ((W5.setCell ⟨X,1,Aa⟩ (I U x)).heap[w.heap.size]?=Ab (.cells #[I U 0,I U 0,I U 0,I U 0] 28 (0,0))):=(by rw [<- a];exact d:(W5.setCell ⟨X,1,Aa⟩ (I U x)).heap[w.heap.size]?=_);rw [a] at k0 k1 k2 k3;obtain ⟨⟨p0,p1⟩,⟨p2,p3⟩,⟨p4,p5⟩,p6,p7⟩:=HD.out;clear h1 c k d;go_wp2_with (refine w_st w.heap.size #[I U t0,I U x,I U t2,I U t3] o (zEE _ _ _ _) ?_;intro wg j i r;clear r;have g:Hid (wd.grownBy wg (Option.some w.heap.size)):=hid (by rw [a];exact j);obtain ⟨m0,m1,m2,m3⟩:=zZ i;clear j i)
  refine bodyPost_ret (v:=.agg #[I U t0,I U x,I U t2,I U t3]) (by simp [results,results81,go_sem,m0,m1,m2,m3]) rfl ?_;exact ⟨(t0,x,t2,t3),rfl,wfV_of (by omega) (by omega) (by omega) (by omega),p.other g (by omega) (fun hl e=>by have:=m hl;omega),yT l (nl _) g⟩
 have e1:(kk == 1)=false:=by simpa using h1
 clear h1
 by_cases h2:kk=2
 ·have e2:(kk == 2)=true:=by simpa using h2
  obtain ⟨wd,a⟩:=nw (W5.setCell ⟨X,2,Aa⟩ (I U (x % 70 - 1)));obtain ⟨a0,a1,a2,a3⟩:=zZ f;have f0:W5.frozen? ⟨X,2,Aa⟩=false:=frozen_of_row _ X 2 _ _ f;have c:W5.grownBy wd (Option.some X):=by rw [a];exact yK _ X 2 _
  have k:Bx wd X #[I U t0,I U t1,I U (x % 70 - 1),I U t3] 28:=by rw [a];exact heap_setCell_same W5 X 2 _ _ _ f
  obtain ⟨k0,k1,k2,k3⟩:=zZ k;have p:Hid (St wd B ao len cap b off):=s.other c (by omega) (fun hl e=>by have:=m hl;omega);have l:Hid (w.grownBy wd (Option.some B)):=yT y (by omega) c;have d:Bx wd w.heap.size #[I U 0,I U 0,I U 0,I U 0] 28:=(c.block _ (by omega) (qsn (by omega))).trans t;have o:Hid ((W5.setCell ⟨X,2,Aa⟩ (I U (x % 70 - 1))).heap[w.heap.size]?=Ab (.cells #[I U 0,I U 0,I U 0,I U 0] 28 (0,0))):=(by rw [<- a];exact d:(W5.setCell ⟨X,2,Aa⟩ (I U (x % 70 - 1))).heap[w.heap.size]?=_);rw [a] at k0 k1 k2 k3;obtain ⟨⟨p0,p1⟩,⟨p2,p3⟩,⟨p4,p5⟩,p6,p7⟩:=HD.out;clear h2 c k d;go_wp2_with (refine w_st w.heap.size #[I U t0,I U t1,I U (x % 70 - 1),I U t3] o (zEE _ _ _ _) ?_;intro wg j i r;clear r;have g:Hid (wd.grownBy wg (Option.some w.heap.size)):=hid (by rw [a];exact j);obtain ⟨m0,m1,m2,m3⟩:=zZ i;clear j i)
  refine bodyPost_ret (v:=.agg #[I U t0,I U t1,I U (x % 70 - 1),I U t3]) (by simp [results,results81,go_sem,m0,m1,m2,m3]) rfl ?_;exact ⟨(t0,t1,x % 70 - 1,t3),rfl,wfV_of (by omega) (by omega) (by omega) (by omega),p.other g (by omega) (fun hl e=>by have:=m hl;omega),yT l (nl _) g⟩
 have e2:(kk == 2)=false:=by simpa using h2
 clear h2
 by_cases h3:kk=3
 ·have e3:(kk == 3)=true:=by simpa using h3
  obtain ⟨wd,a⟩:=nw (W5.setCell ⟨X,3,Aa⟩ (I U (x % 9 - 1)));obtain ⟨a0,a1,a2,a3⟩:=zZ f;have f0:W5.frozen? ⟨X,3,Aa⟩=false:=frozen_of_row _ X 3 _ _ f;have c:W5.grownBy wd (Option.some X):=by rw [a];exact yK _ X 3 _
  have k:Bx wd X #[I U t0,I U t1,I U t2,I U (x % 9 - 1)] 28:=by rw [a];exact heap_setCell_same W5 X 3 _ _ _ f
  obtain ⟨k0,k1,k2,k3⟩:=zZ k;have p:Hid (St wd B ao len cap b off):=s.other c (by omega) (fun hl e=>by have:=m hl;omega);have l:Hid (w.grownBy wd (Option.some B)):=yT y (by omega) c;have d:Bx wd w.heap.size #[I U 0,I U 0,I U 0,I U 0] 28:=(c.block _ (by omega) (qsn (by omega))).trans t;have o:Hid ((W5.setCell ⟨X,3,Aa⟩ (I U (x % 9 - 1))).heap[w.heap.size]?=Ab (.cells #[I U 0,I U 0,I U 0,I U 0] 28 (0,0))):=(by rw [<- a];exact d:(W5.setCell ⟨X,3,Aa⟩ (I U (x % 9 - 1))).heap[w.heap.size]?=_);rw [a] at k0 k1 k2 k3;obtain ⟨⟨p0,p1⟩,⟨p2,p3⟩,⟨p4,p5⟩,p6,p7⟩:=HD.out;clear h3 c k d;go_wp2_with (refine w_st w.heap.size #[I U t0,I U t1,I U t2,I U (x % 9 - 1)] o (zEE _ _ _ _) ?_;intro wg j i r;clear r;have g:Hid (wd.grownBy wg (Option.some w.heap.size)):=hid (by rw [a];exact j);obtain ⟨m0,m1,m2,m3⟩:=zZ i;clear j i)
  refine bodyPost_ret (v:=.agg #[I U t0,I U t1,I U t2,I U (x % 9 - 1)]) (by simp [results,results81,go_sem,m0,m1,m2,m3]) rfl ?_;exact ⟨(t0,t1,t2,x % 9 - 1),rfl,wfV_of (by omega) (by omega) (by omega) (by omega),p.other g (by omega) (fun hl e=>by have:=m hl;omega),yT l (nl _) g⟩
 have e3:(kk == 3)=false:=by simpa using h3
 clear h3;obtain ⟨wd,a⟩:=nw W5;obtain ⟨k0,k1,k2,k3⟩:=zZ f;have p:Hid (St wd B ao len cap b off):=hid (by rw [a];exact s.out);have l:Hid (w.grownBy wd (Option.some B)):=hid (by rw [a];exact y.out);have o:Hid (Bx W5 w.heap.size #[I U 0,I U 0,I U 0,I U 0] 28):=t;obtain ⟨⟨p0,p1⟩,⟨p2,p3⟩,⟨p4,p5⟩,p6,p7⟩:=HD.out;go_wp2_with (refine w_st w.heap.size #[I U t0,I U t1,I U t2,I U t3] o (zEE _ _ _ _) ?_;intro wg j i r;clear r;have g:Hid (wd.grownBy wg (Option.some w.heap.size)):=hid (by rw [a];exact j);obtain ⟨m0,m1,m2,m3⟩:=zZ i;clear j i)
 refine bodyPost_ret (v:=.agg #[I U t0,I U t1,I U t2,I U t3]) (by simp [results,results81,go_sem,m0,m1,m2,m3]) rfl ?_;exact ⟨(t0,t1,t2,t3),rfl,wfV_of (by omega) (by omega) (by omega) (by omega),p.other g (by omega) (fun hl e=>by have:=m hl;omega),yT l (nl _) g⟩
structure Vw (B:Int) (c:CU):Prop where
 tree:∀ b∈c.tree,b.1.2<=B
 peers:∀ p∈c.peers,p.view<=B
theorem Vw.mono {B B':Int} (h:Vw B c) (hb:B<=B'):Vw B' c:=⟨fun b hm=>Int.le_trans (h.tree b hm) hb,fun p hm=>Int.le_trans (h.peers p hm) hb⟩
theorem enter_vw {v B:Int} (h:p.view<=B) (hv:v<=B):(yI p v).view<=B:=by
 unfold yI
 split
 ·exact hv
 ·exact h
theorem at_vw {B:Int} (h0:0<=B) (h:∀ b∈t,b.1.2<=B) (k:Int):yR t k<=B:=by
 unfold yR
 by_cases hk:k.toNat < t.length
 ·rw [Ak hk];exact h _ (Ag hk)
 ·rw [List.getElem?_eq_none (by omega)];exact h0
theorem leadV_vw {n:Int} {v:VT} {B:Int} (h:p.view<=B):(zCF p n v).1.view<=B+1:=by
 have h1:(ledP p n v).view<=B+1:=by
  unfold ledP
  split
  ·rename_i e;exact enter_vw (by omega) (by have:=e.2.2;omega)
  ·omega
 unfold zCF leadR
 split
 ·unfold leadQ
  split
  ·split
   ·exact h1
   ·exact h1
  ·exact h1
 ·exact h1
theorem news_vw {n:Int} {B:Int} (h:p.view<=B):(newsP p n l).view<=B+1:=by
 unfold newsP
 split
 ·rename_i e
  have hv:(yI p l.1.2.2.2.1).view<=B+1:=enter_vw (by omega) (by rcases e.2 with e | e <;> omega)
  split
  ·exact hv
  ·exact hv
 ·omega
theorem lead_vw {n:Int} {B:Int} (h:p.view<=B):(kZ t n p l).1.view<=B+1:=by
 have h1:p.view<=B+1:=by omega
 unfold kZ
 split
 ·split
  ·exact leadV_vw h
  ·split
   ·exact news_vw h
   ·exact h1
 ·exact h1
theorem lok_vw {n:Int} {B:Int} (h0:0<=B) (ht:∀ b∈t,b.1.2<=B) (h:qI t n l=true) (h2:l.1.1 ≠ 2) (h4:l.1.1 ≠ 4):l.1.2.2.2.1<=B:=by
 unfold qI at h;simp only [Ar] at h;obtain ⟨a,-,-,-,b⟩:=h;have ha:=zDF a;unfold yCA at b
 by_cases h1:l.1.1=1
 ·rw [if_pos h1] at b;simp only [Ar,decide_eq_true_eq] at b;rw [<- b.2.2.1];exact at_vw h0 ht _
 ·rw [if_neg h1,if_neg h2,if_pos (by omega)] at b;simp only [Ar,decide_eq_true_eq] at b;obtain ⟨-,-,b,c⟩:=b;rw [<- c];unfold kH at b
  split at b
  ·rename_i e;rw [e];exact h0
  ·simp only [Ar] at b;have d:=b.1;unfold zCI at d;simp only [Ar,decide_eq_true_eq] at d;rw [<- d.2.2.2.2.1];exact at_vw h0 ht _
theorem next_vw (p:PE) (a b c d:Int):(zIG p a b c d).1.view=p.view:=by unfold zIG;split <;> rfl
theorem qc_vw {n:Int} {B:Int} (h:p.view<=B) (hl:l.1.2.2.2.1<=B):(qcH t n p l).1.view<=B+1:=by
 have h1:(yI p l.1.2.2.2.1).view<=B:=enter_vw h hl;unfold qcH
 split
 ·rw [next_vw];show (yI p l.1.2.2.2.1).view<=B+1;omega
 ·split
  ·rw [next_vw];show (yI p l.1.2.2.2.1).view<=B+1;omega
  ·split
   ·unfold doneV;exact enter_vw (by rw [through_view];omega) (by omega)
   ·show (yI p l.1.2.2.2.1).view<=B+1;omega
theorem block_vw {B:Int} (h:p.view<=B) (hl:l.1.2.2.2.1<=B):(blockH t p l).1.view<=B:=by
 have h1:(yI p l.1.2.2.2.1).view<=B:=enter_vw h hl;unfold blockH
 split
 ·exact h1
 ·exact h1
theorem ask_vw {n:Int} {B:Int} (h0:0<=B) (ht:∀ b∈t,b.1.2<=B) (h:p.view<=B):(qC t n p l).1.view<=B+1:=by
 have h1:p.view<=B+1:=by omega
 unfold qC
 split
 ·rename_i e
  split
  ·exact lead_vw h
  ·rename_i k
   have hl:=lok_vw h0 ht e.1 (fun x=>k (Al x)) (fun x=>k (Am x))
   split
   ·split
    ·exact qc_vw h hl
    ·have:=block_vw (t:=t) h hl;omega
   ·exact h1
 ·exact h1
theorem early_view (t:List BK) (p:PE) (k:Int):(yDF t p k).view=p.view:=rfl
theorem chain_view (t:List BK) (p:PE) (k:Int):(jN t p k).view=p.view:=by
 unfold jN
 split
 ·have h2:∀ (q:PE),(zGC t q k).view=q.view:=fun q=>by
   unfold zGC
   split
   ·exact through_view _ _ _
   ·rfl
  unfold yDH
  split
  ·rw [early_view,h2];rfl
  ·rw [h2];rfl
 ·rfl
theorem chainH_vw {n:Int} {B:Int} (h0:0<=B) (ht:∀ b∈t,b.1.2<=B) (h:p.view<=B):(xI t n p l).1.view<=B+1:=by
 have h1:p.view<=B+1:=by omega
 unfold xI
 split
 ·rename_i e
  split
  ·exact lead_vw h
  ·rename_i k2
   split
   ·exact lead_vw h
   ·rename_i k4
    have hl:=lok_vw h0 ht e.1 k2 k4
    split
    ·exact h1
    ·split
     ·unfold yBD
      split
      ·unfold votesH;exact enter_vw (by show (jN t p l.1.2.2.2.2).view<=B+1;rw [chain_view];exact h1) (by omega)
      ·show (jN t p l.1.2.2.2.2).view<=B+1;rw [chain_view];exact h1
     ·exact h1
 ·exact h1
theorem hear_vw {B:Int} (h0:0<=B) (hc:Vw B c) (h:p.view<=B):(zFA c p l).1.view<=B+1:=by
 unfold zFA
 split
 ·exact chainH_vw h0 hc.tree h
 ·exact ask_vw h0 hc.tree h
theorem set_vw {B:Int} (h:Vw B c) (i:Int) (hp:p.view<=B):Vw B (zCG c i p):=by
 refine ⟨h.tree,fun x hx=>?_⟩
 rcases List.mem_or_eq_of_mem_set hx with hx | rfl
 ·exact h.peers x hx
 ·exact hp
theorem post_vw {B:Int} (h:Vw B c) (ls:List LT):Vw B (jV c ls):=by
 unfold jV
 split
 ·exact h
 ·exact ⟨h.tree,h.peers⟩
theorem say_vw {B:Int}:∀ (ls:List LT) {c:CU},Vw B c->Vw B (zIC c ls)
 | [],_,h=>h
 | l :: ls,c,h=>by
  refine say_vw ls (c:=yFD c l) ?_;unfold yFD;refine post_vw ?_ _
  split
  ·unfold zHF
   split
   ·exact h
   ·exact ⟨h.tree,h.peers⟩
  ·exact h
theorem peAt_vw {B:Int} (h0:0<=B) (h:Vw B c) (i:Int):(zCJ c i).view<=B:=by
 unfold zCJ
 by_cases hk:i.toNat < c.peers.length
 ·rw [Ak hk];exact h.peers _ (Ag hk)
 ·rw [List.getElem?_eq_none (by omega)];exact h0
theorem out_vw {B:Int} (h:Vw B c) (k:Int):Vw B (zAC c k):=by
 unfold zAC
 split
 ·exact ⟨h.tree,h.peers⟩
 ·exact h
theorem put_vw {B:Int} (h:∀ b∈t,b.1.2<=B) {b:BK} (hb:b.1.2<=B):∀ x∈zGE t b,x.1.2<=B:=by
 unfold zGE
 split
 ·exact h
 ·split
  ·exact h
  ·intro x hx
   rcases List.mem_append.1 hx with hx | hx
   ·exact h x hx
   ·rcases List.mem_singleton.1 hx with rfl;exact hb
theorem hand_vw {B:Int} (h:Vw B c) (l:LT):Vw B (jM c l).1:=by
 unfold jM
 split
 ·exact post_vw h _
 ·exact h
theorem far_vw {B:Int}:∀ (l:List PE) (n:Int),n<=B->(∀ p∈l,p.view<=B)->yEH l n<=B
 | [],_,hn,_=>hn
 | p :: l,n,hn,h=>by
  unfold yEH;refine far_vw l _ ?_ (fun x hx=>h x (List.mem_cons_of_mem _ hx))
  split
  ·exact h p (List.mem_cons_self ..)
  ·exact hn
theorem do_vw {B:Int} (h0:0<=B) (h:Vw B c) (e:EV):Vw (B+1) (doC c e).1:=by
 have hm:Vw (B+1) c:=h.mono (by omega);unfold doC
 split
 ·unfold offerP
  split
  ·exact hm
  ·exact ⟨hm.tree,hm.peers⟩
 ·split
  ·unfold showC
   split
   ·refine post_vw ?_ _;have hp:=peAt_vw h0 h e.at'
    have hs:(showP c e.at').view<=B+1:=by
     unfold showP showsP
     split
     ·omega
     ·show (zCJ c e.at').view<=B+1;omega
    refine ⟨put_vw hm.tree ?_,(set_vw hm e.at' hs).peers⟩;show (zCJ c e.at').view<=B+1;omega
   ·exact hm
  ·split
   ·unfold carryC
    split
    ·have ho:=out_vw h e.at';show Vw (B+1) (if _ then _ else _)
     split
     ·unfold heardC;exact say_vw _ (set_vw (ho.mono (by omega)) _ (hear_vw h0 ho (peAt_vw h0 ho _)))
     ·exact ho.mono (by omega)
    ·exact hm
   ·split
    ·exact out_vw hm _
    ·split
     ·unfold yEC
      split
      ·exact post_vw hm _
      ·exact hm
     ·split
      ·unfold waitC
       split
       ·refine post_vw (set_vw hm _ ?_) _;have hp:=peAt_vw h0 h e.at';unfold zGH
        split
        ·exact enter_vw (by omega) (by omega)
        ·omega
       ·exact hm
      ·split
       ·unfold fallC
        split
        ·exact set_vw hm _ (peAt_vw (by omega) hm _)
        ·exact hm
       ·unfold lieC
        split
        ·exact hm
        ·split
         ·exact hand_vw hm _
         ·split
          ·split
           ·exact hand_vw hm _
           ·exact hm
          ·split
           ·unfold zBC
            split
            ·exact hm
            ·split
             ·refine hand_vw ?_ _;refine ⟨put_vw hm.tree ?_,hm.peers⟩;show lieW c e<=B+1;unfold lieW
              split
              ·have:=at_vw h0 h.tree (yBJ c e);omega
              ·have:=far_vw c.peers 0 h0 h.peers;omega
             ·exact hm
           ·exact hand_vw hm _
structure LifeW (m:Nat) (c:CU):Prop extends jJ m c where
 vw:Vw ((m:Int)+1) c
theorem LifeW.mono {m':Nat} (h:LifeW m c) (hm:m<=m'):LifeW m' c:=⟨h.1.mono hm,h.vw.mono (by omega)⟩
theorem LifeW.step (h:LifeW m c) (he:evFit e):LifeW (m+1) (doC c e).1:=⟨do_sm h.1 he,(do_vw (by omega) h.vw e).mono (by omega)⟩
def rowL (t:List BK):List Int->List CM
 | []=>[]
 | k :: l=>kN t k ++ rowL t l
theorem doneAll_app:∀ (l r:List CM) (cs:CL),yD cs (l ++ r)=yD (yD cs l) r
 | [],_,_=>rfl
 | c :: l,r,cs=>doneAll_app l r (yAA cs c)
theorem undos_app:∀ (l r:List CM) (cs:CL),jQ cs (l ++ r)=jQ cs l ++ jQ (yD cs l) r
 | [],_,_=>rfl
 | c :: l,r,cs=>by
  show yDB cs c.2.1 :: jQ (yAA cs c) (l ++ r)=_;rw [undos_app l r (yAA cs c)]
  rfl
theorem rowC_is (t:List BK):∀ (l:List Int) (cs:CL),zGF t cs l=yD cs (rowL t l)
 | [],_=>rfl
 | k :: l,cs=>by
  show zGF t (yD cs (kN t k)) l=yD cs (kN t k ++ rowL t l);rw [rowC_is t l,doneAll_app]
theorem earU_is (t:List BK):∀ (l:List Int) (cs:CL),yDE t cs l=jQ cs (rowL t l)
 | [],_=>rfl
 | k :: l,cs=>by
  show jQ cs (kN t k) ++ yDE t (yD cs (kN t k)) l=jQ cs (kN t k ++ rowL t l);rw [earU_is t l,undos_app]
theorem rowC_app (t:List BK):∀ (l r:List Int) (cs:CL),zGF t cs (l ++ r)=zGF t (zGF t cs l) r
 | [],_,_=>rfl
 | k :: l,r,cs=>rowC_app t l r (yD cs (kN t k))
theorem rowC_right (t:List BK) {cs:CL} (h:kS cs=true) (l:List Int):kS (zGF t cs l)=true:=by rw [rowC_is];exact doneAll_ok _ h
theorem row_back (t:List BK) {cs:CL} (h:kS cs=true) (l:List Int):xY (zGF t cs l) (yDE t cs l)=cs:=by rw [rowC_is,earU_is];exact undoneAll_done _ h
theorem cmds_more (b:BK) (h:0<=x/\x < (t.length:Int)):kN (t ++ [b]) x=kN t x:=by
 unfold kN;rw [if_pos ⟨h.1,by simp;omega⟩,if_pos ⟨h.1,by omega⟩,List.getElem?_append_left (by omega)]
theorem rowL_more {t:List BK} (b:BK):∀ (l:List Int),(∀ x∈l,0<=x/\x < (t.length:Int))->rowL (t ++ [b]) l=rowL t l
 | [],_=>rfl
 | k :: l,h=>by
  show kN (t ++ [b]) k ++ rowL (t ++ [b]) l=kN t k ++ rowL t l;rw [cmds_more b (h k (List.mem_cons_self ..)),rowL_more b l (fun x hx=>h x (List.mem_cons_of_mem _ hx))]
theorem rowC_more (b:BK) {l:List Int} (h:∀ x∈l,0<=x/\x < (t.length:Int)) (cs:CL):zGF (t ++ [b]) cs l=zGF t cs l:=by rw [rowC_is,rowC_is,rowL_more b l h]
theorem earU_more (b:BK) {l:List Int} (h:∀ x∈l,0<=x/\x < (t.length:Int)) (cs:CL):yDE (t ++ [b]) cs l=yDE t cs l:=by rw [earU_is,earU_is,rowL_more b l h]
structure KA (t:List BK) (p:PE):Prop where
 row:∀ x∈p.row,0<=x/\x < (t.length:Int)
 ear:∀ x∈p.early,0<=x/\x < (t.length:Int)
 cells:p.cells=zGF t (zGF t [] p.row) p.early
 undos:p.undos=yDE t (zGF t [] p.row) p.early
def same4 (p q:PE):Prop:=q.row=p.row/\q.cells=p.cells/\q.early=p.early/\q.undos=p.undos
theorem same4.refl (p:PE):same4 p p:=⟨rfl,rfl,rfl,rfl⟩
theorem same4.trans {q r:PE} (h:same4 p q) (k:same4 q r):same4 p r:=⟨k.1.trans h.1,k.2.1.trans h.2.1,k.2.2.1.trans h.2.2.1,k.2.2.2.trans h.2.2.2⟩
theorem KA.same {q:PE} (h:KA t p) (e:same4 p q):KA t q:=
 ⟨by rw [e.1];exact h.row,by rw [e.2.2.1];exact h.ear,by rw [e.1,e.2.1,e.2.2.1];exact h.cells,by rw [e.1,e.2.2.1,e.2.2.2];exact h.undos⟩
theorem KA.base (h:KA t p):xY p.cells p.undos=zGF t [] p.row:=by
 rw [h.cells,h.undos];exact row_back t (rowC_right t (by decide) _) _
theorem KA.none (t:List BK) (hr:∀ x∈p.row,0<=x/\x < (t.length:Int)) (hc:p.cells=zGF t [] p.row) (he:p.early=[]) (hu:p.undos=[]):KA t p:=
 ⟨hr,by rw [he];intro x hx;simp at hx,by rw [he];exact hc,by rw [he,hu];rfl⟩
theorem KA.put (h:KA t p) (b:BK):KA (zGE t b) p:=by
 unfold zGE
 split
 ·exact h
 ·split
  ·exact h
  ·have e:zGF (t ++ [b]) [] p.row=zGF t [] p.row:=rowC_more b h.row [];exact ⟨fun x hx=>by have:=h.row x hx;simp;omega,fun x hx=>by have:=h.ear x hx;simp;omega,by rw [e,rowC_more b h.ear];exact h.cells,by rw [e,earU_more b h.ear];exact h.undos⟩
theorem after_in (t:List BK) (k u:Int):∀ x∈kB t k u,0<=x/\x < (t.length:Int):=fun x hx=>by
 obtain ⟨j,rfl,hj⟩:=after_mem hx;exact ⟨by omega,by omega⟩
theorem through_ka (h:KA t p) (k:Int):KA t (kO t p k):=by
 unfold kO
 split
 ·refine KA.none t (fun x hx=>?_) ?_ rfl rfl
  ·have a:x∈p.row ++ kB t k (qS p.row):=hx
   rcases List.mem_append.1 a with hx | hx
   ·exact h.row x hx
   ·exact after_in t k _ x hx
  ·show zGF t (xY p.cells p.undos) _=zGF t [] (p.row ++ _);rw [h.base,rowC_app]
 ·exact h
theorem early_ka (h:KA t p) (k:Int):KA t (yDF t p k):=
 ⟨h.row,after_in t k _,by show zGF t (xY p.cells p.undos) _=_;rw [h.base];rfl,by show yDE t (xY p.cells p.undos) _=_;rw [h.base];rfl⟩
theorem fall_ka (h:KA t p):KA t (yCF t p):=KA.none t h.row rfl rfl rfl
theorem enter_s4 (p:PE) (v:Int):same4 p (yI p v):=by unfold yI;split <;> exact ⟨rfl,rfl,rfl,rfl⟩
theorem leadV_s4 (p:PE) (n:Int) (v:VT):same4 p (zCF p n v).1:=by
 have h1:same4 p (ledP p n v):=by
  unfold ledP
  split
  ·exact enter_s4 _ _
  ·exact same4.refl p
 unfold zCF leadR leadQ
 split
 ·split
  ·split
   ·exact h1
   ·exact h1
  ·exact h1
 ·exact h1
theorem news_s4 (p:PE) (n:Int) (l:LT):same4 p (newsP p n l):=by
 unfold newsP
 split
 ·split
  ·exact enter_s4 _ _
  ·exact enter_s4 _ _
 ·exact same4.refl p
theorem lead_s4 (t:List BK) (n:Int) (p:PE) (l:LT):same4 p (kZ t n p l).1:=by
 unfold kZ
 split
 ·split
  ·exact leadV_s4 _ _ _
  ·split
   ·exact news_s4 _ _ _
   ·exact same4.refl p
 ·exact same4.refl p
theorem next_s4 (p:PE) (a b c d:Int):same4 p (zIG p a b c d).1:=by unfold zIG;split <;> exact ⟨rfl,rfl,rfl,rfl⟩
theorem qc_ka (n:Int) (h:KA t p) (l:LT):KA t (qcH t n p l).1:=by
 have h1:=h.same (enter_s4 p l.1.2.2.2.1);unfold qcH
 split
 ·exact KA.same (KA.same h1 (q:={ yI p l.1.2.2.2.1 with high:=yF (yI p l.1.2.2.2.1).high l.2.1 }) ⟨rfl,rfl,rfl,rfl⟩) (next_s4 _ _ _ _ _)
 ·split
  ·exact KA.same (KA.same h1 (q:={ yI p l.1.2.2.2.1 with lock:=yF (yI p l.1.2.2.2.1).lock l.2.1 }) ⟨rfl,rfl,rfl,rfl⟩) (next_s4 _ _ _ _ _)
  ·split
   ·unfold doneV;exact (through_ka h1 _).same (enter_s4 _ _)
   ·exact h1
theorem block_s4 (t:List BK) (p:PE) (l:LT):same4 p (blockH t p l).1:=by
 have h1:=enter_s4 p l.1.2.2.2.1;unfold blockH
 split
 ·exact h1
 ·exact h1
theorem ask_ka (n:Int) (h:KA t p) (l:LT):KA t (qC t n p l).1:=by
 unfold qC
 split
 ·split
  ·exact h.same (lead_s4 _ _ _ _)
  ·split
   ·split
    ·exact qc_ka n h l
    ·exact h.same (block_s4 _ _ _)
   ·exact h
 ·exact h
theorem chain_ka (h:KA t p) (k:Int):KA t (jN t p k):=by
 unfold jN
 split
 ·rename_i b c _ _
  have h2:KA t (zGC t (yDI t p k b) k):=by
   have h1:KA t (yDI t p k b):=h.same ⟨rfl,rfl,rfl,rfl⟩;unfold zGC
   split
   ·exact through_ka h1 _
   ·exact h1
  unfold yDH
  split
  ·exact early_ka h2 _
  ·exact h2
 ·exact h
theorem chainH_ka (n:Int) (h:KA t p) (l:LT):KA t (xI t n p l).1:=by
 unfold xI
 split
 ·split
  ·exact h.same (lead_s4 _ _ _ _)
  ·split
   ·exact KA.same (KA.same h (q:={ p with high:=yF p.high l.2.1 }) ⟨rfl,rfl,rfl,rfl⟩) (lead_s4 _ _ _ _)
   ·split
    ·exact h
    ·split
     ·unfold yBD
      split
      ·unfold votesH;exact KA.same (KA.same (chain_ka h l.1.2.2.2.2) (q:=yP (jN t p l.1.2.2.2.2) 4 l.1.2.2.2.1 l.1.2.2.2.2) ⟨rfl,rfl,rfl,rfl⟩) (enter_s4 _ _)
      ·exact chain_ka h _
     ·exact h
 ·exact h
theorem hear_ka (h:KA c.tree p) (l:LT):KA c.tree (zFA c p l).1:=by
 unfold zFA
 split
 ·exact chainH_ka _ h _
 ·exact ask_ka _ h _
def KAC (c:CU):Prop:=∀ p∈c.peers,KA c.tree p
theorem set_ka (h:KAC c) (i:Int) (hp:KA c.tree p):KAC (zCG c i p):=fun x hx=>by
 rcases List.mem_or_eq_of_mem_set hx with hx | rfl
 ·exact h x hx
 ·exact hp
theorem post_ka (h:KAC c) (ls:List LT):KAC (jV c ls):=by
 unfold jV
 split
 ·exact h
 ·exact h
theorem say_ka:∀ (ls:List LT) {c:CU},KAC c->KAC (zIC c ls)
 | [],_,h=>h
 | l :: ls,c,h=>by
  refine say_ka ls (c:=yFD c l) ?_;unfold yFD;refine post_ka ?_ _
  split
  ·unfold zHF
   split
   ·exact h
   ·exact h
  ·exact h
theorem peAt_ka (h:KAC c) (i:Int):KA c.tree (zCJ c i):=by
 unfold zCJ
 by_cases hk:i.toNat < c.peers.length
 ·rw [Ak hk];exact h _ (Ag hk)
 ·rw [List.getElem?_eq_none (by omega)];exact KA.none _ (fun x hx=>by simp [zeroPe] at hx) rfl rfl rfl
theorem out_ka (h:KAC c) (k:Int):KAC (zAC c k):=by
 unfold zAC
 split
 ·exact h
 ·exact h
theorem hand_ka (h:KAC c) (l:LT):KAC (jM c l).1:=by
 unfold jM
 split
 ·exact post_ka h _
 ·exact h
theorem do_ka (h:KAC c) (e:EV):KAC (doC c e).1:=by
 unfold doC
 split
 ·unfold offerP
  split
  ·exact h
  ·exact h
 ·split
  ·unfold showC
   split
   ·refine post_ka ?_ _;have hp:=peAt_ka h e.at'
    have hs:same4 (zCJ c e.at') (showP c e.at'):=by
     unfold showP showsP
     split
     ·exact same4.refl _
     ·exact ⟨rfl,rfl,rfl,rfl⟩
    have hk:=set_ka h e.at' (hp.same hs);exact fun p hm=>(hk p hm).put _
   ·exact h
  ·split
   ·unfold carryC
    split
    ·have ho:=out_ka h e.at';show KAC (if _ then _ else _)
     split
     ·unfold heardC;exact say_ka _ (set_ka ho _ (hear_ka (peAt_ka ho _) _))
     ·exact ho
    ·exact h
   ·split
    ·exact out_ka h _
    ·split
     ·unfold yEC
      split
      ·exact post_ka h _
      ·exact h
     ·split
      ·unfold waitC
       split
       ·refine post_ka (set_ka h _ ?_) _;have hp:=peAt_ka h e.at';unfold zGH
        split
        ·exact hp.same (enter_s4 _ _)
        ·exact hp
       ·exact h
      ·split
       ·unfold fallC
        split
        ·exact set_ka h _ (fall_ka (peAt_ka h _))
        ·exact h
       ·unfold lieC
        split
        ·exact h
        ·split
         ·exact hand_ka h _
         ·split
          ·split
           ·exact hand_ka h _
           ·exact h
          ·split
           ·unfold zBC
            split
            ·exact h
            ·split
             ·refine hand_ka ?_ _;exact fun p hm=>(h p hm).put _
             ·exact h
           ·exact hand_ka h _
structure LifeX (m:Nat) (c:CU):Prop extends LifeW m c where
 ka:KAC c
theorem LifeX.mono {m':Nat} (h:LifeX m c) (hm:m<=m'):LifeX m' c:=⟨h.1.mono hm,h.ka⟩
theorem LifeX.step (h:LifeX m c) (he:evFit e):LifeX (m+1) (doC c e).1:=⟨h.1.step he,do_ka h.ka e⟩
end Go.Proofs.YtfnneillakdopacGreatR
