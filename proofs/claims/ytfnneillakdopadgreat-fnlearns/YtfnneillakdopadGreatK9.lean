/-
  Texts of ours that later ones lean on, in one: LifeD, Draw, Draw2, DrawC, DrawB2, DrawB4, Draw7, VotesD, AnyD, LifeV.
-/
import Derived.Test.YtfnneillakdopadGreatK6
import Derived.Test.YtfnneillakdopadGreatDoCZ
import Derived.Test.YtfnneillakdopadGreatK1
import Derived.Laws.OwnMore
import Derived.Test.YtfnneillakdopadGreatPutBSZ
import Derived.Deep.RegionHeld3
import Derived.Deep.AppendLies
import Derived.Test.YtfnneillakdopadGreatK3
import Derived.Laws.AppendOwn
import Derived.Laws.Cells
import Derived.OwnWalk
import Derived.Deep.Cut
set_option maxRecDepth 100000
set_option maxHeartbeats 32000000
namespace Go.Proofs.YtfnneillakdopadGreat
open _root_.Go.Proofs.Tryz
open Go.Value renaming int->I
open Go.IntKind renaming i64->U
open Option renaming none->Aa,some->Ab
open Nat renaming le_trans->Ac,lt_of_lt_of_le->Ad,zero_le->Ae
open Option.some renaming inj->Af
open List renaming getElem_mem->Ag,length_append->Ah,getElem?_eq_getElem->Ai,length_cons->Al
open _root_.ByteArray renaming empty->Aj
open Bool renaming and_eq_true->Ak
open Go.RowKit Num
variable {c:CU} {e:EV} {n x:Int} {l:LT} {t:List BK} {B L b cap k m off:Nat} {ao:Option Addr} {r:Option Nat} {p:PE} {ps:TL} {v:Value} {a w w':World}
theorem wf_in (h:-9223372036854775808<=x/\x<=9223372036854775807):(Lit.int U x).wf=true:=by
 have h1:=wrap64_wf x;have h2:wrap64 x=x:=by unfold wrap64;omega
 rw [h2] at h1;exact h1
theorem zFE (h:sm x):(Lit.int U x).wf=true:=wf_in ⟨by have:=h.1;omega,by have:=h.2;omega⟩
theorem smQ_wf {q:QC} (h:smQ q):wfQ q:=⟨zFE h.1,zFE h.2.1,zFE h.2.2.1,zFE h.2.2.2⟩
theorem smV_wf {v:VT} (h:smV v):wfV v:=⟨zFE h.1,zFE h.2.1,zFE h.2.2.1,zFE h.2.2.2⟩
theorem smL_wf (h:smL l):wfL l:=⟨⟨zFE h.1.1,zFE h.1.2.1,zFE h.1.2.2.1,zFE h.1.2.2.2.1,zFE h.1.2.2.2.2⟩,smQ_wf h.2.1,smQ_wf h.2.2⟩
theorem cmd_small {c:CM} (h:zAF c=true):(c.2.1.size:Int)<=3:=by
 have:=(cmdB_bd h).2.1;unfold zIJ at this;simp only [Ak] at this;exact (zDF this.2).2
theorem yFA {k:ByteArray} (h:zIJ k=true):(k.size:Int)<=3:=by
 unfold zIJ at h;simp only [Ak] at h;exact (zDF h.2).2
theorem smT.ok (h:smT t):okT t:=⟨by have:=h.many;omega,fun b hb=>⟨by have:=(h.each b hb).many;omega,fun c hc=>by have:=cmd_small ((h.each b hb).cmds c hc);omega⟩⟩
theorem wtC_le :(∀ b∈t,b.2.1.length<=4)->wtC t<=4 * t.length:=by
 induction t with
 | nil=>intro _;simp [wtC]
 | cons b t ih=>
  intro h;have h1:=h b (List.mem_cons_self ..);have h2:=ih (fun x hx=>h x (List.mem_cons_of_mem _ hx));show b.2.1.length+wtC t<=4 * (b :: t).length;simp only [Al];omega
theorem smT.wt (h:smT t):wtB t<=300:=by
 have:=wtC_le (fun b hb=>(h.each b hb).many);have:=h.many;unfold wtB;omega
theorem smP.small (h:smP m p) (hm:m<=1000):yC p:=by
 have h1:=h.row.len;have h2:=h.cells.2.2;have h3:=h.early.1;have h4:=h.undos.1;have h5:=h.votes.1;have h6:=h.news.1
 exact ⟨by omega,by omega,by omega,by omega,by omega,by omega,fun c hc=>by have:=yFA (h.cells.1 c hc).1;omega,fun u hu=>by
  have:=h.undos.2 u hu;unfold zHH at this;simp only [Ak] at this;have:=yFA this.1
  omega⟩
theorem smP.len (h:smP m p):jZ p<=433+2 * m:=by
 have h1:=h.row.len;have h2:=h.cells.2.2;have h3:=h.early.1;have h4:=h.undos.1;have h5:=h.votes.1;have h6:=h.news.1;unfold jZ;omega
theorem smP.kept (h:smP m p):yAG p:=by
 refine ⟨fun n hn=>?_,by have:=h.row.len;omega⟩;have g:∀ x,sm x->0<=x/\x<=1000000000:=fun x hx=>⟨hx.1,by have:=hx.2;omega⟩
 unfold xK at hn
 rcases List.mem_append.1 hn with hn | hn
 ·simp only [List.mem_cons,List.not_mem_nil,or_false] at hn
  rcases hn with rfl | rfl | rfl | rfl | rfl | rfl | rfl | rfl | rfl | rfl | rfl | rfl | rfl | rfl | rfl
  ·exact g _ (id_sm h)
  ·exact g _ (view_sm h)
  ·exact g _ h.high.1
  ·exact g _ h.high.2.1
  ·exact g _ h.high.2.2.1
  ·exact g _ h.high.2.2.2
  ·exact g _ h.lock.1
  ·exact g _ h.lock.2.1
  ·exact g _ h.lock.2.2.1
  ·exact g _ h.lock.2.2.2
  ·exact g _ h.last.1
  ·exact g _ h.last.2.1
  ·exact g _ h.last.2.2.1
  ·exact g _ h.last.2.2.2
  ·have:=h.row.len;exact ⟨by omega,by omega⟩
 ·exact g _ (h.row.sm n hn)
theorem far_le {l:List PE}:∀ {n:Int},0<=n->n<=900->(∀ p∈l,0<=p.view/\p.view<=900)->0<=yEH l n/\yEH l n<=900:=by
 induction l with
 | nil=>intro n h0 h1 _;exact ⟨h0,h1⟩
 | cons p l ih=>
  intro n h0 h1 h;have hp:=h p (List.mem_cons_self ..);unfold yEH
  split
  ·exact ih hp.1 hp.2 (fun x hx=>h x (List.mem_cons_of_mem _ hx))
  ·exact ih h0 h1 (fun x hx=>h x (List.mem_cons_of_mem _ hx))
theorem smP.good (h:smP m p) (hm:m<=1000):yDG p:=by
 have h1:=h.row.len;have h2:=h.cells.2.2;have h3:=h.early.1;have h4:=h.undos.1;have h5:=h.votes.1;have h6:=h.news.1;have a:maxLen=9223372036854775807:=rfl;have nb:∀ {x:Int},zEH x=true->(Lit.int U x).wf=true:=fun hx=>wf_in (by have:=numB_bd hx;omega)
 refine ⟨by omega,by omega,by omega,by omega,by omega,by omega,fun c hc=>by have:=yFA (h.cells.1 c hc).1;omega,fun c hc=>nb (h.cells.1 c hc).2,fun u hu=>?_,fun x hx=>zFE (h.row.sm x hx),fun x hx=>zFE (h.early.2 x hx),fun v hv=>smV_wf (h.votes.2 v hv),fun l hl=>smL_wf (h.news.2 l hl),zFE (id_sm h),zFE (view_sm h),zFE h.shown,smQ_wf h.high,smQ_wf h.lock,smQ_wf h.last⟩;have hb:=h.undos.2 u hu;unfold zHH at hb;simp only [Ak] at hb;have:=yFA hb.1;exact ⟨by omega,nb hb.2⟩
theorem jJ.ok (h:jJ m c) (hm:m<=1000):doOk c:=by
 have hn:=h.n;have ht:=h.tree.many;have ho:=h.tree.one;have a:=h.net.1;have f:=h.said.1;have e:=h.lpeers;have b:=h.pend.1;have d:=h.tree.wt;refine ⟨⟨by omega,⟨by omega,by omega⟩,h.tree.ok,by omega,ho,by omega,by omega,?_,fun k=>?_⟩,⟨by omega,by omega,⟨by omega,by omega⟩,by omega,h.tree.ok,fun p hp=>?_,fun l hl=>?_,by omega⟩,⟨by omega,by omega,wf_in (by omega),h.tree.ok,by omega,fun p hp=>⟨(h.peers p hp).good hm,(h.peers p hp).small hm⟩,⟨by omega,fun x hx=>by have:=cmd_small (h.pend.2 x hx);omega⟩⟩,fun p hp=>(h.peers p hp).kept⟩
 ·have:=far_le (l:=c.peers) (n:=0) (by omega) (by omega) (fun p hp=>(h.peers p hp).view);omega
 ·have:=h.tree.view k;omega
 ·have h1:=(h.peers p hp).len;have h2:=(h.peers p hp).votes.1;have h3:=(h.peers p hp).view;exact ⟨by omega,(h.peers p hp).small hm,by omega,by omega,by omega⟩
 ·have:=(h.net.2 l hl).2.1.2.2.2;exact ⟨by have:=this.1;omega,by have:=this.2;omega⟩
structure evFit (e:EV):Prop where
 at0:0<=e.at'/\e.at'<=1000
 to0:0<=e.to'/\e.to'<=1000
 num:0<=e.num/\e.num<=1000
 cmd:e.kind=1->zAF e.cmd=true
 size:(e.cmd.2.1.size:Int)<=3
theorem peAt_sm (h:jJ m c) {i:Int} (hi:xT c i=true):smP m (zCJ c i):=by
 unfold xT at hi;have:=zDF (Ak _ _ ▸ hi).1;have hl:i.toNat < c.peers.length:=by omega
 unfold zCJ;rw [Ai hl];exact h.peers _ (Ag hl)
theorem out_sm (h:jJ m c) (k:Int):jJ m (zAC c k):=by
 unfold zAC
 split
 ·refine { h with net:=⟨?_,fun l hl=>?_⟩ }
  ·have:=h.net.1;show (c.net.take k.toNat ++ c.net.drop (k.toNat+1)).length<=60;rw [Ah,List.length_take,List.length_drop];omega
  ·rcases List.mem_append.1 hl with hl | hl
   ·exact h.net.2 l (List.mem_of_mem_take hl)
   ·exact h.net.2 l (List.mem_of_mem_drop hl)
 ·exact h
theorem outL_sm (h:jJ m c) (k:Int):smL (zBH c k):=by
 unfold zBH
 split
 ·rename_i l hl
  split
  ·exact h.net.2 l (List.mem_of_getElem? hl)
  ·exact ⟨⟨sm0,sm0,sm0,sm0,sm0⟩,smQ0,smV0⟩
 ·exact ⟨⟨sm0,sm0,sm0,sm0,sm0⟩,smQ0,smV0⟩
theorem carry_sm (h:jJ m c) (k:Int):jJ (m+1) (carryC c k).1:=by
 unfold carryC
 split
 ·have ho:=out_sm h k;have hl:=outL_sm h k;show jJ (m+1) (if xT (zAC c k) (zBH c k).1.2.2.1=true then heardC (zAC c k) (zBH c k) else zAC c k)
  split
  ·rename_i hh
   have hp:=peAt_sm ho hh;have hr:=hear_sm ho hp hl;unfold heardC;have h1:jJ (m+1) (zCG (zAC c k) (zBH c k).1.2.2.1 (zFA (zAC c k) (zCJ (zAC c k) (zBH c k).1.2.2.1) (zBH c k)).1):=set_sm (ho.mono (Nat.le_succ m)) _ hr.1 (hear_id _ _ _);have h2:LifeS m 10 (zCG (zAC c k) (zBH c k).1.2.2.1 (zFA (zAC c k) (zCJ (zAC c k) (zBH c k).1.2.2.1) (zBH c k)).1):=⟨{ h1 with said:=⟨by simp,fun v hv=>by simp at hv⟩ },by have:=ho.said.1;show (zAC c k).said.length+10<=10 * (m+1);omega,ho.said.2⟩;refine LifeS.to (k:=10 - (zFA (zAC c k) (zCJ (zAC c k) (zBH c k).1.2.2.1) (zBH c k)).2.length) (sayAll_sm _ ?_ hr.2.2);have:=hr.2.1;rw [show 10 - (zFA (zAC c k) (zCJ (zAC c k) (zBH c k).1.2.2.1) (zBH c k)).2.length+(zFA (zAC c k) (zCJ (zAC c k) (zBH c k).1.2.2.1) (zBH c k)).2.length=10 by omega];exact h2
  ·exact ho.mono (Nat.le_succ m)
 ·exact h.mono (Nat.le_succ m)
theorem timed_sm (hn:n=4) (h:smP m p):smP m (zGH p n)/\smL (yEB p n)/\(zGH p n).id=p.id:=by
 unfold zGH yEB
 split
 ·have h1:=yAB h (p.view+1);exact ⟨h1,answer_sm h1 ⟨by decide,by decide⟩ (leader_sm hn) h1.high smV0,qY _ _⟩
 ·exact ⟨h,⟨⟨sm0,sm0,sm0,sm0,sm0⟩,smQ0,smV0⟩,rfl⟩
theorem wait_sm (h:jJ m c) (i:Int):jJ m (waitC c i).1:=by
 unfold waitC
 split
 ·rename_i hh
  have ht:=timed_sm h.n (peAt_sm h hh.1);exact post_sm (set_sm h i ht.1 ht.2.2) (fun x hx=>by rcases List.mem_singleton.1 hx with rfl;exact ht.2.1)
 ·exact h
theorem put_sm (h:smT t) {b:BK} (hb:smQ b.2.2):smT (zGE t b):=by
 unfold zGE
 split
 ·exact h
 ·split
  ·exact h
  ·rename_i hn
   have a:xV t b=true:=by
    cases hx:xV t b with
    | true=>rfl
    | false=>exact absurd (Or.inl hx) hn
   have e:t.length < 60:=by
    by_cases hx:60<=t.length
    ·exact absurd (Or.inr hx) hn
    ·omega
   refine ⟨by simp,by simp;omega,fun x hx=>?_,by rw [List.getElem?_append_left (by have:=h.one;omega)];exact h.fst,fun i hi h0=>?_⟩
   rcases List.mem_append.1 hx with hx | hx
   ·exact h.each x hx
   ·rcases List.mem_singleton.1 hx with rfl
    unfold xV at a;simp only [Ak,decide_eq_true_eq] at a;have h0:=zDF a.1;have hv:=h.view x.1.1;exact ⟨⟨by omega,by omega⟩,⟨by have:=a.2.1;omega,a.2.2.1⟩,a.2.2.2.1,fun c hc=>List.all_eq_true.1 a.2.2.2.2.1 c hc,hb⟩
   by_cases hit:i < t.length
   ·rw [List.getElem_append_left hit];exact h.on i hit h0
   ·have d:i=t.length:=by simp at hi;omega
    subst d;rw [List.getElem_append_right (nl _)];simp only [Nat.sub_self,List.getElem_cons_zero];unfold xV at a;simp only [Ak,decide_eq_true_eq] at a;have h1:=zDF a.1;exact ⟨h1.1,by omega,a.2.2.2.2.2.1⟩
theorem at_from_le (b:BK):∀ (t:List BK) (i:Nat),yW b t i<=(i:Int)+t.length
 | [],i=>by unfold yW;simp only [List.length_nil];omega
 | x :: t,i=>by
  unfold yW
  split
  ·simp only [Al];omega
  ·have:=at_from_le b t (i+1);simp only [Al];omega
theorem put_at_le (t:List BK) (b:BK):zBE t b<=t.length:=by
 have:=at_from_le b t 0;unfold zBE kI
 split
 ·omega
 ·split <;> omega
theorem sm1:sm 1:=⟨by decide,by decide⟩
theorem sm2:sm 2:=⟨by decide,by decide⟩
theorem sm3:sm 3:=⟨by decide,by decide⟩
theorem sm4:sm 4:=⟨by decide,by decide⟩
theorem putAt_sm (h:smT t) {b:BK} (hp:¬ zBE t b < 0):sm (zBE t b):=by
 have hk:=put_at_le t b;have:=h.many;exact ⟨by omega,by omega⟩
theorem best_sm (h:smP m p):smQ (bestT p):=by
 unfold bestT zAE
 have a:∀ (l:List LT) (q:QC),smQ q->(∀ x∈l,smL x)->smQ (l.foldl (fun q x=>yF q x.2.1) q):=by
  intro l
  induction l with
  | nil=>intro q hq _;exact hq
  | cons x l ih=>intro q hq hl;exact ih _ (yEJ hq (hl x (List.mem_cons_self ..)).2.1) (fun y hy=>hl y (List.mem_cons_of_mem _ hy))
 exact a _ _ h.high h.news.2
theorem shown_sm {m:Nat} {p:PE} (h:smP m p) {k:Int} {q:QC} (hk:sm k) (hq:smQ q):∀ i,i<=100->∀ x∈qX p k q i,smL x
 | 0,_=>fun x hx=>by simp [qX] at hx
 | i+1,hi=>fun x hx=>by
  unfold qX at hx
  rcases List.mem_append.1 hx with hx | hx
  ·exact shown_sm h hk hq i (by omega) x hx
  ·rcases List.mem_singleton.1 hx with rfl
   exact ⟨⟨sm1,id_sm h,⟨by show (0:Int)<=(i:Int);omega,by show (i:Int)<=1000;omega⟩,view_sm h,hk⟩,hq,smV0⟩
theorem show_sm (h:jJ m c) (i:Int):jJ m (showC c i).1:=by
 unfold showC
 split
 ·rename_i hh
  have hp:=peAt_sm h hh.1;have hb:=best_sm hp;have ht:smT (showA c i):=put_sm h.tree hb
  have hP:smP m (showP c i)/\(showP c i).id=(zCJ c i).id:=by
   unfold showP showsP
   split
   ·exact ⟨hp,rfl⟩
   ·exact ⟨{ hp with high:=hb,shown:=view_sm hp },rfl⟩
  have hk:sm (showK c i):=by
   have h0:=hh.2.2.2;unfold showK showsK at h0 ⊢
   split at h0
   ·omega
   ·rename_i h1
    rw [if_neg h1];exact putAt_sm h.tree h1
  have hs:jJ m (showsC c i):=by
   have h1:=set_sm h i hP.1 hP.2;refine { h1 with tree:=ht,pend:=⟨?_,fun x hx=>h.pend.2 x (List.mem_of_mem_drop hx)⟩ };have:=h.pend.1;show (c.pend.drop (showM c)).length<=8;rw [List.length_drop];omega
  refine post_sm hs ?_;unfold zCA;refine shown_sm hP.1 hk ?_ _ (by have:=many_le c.n;omega);unfold justOr
  split
  ·exact (ht.at _).just
  ·exact smQ0
 ·exact h
theorem fall_sm (h:jJ m c) (i:Int):jJ m (fallC c i).1:=by
 unfold fallC
 split
 ·rename_i hh
  have hp:=peAt_sm h hh;refine set_sm h i ?_ rfl;have hf:fair ([]:CL):=fair_of (by decide);exact ⟨hp.id,hp.view,hp.high,hp.lock,hp.last,hp.row,fair_rowC _ _ hf,⟨by simp [yCF,jO],fun x hx=>by simp [yCF,jO] at hx⟩,⟨by simp [yCF,jO],fun x hx=>by simp [yCF,jO] at hx⟩,⟨by simp [yCF,jO],fun x hx=>by simp [yCF,jO] at hx⟩,⟨by simp [yCF,jO],fun x hx=>by simp [yCF,jO] at hx⟩,sm0⟩
 ·exact h
theorem offer_sm (h:jJ m c) {x:CM} (hx:zAF x=true):jJ m (offerP c x).1:=by
 unfold offerP
 split
 ·exact h
 ·refine { h with pend:=⟨?_,fun y hy=>?_⟩ }
  ·show (c.pend ++ [x]).length<=8;rw [Ah,List.length_singleton];omega
  ·rcases List.mem_append.1 hy with hy | hy
   ·exact h.pend.2 y hy
   ·rcases List.mem_singleton.1 hy with rfl;exact hx
theorem twice_sm (h:jJ m c) (k:Int):jJ m (yEC c k).1:=by
 unfold yEC
 split
 ·refine post_sm h (fun x hx=>?_);unfold atC at hx
  split at hx
  ·rename_i l hl
   rcases List.mem_singleton.1 hx with rfl
   exact h.net.2 _ (List.mem_of_getElem? hl)
  ·cases hx
 ·exact h
theorem hand_sm (h:jJ m c) (hl:smL l):jJ m (jM c l).1:=by
 unfold jM
 split
 ·exact post_sm h (fun x hx=>by rcases List.mem_singleton.1 hx with rfl;exact hl)
 ·exact h
theorem lieK_sm (h:jJ m c) (e:EV):0<=yBJ c e/\yBJ c e < 60:=by
 have h1:=h.tree.one;have h2:=h.tree.many;unfold yBJ;have:=Int.emod_nonneg e.num (show (c.tree.length:Int) ≠ 0 by omega);have:=Int.emod_lt_of_pos e.num (show (0:Int) < (c.tree.length:Int) by omega);omega
theorem lieQc_sm (h:jJ m c) {ph k:Int} (h1:sm ph) (h2:sm k):smQ (qM c ph k).1:=by
 unfold qM
 split
 ·have hv:=h.tree.view k;exact qcOf_sm h1 ⟨hv.1,by omega⟩ h2
 ·exact smQ0
theorem phase_sm (c:CU) {num:Int}:sm (qP c num):=by
 unfold qP
 split
 ·exact ⟨by decide,by decide⟩
 ·exact ⟨by omega,by omega⟩
theorem lieW_sm (h:jJ m c) (e:EV):sm (lieW c e):=by
 unfold lieW
 split
 ·have:=h.tree.view (yBJ c e);exact ⟨by omega,by omega⟩
 ·have:=far_le (l:=c.peers) (n:=0) (by omega) (by omega) (fun p hp=>(h.peers p hp).view);exact ⟨by omega,by omega⟩
theorem lie_sm (h:jJ m c) (he:evFit e):jJ m (lieC c e).1:=by
 have ha:sm e.at':=he.at0;have a:sm e.to':=he.to0;have hk:=lieK_sm h e;have b:sm (yBJ c e):=⟨hk.1,by omega⟩;unfold lieC
 split
 ·exact h
 ·split
  ·have hv:sm (lieView c (yBJ c e)):=by
    unfold lieView
    split
    ·have:=h.tree.view (yBJ c e);exact ⟨this.1,by omega⟩
    ·exact sm0
   exact hand_sm h ⟨⟨sm2,ha,a,hv,sm0⟩,smQ0,⟨phase_sm c,hv,b,ha⟩⟩
  ·split
   ·split
    ·have hq:=lieQc_sm h (phase_sm c (num:=e.num)) b;exact hand_sm h ⟨⟨sm3,ha,a,hq.2.1,sm0⟩,hq,smV0⟩
    ·exact h
   ·split
    ·unfold zBC
     split
     ·exact h
     ·split
      ·rename_i hh
       have hq:smQ (lieQ c e).1:=by
        unfold lieQ;exact lieQc_sm h (by split <;> exact ⟨by decide,by decide⟩) b
       have ht:jJ m (lieT c e):={ h with tree:=put_sm h.tree hq };exact hand_sm ht ⟨⟨sm1,ha,a,lieW_sm h e,putAt_sm h.tree hh.2.2.2.1⟩,hq,smV0⟩
      ·exact h
    ·exact hand_sm h ⟨⟨sm4,ha,a,(show sm (e.num % 900+1) from ⟨by omega,by omega⟩),sm0⟩,smQ0,smV0⟩
theorem do_sm (h:jJ m c) (he:evFit e):jJ (m+1) (doC c e).1:=by
 have hs:=Nat.le_succ m;unfold doC
 split
 ·rename_i k;exact (offer_sm h (he.cmd k)).mono hs
 ·split
  ·exact (show_sm h _).mono hs
  ·split
   ·exact carry_sm h _
   ·split
    ·exact (out_sm h _).mono hs
    ·split
     ·exact (twice_sm h _).mono hs
     ·split
      ·exact (wait_sm h _).mono hs
      ·split
       ·exact (fall_sm h _).mono hs
       ·exact (lie_sm h he).mono hs
theorem and255 (x:Int):0<=bits .and U x 255/\bits .and U x 255<=255:=by
 unfold bits;simp only
 have h:(BitVec.ofInt IntKind.i64.bits x &&& BitVec.ofInt IntKind.i64.bits 255).toNat<=255:=by
  rw [BitVec.toNat_and];exact Ac Nat.and_le_right (by decide)
 generalize (BitVec.ofInt IntKind.i64.bits x &&& BitVec.ofInt IntKind.i64.bits 255).toNat=n at h
 rw [IntKind.wrap_i64];omega
structure Code (w:World) (ao:Option Addr) (len b off:Nat):Prop where
 le:len<=1048576
 some:0 < len->ao=Option.some ⟨b,off,Aa⟩
 cell:∀ k,k < len->∃ z:Int,0<=z/\z<=255/\w.cell? ⟨b,off+k,Aa⟩=Option.some (.int .u8 z)
 lt:0 < len->b < w.heap.size
theorem Code.grown {len:Nat} (h:Code w ao len b off) (hg:w.grownBy w' r) (hr:0 < len->Option.some b ≠ r):Code w' ao len b off:=
 ⟨h.le,h.some,fun k hk=>by
  obtain ⟨z,h0,h1,h2⟩:=h.cell k hk
  exact ⟨z,h0,h1,by rw [World.cell?_of_block (w:=w) (hg.block b (h.lt (by omega)) (hr (by omega)))];exact h2⟩,fun hl=>Ad (h.lt hl) hg.size⟩
theorem Code.below {len:Nat} (h:Code w ao len b off) (hg:Below w.heap.size w w'):Code w' ao len b off:=
 ⟨h.le,h.some,fun k hk=>by
  obtain ⟨z,h0,h1,h2⟩:=h.cell k hk
  exact ⟨z,h0,h1,by rw [hg.cell (by exact h.lt (by omega))];exact h2⟩,fun hl=>Ad (h.lt hl) hg.size⟩
def Cur (w:World) (B:Nat) (ao:Option Addr) (len cap:Nat):Prop:=
 ∃ (i:Nat) (h:Int),i<=len/\w.heap[B]?=Option.some (.cells #[.slice ao len cap,I U (i:Int),I U h] 121 (0,0))
theorem Cur.keep {len:Nat} (h:Cur w B ao len cap) (hg:w'.heap[B]?=w.heap[B]?):Cur w' B ao len cap:=by
 obtain ⟨i,x,h1,h2⟩:=h;exact ⟨i,x,h1,by rw [hg];exact h2⟩
theorem Cur.lt {len:Nat} (h:Cur w B ao len cap):B < w.heap.size:=by
 obtain ⟨i,x,h1,h2⟩:=h
 rcases Nat.lt_or_ge B w.heap.size with h | h
 ·exact h
 ·rw [Array.getElem?_eq_none h] at h2;simp at h2
theorem cur_set {a b c:Value} {t:TypeId} (h:w.heap[B]?=Option.some (.cells #[a,b,c] t (0,0))) :
  (w.setCell ⟨B,2,Aa⟩ v).heap[B]?=Option.some (.cells #[a,b,v] t (0,0))/\(w.setCell ⟨B,1,Aa⟩ v).heap[B]?=Option.some (.cells #[a,v,c] t (0,0)):=
 ⟨heap_setCell_same w B 2 _ t v h,heap_setCell_same w B 1 _ t v h⟩
theorem xC {b c:World} (h:a.grownBy b r) (k:b.grownBy c r):a.grownBy c r:=
 ⟨k.os.trans h.os,k.tape.trans h.tape,k.output.trans h.output,Ac h.size k.size,fun i hi hr=>(k.block i (Ad hi h.size) hr).trans (h.block i hi hr)⟩
theorem grown_drew {b:World} (h:a.grownBy b r) (n:Nat):a.grownBy (b.drewN n) r:=⟨h.os,h.tape,h.output,h.size,h.block⟩
theorem byte_any (w:World) (B:Nat) (ao:Option Addr) (len cap b off:Nat) (hc:Code w ao len b off) (hB:Cur w B ao len cap) (hne:0 < len->b ≠ B) :
  Calls prog 100 #[.pointer (Option.some ⟨B,0,Aa⟩)] w fun e w'=>∃ x:Int,e=.returned (I U x)/\0<=x/\x<=255/\Cur w' B ao len cap/\w.grownBy w' (Option.some B):=by
 obtain ⟨i,h,c,hb⟩:=hB;have k:=hc.le;have c0:w.cell? ⟨B,0,Aa⟩=Option.some (.slice ao len cap):=by rw [cell_of_row w B 0 _ _ (0,0) hb];rfl
 have c1:w.cell? ⟨B,1,Aa⟩=Option.some (I U (i:Int)):=by rw [cell_of_row w B 1 _ _ (0,0) hb];rfl
 have c2:w.cell? ⟨B,2,Aa⟩=Option.some (I U h):=by rw [cell_of_row w B 2 _ _ (0,0) hb];rfl
 have f2:w.frozen? ⟨B,2,Aa⟩=false:=frozen_of_row w B 2 _ _ hb;have f1:w.frozen? ⟨B,1,Aa⟩=false:=frozen_of_row w B 1 _ _ hb;have HB:=hid hb;clear hb
 by_cases hlt:(i:Int) < len
 ·obtain rfl:=hc.some (by omega);obtain ⟨z,j,f,hz⟩:=hc.cell i (by omega);have d:=hne (by omega);have q0:(0:Int)<=(i:Int):=by omega
  have g:∀ v:Value,(w.setCell ⟨B,2,Aa⟩ v).cell? ⟨b,off+i,Aa⟩=Option.some (.int .u8 z):=fun v=>by
   rw [World.cell?_of_block (w:=w) (heap_setCell_other w ⟨B,2,Aa⟩ b v (by exact d))];exact hz
  clear hc hne;go_enter func100,ntmps100;go_wp2
  generalize wrap64 (wrap64 (h * 6364136223846793005)+1442695040888963407)=H
  go_quiet (fail)
  have a:=and255 (bits .xor U (H / 8589934592) (H / 35184372088832))
  generalize bits .and U (bits .xor U (H / 8589934592) (H / 35184372088832)) 255=x0 at a ⊢
  go_wp2
  go_quiet (fail)
  go_wp2
  go_quiet (fail)
  go_wp2;go_ret;refine ⟨_,rfl,(and255 _).1,(and255 _).2,?_,?_⟩
  ·refine ⟨i+1,H,by omega,?_⟩;have e:=(cur_set (v:=I U ((i:Int)+1)) (cur_set (v:=I U H) HB).1).2;exact e
  ·exact xC (grown_drew (yK w B 2 (I U H)) _) (yK _ B 1 _)
 ·have q0:(0:Int)<=(i:Int):=by omega
  clear hc hne;go_enter func100,ntmps100;go_wp2
  generalize wrap64 (wrap64 (h * 6364136223846793005)+1442695040888963407)=H
  go_quiet (fail)
  have a:=and255 (bits .xor U (H / 8589934592) (H / 35184372088832))
  generalize bits .and U (bits .xor U (H / 8589934592) (H / 35184372088832)) 255=x0 at a ⊢
  go_wp2
  go_quiet (fail)
  go_wp2;go_ret;refine ⟨_,rfl,a.1,a.2,⟨i,H,c,?_⟩,?_⟩
  ·exact (cur_set HB).1
  ·exact grown_drew (grown_drew (yK w B 2 _) _) _
structure St (w:World) (B:Nat) (ao:Option Addr) (len cap b off:Nat):Prop where
 code:Code w ao len b off
 cur:Cur w B ao len cap
 ne:0 < len->b ≠ B
theorem St.step {len:Nat} (h:St w B ao len cap b off) (hc:Cur w' B ao len cap) (hg:w.grownBy w' (Option.some B)):St w' B ao len cap b off:=
 ⟨h.code.grown hg (fun hl e=>h.ne hl (Af e)),hc,h.ne⟩
theorem St.below {len:Nat} (h:St w B ao len cap b off) (hb:Below w.heap.size w w'):St w' B ao len cap b off:=
 ⟨h.code.below hb,h.cur.keep (hb.block B h.cur.lt),h.ne⟩
theorem byte_st {len:Nat} (h:St w B ao len cap b off) :
  Calls prog 100 #[.pointer (Option.some ⟨B,0,Aa⟩)] w fun e w'=>∃ x:Int,e=.returned (I U x)/\0<=x/\x<=255/\St w' B ao len cap b off/\w.grownBy w' (Option.some B):=
 (byte_any w B ao len cap b off h.code h.cur h.ne).mono fun _ _ ⟨x,he,h0,h1,hc,hg⟩=>⟨x,he,h0,h1,h.step hc hg,hg⟩
theorem xO {len:Nat} (n:Int) (hn:0 < n) (hn2:n<=1000000000) (h:St w B ao len cap b off) :
  Calls prog 59 #[.pointer (Option.some ⟨B,0,Aa⟩),I U n] w fun e w'=>∃ x:Int,e=.returned (I U x)/\0<=x/\x < n/\St w' B ao len cap b off/\w.grownBy w' (Option.some B):=by
 have H:=hid h;clear h
 by_cases h256:n<=256
 ·go_enter func59,ntmps59;go_wp2_with (go_at_call 100;refine (byte_st H).mono ?_;rintro e w' ⟨x,rfl,ad,ac,hS,hg⟩;have HS:=hid hS;clear hS)
  go_ret;exact ⟨_,rfl,Int.emod_nonneg _ (by omega),Int.emod_lt_of_pos _ hn,HS,hg⟩
 ·go_enter func59,ntmps59;go_wp2_with fail
  refine (byte_st H).mono ?_;rintro e w1 ⟨x1,rfl,z,s,f,p⟩;have m:=hid f;clear f;go_wp2_with fail
  refine (byte_st m).mono ?_;rintro e w2 ⟨x2,rfl,aa,t,d,l⟩;have j:=hid d;clear d;go_wp2_with fail
  refine (byte_st j).mono ?_;rintro e w3 ⟨x3,rfl,ab,v,c,o⟩;have i:=hid c;clear c;go_wp2_with fail
  refine (byte_st i).mono ?_;rintro e w4 ⟨x4,rfl,y,r,a,g⟩;have k:=hid a;clear a;go_wp2;go_ret;exact ⟨_,rfl,Int.emod_nonneg _ (by omega),Int.emod_lt_of_pos _ hn,k,xC (xC (xC p l) o) g⟩
theorem once_st {len:Nat} (n:Int) (hn:0 < n) (hn2:n<=1000000000) (h:St w B ao len cap b off) :
  Calls prog 58 #[.pointer (Option.some ⟨B,0,Aa⟩),I U n] w fun e w'=>∃ x:Bool,e=.returned (.bool x)/\St w' B ao len cap b off/\w.grownBy w' (Option.some B):=by
 have H:=hid h;clear h;go_enter func58,ntmps58;go_wp2_with (go_at_call 59;refine (xO _ hn hn2 H).mono ?_;rintro e w' ⟨x,rfl,a,c,hS,hg⟩;have HS:=hid hS;clear hS)
 go_ret;exact ⟨_,rfl,HS,hg⟩
theorem kV {b:World} (h:Be a b):a.grownBy b r:=⟨h.os,h.tape,h.output,h.size,fun k hk _=>h.block k hk⟩
theorem new_any {len:Nat} (hc:Code w ao len b off) :
  Calls prog 55 #[.slice ao len cap] w fun e w'=>∃ N,e=.returned (.pointer (Option.some ⟨N,0,Aa⟩))/\w.heap.size<=N/\St w' N ao len cap b off/\Be w w':=by
 have f:=hc.le;have HC:=hid hc;clear hc;go_enter func55,ntmps55;go_wp2
 go_loop [3,4] (fun h i=>∃ (k:Nat) (H:Int),k<=len/\h=I U H/\i=I U k) (fun _ i=>len - (intOf i).toNat)
 case atStart=>exact ⟨0,_,Ae _,rfl,rfl⟩
 case round=>
  obtain ⟨k,H,hk,rfl,rfl⟩:=hrel
  have a:∀ H:Int,∃ N,Ending.returned (.pointer (Option.some ⟨w.heap.size,0,Aa⟩))=Ending.returned (.pointer (Option.some ⟨N,0,Aa⟩))/\w.heap.size<=N/\St (w.alloc (.cells #[.slice ao len cap,I U 0,I U H] 121)) N ao len cap b off/\Be w (w.alloc (.cells #[.slice ao len cap,I U 0,I U H] 121)):=fun H=>
   have hb:Be w (w.alloc (.cells #[.slice ao len cap,I U 0,I U H] 121)):=(br _ _).alloc (nl _) _
   ⟨w.heap.size,rfl,nl _,⟨HC.below hb,⟨0,H,Ae _,heap_alloc_new w _⟩,fun hl e=>by have:=HC.lt hl;omega⟩,hb⟩
  have HF:Hid _:=a;clear a
  by_cases hlt:(k:Int) < len
  ·by_cases h4:(k:Int) < 4000
   ·obtain rfl:=HC.some (by omega);obtain ⟨z,d,c,hz⟩:=HC.cell k (by omega);have q0:(0:Int)<=(k:Int):=by omega
    go_wp2
    go_round
    case rel=>exact ⟨k+1,_,by omega,rfl,by go_num⟩
    case measure=>simp [intOf];omega
   ·go_wp2;go_ret;exact HF.out _
  ·go_wp2;go_ret;exact HF.out _
theorem pickS_st {len:Nat} (f:Nat->ByteArray) (n:Nat) (hn:0 < n) (hn2:n<=1000) (h:St w B ao len cap b off) (hL:L ≠ B) (hLl:L < w.heap.size) (hc:∀ k,k < n->w.cell? ⟨L,k,Aa⟩=Option.some (.string (f k))) :
  Calls prog 221 #[.pointer (Option.some ⟨B,0,Aa⟩),.slice (Option.some ⟨L,0,Aa⟩) n n] w fun e w'=>∃ k,k < n/\e=.returned (.string (f k))/\St w' B ao len cap b off/\w.grownBy w' (Option.some B):=by
 have H:=hid h;have HC:Hid (∀ k,k < n->w.cell? ⟨L,k,Aa⟩=Option.some (.string (f k))):=hc;clear h hc;go_enter func221,ntmps221;go_wp2_with fail
 refine (xO (n:Int) (by omega) (by omega) H).mono ?_;rintro e w' ⟨x,rfl,c,g,hS,hg⟩;obtain ⟨k,rfl⟩:=Int.eq_ofNat_of_zero_le c;have a:k < n:=by omega
 have d:w'.cell? ⟨L,k,Aa⟩=Option.some (.string (f k)):=by
  rw [World.cell?_of_block (w:=w) (hg.block L hLl (fun e=>hL (Af e)))];exact HC.out k a
 have HS:=hid hS;clear hS;go_wp2;go_ret;exact ⟨k,a,rfl,HS,hg⟩
theorem pickI_st {len:Nat} (f:Nat->Int) (n:Nat) (hn:0 < n) (hn2:n<=1000) (h:St w B ao len cap b off) (hL:L ≠ B) (hLl:L < w.heap.size) (hc:∀ k,k < n->w.cell? ⟨L,k,Aa⟩=Option.some (I U (f k))) :
  Calls prog 56 #[.pointer (Option.some ⟨B,0,Aa⟩),.slice (Option.some ⟨L,0,Aa⟩) n n] w fun e w'=>∃ k,k < n/\e=.returned (I U (f k))/\St w' B ao len cap b off/\w.grownBy w' (Option.some B):=by
 have H:=hid h;have HC:Hid (∀ k,k < n->w.cell? ⟨L,k,Aa⟩=Option.some (I U (f k))):=hc;clear h hc;go_enter func56,ntmps56;go_wp2_with fail
 refine (xO (n:Int) (by omega) (by omega) H).mono ?_;rintro e w' ⟨x,rfl,c,g,hS,hg⟩;obtain ⟨k,rfl⟩:=Int.eq_ofNat_of_zero_le c;have a:k < n:=by omega
 have d:w'.cell? ⟨L,k,Aa⟩=Option.some (I U (f k)):=by
  rw [World.cell?_of_block (w:=w) (hg.block L hLl (fun e=>hL (Af e)))];exact HC.out k a
 have HS:=hid hS;clear hS;go_wp2;go_ret;exact ⟨k,a,rfl,HS,hg⟩
def dkey (k:Nat):ByteArray:=match k with
 | 0=>⟨#[97]⟩
 | 1=>⟨#[98]⟩
 | 2=>⟨#[99]⟩
 | _=>⟨#[97,98,99]⟩
theorem dkey_ok (k:Nat):zIJ (dkey k)=true:=by
 match k with
 | 0=>decide
 | 1=>decide
 | 2=>decide
 | _+3=>exact (by decide:zIJ ⟨#[97,98,99]⟩=true)
theorem dkey_size (k:Nat):(dkey k).size<=3:=by
 match k with
 | 0=>decide
 | 1=>decide
 | 2=>decide
 | _+3=>exact (by decide:(⟨#[97,98,99]⟩:ByteArray).size<=3)
theorem key_st {len:Nat} (h:St w B ao len cap b off) :
  Calls prog 193 #[.pointer (Option.some ⟨B,0,Aa⟩)] w fun e w'=>∃ k,e=.returned (.string (dkey k))/\St w' B ao len cap b off/\w.grownBy w' (Option.some B):=by
 have H:=hid h;clear h;go_enter func193,ntmps193;go_wp2_with fail
 have hb:Be w (w.alloc (.cells #[.string ⟨#[97]⟩,.string ⟨#[98]⟩,.string ⟨#[99]⟩,.string ⟨#[97,98,99]⟩] 9)):=(br _ _).alloc (nl _) _;refine (pickS_st dkey 4 (by omega) (by omega) (H.below hb) (by have:=H.cur.lt;omega) (by simp) (fun k hk=>?_)).mono ?_
 ·rw [cell_of_row _ w.heap.size k _ _ (0,0) (heap_alloc_new w _)]
  match k,hk with
  | 0,_=>rfl
  | 1,_=>rfl
  | 2,_=>rfl
  | 3,_=>rfl
 rintro e w2 ⟨k,_,rfl,a,d⟩;have c:=hid a;clear a;go_wp2;go_ret;exact ⟨k,rfl,c,xC (kV hb) d⟩
def dnum (k:Nat):Int:=match k with
 | 0=>0
 | 1=>1
 | 2=>7
 | 3=>500
 | _=>999999999
theorem dnum_ok (k:Nat):zEH (dnum k)=true:=by
 match k with
 | 0=>decide
 | 1=>decide
 | 2=>decide
 | 3=>decide
 | _+4=>exact (by decide:zEH 999999999=true)
theorem yT {w1 w2:World} {N:Nat} (h:w.grownBy w1 r) (hN:w.heap.size<=N) (k:w1.grownBy w2 (Option.some N)):w.grownBy w2 r:=
 ⟨k.os.trans h.os,k.tape.trans h.tape,k.output.trans h.output,Ac h.size k.size,fun i hi hr=>(k.block i (Ad hi h.size) (qsn (by omega))).trans (h.block i hi hr)⟩
theorem St.other {N:Nat} {len:Nat} (h:St w B ao len cap b off) (hg:w.grownBy w' (Option.some N)) (hN:B ≠ N) (hb:0 < len->b ≠ N):St w' B ao len cap b off:=
 ⟨h.code.grown hg (fun hl e=>hb hl (Af e)),h.cur.keep (hg.block B h.cur.lt (fun e=>hN (Af e))),h.ne⟩
theorem St.row {len:Nat} (h:St w B ao len cap b off) (hg:w.grownBy w' r) (hN:∀ g,r=Option.some g->B ≠ g) (hb:0 < len->∀ g,r=Option.some g->b ≠ g):St w' B ao len cap b off:=
 ⟨h.code.grown hg (fun hl e=>hb hl b e.symm rfl),h.cur.keep (hg.block B h.cur.lt (fun e=>hN B e.symm rfl)),h.ne⟩
theorem grown_row {w1 w2 w3:World} {q:Option Nat} (h:w.grownBy w1 r) (hb:Be w1 w2) (k:w2.grownBy w3 q) (hq:∀ g,q=Option.some g->w.heap.size<=g):w.grownBy w3 r:=
 ⟨(k.os.trans hb.os).trans h.os,(k.tape.trans hb.tape).trans h.tape,(k.output.trans hb.output).trans h.output,Ac h.size (Ac hb.size k.size),fun i hi hr=>((k.block i (Ad hi (Ac h.size hb.size)) (fun e=>by have:=hq i e.symm;omega)).trans (hb.block i (Ad hi h.size))).trans (h.block i hi hr)⟩
theorem cmd_st {len:Nat} (h:St w B ao len cap b off) :
  Calls prog 149 #[.pointer (Option.some ⟨B,0,Aa⟩)] w fun e w'=>∃ c:CM,e=.returned (cmdV c)/\zAF c=true/\c.2.1.size<=3/\St w' B ao len cap b off/\w.grownBy w' (Option.some B):=by
 have H:=hid h;have ai:=h.cur.lt;clear h;go_enter func149,ntmps149;go_wp2_with fail
 have hb:Be w (w.alloc (.cells #[I U 0,.string Aj,I U 0] 130)):=(br _ _).alloc (nl _) _;refine (xO 3 (by omega) (by omega) (H.below hb)).mono ?_;rintro e w2 ⟨x,rfl,aj,ag,p,g⟩;have aa:=hid p;have s:Hid (Bx w2 w.heap.size #[I U 0,.string Aj,I U 0] 130):=(g.block w.heap.size (by simp) (qsn (by omega))).trans (heap_alloc_new w _);have y:Hid (w.grownBy w2 (Option.some B)):=xC (kV hb) g;clear p g hb;go_wp2_with fail
 refine (key_st aa).mono ?_;rintro e w3 ⟨k,rfl,o,i⟩;have l:=hid o;have ab:w.heap.size < w2.heap.size:=(gl s);have m:Hid (Bx w3 w.heap.size #[I U 0,.string Aj,I U 0] 130):=(i.block w.heap.size ab (qsn (by omega))).trans s;have af:Hid (w.grownBy w3 (Option.some B)):=xC y i;clear o i;go_wp2_with fail
 have a:Be w3 (w3.alloc (.cells #[I U 0,I U 1,I U 7,I U 500,I U 999999999] 3)):=(br _ _).alloc (nl _) _;refine (pickI_st dnum 5 (by omega) (by omega) (l.below a) (by have:=l.cur.lt;omega) (by simp) (fun j hj=>?_)).mono ?_
 ·rw [cell_of_row _ w3.heap.size j _ _ (0,0) (heap_alloc_new w3 _)]
  match j,hj with
  | 0,_=>rfl
  | 1,_=>rfl
  | 2,_=>rfl
  | 3,_=>rfl
  | 4,_=>rfl
 rintro e w4 ⟨j,_,rfl,n,f⟩;have ae:w.heap.size < w3.heap.size:=(gl m);have z:Hid (Bx w4 w.heap.size #[I U 0,.string Aj,I U 0] 130):=((f.block w.heap.size (by simp;omega) (qsn (by omega))).trans (a.block _ ae)).trans m;have ad:Hid (w.grownBy w4 (Option.some B)):=xC af (xC (kV a) f);have ac:=hid n;clear n f a;obtain ⟨⟨x0,f0⟩,⟨ah,f1⟩,⟨x2,f2⟩,d,t⟩:=blk_three z (I U (1+x)) (.string (dkey k)) (I U (dnum j));have y0:(((w4.setCell ⟨w.heap.size,0,Aa⟩ (I U (1+x))).setCell ⟨w.heap.size,1,Aa⟩ (.string (dkey k))).setCell ⟨w.heap.size,2,Aa⟩ (I U (dnum j))).cell? ⟨w.heap.size,0,Aa⟩=Option.some (I U (1+x)):=by rw [cell_of_row _ w.heap.size 0 _ _ (0,0) d];rfl
 have y1:(((w4.setCell ⟨w.heap.size,0,Aa⟩ (I U (1+x))).setCell ⟨w.heap.size,1,Aa⟩ (.string (dkey k))).setCell ⟨w.heap.size,2,Aa⟩ (I U (dnum j))).cell? ⟨w.heap.size,1,Aa⟩=Option.some (.string (dkey k)):=by rw [cell_of_row _ w.heap.size 1 _ _ (0,0) d];rfl
 have y2:(((w4.setCell ⟨w.heap.size,0,Aa⟩ (I U (1+x))).setCell ⟨w.heap.size,1,Aa⟩ (.string (dkey k))).setCell ⟨w.heap.size,2,Aa⟩ (I U (dnum j))).cell? ⟨w.heap.size,2,Aa⟩=Option.some (I U (dnum j)):=by rw [cell_of_row _ w.heap.size 2 _ _ (0,0) d];rfl
 have r:Hid (w4.grownBy (((w4.setCell ⟨w.heap.size,0,Aa⟩ (I U (1+x))).setCell ⟨w.heap.size,1,Aa⟩ (.string (dkey k))).setCell ⟨w.heap.size,2,Aa⟩ (I U (dnum j))) (Option.some w.heap.size)):=t;clear d t;go_wp2;refine bodyPost_ret (v:=.agg #[_,_,_]) (by simp [results,results149,go_sem,y0,y1,y2];exact ⟨rfl,rfl,rfl⟩) rfl ?_;refine ⟨(1+x,dkey k,dnum j),rfl,?_,dkey_size k,ac.other r (by omega) (fun hl e=>by have:=H.code.lt hl;omega),yT ad (nl _) r⟩;rw [cmdB_rest ⟨by simp only;omega,by simp only;omega⟩ (dkey_ok k)];exact dnum_ok j
theorem xH.st {base:Nat} (h:xH w base v ps) (hg:w.grownBy w' (Option.some B)) (hB:B < base):xH w' base v ps:=
 h.same fun g a hl=>hg.block g hl fun e=>by have:=Af e;omega
structure OwnU (w:World) (base:Nat) (v:Value) (ps:TL):Prop where
 row:w.ownsRow base 76 7 v ps.length (zE yEE ps)
 cmds:∀ p∈ps,w.ownsRow base 130 3 p.2 p.1.2.1.length (zE kL p.1.2.1)
theorem xH.u {base:Nat} (h:xH w base v ps):OwnU w base v ps:=⟨h.row,h.cmds⟩
theorem OwnU.read {base:Nat} (h:OwnU w base v ps):zID w v ps:=⟨zW zDB h.row,fun p hp=>zW kC (h.cmds p hp),zJB h.row⟩
theorem OwnU.same {base:Nat} (h:OwnU w base v ps) (hk:∀ g,base<=g->g < w.heap.size->w'.heap[g]?=w.heap[g]?):OwnU w' base v ps:=
 ⟨own_same h.row fun g hg=>hk g (h.row.lt g hg).1 (h.row.lt g hg).2,fun p hp=>own_same (h.cmds p hp) fun g hg=>hk g ((h.cmds p hp).lt g hg).1 ((h.cmds p hp).lt g hg).2⟩
theorem OwnU.below {base:Nat} (h:OwnU w base v ps) (hb:Be w w'):OwnU w' base v ps:=h.same fun g _ hg=>hb.block g hg
theorem OwnU.st {base:Nat} (h:OwnU w base v ps) (hg:w.grownBy w' (Option.some B)) (hB:B < base):OwnU w' base v ps:=
 h.same fun g a hl=>hg.block g hl fun e=>by have:=Af e;omega
theorem OwnU.base {base base':Nat} (h:OwnU w base v ps) (hb:base'<=base):OwnU w base' v ps:=⟨zN h.row hb,fun p hp=>zN (h.cmds p hp) hb⟩
def BT (t:List BK) (n:Nat):Prop:=0 < t.length/\t.length<=n/\∀ b∈t,b.2.1.length<=5/\(∀ c∈b.2.1,c.2.1.size<=4)/\0<=b.1.2/\b.1.2<=1000
theorem BT.ok {n:Nat} (h:BT t n) (hn:n<=1000):okT t:=⟨by have:=h.2.1;omega,fun b hb=>⟨by have:=(h.2.2 b hb).1;omega,fun c hc=>by have:=(h.2.2 b hb).2.1 c hc;omega⟩⟩
theorem BT.le {n:Nat} (h:BT t n) (hm:n<=m):BT t m:=⟨h.1,by have:=h.2.1;omega,h.2.2⟩
theorem BT.set {L:TL} {n:Nat} {p:BK × Value} (h:BT (bks L) n) (hp:p.1.2.1.length<=5/\(∀ c∈p.1.2.1,c.2.1.size<=4)/\0<=p.1.1.2/\p.1.1.2<=1000):BT (bks (L.set k p)) n:=by
 refine ⟨by rw [yO,List.length_set,<- yO];exact h.1,by rw [yO,List.length_set,<- yO];exact h.2.1,fun b hb=>?_⟩;obtain ⟨q,hq,rfl⟩:=List.mem_map.1 hb
 rcases List.mem_or_eq_of_mem_set hq with h1 | rfl
 ·exact h.2.2 _ (List.mem_map.2 ⟨q,h1,rfl⟩)
 ·exact hp
theorem BT.at {L:TL} {n:Nat} (h:BT (bks L) n) (hk:k < L.length):L[k].1.2.1.length<=5/\(∀ c∈L[k].1.2.1,c.2.1.size<=4)/\0<=L[k].1.1.2/\L[k].1.1.2<=1000:=h.2.2 _ (List.mem_map.2 ⟨L[k],Ag hk,rfl⟩)
theorem own_blk {base g n:Nat} {L:TL} {e:TypeId} (h:w.ownsRow base e 7 (.slice (Ab ⟨g,0,Aa⟩) n cap) n (zE yEE L)) (hn:n=L.length) (hk:k < L.length) :
  w.cell? ⟨g,k * 7,Aa⟩=Ab (I U L[k].1.1.1)/\w.cell? ⟨g,k * 7+1,Aa⟩=Ab (I U L[k].1.1.2)/\w.cell? ⟨g,k * 7+2,Aa⟩=some L[k].2/\w.cell? ⟨g,k * 7+3,Aa⟩=Ab (I U L[k].1.2.2.1)/\w.cell? ⟨g,k * 7+4,Aa⟩=Ab (I U L[k].1.2.2.2.1)/\w.cell? ⟨g,k * 7+5,Aa⟩=Ab (I U L[k].1.2.2.2.2.1)/\w.cell? ⟨g,k * 7+6,Aa⟩=Ab (I U L[k].1.2.2.2.2.2):=by
 subst hn;refine ⟨?_,?_,?_,?_,?_,?_,?_⟩
 ·have:=(zDG h (k * 7+0) (by omega)).1.trans (jY zDB L k hk 0 (by omega));exact this
 ·exact (zDG h (k * 7+1) (by omega)).1.trans (jY zDB L k hk 1 (by omega))
 ·exact (zDG h (k * 7+2) (by omega)).1.trans (jY zDB L k hk 2 (by omega))
 ·exact (zDG h (k * 7+3) (by omega)).1.trans (jY zDB L k hk 3 (by omega))
 ·exact (zDG h (k * 7+4) (by omega)).1.trans (jY zDB L k hk 4 (by omega))
 ·exact (zDG h (k * 7+5) (by omega)).1.trans (jY zDB L k hk 5 (by omega))
 ·exact (zDG h (k * 7+6) (by omega)).1.trans (jY zDB L k hk 6 (by omega))
theorem zIH (h0:-9223372036854775808<=x) (h1:x<=9223372036854775807):(Lit.int U x).wf=true:=by
 have:=wrap64_wf x;rw [wrap64_fit h0 h1] at this;exact this
def VD (t:List BK) (x:VT):Prop:=(1<=x.1/\x.1<=4)/\(0<=x.2.1/\x.2.1<=1000)/\(0<=x.2.2.1/\x.2.2.1 < (t.length:Int))/\(0<=x.2.2.2/\x.2.2.2<=7)
theorem VD.wf {x:VT} (h:VD t x) (ht:t.length<=1000):wfV x:=by
 obtain ⟨h1,h2,h3,h4⟩:=h;exact ⟨zIH (by omega) (by omega),zIH (by omega) (by omega),zIH (by omega) (by omega),zIH (by omega) (by omega)⟩
theorem vote7_st {base:Nat} {len:Nat} {qs:TL} {n:Nat} (h:St w B ao len cap b off) (ho:OwnU w base v qs) (hB:B < base) (hbt:BT (bks qs) n) (hn:n<=1000) :
  Calls prog 136 #[.pointer (Option.some ⟨B,0,Aa⟩),v] w fun e w'=>∃ x:VT,e=.returned (voteV x)/\VD (bks qs) x/\St w' B ao len cap b off/\w.grownBy w' (Option.some B):=by
 have H:=hid h;have ap:=h.cur.lt;have HO:=hid ho;have t:=hid hbt;have ad:0 < qs.length:=by have:=hbt.1;rw [yO] at this;exact this
 have am:qs.length<=1000:=by have:=hbt.2.1;rw [yO] at this;omega
 obtain ⟨a1,c1,h4,hz⟩:=yL ho.row;subst h4;obtain ⟨g,rfl⟩:=hz ad;clear h ho hbt hz;have hb:Be w (w.alloc (.cells #[I U 0,I U 0,I U 0,I U 0] 28)):=(br _ _).alloc (nl _) _;have c:Hid (Be w (w.alloc (.cells #[I U 0,I U 0,I U 0,I U 0] 28))):=hb;clear hb;go_enter func136,ntmps136;go_wp2_with fail
 refine (xO 4 (by omega) (by omega) (H.below c)).mono ?_;rintro e w2 ⟨x,rfl,aq,ak,hS,hg⟩;have aa:=hid hS;have m:Hid (Bx w2 w.heap.size #[I U 0,I U 0,I U 0,I U 0] 28):=(hg.block w.heap.size (by simp) (qsn (by omega))).trans (heap_alloc_new w _);have p:Hid (w.grownBy w2 (Option.some B)):=xC (kV c) hg;clear hS hg;go_wp2_with fail
 refine (xO 4 (by omega) (by omega) aa).mono ?_;rintro e w3 ⟨y,rfl,af,an,hS,hg⟩;have ab:w.heap.size < w2.heap.size:=(gl m);have s:=hid hS;have a:Hid (Bx w3 w.heap.size #[I U 0,I U 0,I U 0,I U 0] 28):=(hg.block w.heap.size ab (qsn (by omega))).trans m;have ai:Hid (w.grownBy w3 (Option.some B)):=xC p hg;clear hS hg;go_wp2_with fail
 refine (xO (qs.length:Int) (by omega) (by omega) s).mono ?_;rintro e w4 ⟨z,rfl,f,al,hS,hg⟩;have ah:w.heap.size < w3.heap.size:=(gl a);have ac:=hid hS;have r:Hid (Bx w4 w.heap.size #[I U 0,I U 0,I U 0,I U 0] 28):=(hg.block w.heap.size ah (qsn (by omega))).trans a;have j:Hid (w.grownBy w4 (Option.some B)):=xC ai hg;clear hS hg;obtain ⟨k,rfl⟩:=Int.eq_ofNat_of_zero_le f;have hk:k < qs.length:=by omega
 have ag:Hid (OwnU w4 base (.slice (Ab ⟨g,0,Aa⟩) qs.length c1) qs):=HO.st j hB;have y1:w4.cell? ⟨g,k * 7+1,Aa⟩=Ab (I U qs[k].1.1.2):=(own_blk ag.row rfl hk).2.1
 have d:0<=qs[k].1.1.2/\qs[k].1.1.2<=1000:=by
  have h1:=t.2.2 qs[k].1 (by unfold bks;exact List.mem_map_of_mem (Ag hk));exact h1.2.2
 have ae:Hid (VD (bks qs) (1+x,qs[k].1.1.2,(k:Int),y)):=⟨⟨by simp only;omega,by simp only;omega⟩,d,⟨f,by simp only [yO];omega⟩,⟨af,by simp only;omega⟩⟩;obtain ⟨⟨a0,f0⟩,⟨aj,f1⟩,⟨a2,f2⟩,⟨a3,f3⟩,i,o⟩:=blk_four r (I U (1+x)) (I U qs[k].1.1.2) (I U (k:Int)) (I U y);obtain ⟨z0,z1,z2,z3⟩:=zZ i;have l:Hid (w4.grownBy _ (Option.some w.heap.size)):=o;clear i o d;go_wp2;refine bodyPost_ret (v:=.agg #[I U (1+x),I U qs[k].1.1.2,I U (k:Int),I U y]) (by simp [results,results136,go_sem,z0,z1,z2,z3]) rfl ?_;exact ⟨(1+x,qs[k].1.1.2,(k:Int),y),rfl,ae,ac.other l (by omega) (fun hl e=>by have:=H.code.lt hl;omega),yT j (nl _) l⟩
theorem zEE (a b c d:Int):(#[Value.int U a,I U b,I U c,I U d]).all (·.oneCell')=true:=by simp [Value.oneCell']
theorem wfV_of {a b c d:Int} (h0:-9223372036854775808<=a/\a<=9223372036854775807) (h1:-9223372036854775808<=b/\b<=9223372036854775807) (h2:-9223372036854775808<=c/\c<=9223372036854775807) (h3:-9223372036854775808<=d/\d<=9223372036854775807):wfV (a,b,c,d):=⟨zIH h0.1 h0.2,zIH h1.1 h1.2,zIH h2.1 h2.2,zIH h3.1 h3.2⟩
def intsA (xs:List Int):Array Value:=(xs.map fun x=>Value.int U x).toArray
theorem pickL_st {len:Nat} (xs:List Int) (hn:0 < xs.length) (hn2:xs.length<=1000) (h:St w B ao len cap b off) (hL:L ≠ B) {t:TypeId} (hc:w.heap[L]?=Option.some (.cells (intsA xs) t (0,0))) :
  Calls prog 56 #[.pointer (Option.some ⟨B,0,Aa⟩),.slice (Option.some ⟨L,0,Aa⟩) xs.length xs.length] w fun e w'=>∃ z,z∈xs/\e=.returned (I U z)/\St w' B ao len cap b off/\w.grownBy w' (Option.some B):=by
 refine (pickI_st (fun k=>xs.getD k 0) xs.length hn hn2 h hL (gl hc) (fun k hk=>?_)).mono ?_
 ·rw [cell_of_row _ L k _ _ (0,0) hc];unfold intsA;simp [hk]
 ·rintro e w' ⟨k,hk,rfl,hS,hg⟩;exact ⟨_,by simp [hk],rfl,hS,hg⟩
theorem any7_st {base:Nat} {len:Nat} {qs:TL} {n:Nat} (h:St w B ao len cap b off) (ho:OwnU w base v qs) (hB:B < base) (hbt:BT (bks qs) n) (hn:n<=1000) :
  Calls prog 99 #[.pointer (Option.some ⟨B,0,Aa⟩),v] w fun e w'=>∃ x:VT,e=.returned (voteV x)/\wfV x/\St w' B ao len cap b off/\w.grownBy w' (Option.some B):=by
 have H:=hid h;have aw:=h.cur.lt;have p:Hid (0 < len->b < w.heap.size):=h.code.lt;have HO:=hid ho;have ai:=hid hbt;have ax:=hbt.2.1;clear h ho hbt;obtain ⟨W0,ab⟩:=nw (w.alloc (.cells #[I U 0,I U 0,I U 0,I U 0] 28));have ad:Hid (Be w W0):=hid (by rw [ab];exact (br _ _).alloc (nl _) _);have ag:Hid (Bx W0 w.heap.size #[I U 0,I U 0,I U 0,I U 0] 28):=(by rw [ab];exact heap_alloc_new w _:W0.heap[w.heap.size]?=_);go_enter func99,ntmps99;go_wp2_with fail
 rw [<- ab];clear ab;refine (xO 10 (by omega) (by omega) (H.below ad)).mono ?_;rintro e w1 ⟨kk,rfl,av,aq,hS,hg⟩;have am:=hid hS;have af:Hid (Bx w1 w.heap.size #[I U 0,I U 0,I U 0,I U 0] 28):=gk hg ag (qsn (by omega));have ah:Hid (w.grownBy w1 (Option.some B)):=xC (kV ad) hg;clear hS hg ag ad;go_wp2_with fail
 refine (xO 60 (by omega) (by omega) am).mono ?_;rintro e w2 ⟨x,rfl,ar,au,hS,hg⟩;have aj:=hid hS;have al:Hid (Bx w2 w.heap.size #[I U 0,I U 0,I U 0,I U 0] 28):=gk hg af (qsn (by omega));have ac:Hid (w.grownBy w2 (Option.some B)):=xC ah hg;clear hS hg am af ah;go_wp2_with fail
 refine (vote7_st aj (HO.st ac hB) hB ai hn).mono ?_;rintro e w3 ⟨⟨t0,t1,t2,t3⟩,rfl,ap,hS,hg⟩;unfold voteV;simp only;obtain ⟨d0,d1,d2,d3⟩:=ap;simp only at d0 d1 d2 d3;have HD:Hid ((1<=t0/\t0<=4)/\(0<=t1/\t1<=1000)/\(0<=t2/\t2 < 1000)/\(0<=t3/\t3<=7)):=⟨d0,d1,⟨d2.1,by omega⟩,d3⟩;have ak:=hid hS;have ae:Hid (Bx w3 w.heap.size #[I U 0,I U 0,I U 0,I U 0] 28):=gk hg al (qsn (by omega));have an:Hid (w.grownBy w3 (Option.some B)):=xC ac hg;clear hS hg aj al ac d0 d1 d2 d3;obtain ⟨W5,aa⟩:=nw (w3.alloc (.cells #[I U t0,I U t1,I U t2,I U t3] 28));have z:Hid (Be w3 W5):=hid (by rw [aa];exact (br _ _).alloc (nl _) _);have f:Hid (Bx W5 w3.heap.size #[I U t0,I U t1,I U t2,I U t3] 28):=(by rw [aa];exact heap_alloc_new w3 _:W5.heap[w3.heap.size]?=_);have lE:w.heap.size < w3.heap.size:=(gl ae);have s:Hid (Bx W5 w.heap.size #[I U 0,I U 0,I U 0,I U 0] 28):=(z.block _ lE).trans ae;have t:Hid (St W5 B ao len cap b off):=ak.below z;have y:Hid (w.grownBy W5 (Option.some B)):=xC an (kV z);have lX:w3.heap.size < W5.heap.size:=(gl f);obtain ⟨X,hX⟩:=nw w3.heap.size;rw [<- hX] at f lE lX;clear ak ae an z ai HO
 go_upto_region 4 with fail
 rw [<- aa,<- hX];clear aa hX
 by_cases h0:kk=0
 ·have e0:(kk == 0)=true:=by simpa using h0
  obtain ⟨wd,a⟩:=nw (W5.setCell ⟨X,0,Aa⟩ (I U (x % 6)));obtain ⟨a0,a1,a2,a3⟩:=zZ f;have f0:W5.frozen? ⟨X,0,Aa⟩=false:=frozen_of_row _ X 0 _ _ f;have c:W5.grownBy wd (Option.some X):=by rw [a];exact yK _ X 0 _
  have k:Bx wd X #[I U (x % 6),I U t1,I U t2,I U t3] 28:=by rw [a];exact heap_setCell_same W5 X 0 _ _ _ f
  obtain ⟨k0,k1,k2,k3⟩:=zZ k;have o:Hid (St wd B ao len cap b off):=t.other c (by omega) (fun hl e=>by have:=p hl;omega);have r:Hid (w.grownBy wd (Option.some B)):=yT y (by omega) c;have d:Bx wd w.heap.size #[I U 0,I U 0,I U 0,I U 0] 28:=(c.block _ (by omega) (qsn (by omega))).trans s;have m:Hid ((W5.setCell ⟨X,0,Aa⟩ (I U (x % 6))).heap[w.heap.size]?=Ab (.cells #[I U 0,I U 0,I U 0,I U 0] 28 (0,0))):=(by rw [<- a];exact d:(W5.setCell ⟨X,0,Aa⟩ (I U (x % 6))).heap[w.heap.size]?=_);rw [a] at k0 k1 k2 k3;obtain ⟨⟨p0,p1⟩,⟨p2,p3⟩,⟨p4,p5⟩,p6,p7⟩:=HD.out;clear h0 c k d;go_wp2_with (refine w_st w.heap.size #[I U (x % 6),I U t1,I U t2,I U t3] m (zEE _ _ _ _) ?_;intro wg j g l;clear l;have i:Hid (wd.grownBy wg (Option.some w.heap.size)):=hid (by rw [a];exact j);obtain ⟨m0,m1,m2,m3⟩:=zZ g;clear j g)
  refine bodyPost_ret (v:=.agg #[I U (x % 6),I U t1,I U t2,I U t3]) (by simp [results,results99,go_sem,m0,m1,m2,m3]) rfl ?_;exact ⟨(x % 6,t1,t2,t3),rfl,wfV_of (by omega) (by omega) (by omega) (by omega),o.other i (by omega) (fun hl e=>by have:=p hl;omega),yT r (nl _) i⟩
 have e0:(kk == 0)=false:=by simpa using h0
 clear h0
 by_cases h1:kk=1
 ·have e1:(kk == 1)=true:=by simpa using h1
  obtain ⟨wd,a⟩:=nw (W5.setCell ⟨X,1,Aa⟩ (I U x));obtain ⟨a0,a1,a2,a3⟩:=zZ f;have f0:W5.frozen? ⟨X,1,Aa⟩=false:=frozen_of_row _ X 1 _ _ f;have c:W5.grownBy wd (Option.some X):=by rw [a];exact yK _ X 1 _
  have k:Bx wd X #[I U t0,I U x,I U t2,I U t3] 28:=by rw [a];exact heap_setCell_same W5 X 1 _ _ _ f
  obtain ⟨k0,k1,k2,k3⟩:=zZ k;have o:Hid (St wd B ao len cap b off):=t.other c (by omega) (fun hl e=>by have:=p hl;omega);have r:Hid (w.grownBy wd (Option.some B)):=yT y (by omega) c;have d:Bx wd w.heap.size #[I U 0,I U 0,I U 0,I U 0] 28:=(c.block _ (by omega) (qsn (by omega))).trans s;have m:Hid ((W5.setCell ⟨X,1,Aa⟩ (I U x)).heap[w.heap.size]?=Ab (.cells #[I U 0,I U 0,I U 0,I U 0] 28 (0,0))):=(by rw [<- a];exact d:(W5.setCell ⟨X,1,Aa⟩ (I U x)).heap[w.heap.size]?=_);rw [a] at k0 k1 k2 k3;obtain ⟨⟨p0,p1⟩,⟨p2,p3⟩,⟨p4,p5⟩,p6,p7⟩:=HD.out;clear h1 c k d;go_wp2_with (refine w_st w.heap.size #[I U t0,I U x,I U t2,I U t3] m (zEE _ _ _ _) ?_;intro wg j g l;clear l;have i:Hid (wd.grownBy wg (Option.some w.heap.size)):=hid (by rw [a];exact j);obtain ⟨m0,m1,m2,m3⟩:=zZ g;clear j g)
  refine bodyPost_ret (v:=.agg #[I U t0,I U x,I U t2,I U t3]) (by simp [results,results99,go_sem,m0,m1,m2,m3]) rfl ?_;exact ⟨(t0,x,t2,t3),rfl,wfV_of (by omega) (by omega) (by omega) (by omega),o.other i (by omega) (fun hl e=>by have:=p hl;omega),yT r (nl _) i⟩
 have e1:(kk == 1)=false:=by simpa using h1
 clear h1
 by_cases h2:kk=2
 ·have e2:(kk == 2)=true:=by simpa using h2
  obtain ⟨wd,a⟩:=nw (W5.setCell ⟨X,2,Aa⟩ (I U (x % 70 - 1)));obtain ⟨a0,a1,a2,a3⟩:=zZ f;have f0:W5.frozen? ⟨X,2,Aa⟩=false:=frozen_of_row _ X 2 _ _ f;have c:W5.grownBy wd (Option.some X):=by rw [a];exact yK _ X 2 _
  have k:Bx wd X #[I U t0,I U t1,I U (x % 70 - 1),I U t3] 28:=by rw [a];exact heap_setCell_same W5 X 2 _ _ _ f
  obtain ⟨k0,k1,k2,k3⟩:=zZ k;have o:Hid (St wd B ao len cap b off):=t.other c (by omega) (fun hl e=>by have:=p hl;omega);have r:Hid (w.grownBy wd (Option.some B)):=yT y (by omega) c;have d:Bx wd w.heap.size #[I U 0,I U 0,I U 0,I U 0] 28:=(c.block _ (by omega) (qsn (by omega))).trans s;have m:Hid ((W5.setCell ⟨X,2,Aa⟩ (I U (x % 70 - 1))).heap[w.heap.size]?=Ab (.cells #[I U 0,I U 0,I U 0,I U 0] 28 (0,0))):=(by rw [<- a];exact d:(W5.setCell ⟨X,2,Aa⟩ (I U (x % 70 - 1))).heap[w.heap.size]?=_);rw [a] at k0 k1 k2 k3;obtain ⟨⟨p0,p1⟩,⟨p2,p3⟩,⟨p4,p5⟩,p6,p7⟩:=HD.out;clear h2 c k d;go_wp2_with (refine w_st w.heap.size #[I U t0,I U t1,I U (x % 70 - 1),I U t3] m (zEE _ _ _ _) ?_;intro wg j g l;clear l;have i:Hid (wd.grownBy wg (Option.some w.heap.size)):=hid (by rw [a];exact j);obtain ⟨m0,m1,m2,m3⟩:=zZ g;clear j g)
  refine bodyPost_ret (v:=.agg #[I U t0,I U t1,I U (x % 70 - 1),I U t3]) (by simp [results,results99,go_sem,m0,m1,m2,m3]) rfl ?_;exact ⟨(t0,t1,x % 70 - 1,t3),rfl,wfV_of (by omega) (by omega) (by omega) (by omega),o.other i (by omega) (fun hl e=>by have:=p hl;omega),yT r (nl _) i⟩
 have e2:(kk == 2)=false:=by simpa using h2
 clear h2
 by_cases h3:kk=3
 ·have e3:(kk == 3)=true:=by simpa using h3
  obtain ⟨wd,a⟩:=nw (W5.setCell ⟨X,3,Aa⟩ (I U (x % 9 - 1)));obtain ⟨a0,a1,a2,a3⟩:=zZ f;have f0:W5.frozen? ⟨X,3,Aa⟩=false:=frozen_of_row _ X 3 _ _ f;have c:W5.grownBy wd (Option.some X):=by rw [a];exact yK _ X 3 _
  have k:Bx wd X #[I U t0,I U t1,I U t2,I U (x % 9 - 1)] 28:=by rw [a];exact heap_setCell_same W5 X 3 _ _ _ f
  obtain ⟨k0,k1,k2,k3⟩:=zZ k;have o:Hid (St wd B ao len cap b off):=t.other c (by omega) (fun hl e=>by have:=p hl;omega);have r:Hid (w.grownBy wd (Option.some B)):=yT y (by omega) c;have d:Bx wd w.heap.size #[I U 0,I U 0,I U 0,I U 0] 28:=(c.block _ (by omega) (qsn (by omega))).trans s;have m:Hid ((W5.setCell ⟨X,3,Aa⟩ (I U (x % 9 - 1))).heap[w.heap.size]?=Ab (.cells #[I U 0,I U 0,I U 0,I U 0] 28 (0,0))):=(by rw [<- a];exact d:(W5.setCell ⟨X,3,Aa⟩ (I U (x % 9 - 1))).heap[w.heap.size]?=_);rw [a] at k0 k1 k2 k3;obtain ⟨⟨p0,p1⟩,⟨p2,p3⟩,⟨p4,p5⟩,p6,p7⟩:=HD.out;clear h3 c k d;go_wp2_with (refine w_st w.heap.size #[I U t0,I U t1,I U t2,I U (x % 9 - 1)] m (zEE _ _ _ _) ?_;intro wg j g l;clear l;have i:Hid (wd.grownBy wg (Option.some w.heap.size)):=hid (by rw [a];exact j);obtain ⟨m0,m1,m2,m3⟩:=zZ g;clear j g)
  refine bodyPost_ret (v:=.agg #[I U t0,I U t1,I U t2,I U (x % 9 - 1)]) (by simp [results,results99,go_sem,m0,m1,m2,m3]) rfl ?_;exact ⟨(t0,t1,t2,x % 9 - 1),rfl,wfV_of (by omega) (by omega) (by omega) (by omega),o.other i (by omega) (fun hl e=>by have:=p hl;omega),yT r (nl _) i⟩
 have e3:(kk == 3)=false:=by simpa using h3
 clear h3;obtain ⟨wd,a⟩:=nw W5;obtain ⟨k0,k1,k2,k3⟩:=zZ f;have o:Hid (St wd B ao len cap b off):=hid (by rw [a];exact t.out);have r:Hid (w.grownBy wd (Option.some B)):=hid (by rw [a];exact y.out);have m:Hid (Bx W5 w.heap.size #[I U 0,I U 0,I U 0,I U 0] 28):=s;obtain ⟨⟨p0,p1⟩,⟨p2,p3⟩,⟨p4,p5⟩,p6,p7⟩:=HD.out;go_wp2_with (refine w_st w.heap.size #[I U t0,I U t1,I U t2,I U t3] m (zEE _ _ _ _) ?_;intro wg j g l;clear l;have i:Hid (wd.grownBy wg (Option.some w.heap.size)):=hid (by rw [a];exact j);obtain ⟨m0,m1,m2,m3⟩:=zZ g;clear j g)
 refine bodyPost_ret (v:=.agg #[I U t0,I U t1,I U t2,I U t3]) (by simp [results,results99,go_sem,m0,m1,m2,m3]) rfl ?_;exact ⟨(t0,t1,t2,t3),rfl,wfV_of (by omega) (by omega) (by omega) (by omega),o.other i (by omega) (fun hl e=>by have:=p hl;omega),yT r (nl _) i⟩
structure Vw (B:Int) (c:CU):Prop where
 tree:∀ b∈c.tree,b.1.2<=B
 peers:∀ p∈c.peers,p.view<=B
theorem Vw.mono {B B':Int} (h:Vw B c) (hb:B<=B'):Vw B' c:=⟨fun b hm=>Int.le_trans (h.tree b hm) hb,fun p hm=>Int.le_trans (h.peers p hm) hb⟩
theorem enter_vw {v B:Int} (h:p.view<=B) (hv:v<=B):(yI p v).view<=B:=by
 unfold yI
 split
 ·exact hv
 ·exact h
theorem at_vw {B:Int} (h0:0<=B) (h:∀ b∈t,b.1.2<=B) (k:Int):yR t k<=B:=by
 unfold yR
 by_cases hk:k.toNat < t.length
 ·rw [Ai hk];exact h _ (Ag hk)
 ·rw [List.getElem?_eq_none (by omega)];exact h0
theorem leadV_vw {v:VT} {B:Int} (h:p.view<=B):(zCF p n v).1.view<=B+1:=by
 have h1:(ledP p n v).view<=B+1:=by
  unfold ledP
  split
  ·rename_i e;exact enter_vw (by omega) (by have:=e.2.2;omega)
  ·omega
 unfold zCF leadR
 split
 ·unfold leadQ
  split
  ·split
   ·exact h1
   ·exact h1
  ·exact h1
 ·exact h1
theorem news_vw {B:Int} (h:p.view<=B):(newsP p n l).view<=B+1:=by
 unfold newsP
 split
 ·rename_i e
  have hv:(yI p l.1.2.2.2.1).view<=B+1:=enter_vw (by omega) (by rcases e.2 with e | e <;> omega)
  split
  ·exact hv
  ·exact hv
 ·omega
theorem lead_vw {B:Int} (h:p.view<=B):(kZ t n p l).1.view<=B+1:=by
 have h1:p.view<=B+1:=by omega
 unfold kZ
 split
 ·split
  ·exact leadV_vw h
  ·split
   ·exact news_vw h
   ·exact h1
 ·exact h1
theorem lok_vw {B:Int} (h0:0<=B) (ht:∀ b∈t,b.1.2<=B) (h:qI t n l=true) (h2:l.1.1 ≠ 2) (h4:l.1.1 ≠ 4):l.1.2.2.2.1<=B:=by
 unfold qI at h;simp only [Ak] at h;obtain ⟨a,-,-,-,b⟩:=h;have ha:=zDF a;unfold yCA at b
 by_cases h1:l.1.1=1
 ·rw [if_pos h1] at b;simp only [Ak,decide_eq_true_eq] at b;rw [<- b.2.2.1];exact at_vw h0 ht _
 ·rw [if_neg h1,if_neg h2,if_pos (by omega)] at b;simp only [Ak,decide_eq_true_eq] at b;obtain ⟨-,-,b,c⟩:=b;rw [<- c];unfold kH at b
  split at b
  ·rename_i e;rw [e];exact h0
  ·simp only [Ak] at b;have d:=b.1;unfold zCI at d;simp only [Ak,decide_eq_true_eq] at d;rw [<- d.2.2.2.2.1];exact at_vw h0 ht _
theorem next_vw (p:PE) (a b c d:Int):(zIG p a b c d).1.view=p.view:=by unfold zIG;split <;> rfl
theorem qc_vw {B:Int} (h:p.view<=B) (hl:l.1.2.2.2.1<=B):(qcH t n p l).1.view<=B+1:=by
 have h1:(yI p l.1.2.2.2.1).view<=B:=enter_vw h hl;unfold qcH
 split
 ·rw [next_vw];show (yI p l.1.2.2.2.1).view<=B+1;omega
 ·split
  ·rw [next_vw];show (yI p l.1.2.2.2.1).view<=B+1;omega
  ·split
   ·unfold doneV;exact enter_vw (by rw [through_view];omega) (by omega)
   ·show (yI p l.1.2.2.2.1).view<=B+1;omega
theorem block_vw {B:Int} (h:p.view<=B) (hl:l.1.2.2.2.1<=B):(blockH t p l).1.view<=B:=by
 have h1:(yI p l.1.2.2.2.1).view<=B:=enter_vw h hl;unfold blockH
 split
 ·exact h1
 ·exact h1
theorem ask_vw {B:Int} (h0:0<=B) (ht:∀ b∈t,b.1.2<=B) (h:p.view<=B):(qC t n p l).1.view<=B+1:=by
 have h1:p.view<=B+1:=by omega
 unfold qC
 split
 ·rename_i e
  split
  ·exact lead_vw h
  ·rename_i k
   have hl:=lok_vw h0 ht e.1 (fun x=>k (Or.inl x)) (fun x=>k (Or.inr x))
   split
   ·split
    ·exact qc_vw h hl
    ·have:=block_vw (t:=t) h hl;omega
   ·exact h1
 ·exact h1
theorem early_view (t:List BK) (p:PE) (k:Int):(yDF t p k).view=p.view:=rfl
theorem chain_view (t:List BK) (p:PE) (k:Int):(jN t p k).view=p.view:=by
 unfold jN
 split
 ·have h2:∀ (q:PE),(zGC t q k).view=q.view:=fun q=>by
   unfold zGC
   split
   ·exact through_view _ _ _
   ·rfl
  unfold yDH
  split
  ·rw [early_view,h2];rfl
  ·rw [h2];rfl
 ·rfl
theorem chainH_vw {B:Int} (h0:0<=B) (ht:∀ b∈t,b.1.2<=B) (h:p.view<=B):(xI t n p l).1.view<=B+1:=by
 have h1:p.view<=B+1:=by omega
 unfold xI
 split
 ·rename_i e
  split
  ·exact lead_vw h
  ·rename_i k2
   split
   ·exact lead_vw h
   ·rename_i k4
    have hl:=lok_vw h0 ht e.1 k2 k4
    split
    ·exact h1
    ·split
     ·unfold yBD
      split
      ·unfold votesH;exact enter_vw (by show (jN t p l.1.2.2.2.2).view<=B+1;rw [chain_view];exact h1) (by omega)
      ·show (jN t p l.1.2.2.2.2).view<=B+1;rw [chain_view];exact h1
     ·exact h1
 ·exact h1
theorem hear_vw {B:Int} (h0:0<=B) (hc:Vw B c) (h:p.view<=B):(zFA c p l).1.view<=B+1:=by
 unfold zFA
 split
 ·exact chainH_vw h0 hc.tree h
 ·exact ask_vw h0 hc.tree h
theorem set_vw {B:Int} (h:Vw B c) (i:Int) (hp:p.view<=B):Vw B (zCG c i p):=by
 refine ⟨h.tree,fun x hx=>?_⟩
 rcases List.mem_or_eq_of_mem_set hx with hx | rfl
 ·exact h.peers x hx
 ·exact hp
theorem post_vw {B:Int} (h:Vw B c) (ls:List LT):Vw B (jV c ls):=by
 unfold jV
 split
 ·exact h
 ·exact ⟨h.tree,h.peers⟩
theorem say_vw {B:Int}:∀ (ls:List LT) {c:CU},Vw B c->Vw B (zIC c ls)
 | [],_,h=>h
 | l :: ls,c,h=>by
  refine say_vw ls (c:=yFD c l) ?_;unfold yFD;refine post_vw ?_ _
  split
  ·unfold zHF
   split
   ·exact h
   ·exact ⟨h.tree,h.peers⟩
  ·exact h
theorem peAt_vw {B:Int} (h0:0<=B) (h:Vw B c) (i:Int):(zCJ c i).view<=B:=by
 unfold zCJ
 by_cases hk:i.toNat < c.peers.length
 ·rw [Ai hk];exact h.peers _ (Ag hk)
 ·rw [List.getElem?_eq_none (by omega)];exact h0
theorem out_vw {B:Int} (h:Vw B c) (k:Int):Vw B (zAC c k):=by
 unfold zAC
 split
 ·exact ⟨h.tree,h.peers⟩
 ·exact h
theorem put_vw {B:Int} (h:∀ b∈t,b.1.2<=B) {b:BK} (hb:b.1.2<=B):∀ x∈zGE t b,x.1.2<=B:=by
 unfold zGE
 split
 ·exact h
 ·split
  ·exact h
  ·intro x hx
   rcases List.mem_append.1 hx with hx | hx
   ·exact h x hx
   ·rcases List.mem_singleton.1 hx with rfl;exact hb
theorem hand_vw {B:Int} (h:Vw B c) (l:LT):Vw B (jM c l).1:=by
 unfold jM
 split
 ·exact post_vw h _
 ·exact h
theorem far_vw {B:Int}:∀ (l:List PE) (n:Int),n<=B->(∀ p∈l,p.view<=B)->yEH l n<=B
 | [],_,hn,_=>hn
 | p :: l,n,hn,h=>by
  unfold yEH;refine far_vw l _ ?_ (fun x hx=>h x (List.mem_cons_of_mem _ hx))
  split
  ·exact h p (List.mem_cons_self ..)
  ·exact hn
theorem do_vw {B:Int} (h0:0<=B) (h:Vw B c) (e:EV):Vw (B+1) (doC c e).1:=by
 have hm:Vw (B+1) c:=h.mono (by omega);unfold doC
 split
 ·unfold offerP
  split
  ·exact hm
  ·exact ⟨hm.tree,hm.peers⟩
 ·split
  ·unfold showC
   split
   ·refine post_vw ?_ _;have hp:=peAt_vw h0 h e.at'
    have hs:(showP c e.at').view<=B+1:=by
     unfold showP showsP
     split
     ·omega
     ·show (zCJ c e.at').view<=B+1;omega
    refine ⟨put_vw hm.tree ?_,(set_vw hm e.at' hs).peers⟩;show (zCJ c e.at').view<=B+1;omega
   ·exact hm
  ·split
   ·unfold carryC
    split
    ·have ho:=out_vw h e.at';show Vw (B+1) (if _ then _ else _)
     split
     ·unfold heardC;exact say_vw _ (set_vw (ho.mono (by omega)) _ (hear_vw h0 ho (peAt_vw h0 ho _)))
     ·exact ho.mono (by omega)
    ·exact hm
   ·split
    ·exact out_vw hm _
    ·split
     ·unfold yEC
      split
      ·exact post_vw hm _
      ·exact hm
     ·split
      ·unfold waitC
       split
       ·refine post_vw (set_vw hm _ ?_) _;have hp:=peAt_vw h0 h e.at';unfold zGH
        split
        ·exact enter_vw (by omega) (by omega)
        ·omega
       ·exact hm
      ·split
       ·unfold fallC
        split
        ·exact set_vw hm _ (peAt_vw (by omega) hm _)
        ·exact hm
       ·unfold lieC
        split
        ·exact hm
        ·split
         ·exact hand_vw hm _
         ·split
          ·split
           ·exact hand_vw hm _
           ·exact hm
          ·split
           ·unfold zBC
            split
            ·exact hm
            ·split
             ·refine hand_vw ?_ _;refine ⟨put_vw hm.tree ?_,hm.peers⟩;show lieW c e<=B+1;unfold lieW
              split
              ·have:=at_vw h0 h.tree (yBJ c e);omega
              ·have:=far_vw c.peers 0 h0 h.peers;omega
             ·exact hm
           ·exact hand_vw hm _
structure LifeW (m:Nat) (c:CU):Prop extends jJ m c where
 vw:Vw ((m:Int)+1) c
theorem LifeW.mono {m':Nat} (h:LifeW m c) (hm:m<=m'):LifeW m' c:=⟨h.1.mono hm,h.vw.mono (by omega)⟩
theorem LifeW.step (h:LifeW m c) (he:evFit e):LifeW (m+1) (doC c e).1:=⟨do_sm h.1 he,(do_vw (by omega) h.vw e).mono (by omega)⟩
end Go.Proofs.YtfnneillakdopadGreat
