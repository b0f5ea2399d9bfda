/-
  Texts of ours that later ones lean on, in one: LifeD, Draw, Draw2, DrawC, BlockP, DrawB2, DrawB4, AppE, Draw7, VotesD, AnyD, LifeV.
-/
import Derived.Test.YtdopefimjabigadGreatK7
import Derived.Test.YtdopefimjabigadGreatDoC
import Derived.Test.YtdopefimjabigadGreatK1
import Derived.Laws.OwnMore
import Derived.Test.YtdopefimjabigadGreatPutBS
import Derived.Deep.RegionHeld3
import Derived.Deep.AppendLies
import Derived.Laws.AppendOwn
import Derived.Laws.Cells
import Derived.OwnWalk
import Derived.Test.YtdopefimjabigadGreatK3
import Derived.Deep.Cut
set_option maxRecDepth 100000
set_option maxHeartbeats 32000000
namespace Go.Proofs.YtdopefimjabigadGreat
open Go.RowKit Num
theorem wf_in {x:Int} (h:-9223372036854775808<=x/\x<=9223372036854775807):(Lit.int .i64 x).wf=true:=by
 have h1:=wrap64_wf x;have h2:wrap64 x=x:=by unfold wrap64;omega
 rw [h2] at h1;exact h1
theorem zFE {x:Int} (h:sm x):(Lit.int .i64 x).wf=true:=wf_in ⟨by have:=h.1;omega,by have:=h.2;omega⟩
theorem smQ_wf {q:QC} (h:smQ q):wfQ q:=⟨zFE h.1,zFE h.2.1,zFE h.2.2.1,zFE h.2.2.2⟩
theorem smV_wf {v:VT} (h:smV v):wfV v:=⟨zFE h.1,zFE h.2.1,zFE h.2.2.1,zFE h.2.2.2⟩
theorem smL_wf {l:LT} (h:smL l):wfL l:=⟨⟨zFE h.1.1,zFE h.1.2.1,zFE h.1.2.2.1,zFE h.1.2.2.2.1,zFE h.1.2.2.2.2⟩,smQ_wf h.2.1,smQ_wf h.2.2⟩
theorem cmd_small {c:CM} (h:zAF c=true):(c.2.1.size:Int)<=3:=by
 have:=(cmdB_bd h).2.1;unfold zIJ at this;simp only [Bool.and_eq_true] at this;exact (zDF this.2).2
theorem yFA {k:ByteArray} (h:zIJ k=true):(k.size:Int)<=3:=by
 unfold zIJ at h;simp only [Bool.and_eq_true] at h;exact (zDF h.2).2
theorem smT.ok {t:List BK} (h:smT t):okT t:=⟨by have:=h.many;omega,fun b hb=>⟨by have:=(h.each b hb).many;omega,fun c hc=>by have:=cmd_small ((h.each b hb).cmds c hc);omega⟩⟩
theorem wtC_le {t:List BK}:(∀ b∈t,b.2.1.length<=4)->wtC t<=4 * t.length:=by
 induction t with
 | nil=>intro _;simp [wtC]
 | cons b t ih=>
  intro h;have h1:=h b (List.mem_cons_self ..);have h2:=ih (fun x hx=>h x (List.mem_cons_of_mem _ hx));show b.2.1.length+wtC t<=4 * (b :: t).length;simp only [List.length_cons];omega
theorem smT.wt {t:List BK} (h:smT t):wtB t<=300:=by
 have:=wtC_le (fun b hb=>(h.each b hb).many);have:=h.many;unfold wtB;omega
theorem smP.small {m:Nat} {p:PE} (h:smP m p) (hm:m<=1000):yC p:=by
 have h1:=h.row.len;have h2:=h.cells.2.2;have h3:=h.early.1;have h4:=h.undos.1;have h5:=h.votes.1;have h6:=h.news.1
 exact ⟨by omega,by omega,by omega,by omega,by omega,by omega,fun c hc=>by have:=yFA (h.cells.1 c hc).1;omega,fun u hu=>by
  have:=h.undos.2 u hu;unfold zHH at this;simp only [Bool.and_eq_true] at this;have:=yFA this.1
  omega⟩
theorem smP.len {m:Nat} {p:PE} (h:smP m p):jZ p<=433+2 * m:=by
 have h1:=h.row.len;have h2:=h.cells.2.2;have h3:=h.early.1;have h4:=h.undos.1;have h5:=h.votes.1;have h6:=h.news.1;unfold jZ;omega
theorem smP.kept {m:Nat} {p:PE} (h:smP m p):yAG p:=by
 refine ⟨fun n hn=>?_,by have:=h.row.len;omega⟩;have g:∀ x,sm x->0<=x/\x<=1000000000:=fun x hx=>⟨hx.1,by have:=hx.2;omega⟩
 unfold xK at hn
 rcases List.mem_append.1 hn with hn | hn
 ·simp only [List.mem_cons,List.not_mem_nil,or_false] at hn
  rcases hn with rfl | rfl | rfl | rfl | rfl | rfl | rfl | rfl | rfl | rfl | rfl | rfl | rfl | rfl | rfl
  ·exact g _ (id_sm h)
  ·exact g _ (view_sm h)
  ·exact g _ h.high.1
  ·exact g _ h.high.2.1
  ·exact g _ h.high.2.2.1
  ·exact g _ h.high.2.2.2
  ·exact g _ h.lock.1
  ·exact g _ h.lock.2.1
  ·exact g _ h.lock.2.2.1
  ·exact g _ h.lock.2.2.2
  ·exact g _ h.last.1
  ·exact g _ h.last.2.1
  ·exact g _ h.last.2.2.1
  ·exact g _ h.last.2.2.2
  ·have:=h.row.len;exact ⟨by omega,by omega⟩
 ·exact g _ (h.row.sm n hn)
theorem far_le {l:List PE}:∀ {n:Int},0<=n->n<=900->(∀ p∈l,0<=p.view/\p.view<=900)->0<=yEH l n/\yEH l n<=900:=by
 induction l with
 | nil=>intro n h0 h1 _;exact ⟨h0,h1⟩
 | cons p l ih=>
  intro n h0 h1 h;have hp:=h p (List.mem_cons_self ..);unfold yEH
  split
  ·exact ih hp.1 hp.2 (fun x hx=>h x (List.mem_cons_of_mem _ hx))
  ·exact ih h0 h1 (fun x hx=>h x (List.mem_cons_of_mem _ hx))
theorem smP.good {m:Nat} {p:PE} (h:smP m p) (hm:m<=1000):yDG p:=by
 have h1:=h.row.len;have h2:=h.cells.2.2;have h3:=h.early.1;have h4:=h.undos.1;have h5:=h.votes.1;have h6:=h.news.1;have hmx:maxLen=9223372036854775807:=rfl;have nb:∀ {x:Int},zEH x=true->(Lit.int .i64 x).wf=true:=fun hx=>wf_in (by have:=numB_bd hx;omega)
 refine ⟨by omega,by omega,by omega,by omega,by omega,by omega,fun c hc=>by have:=yFA (h.cells.1 c hc).1;omega,fun c hc=>nb (h.cells.1 c hc).2,fun u hu=>?_,fun x hx=>zFE (h.row.sm x hx),fun x hx=>zFE (h.early.2 x hx),fun v hv=>smV_wf (h.votes.2 v hv),fun l hl=>smL_wf (h.news.2 l hl),zFE (id_sm h),zFE (view_sm h),zFE h.shown,smQ_wf h.high,smQ_wf h.lock,smQ_wf h.last⟩;have hb:=h.undos.2 u hu;unfold zHH at hb;simp only [Bool.and_eq_true] at hb;have:=yFA hb.1;exact ⟨by omega,nb hb.2⟩
theorem jJ.ok {m:Nat} {c:CU} (h:jJ m c) (hm:m<=1000):doOk c:=by
 have hn:=h.n;have ht:=h.tree.many;have ho:=h.tree.one;have hnet:=h.net.1;have hsd:=h.said.1;have hp4:=h.lpeers;have hpd:=h.pend.1;have hwt:=h.tree.wt;refine ⟨⟨by omega,⟨by omega,by omega⟩,h.tree.ok,by omega,ho,by omega,by omega,?_,fun k=>?_⟩,⟨by omega,by omega,⟨by omega,by omega⟩,by omega,h.tree.ok,fun p hp=>?_,fun l hl=>?_,by omega⟩,⟨by omega,by omega,wf_in (by omega),h.tree.ok,by omega,fun p hp=>⟨(h.peers p hp).good hm,(h.peers p hp).small hm⟩,⟨by omega,fun x hx=>by have:=cmd_small (h.pend.2 x hx);omega⟩⟩,fun p hp=>(h.peers p hp).kept⟩
 ·have:=far_le (l:=c.peers) (n:=0) (by omega) (by omega) (fun p hp=>(h.peers p hp).view);omega
 ·have:=h.tree.view k;omega
 ·have h1:=(h.peers p hp).len;have h2:=(h.peers p hp).votes.1;have h3:=(h.peers p hp).view;exact ⟨by omega,(h.peers p hp).small hm,by omega,by omega,by omega⟩
 ·have:=(h.net.2 l hl).2.1.2.2.2;exact ⟨by have:=this.1;omega,by have:=this.2;omega⟩
structure evFit (e:EV):Prop where
 at0:0<=e.at'/\e.at'<=1000
 to0:0<=e.to'/\e.to'<=1000
 num:0<=e.num/\e.num<=1000
 cmd:e.kind=1->zAF e.cmd=true
 size:(e.cmd.2.1.size:Int)<=3
theorem peAt_sm {m:Nat} {c:CU} (h:jJ m c) {i:Int} (hi:xT c i=true):smP m (zCJ c i):=by
 unfold xT at hi;have:=zDF (Bool.and_eq_true _ _ ▸ hi).1;have hl:i.toNat < c.peers.length:=by omega
 unfold zCJ;rw [List.getElem?_eq_getElem hl];exact h.peers _ (List.getElem_mem hl)
theorem out_sm {m:Nat} {c:CU} (h:jJ m c) (k:Int):jJ m (zAC c k):=by
 unfold zAC
 split
 ·refine { h with net:=⟨?_,fun l hl=>?_⟩ }
  ·have:=h.net.1;show (c.net.take k.toNat ++ c.net.drop (k.toNat+1)).length<=60;rw [List.length_append,List.length_take,List.length_drop];omega
  ·rcases List.mem_append.1 hl with hl | hl
   ·exact h.net.2 l (List.mem_of_mem_take hl)
   ·exact h.net.2 l (List.mem_of_mem_drop hl)
 ·exact h
theorem outL_sm {m:Nat} {c:CU} (h:jJ m c) (k:Int):smL (zBH c k):=by
 unfold zBH
 split
 ·rename_i l hl
  split
  ·exact h.net.2 l (List.mem_of_getElem? hl)
  ·exact ⟨⟨sm0,sm0,sm0,sm0,sm0⟩,smQ0,smV0⟩
 ·exact ⟨⟨sm0,sm0,sm0,sm0,sm0⟩,smQ0,smV0⟩
theorem carry_sm {m:Nat} {c:CU} (h:jJ m c) (k:Int):jJ (m+1) (carryC c k).1:=by
 unfold carryC
 split
 ·have ho:=out_sm h k;have hl:=outL_sm h k;show jJ (m+1) (if xT (zAC c k) (zBH c k).1.2.2.1=true then heardC (zAC c k) (zBH c k) else zAC c k)
  split
  ·rename_i hh
   have hp:=peAt_sm ho hh;have hr:=hear_sm ho hp hl;unfold heardC;have h1:jJ (m+1) (zCG (zAC c k) (zBH c k).1.2.2.1 (zFA (zAC c k) (zCJ (zAC c k) (zBH c k).1.2.2.1) (zBH c k)).1):=set_sm (ho.mono (Nat.le_succ m)) _ hr.1 (hear_id _ _ _);have h2:LifeS m 10 (zCG (zAC c k) (zBH c k).1.2.2.1 (zFA (zAC c k) (zCJ (zAC c k) (zBH c k).1.2.2.1) (zBH c k)).1):=⟨{ h1 with said:=⟨by simp,fun v hv=>by simp at hv⟩ },by have:=ho.said.1;show (zAC c k).said.length+10<=10 * (m+1);omega,ho.said.2⟩;refine LifeS.to (k:=10 - (zFA (zAC c k) (zCJ (zAC c k) (zBH c k).1.2.2.1) (zBH c k)).2.length) (sayAll_sm _ ?_ hr.2.2);have:=hr.2.1;rw [show 10 - (zFA (zAC c k) (zCJ (zAC c k) (zBH c k).1.2.2.1) (zBH c k)).2.length+(zFA (zAC c k) (zCJ (zAC c k) (zBH c k).1.2.2.1) (zBH c k)).2.length=10 by omega];exact h2
  ·exact ho.mono (Nat.le_succ m)
 ·exact h.mono (Nat.le_succ m)
theorem timed_sm {m:Nat} {p:PE} {n:Int} (hn:n=4) (h:smP m p):smP m (zGH p n)/\smL (yEB p n)/\(zGH p n).id=p.id:=by
 unfold zGH yEB
 split
 ·have h1:=yAB h (p.view+1);exact ⟨h1,answer_sm h1 ⟨by decide,by decide⟩ (leader_sm hn) h1.high smV0,qY _ _⟩
 ·exact ⟨h,⟨⟨sm0,sm0,sm0,sm0,sm0⟩,smQ0,smV0⟩,rfl⟩
theorem wait_sm {m:Nat} {c:CU} (h:jJ m c) (i:Int):jJ m (waitC c i).1:=by
 unfold waitC
 split
 ·rename_i hh
  have ht:=timed_sm h.n (peAt_sm h hh.1);exact post_sm (set_sm h i ht.1 ht.2.2) (fun x hx=>by rcases List.mem_singleton.1 hx with rfl;exact ht.2.1)
 ·exact h
theorem put_sm {t:List BK} (h:smT t) {b:BK} (hb:smQ b.2.2):smT (zGE t b):=by
 unfold zGE
 split
 ·exact h
 ·split
  ·exact h
  ·rename_i hn
   have hbl:xV t b=true:=by
    cases hx:xV t b with
    | true=>rfl
    | false=>exact absurd (Or.inl hx) hn
   have h60:t.length < 60:=by
    by_cases hx:60<=t.length
    ·exact absurd (Or.inr hx) hn
    ·omega
   refine ⟨by simp,by simp;omega,fun x hx=>?_⟩
   rcases List.mem_append.1 hx with hx | hx
   ·exact h.each x hx
   ·rcases List.mem_singleton.1 hx with rfl
    unfold xV at hbl;simp only [Bool.and_eq_true,decide_eq_true_eq] at hbl;have h0:=zDF hbl.1;have hv:=h.view x.1.1;exact ⟨⟨by omega,by omega⟩,⟨by have:=hbl.2.1;omega,hbl.2.2.1⟩,hbl.2.2.2.1,fun c hc=>List.all_eq_true.1 hbl.2.2.2.2.1 c hc,hb⟩
theorem at_from_le (b:BK):∀ (t:List BK) (i:Nat),yW b t i<=(i:Int)+t.length
 | [],i=>by unfold yW;simp only [List.length_nil];omega
 | x :: t,i=>by
  unfold yW
  split
  ·simp only [List.length_cons];omega
  ·have:=at_from_le b t (i+1);simp only [List.length_cons];omega
theorem put_at_le (t:List BK) (b:BK):zBE t b<=t.length:=by
 have:=at_from_le b t 0;unfold zBE kI
 split
 ·omega
 ·split <;> omega
theorem sm1:sm 1:=⟨by decide,by decide⟩
theorem sm2:sm 2:=⟨by decide,by decide⟩
theorem sm3:sm 3:=⟨by decide,by decide⟩
theorem sm4:sm 4:=⟨by decide,by decide⟩
theorem putAt_sm {t:List BK} (h:smT t) {b:BK} (hp:¬ zBE t b < 0):sm (zBE t b):=by
 have hk:=put_at_le t b;have:=h.many;exact ⟨by omega,by omega⟩
theorem best_sm {m:Nat} {p:PE} (h:smP m p):smQ (bestT p):=by
 unfold bestT zAE
 have key:∀ (l:List LT) (q:QC),smQ q->(∀ x∈l,smL x)->smQ (l.foldl (fun q x=>yF q x.2.1) q):=by
  intro l
  induction l with
  | nil=>intro q hq _;exact hq
  | cons x l ih=>intro q hq hl;exact ih _ (yEJ hq (hl x (List.mem_cons_self ..)).2.1) (fun y hy=>hl y (List.mem_cons_of_mem _ hy))
 exact key _ _ h.high h.news.2
theorem shown_sm {m:Nat} {p:PE} (h:smP m p) {k:Int} {q:QC} (hk:sm k) (hq:smQ q):∀ i,i<=100->∀ x∈qX p k q i,smL x
 | 0,_=>fun x hx=>by simp [qX] at hx
 | i+1,hi=>fun x hx=>by
  unfold qX at hx
  rcases List.mem_append.1 hx with hx | hx
  ·exact shown_sm h hk hq i (by omega) x hx
  ·rcases List.mem_singleton.1 hx with rfl
   exact ⟨⟨sm1,id_sm h,⟨by show (0:Int)<=(i:Int);omega,by show (i:Int)<=1000;omega⟩,view_sm h,hk⟩,hq,smV0⟩
theorem show_sm {m:Nat} {c:CU} (h:jJ m c) (i:Int):jJ m (showC c i).1:=by
 unfold showC
 split
 ·rename_i hh
  have hp:=peAt_sm h hh.1;have hb:=best_sm hp;have ht:smT (showA c i):=put_sm h.tree hb
  have hP:smP m (showP c i)/\(showP c i).id=(zCJ c i).id:=by
   unfold showP showsP
   split
   ·exact ⟨hp,rfl⟩
   ·exact ⟨{ hp with high:=hb,shown:=view_sm hp },rfl⟩
  have hk:sm (showK c i):=by
   have h0:=hh.2.2.2;unfold showK showsK at h0 ⊢
   split at h0
   ·omega
   ·rename_i h1
    rw [if_neg h1];exact putAt_sm h.tree h1
  have hs:jJ m (showsC c i):=by
   have h1:=set_sm h i hP.1 hP.2;refine { h1 with tree:=ht,pend:=⟨?_,fun x hx=>h.pend.2 x (List.mem_of_mem_drop hx)⟩ };have:=h.pend.1;show (c.pend.drop (showM c)).length<=8;rw [List.length_drop];omega
  refine post_sm hs ?_;unfold zCA;refine shown_sm hP.1 hk ?_ _ (by have:=many_le c.n;omega);unfold justOr
  split
  ·exact (ht.at _).just
  ·exact smQ0
 ·exact h
theorem fall_sm {m:Nat} {c:CU} (h:jJ m c) (i:Int):jJ m (fallC c i).1:=by
 unfold fallC
 split
 ·rename_i hh
  have hp:=peAt_sm h hh;refine set_sm h i ?_ rfl;have hf:fair ([]:CL):=fair_of (by decide);exact ⟨hp.id,hp.view,hp.high,hp.lock,hp.last,hp.row,fair_rowC _ _ hf,⟨by simp [yCF,jO],fun x hx=>by simp [yCF,jO] at hx⟩,⟨by simp [yCF,jO],fun x hx=>by simp [yCF,jO] at hx⟩,⟨by simp [yCF,jO],fun x hx=>by simp [yCF,jO] at hx⟩,⟨by simp [yCF,jO],fun x hx=>by simp [yCF,jO] at hx⟩,sm0⟩
 ·exact h
theorem offer_sm {m:Nat} {c:CU} (h:jJ m c) {x:CM} (hx:zAF x=true):jJ m (offerP c x).1:=by
 unfold offerP
 split
 ·exact h
 ·refine { h with pend:=⟨?_,fun y hy=>?_⟩ }
  ·show (c.pend ++ [x]).length<=8;rw [List.length_append,List.length_singleton];omega
  ·rcases List.mem_append.1 hy with hy | hy
   ·exact h.pend.2 y hy
   ·rcases List.mem_singleton.1 hy with rfl;exact hx
theorem twice_sm {m:Nat} {c:CU} (h:jJ m c) (k:Int):jJ m (yEC c k).1:=by
 unfold yEC
 split
 ·refine post_sm h (fun x hx=>?_);unfold atC at hx
  split at hx
  ·rename_i l hl
   rcases List.mem_singleton.1 hx with rfl
   exact h.net.2 _ (List.mem_of_getElem? hl)
  ·cases hx
 ·exact h
theorem hand_sm {m:Nat} {c:CU} (h:jJ m c) {l:LT} (hl:smL l):jJ m (jM c l).1:=by
 unfold jM
 split
 ·exact post_sm h (fun x hx=>by rcases List.mem_singleton.1 hx with rfl;exact hl)
 ·exact h
theorem lieK_sm {m:Nat} {c:CU} (h:jJ m c) (e:EV):0<=yBJ c e/\yBJ c e < 60:=by
 have h1:=h.tree.one;have h2:=h.tree.many;unfold yBJ;have:=Int.emod_nonneg e.num (show (c.tree.length:Int) ≠ 0 by omega);have:=Int.emod_lt_of_pos e.num (show (0:Int) < (c.tree.length:Int) by omega);omega
theorem lieQc_sm {m:Nat} {c:CU} (h:jJ m c) {ph k:Int} (h1:sm ph) (h2:sm k):smQ (qM c ph k).1:=by
 unfold qM
 split
 ·have hv:=h.tree.view k;exact qcOf_sm h1 ⟨hv.1,by omega⟩ h2
 ·exact smQ0
theorem phase_sm (c:CU) {num:Int}:sm (qP c num):=by
 unfold qP
 split
 ·exact ⟨by decide,by decide⟩
 ·exact ⟨by omega,by omega⟩
theorem lieW_sm {m:Nat} {c:CU} (h:jJ m c) (e:EV):sm (lieW c e):=by
 unfold lieW
 split
 ·have:=h.tree.view (yBJ c e);exact ⟨by omega,by omega⟩
 ·have:=far_le (l:=c.peers) (n:=0) (by omega) (by omega) (fun p hp=>(h.peers p hp).view);exact ⟨by omega,by omega⟩
theorem lie_sm {m:Nat} {c:CU} (h:jJ m c) {e:EV} (he:evFit e):jJ m (lieC c e).1:=by
 have ha:sm e.at':=he.at0;have hto:sm e.to':=he.to0;have hk:=lieK_sm h e;have hks:sm (yBJ c e):=⟨hk.1,by omega⟩;unfold lieC
 split
 ·exact h
 ·split
  ·have hv:sm (lieView c (yBJ c e)):=by
    unfold lieView
    split
    ·have:=h.tree.view (yBJ c e);exact ⟨this.1,by omega⟩
    ·exact sm0
   exact hand_sm h ⟨⟨sm2,ha,hto,hv,sm0⟩,smQ0,⟨phase_sm c,hv,hks,ha⟩⟩
  ·split
   ·split
    ·have hq:=lieQc_sm h (phase_sm c (num:=e.num)) hks;exact hand_sm h ⟨⟨sm3,ha,hto,hq.2.1,sm0⟩,hq,smV0⟩
    ·exact h
   ·split
    ·unfold zBC
     split
     ·exact h
     ·split
      ·rename_i hh
       have hq:smQ (lieQ c e).1:=by
        unfold lieQ;exact lieQc_sm h (by split <;> exact ⟨by decide,by decide⟩) hks
       have ht:jJ m (lieT c e):={ h with tree:=put_sm h.tree hq };exact hand_sm ht ⟨⟨sm1,ha,hto,lieW_sm h e,putAt_sm h.tree hh.2.2.2.1⟩,hq,smV0⟩
      ·exact h
    ·exact hand_sm h ⟨⟨sm4,ha,hto,(show sm (e.num % 900+1) from ⟨by omega,by omega⟩),sm0⟩,smQ0,smV0⟩
theorem do_sm {m:Nat} {c:CU} (h:jJ m c) {e:EV} (he:evFit e):jJ (m+1) (doC c e).1:=by
 have hs:=Nat.le_succ m;unfold doC
 split
 ·rename_i k;exact (offer_sm h (he.cmd k)).mono hs
 ·split
  ·exact (show_sm h _).mono hs
  ·split
   ·exact carry_sm h _
   ·split
    ·exact (out_sm h _).mono hs
    ·split
     ·exact (twice_sm h _).mono hs
     ·split
      ·exact (wait_sm h _).mono hs
      ·split
       ·exact (fall_sm h _).mono hs
       ·exact (lie_sm h he).mono hs
end Go.Proofs.YtdopefimjabigadGreat
namespace Go.Proofs.YtdopefimjabigadGreat
open Go.RowKit
theorem and255 (x:Int):0<=bits .and .i64 x 255/\bits .and .i64 x 255<=255:=by
 unfold bits;simp only
 have h:(BitVec.ofInt IntKind.i64.bits x &&& BitVec.ofInt IntKind.i64.bits 255).toNat<=255:=by
  rw [BitVec.toNat_and];exact Nat.le_trans Nat.and_le_right (by decide)
 generalize (BitVec.ofInt IntKind.i64.bits x &&& BitVec.ofInt IntKind.i64.bits 255).toNat=n at h
 rw [IntKind.wrap_i64];omega
structure Code (w:World) (ao:Option Addr) (len b off:Nat):Prop where
 le:len<=1048576
 some:0 < len->ao=Option.some ⟨b,off,none⟩
 cell:∀ k,k < len->∃ z:Int,0<=z/\z<=255/\w.cell? ⟨b,off+k,none⟩=Option.some (.int .u8 z)
 lt:0 < len->b < w.heap.size
theorem Code.grown {w w':World} {ao:Option Addr} {len b off:Nat} {r:Option Nat} (h:Code w ao len b off) (hg:w.grownBy w' r) (hr:0 < len->Option.some b ≠ r):Code w' ao len b off:=
 ⟨h.le,h.some,fun k hk=>by
  obtain ⟨z,h0,h1,h2⟩:=h.cell k hk
  exact ⟨z,h0,h1,by rw [World.cell?_of_block (w:=w) (hg.block b (h.lt (by omega)) (hr (by omega)))];exact h2⟩,fun hl=>Nat.lt_of_lt_of_le (h.lt hl) hg.size⟩
theorem Code.below {w w':World} {ao:Option Addr} {len b off:Nat} (h:Code w ao len b off) (hg:Below w.heap.size w w'):Code w' ao len b off:=
 ⟨h.le,h.some,fun k hk=>by
  obtain ⟨z,h0,h1,h2⟩:=h.cell k hk
  exact ⟨z,h0,h1,by rw [hg.cell (by exact h.lt (by omega))];exact h2⟩,fun hl=>Nat.lt_of_lt_of_le (h.lt hl) hg.size⟩
def Cur (w:World) (B:Nat) (ao:Option Addr) (len cap:Nat):Prop:=
 ∃ (i:Nat) (h:Int),i<=len/\w.heap[B]?=Option.some (.cells #[.slice ao len cap,.int .i64 (i:Int),.int .i64 h] 121 (0,0))
theorem Cur.keep {w w':World} {B:Nat} {ao:Option Addr} {len cap:Nat} (h:Cur w B ao len cap) (hg:w'.heap[B]?=w.heap[B]?):Cur w' B ao len cap:=by
 obtain ⟨i,x,h1,h2⟩:=h;exact ⟨i,x,h1,by rw [hg];exact h2⟩
theorem Cur.lt {w:World} {B:Nat} {ao:Option Addr} {len cap:Nat} (h:Cur w B ao len cap):B < w.heap.size:=by
 obtain ⟨i,x,h1,h2⟩:=h
 rcases Nat.lt_or_ge B w.heap.size with h | h
 ·exact h
 ·rw [Array.getElem?_eq_none h] at h2;simp at h2
theorem cur_set {w:World} {B:Nat} {a b c v:Value} {t:TypeId} (h:w.heap[B]?=Option.some (.cells #[a,b,c] t (0,0))) :
  (w.setCell ⟨B,2,none⟩ v).heap[B]?=Option.some (.cells #[a,b,v] t (0,0))/\(w.setCell ⟨B,1,none⟩ v).heap[B]?=Option.some (.cells #[a,v,c] t (0,0)):=
 ⟨heap_setCell_same w B 2 _ t v h,heap_setCell_same w B 1 _ t v h⟩
theorem xC {a b c:World} {r:Option Nat} (h:a.grownBy b r) (k:b.grownBy c r):a.grownBy c r:=
 ⟨k.os.trans h.os,k.tape.trans h.tape,k.output.trans h.output,Nat.le_trans h.size k.size,fun i hi hr=>(k.block i (Nat.lt_of_lt_of_le hi h.size) hr).trans (h.block i hi hr)⟩
theorem grown_drew {a b:World} {r:Option Nat} (h:a.grownBy b r) (n:Nat):a.grownBy (b.drewN n) r:=⟨h.os,h.tape,h.output,h.size,h.block⟩
theorem byte_any (w:World) (B:Nat) (ao:Option Addr) (len cap b off:Nat) (hc:Code w ao len b off) (hB:Cur w B ao len cap) (hne:0 < len->b ≠ B) :
  Calls Tryz.prog 100 #[.pointer (Option.some ⟨B,0,none⟩)] w fun e w'=>∃ x:Int,e=.returned (.int .i64 x)/\0<=x/\x<=255/\Cur w' B ao len cap/\w.grownBy w' (Option.some B):=by
 obtain ⟨i,h,hi1,hb⟩:=hB;have hle:=hc.le;have c0:w.cell? ⟨B,0,none⟩=Option.some (.slice ao len cap):=by rw [cell_of_row w B 0 _ _ (0,0) hb];rfl
 have c1:w.cell? ⟨B,1,none⟩=Option.some (.int .i64 (i:Int)):=by rw [cell_of_row w B 1 _ _ (0,0) hb];rfl
 have c2:w.cell? ⟨B,2,none⟩=Option.some (.int .i64 h):=by rw [cell_of_row w B 2 _ _ (0,0) hb];rfl
 have f2:w.frozen? ⟨B,2,none⟩=false:=frozen_of_row w B 2 _ _ hb;have f1:w.frozen? ⟨B,1,none⟩=false:=frozen_of_row w B 1 _ _ hb;have HB:=hid hb;clear hb
 by_cases hlt:(i:Int) < len
 ·obtain rfl:=hc.some (by omega);obtain ⟨z,hz0,hz1,hz⟩:=hc.cell i (by omega);have hbB:=hne (by omega);have q0:(0:Int)<=(i:Int):=by omega
  have hz2:∀ v:Value,(w.setCell ⟨B,2,none⟩ v).cell? ⟨b,off+i,none⟩=Option.some (.int .u8 z):=fun v=>by
   rw [World.cell?_of_block (w:=w) (heap_setCell_other w ⟨B,2,none⟩ b v (by exact hbB))];exact hz
  clear hc hne;go_enter Tryz.func100,Tryz.ntmps100;go_wp2
  generalize wrap64 (wrap64 (h * 6364136223846793005)+1442695040888963407)=H
  go_quiet (fail)
  have hx0:=and255 (bits .xor .i64 (H / 8589934592) (H / 35184372088832))
  generalize bits .and .i64 (bits .xor .i64 (H / 8589934592) (H / 35184372088832)) 255=x0 at hx0 ⊢
  go_wp2
  go_quiet (fail)
  go_wp2
  go_quiet (fail)
  go_wp2;go_ret;refine ⟨_,rfl,(and255 _).1,(and255 _).2,?_,?_⟩
  ·refine ⟨i+1,H,by omega,?_⟩;have e:=(cur_set (v:=.int .i64 ((i:Int)+1)) (cur_set (v:=.int .i64 H) HB.out).1).2;exact e
  ·exact xC (grown_drew (yK w B 2 (.int .i64 H)) _) (yK _ B 1 _)
 ·have q0:(0:Int)<=(i:Int):=by omega
  clear hc hne;go_enter Tryz.func100,Tryz.ntmps100;go_wp2
  generalize wrap64 (wrap64 (h * 6364136223846793005)+1442695040888963407)=H
  go_quiet (fail)
  have hx0:=and255 (bits .xor .i64 (H / 8589934592) (H / 35184372088832))
  generalize bits .and .i64 (bits .xor .i64 (H / 8589934592) (H / 35184372088832)) 255=x0 at hx0 ⊢
  go_wp2
  go_quiet (fail)
  go_wp2;go_ret;refine ⟨_,rfl,hx0.1,hx0.2,⟨i,H,hi1,?_⟩,?_⟩
  ·exact (cur_set HB.out).1
  ·exact grown_drew (grown_drew (yK w B 2 _) _) _
structure St (w:World) (B:Nat) (ao:Option Addr) (len cap b off:Nat):Prop where
 code:Code w ao len b off
 cur:Cur w B ao len cap
 ne:0 < len->b ≠ B
theorem St.step {w w':World} {B:Nat} {ao:Option Addr} {len cap b off:Nat} (h:St w B ao len cap b off) (hc:Cur w' B ao len cap) (hg:w.grownBy w' (Option.some B)):St w' B ao len cap b off:=
 ⟨h.code.grown hg (fun hl e=>h.ne hl (Option.some.inj e)),hc,h.ne⟩
theorem St.below {w w':World} {B:Nat} {ao:Option Addr} {len cap b off:Nat} (h:St w B ao len cap b off) (hb:Below w.heap.size w w'):St w' B ao len cap b off:=
 ⟨h.code.below hb,h.cur.keep (hb.block B h.cur.lt),h.ne⟩
theorem byte_st {w:World} {B:Nat} {ao:Option Addr} {len cap b off:Nat} (h:St w B ao len cap b off) :
  Calls Tryz.prog 100 #[.pointer (Option.some ⟨B,0,none⟩)] w fun e w'=>∃ x:Int,e=.returned (.int .i64 x)/\0<=x/\x<=255/\St w' B ao len cap b off/\w.grownBy w' (Option.some B):=
 (byte_any w B ao len cap b off h.code h.cur h.ne).mono fun _ _ ⟨x,he,h0,h1,hc,hg⟩=>⟨x,he,h0,h1,h.step hc hg,hg⟩
theorem xO {w:World} {B:Nat} {ao:Option Addr} {len cap b off:Nat} (n:Int) (hn:0 < n) (hn2:n<=1000000000) (h:St w B ao len cap b off) :
  Calls Tryz.prog 59 #[.pointer (Option.some ⟨B,0,none⟩),.int .i64 n] w fun e w'=>∃ x:Int,e=.returned (.int .i64 x)/\0<=x/\x < n/\St w' B ao len cap b off/\w.grownBy w' (Option.some B):=by
 have H:=hid h;clear h
 by_cases h256:n<=256
 ·go_enter Tryz.func59,Tryz.ntmps59;go_wp2_with (go_at_call 100;refine (byte_st H.out).mono ?_;rintro e w' ⟨x,rfl,hx0,hx1,hS,hg⟩;have HS:=hid hS;clear hS)
  go_ret;exact ⟨_,rfl,Int.emod_nonneg _ (by omega),Int.emod_lt_of_pos _ hn,HS.out,hg⟩
 ·go_enter Tryz.func59,Tryz.ntmps59;go_wp2_with fail
  refine (byte_st H.out).mono ?_;rintro e w1 ⟨x1,rfl,hx10,hx11,hS1,hg1⟩;have HS1:=hid hS1;clear hS1;go_wp2_with fail
  refine (byte_st HS1.out).mono ?_;rintro e w2 ⟨x2,rfl,hx20,hx21,hS2,hg2⟩;have HS2:=hid hS2;clear hS2;go_wp2_with fail
  refine (byte_st HS2.out).mono ?_;rintro e w3 ⟨x3,rfl,hx30,hx31,hS3,hg3⟩;have HS3:=hid hS3;clear hS3;go_wp2_with fail
  refine (byte_st HS3.out).mono ?_;rintro e w4 ⟨x4,rfl,hx40,hx41,hS4,hg4⟩;have HS4:=hid hS4;clear hS4;go_wp2;go_ret;exact ⟨_,rfl,Int.emod_nonneg _ (by omega),Int.emod_lt_of_pos _ hn,HS4.out,xC (xC (xC hg1 hg2) hg3) hg4⟩
theorem once_st {w:World} {B:Nat} {ao:Option Addr} {len cap b off:Nat} (n:Int) (hn:0 < n) (hn2:n<=1000000000) (h:St w B ao len cap b off) :
  Calls Tryz.prog 58 #[.pointer (Option.some ⟨B,0,none⟩),.int .i64 n] w fun e w'=>∃ x:Bool,e=.returned (.bool x)/\St w' B ao len cap b off/\w.grownBy w' (Option.some B):=by
 have H:=hid h;clear h;go_enter Tryz.func58,Tryz.ntmps58;go_wp2_with (go_at_call 59;refine (xO _ hn hn2 H.out).mono ?_;rintro e w' ⟨x,rfl,hx0,hx1,hS,hg⟩;have HS:=hid hS;clear hS)
 go_ret;exact ⟨_,rfl,HS.out,hg⟩
theorem kV {a b:World} {r:Option Nat} (h:Below a.heap.size a b):a.grownBy b r:=⟨h.os,h.tape,h.output,h.size,fun k hk _=>h.block k hk⟩
theorem new_any {w:World} {ao:Option Addr} {len cap b off:Nat} (hc:Code w ao len b off) :
  Calls Tryz.prog 55 #[.slice ao len cap] w fun e w'=>∃ N,e=.returned (.pointer (Option.some ⟨N,0,none⟩))/\w.heap.size<=N/\St w' N ao len cap b off/\Below w.heap.size w w':=by
 have hle:=hc.le;have HC:=hid hc;clear hc;go_enter Tryz.func55,Tryz.ntmps55;go_wp2
 go_loop [3,4] (fun h i=>∃ (k:Nat) (H:Int),k<=len/\h=.int .i64 H/\i=.int .i64 k) (fun _ i=>len - (intOf i).toNat)
 case atStart=>exact ⟨0,_,Nat.zero_le _,rfl,rfl⟩
 case round=>
  obtain ⟨k,H,hk,rfl,rfl⟩:=hrel
  have fin:∀ H:Int,∃ N,Ending.returned (.pointer (Option.some ⟨w.heap.size,0,none⟩))=Ending.returned (.pointer (Option.some ⟨N,0,none⟩))/\w.heap.size<=N/\St (w.alloc (.cells #[.slice ao len cap,.int .i64 0,.int .i64 H] 121)) N ao len cap b off/\Below w.heap.size w (w.alloc (.cells #[.slice ao len cap,.int .i64 0,.int .i64 H] 121)):=fun H=>
   have hb:Below w.heap.size w (w.alloc (.cells #[.slice ao len cap,.int .i64 0,.int .i64 H] 121)):=(br _ _).alloc (nl _) _
   ⟨w.heap.size,rfl,nl _,⟨HC.out.below hb,⟨0,H,Nat.zero_le _,heap_alloc_new w _⟩,fun hl e=>by have:=HC.out.lt hl;omega⟩,hb⟩
  have HF:Hid _:=fin;clear fin
  by_cases hlt:(k:Int) < len
  ·by_cases h4:(k:Int) < 4000
   ·obtain rfl:=HC.out.some (by omega);obtain ⟨z,hz0,hz1,hz⟩:=HC.out.cell k (by omega);have q0:(0:Int)<=(k:Int):=by omega
    go_wp2
    go_round
    case rel=>exact ⟨k+1,_,by omega,rfl,by go_num⟩
    case measure=>simp [intOf];omega
   ·go_wp2;go_ret;exact HF.out _
  ·go_wp2;go_ret;exact HF.out _
theorem St.under {w w':World} {B base:Nat} {ao:Option Addr} {len cap b off:Nat} (h:St w B ao len cap b off) (hb:Below base w w') (hB:B < base) (hbb:0 < len->b < base):St w' B ao len cap b off:=
 ⟨⟨h.code.le,h.code.some,fun k hk=>by
  obtain ⟨z,h0,h1,h2⟩:=h.code.cell k hk
  exact ⟨z,h0,h1,by rw [hb.cell (by exact hbb (by omega))];exact h2⟩,fun hl=>Nat.lt_of_lt_of_le (h.code.lt hl) hb.size⟩,h.cur.keep (hb.block B hB),h.ne⟩
end Go.Proofs.YtdopefimjabigadGreat
namespace Go.Proofs.YtdopefimjabigadGreat
open Go.RowKit Num
theorem pickS_st {w:World} {B L:Nat} {ao:Option Addr} {len cap b off:Nat} (f:Nat->ByteArray) (n:Nat) (hn:0 < n) (hn2:n<=1000) (h:St w B ao len cap b off) (hL:L ≠ B) (hLl:L < w.heap.size) (hc:∀ k,k < n->w.cell? ⟨L,k,none⟩=Option.some (.string (f k))) :
  Calls Tryz.prog 221 #[.pointer (Option.some ⟨B,0,none⟩),.slice (Option.some ⟨L,0,none⟩) n n] w fun e w'=>∃ k,k < n/\e=.returned (.string (f k))/\St w' B ao len cap b off/\w.grownBy w' (Option.some B):=by
 have H:=hid h;have HC:Hid (∀ k,k < n->w.cell? ⟨L,k,none⟩=Option.some (.string (f k))):=hc;clear h hc;go_enter Tryz.func221,Tryz.ntmps221;go_wp2_with fail
 refine (xO (n:Int) (by omega) (by omega) H.out).mono ?_;rintro e w' ⟨x,rfl,hx0,hx1,hS,hg⟩;obtain ⟨k,rfl⟩:=Int.eq_ofNat_of_zero_le hx0;have hkn:k < n:=by omega
 have hv':w'.cell? ⟨L,k,none⟩=Option.some (.string (f k)):=by
  rw [World.cell?_of_block (w:=w) (hg.block L hLl (fun e=>hL (Option.some.inj e)))];exact HC.out k hkn
 have HS:=hid hS;clear hS;go_wp2;go_ret;exact ⟨k,hkn,rfl,HS.out,hg⟩
theorem pickI_st {w:World} {B L:Nat} {ao:Option Addr} {len cap b off:Nat} (f:Nat->Int) (n:Nat) (hn:0 < n) (hn2:n<=1000) (h:St w B ao len cap b off) (hL:L ≠ B) (hLl:L < w.heap.size) (hc:∀ k,k < n->w.cell? ⟨L,k,none⟩=Option.some (.int .i64 (f k))) :
  Calls Tryz.prog 56 #[.pointer (Option.some ⟨B,0,none⟩),.slice (Option.some ⟨L,0,none⟩) n n] w fun e w'=>∃ k,k < n/\e=.returned (.int .i64 (f k))/\St w' B ao len cap b off/\w.grownBy w' (Option.some B):=by
 have H:=hid h;have HC:Hid (∀ k,k < n->w.cell? ⟨L,k,none⟩=Option.some (.int .i64 (f k))):=hc;clear h hc;go_enter Tryz.func56,Tryz.ntmps56;go_wp2_with fail
 refine (xO (n:Int) (by omega) (by omega) H.out).mono ?_;rintro e w' ⟨x,rfl,hx0,hx1,hS,hg⟩;obtain ⟨k,rfl⟩:=Int.eq_ofNat_of_zero_le hx0;have hkn:k < n:=by omega
 have hv':w'.cell? ⟨L,k,none⟩=Option.some (.int .i64 (f k)):=by
  rw [World.cell?_of_block (w:=w) (hg.block L hLl (fun e=>hL (Option.some.inj e)))];exact HC.out k hkn
 have HS:=hid hS;clear hS;go_wp2;go_ret;exact ⟨k,hkn,rfl,HS.out,hg⟩
def dkey (k:Nat):ByteArray:=match k with
 | 0=>⟨#[97]⟩
 | 1=>⟨#[98]⟩
 | 2=>⟨#[99]⟩
 | _=>⟨#[97,98,99]⟩
theorem dkey_ok (k:Nat):zIJ (dkey k)=true:=by
 match k with
 | 0=>decide
 | 1=>decide
 | 2=>decide
 | _+3=>exact (by decide:zIJ ⟨#[97,98,99]⟩=true)
theorem dkey_size (k:Nat):(dkey k).size<=3:=by
 match k with
 | 0=>decide
 | 1=>decide
 | 2=>decide
 | _+3=>exact (by decide:(⟨#[97,98,99]⟩:ByteArray).size<=3)
theorem key_st {w:World} {B:Nat} {ao:Option Addr} {len cap b off:Nat} (h:St w B ao len cap b off) :
  Calls Tryz.prog 193 #[.pointer (Option.some ⟨B,0,none⟩)] w fun e w'=>∃ k,e=.returned (.string (dkey k))/\St w' B ao len cap b off/\w.grownBy w' (Option.some B):=by
 have H:=hid h;clear h;go_enter Tryz.func193,Tryz.ntmps193;go_wp2_with fail
 have hb:Below w.heap.size w (w.alloc (.cells #[.string ⟨#[97]⟩,.string ⟨#[98]⟩,.string ⟨#[99]⟩,.string ⟨#[97,98,99]⟩] 9)):=(br _ _).alloc (nl _) _;refine (pickS_st dkey 4 (by omega) (by omega) (H.out.below hb) (by have:=H.out.cur.lt;omega) (by simp) (fun k hk=>?_)).mono ?_
 ·rw [cell_of_row _ w.heap.size k _ _ (0,0) (heap_alloc_new w _)]
  match k,hk with
  | 0,_=>rfl
  | 1,_=>rfl
  | 2,_=>rfl
  | 3,_=>rfl
 rintro e w2 ⟨k,_,rfl,hS2,hg2⟩;have HS2:=hid hS2;clear hS2;go_wp2;go_ret;exact ⟨k,rfl,HS2.out,xC (kV hb) hg2⟩
def dnum (k:Nat):Int:=match k with
 | 0=>0
 | 1=>1
 | 2=>7
 | 3=>500
 | _=>999999999
theorem dnum_ok (k:Nat):zEH (dnum k)=true:=by
 match k with
 | 0=>decide
 | 1=>decide
 | 2=>decide
 | 3=>decide
 | _+4=>exact (by decide:zEH 999999999=true)
theorem yT {w w1 w2:World} {r:Option Nat} {N:Nat} (h:w.grownBy w1 r) (hN:w.heap.size<=N) (k:w1.grownBy w2 (Option.some N)):w.grownBy w2 r:=
 ⟨k.os.trans h.os,k.tape.trans h.tape,k.output.trans h.output,Nat.le_trans h.size k.size,fun i hi hr=>(k.block i (Nat.lt_of_lt_of_le hi h.size) (fun e=>by have:=Option.some.inj e;omega)).trans (h.block i hi hr)⟩
theorem St.other {w w':World} {B N:Nat} {ao:Option Addr} {len cap b off:Nat} (h:St w B ao len cap b off) (hg:w.grownBy w' (Option.some N)) (hN:B ≠ N) (hb:0 < len->b ≠ N):St w' B ao len cap b off:=
 ⟨h.code.grown hg (fun hl e=>hb hl (Option.some.inj e)),h.cur.keep (hg.block B h.cur.lt (fun e=>hN (Option.some.inj e))),h.ne⟩
theorem St.row {w w':World} {B:Nat} {r:Option Nat} {ao:Option Addr} {len cap b off:Nat} (h:St w B ao len cap b off) (hg:w.grownBy w' r) (hN:∀ g,r=Option.some g->B ≠ g) (hb:0 < len->∀ g,r=Option.some g->b ≠ g):St w' B ao len cap b off:=
 ⟨h.code.grown hg (fun hl e=>hb hl b e.symm rfl),h.cur.keep (hg.block B h.cur.lt (fun e=>hN B e.symm rfl)),h.ne⟩
theorem grown_row {w w1 w2 w3:World} {r q:Option Nat} (h:w.grownBy w1 r) (hb:Below w1.heap.size w1 w2) (k:w2.grownBy w3 q) (hq:∀ g,q=Option.some g->w.heap.size<=g):w.grownBy w3 r:=
 ⟨(k.os.trans hb.os).trans h.os,(k.tape.trans hb.tape).trans h.tape,(k.output.trans hb.output).trans h.output,Nat.le_trans h.size (Nat.le_trans hb.size k.size),fun i hi hr=>((k.block i (Nat.lt_of_lt_of_le hi (Nat.le_trans h.size hb.size)) (fun e=>by have:=hq i e.symm;omega)).trans (hb.block i (Nat.lt_of_lt_of_le hi h.size))).trans (h.block i hi hr)⟩
theorem cmd_st {w:World} {B:Nat} {ao:Option Addr} {len cap b off:Nat} (h:St w B ao len cap b off) :
  Calls Tryz.prog 149 #[.pointer (Option.some ⟨B,0,none⟩)] w fun e w'=>∃ c:CM,e=.returned (cmdV c)/\zAF c=true/\c.2.1.size<=3/\St w' B ao len cap b off/\w.grownBy w' (Option.some B):=by
 have H:=hid h;have hBw:=h.cur.lt;clear h;go_enter Tryz.func149,Tryz.ntmps149;go_wp2_with fail
 have hb:Below w.heap.size w (w.alloc (.cells #[.int .i64 0,.string ByteArray.empty,.int .i64 0] 130)):=(br _ _).alloc (nl _) _;refine (xO 3 (by omega) (by omega) (H.out.below hb)).mono ?_;rintro e w2 ⟨x,rfl,hx0,hx1,hS2,hg2⟩;have HS2:=hid hS2;have HK2:Hid (Bx w2 w.heap.size #[.int .i64 0,.string ByteArray.empty,.int .i64 0] 130):=(hg2.block w.heap.size (by simp) (fun e=>by have:=Option.some.inj e;omega)).trans (heap_alloc_new w _);have HG2:Hid (w.grownBy w2 (Option.some B)):=xC (kV hb) hg2;clear hS2 hg2 hb;go_wp2_with fail
 refine (key_st HS2.out).mono ?_;rintro e w3 ⟨k,rfl,hS3,hg3⟩;have HS3:=hid hS3;have hs2:w.heap.size < w2.heap.size:=(gl HK2.out);have HK3:Hid (Bx w3 w.heap.size #[.int .i64 0,.string ByteArray.empty,.int .i64 0] 130):=(hg3.block w.heap.size hs2 (fun e=>by have:=Option.some.inj e;omega)).trans HK2.out;have HG3:Hid (w.grownBy w3 (Option.some B)):=xC HG2.out hg3;clear hS3 hg3;go_wp2_with fail
 have hb3:Below w3.heap.size w3 (w3.alloc (.cells #[.int .i64 0,.int .i64 1,.int .i64 7,.int .i64 500,.int .i64 999999999] 3)):=(br _ _).alloc (nl _) _;refine (pickI_st dnum 5 (by omega) (by omega) (HS3.out.below hb3) (by have:=HS3.out.cur.lt;omega) (by simp) (fun j hj=>?_)).mono ?_
 ·rw [cell_of_row _ w3.heap.size j _ _ (0,0) (heap_alloc_new w3 _)]
  match j,hj with
  | 0,_=>rfl
  | 1,_=>rfl
  | 2,_=>rfl
  | 3,_=>rfl
  | 4,_=>rfl
 rintro e w4 ⟨j,_,rfl,hS4,hg4⟩;have hs3:w.heap.size < w3.heap.size:=(gl HK3.out);have HK4:Hid (Bx w4 w.heap.size #[.int .i64 0,.string ByteArray.empty,.int .i64 0] 130):=((hg4.block w.heap.size (by simp;omega) (fun e=>by have:=Option.some.inj e;omega)).trans (hb3.block _ hs3)).trans HK3.out;have HG4:Hid (w.grownBy w4 (Option.some B)):=xC HG3.out (xC (kV hb3) hg4);have HS4:=hid hS4;clear hS4 hg4 hb3;obtain ⟨⟨x0,f0⟩,⟨x1',f1⟩,⟨x2,f2⟩,hk5,hg5⟩:=blk_three HK4.out (.int .i64 (1+x)) (.string (dkey k)) (.int .i64 (dnum j));have y0:(((w4.setCell ⟨w.heap.size,0,none⟩ (.int .i64 (1+x))).setCell ⟨w.heap.size,1,none⟩ (.string (dkey k))).setCell ⟨w.heap.size,2,none⟩ (.int .i64 (dnum j))).cell? ⟨w.heap.size,0,none⟩=Option.some (.int .i64 (1+x)):=by rw [cell_of_row _ w.heap.size 0 _ _ (0,0) hk5];rfl
 have y1:(((w4.setCell ⟨w.heap.size,0,none⟩ (.int .i64 (1+x))).setCell ⟨w.heap.size,1,none⟩ (.string (dkey k))).setCell ⟨w.heap.size,2,none⟩ (.int .i64 (dnum j))).cell? ⟨w.heap.size,1,none⟩=Option.some (.string (dkey k)):=by rw [cell_of_row _ w.heap.size 1 _ _ (0,0) hk5];rfl
 have y2:(((w4.setCell ⟨w.heap.size,0,none⟩ (.int .i64 (1+x))).setCell ⟨w.heap.size,1,none⟩ (.string (dkey k))).setCell ⟨w.heap.size,2,none⟩ (.int .i64 (dnum j))).cell? ⟨w.heap.size,2,none⟩=Option.some (.int .i64 (dnum j)):=by rw [cell_of_row _ w.heap.size 2 _ _ (0,0) hk5];rfl
 have HG5:Hid (w4.grownBy (((w4.setCell ⟨w.heap.size,0,none⟩ (.int .i64 (1+x))).setCell ⟨w.heap.size,1,none⟩ (.string (dkey k))).setCell ⟨w.heap.size,2,none⟩ (.int .i64 (dnum j))) (Option.some w.heap.size)):=hg5;clear hk5 hg5;go_wp2;refine bodyPost_ret (v:=.agg #[_,_,_]) (by simp [results,Tryz.results149,go_sem,y0,y1,y2];exact ⟨rfl,rfl,rfl⟩) rfl ?_;refine ⟨(1+x,dkey k,dnum j),rfl,?_,dkey_size k,HS4.out.other HG5.out (by omega) (fun hl e=>by have:=H.out.code.lt hl;omega),yT HG4.out (nl _) HG5.out⟩;rw [cmdB_rest ⟨by simp only;omega,by simp only;omega⟩ (dkey_ok k)];exact dnum_ok j
theorem blockAtFrom_in (x:BK) (u:List BK):∀ (t:List BK) (k:Nat),x∈t->yW x (t ++ u) k=yW x t k
 | [],_,h=>by cases h
 | y :: t,k,h=>by
  rw [List.cons_append];unfold yW
  by_cases e:y=x
  ·rw [if_pos e,if_pos e]
  ·rw [if_neg e,if_neg e];exact blockAtFrom_in x u t (k+1) ((List.mem_cons.1 h).resolve_left fun h=>e h.symm)
theorem blockAtFrom_out (x:BK) (u:List BK):∀ (t:List BK) (k:Nat),x ∉ t->yW x (t ++ u) k=yW x u (k+t.length)
 | [],k,_=>by simp
 | y :: t,k,h=>by
  rw [List.cons_append];have e:¬ y=x:=fun e=>h (by rw [e];exact List.mem_cons_self)
  conv=>lhs;unfold yW
  rw [if_neg e,blockAtFrom_out x u t (k+1) fun h'=>h (List.mem_cons_of_mem _ h'),List.length_cons];rw [show k+1+t.length=k+(t.length+1) by omega]
theorem blockAt_in {t u:List BK} {x:BK} (h:x∈t):kI (t ++ u) x=kI t x:=blockAtFrom_in x u t 0 h
theorem blockAt_new {t:List BK} {x:BK} (h:x ∉ t):kI (t ++ [x]) x=(t.length:Int):=by
 unfold kI;rw [blockAtFrom_out x _ t 0 h];simp [yW]
theorem blockAt_out {t:List BK} {x:BK} (h:x ∉ t):kI t x=-1:=by
 rcases blockAt_cases t x with h1 | ⟨j,hj,_,h2,_⟩
 ·exact h1.1
 ·exact absurd (by rw [<- h2];exact List.getElem_mem hj) h
theorem treeB_inv {t:List BK} (h:treeB t=true):inB (t.length:Int) 1 60=true/\headB t=kE/\treeTo t t.length:=by
 unfold treeB at h;simp only [Bool.and_eq_true,decide_eq_true_eq] at h;refine ⟨h.1,h.2.1,fun i hi h0=>?_⟩;have:=List.all_eq_true.1 h.2.2 i (List.mem_range.2 hi)
 simpa [h0] using this
theorem inB_iff {x lo hi:Int}:inB x lo hi=true↔lo<=x/\x<=hi:=by unfold inB;simp
theorem treeB_push {t:List BK} {b:BK} (h:treeB t=true) (hb:xV t b=true) (hn:b ∉ t) (hl:t.length < 60):treeB (t ++ [b])=true:=by
 obtain ⟨h0,h1,h2⟩:=treeB_inv h;have hp:=inB_iff.1 h0;refine treeB_all (inB_iff.2 ⟨by simp;omega,by simp;omega⟩) ?_ fun i hi hi0=>?_
 ·rw [<- h1];unfold headB;rw [List.getElem?_append_left (by omega)]
 ·simp at hi
  by_cases e:i < t.length
  ·have:=h2 i e hi0;unfold treeAt at this ⊢;rw [List.getElem?_append_left e,List.take_append_of_le_length (by omega)];rw [List.getElem?_eq_getElem e] at this ⊢;simp only at this ⊢;rw [blockAt_in (List.getElem_mem e)];exact this
  ·have e:i=t.length:=by omega
   subst e;unfold treeAt;rw [List.getElem?_append_right (nl _)];simp [hb,blockAt_new hn]
theorem put_new_of {t:List BK} {b:BK} (hb:xV t b=true) (hn:b ∉ t) (hl:t.length < 60):zBE t b=(t.length:Int)/\zGE t b=t ++ [b]:=
 put_new (by rw [blockAt_out hn];decide) fun h=>h.elim (fun h=>by rw [hb] at h;cases h) (fun h=>by omega)
def onB (t:List BK) (k:Nat) (more:Int) (l:List CM) (ph:Int):BK:=(((k:Int),yR t k+more),(l,(if k=0 then 0 else ph,yR t k,(k:Int),if k=0 then 0 else 7)))
def smallC (l:List CM):Prop:=l.length<=4/\∀ c∈l,zAF c=true/\c.2.1.size<=3
structure Drw (t:List BK) (n:Nat):Prop where
 tree:treeB t=true
 len:t.length<=n
 views:∀ i (h:i < t.length),0<=t[i].1.2/\t[i].1.2<=2 * (i:Int)
 near:∀ b∈t,b=kE∨∃ p,∃ _:p < t.length,b.1.1=(p:Int)/\b.1.2<=yR t p+2
 small:∀ b∈t,smallC b.2.1
theorem Drw.pos {t:List BK} {n:Nat} (h:Drw t n):0 < t.length:=by have:=inB_iff.1 (treeB_inv h.tree).1;omega
theorem Drw.le {t:List BK} {n m:Nat} (h:Drw t n) (hm:n<=m):Drw t m:=⟨h.tree,by have:=h.len;omega,h.views,h.near,h.small⟩
theorem viewAt_app {t u:List BK} {p:Nat} (h:p < t.length):yR (t ++ u) p=yR t p:=by
 unfold yR;rw [List.getElem?_append_left (by omega)]
theorem onB_ok {t:List BK} {k:Nat} {more:Int} {l:List CM} {ph:Int} (hk:k < t.length) (hm:1<=more) (hv:yR t k+more<=900) (hl:smallC l):xV t (onB t k more l ph)=true:=by
 rw [blockB_all (inB_iff.2 ⟨by show (0:Int)<=(k:Int);omega,by show (k:Int)<=_;omega⟩) (by show yR t (k:Int) < yR t (k:Int)+more;omega) hv hl.1 (fun j hj _=>(hl.2 _ (List.getElem_mem hj)).1)];simp [onB]
theorem Drw.put {t:List BK} {n k:Nat} {more:Int} {l:List CM} {ph:Int} (h:Drw t n) (hk:k < t.length) (h1:1<=more) (h2:more<=2) (hl:smallC l) (hn:n < 50):Drw (zGE t (onB t k more l ph)) (n+1):=by
 have hv:=h.views k hk;have hat:=viewAt_at hk;have hlen:=h.len;have hok:xV t (onB t k more l ph)=true:=onB_ok hk h1 (by rw [hat];omega) hl
 by_cases hin:onB t k more l ph∈t
 ·have:zGE t (onB t k more l ph)=t:=by
   refine (put_there ?_).2
   rcases blockAt_cases t (onB t k more l ph) with h3 | ⟨j,_,h3,_⟩
   ·exact absurd hin h3.2
   ·rw [h3];omega
  rw [this];exact h.le (by omega)
 ·rw [(put_new_of hok hin (by omega)).2];refine ⟨treeB_push h.tree hok hin (by omega),by simp;omega,fun i hi=>?_,fun x hx=>?_,fun x hx=>?_⟩
  ·by_cases e:i < t.length
   ·rw [List.getElem_append_left e];exact h.views i e
   ·have e:i=t.length:=by simp at hi;omega
    subst e;rw [List.getElem_append_right (nl _)];simp only [Nat.sub_self,List.getElem_cons_zero];show 0<=yR t (k:Int)+more/\yR t (k:Int)+more<=_;rw [hat];omega
  ·rcases List.mem_append.1 hx with hx | hx
   ·rcases h.near x hx with e | ⟨p,hp,e1,e2⟩
    ·exact Or.inl e
    ·exact Or.inr ⟨p,by simp;omega,e1,by rw [viewAt_app hp];exact e2⟩
   ·simp at hx;subst hx;refine Or.inr ⟨k,by simp;omega,rfl,?_⟩;rw [viewAt_app hk];show yR t (k:Int)+more<=_;omega
  ·rcases List.mem_append.1 hx with hx | hx
   ·exact h.small x hx
   ·simp at hx;subst hx;exact hl
theorem Drw.far {t:List BK} {n:Nat} (h:Drw t n) {b:BK} {k:Nat} (hk:b.1.1=(k:Int)) (hv:b.1.2=yR t k+3):b ∉ t:=fun hb=>by
 rcases h.near b hb with e | ⟨p,_,e1,e2⟩
 ·rw [e] at hk;have:(-1:Int)=(k:Int):=hk;omega
 ·have:p=k:=by omega
  subst this;omega
theorem xH.st {w w':World} {base B:Nat} {v:Value} {ps:TL} (h:xH w base v ps) (hg:w.grownBy w' (Option.some B)) (hB:B < base):xH w' base v ps:=
 h.same fun g hgb hl=>hg.block g hl fun e=>by have:=Option.some.inj e;omega
structure OwnU (w:World) (base:Nat) (v:Value) (ps:TL):Prop where
 row:w.ownsRow base 76 7 v ps.length (zE yEE ps)
 cmds:∀ p∈ps,w.ownsRow base 130 3 p.2 p.1.2.1.length (zE kL p.1.2.1)
theorem xH.u {w:World} {base:Nat} {v:Value} {ps:TL} (h:xH w base v ps):OwnU w base v ps:=⟨h.row,h.cmds⟩
theorem OwnU.read {w:World} {base:Nat} {v:Value} {ps:TL} (h:OwnU w base v ps):zID w v ps:=⟨zW zDB h.row,fun p hp=>zW kC (h.cmds p hp),zJB h.row⟩
theorem OwnU.same {w w':World} {base:Nat} {v:Value} {ps:TL} (h:OwnU w base v ps) (hk:∀ g,base<=g->g < w.heap.size->w'.heap[g]?=w.heap[g]?):OwnU w' base v ps:=
 ⟨own_same h.row fun g hg=>hk g (h.row.lt g hg).1 (h.row.lt g hg).2,fun p hp=>own_same (h.cmds p hp) fun g hg=>hk g ((h.cmds p hp).lt g hg).1 ((h.cmds p hp).lt g hg).2⟩
theorem OwnU.below {w w':World} {base:Nat} {v:Value} {ps:TL} (h:OwnU w base v ps) (hb:Below w.heap.size w w'):OwnU w' base v ps:=h.same fun g _ hg=>hb.block g hg
theorem OwnU.st {w w':World} {base B:Nat} {v:Value} {ps:TL} (h:OwnU w base v ps) (hg:w.grownBy w' (Option.some B)) (hB:B < base):OwnU w' base v ps:=
 h.same fun g hgb hl=>hg.block g hl fun e=>by have:=Option.some.inj e;omega
theorem OwnU.base {w:World} {base base':Nat} {v:Value} {ps:TL} (h:OwnU w base v ps) (hb:base'<=base):OwnU w base' v ps:=⟨zN h.row hb,fun p hp=>zN (h.cmds p hp) hb⟩
def BT (t:List BK) (n:Nat):Prop:=0 < t.length/\t.length<=n/\∀ b∈t,b.2.1.length<=5/\(∀ c∈b.2.1,c.2.1.size<=4)/\0<=b.1.2/\b.1.2<=1000
theorem Drw.bt {t:List BK} (h:Drw t 9):BT t 9:=⟨h.pos,h.len,fun b hb=>by
 have hs:=h.small b hb;obtain ⟨i,hi,rfl⟩:=List.mem_iff_getElem.1 hb;have hv:=h.views i hi;have hl:=h.len
 exact ⟨by have:=hs.1;omega,fun c hc=>by have:=(hs.2 c hc).2;omega,hv.1,by omega⟩⟩
theorem BT.ok {t:List BK} {n:Nat} (h:BT t n) (hn:n<=1000):okT t:=⟨by have:=h.2.1;omega,fun b hb=>⟨by have:=(h.2.2 b hb).1;omega,fun c hc=>by have:=(h.2.2 b hb).2.1 c hc;omega⟩⟩
theorem BT.le {t:List BK} {n m:Nat} (h:BT t n) (hm:n<=m):BT t m:=⟨h.1,by have:=h.2.1;omega,h.2.2⟩
theorem BT.set {L:TL} {n k:Nat} {p:BK × Value} (h:BT (bks L) n) (hp:p.1.2.1.length<=5/\(∀ c∈p.1.2.1,c.2.1.size<=4)/\0<=p.1.1.2/\p.1.1.2<=1000):BT (bks (L.set k p)) n:=by
 refine ⟨by rw [yO,List.length_set,<- yO];exact h.1,by rw [yO,List.length_set,<- yO];exact h.2.1,fun b hb=>?_⟩;obtain ⟨q,hq,rfl⟩:=List.mem_map.1 hb
 rcases List.mem_or_eq_of_mem_set hq with h1 | rfl
 ·exact h.2.2 _ (List.mem_map.2 ⟨q,h1,rfl⟩)
 ·exact hp
theorem BT.at {L:TL} {n k:Nat} (h:BT (bks L) n) (hk:k < L.length):L[k].1.2.1.length<=5/\(∀ c∈L[k].1.2.1,c.2.1.size<=4)/\0<=L[k].1.1.2/\L[k].1.1.2<=1000:=h.2.2 _ (List.mem_map.2 ⟨L[k],List.getElem_mem hk,rfl⟩)
theorem own_blk {w:World} {base g n cap k:Nat} {L:TL} {e:TypeId} (h:w.ownsRow base e 7 (.slice (some ⟨g,0,none⟩) n cap) n (zE yEE L)) (hn:n=L.length) (hk:k < L.length) :
  w.cell? ⟨g,k * 7,none⟩=some (.int .i64 L[k].1.1.1)/\w.cell? ⟨g,k * 7+1,none⟩=some (.int .i64 L[k].1.1.2)/\w.cell? ⟨g,k * 7+2,none⟩=some L[k].2/\w.cell? ⟨g,k * 7+3,none⟩=some (.int .i64 L[k].1.2.2.1)/\w.cell? ⟨g,k * 7+4,none⟩=some (.int .i64 L[k].1.2.2.2.1)/\w.cell? ⟨g,k * 7+5,none⟩=some (.int .i64 L[k].1.2.2.2.2.1)/\w.cell? ⟨g,k * 7+6,none⟩=some (.int .i64 L[k].1.2.2.2.2.2):=by
 subst hn;refine ⟨?_,?_,?_,?_,?_,?_,?_⟩
 ·have:=(zDG h (k * 7+0) (by omega)).1.trans (jY zDB L k hk 0 (by omega));exact this
 ·exact (zDG h (k * 7+1) (by omega)).1.trans (jY zDB L k hk 1 (by omega))
 ·exact (zDG h (k * 7+2) (by omega)).1.trans (jY zDB L k hk 2 (by omega))
 ·exact (zDG h (k * 7+3) (by omega)).1.trans (jY zDB L k hk 3 (by omega))
 ·exact (zDG h (k * 7+4) (by omega)).1.trans (jY zDB L k hk 4 (by omega))
 ·exact (zDG h (k * 7+5) (by omega)).1.trans (jY zDB L k hk 5 (by omega))
 ·exact (zDG h (k * 7+6) (by omega)).1.trans (jY zDB L k hk 6 (by omega))
def RowE (w:World) (p:Addr) (base:Nat) (v:Value) (xs:List VT):Prop:=(v=.slice (some p) 0 0/\xs=[])∨w.ownsRow base 28 4 v xs.length (zE xD xs)
theorem RowE.kept {w w':World} {p:Addr} {base:Nat} {v:Value} {xs:List VT} {r:Option Nat} (h:RowE w p base v xs) (hg:w.grownBy w' r) (hr:∀ g,r=some g->g < base):RowE w' p base v xs:=by
 rcases h with h | h
 ·exact Or.inl h
 ·refine Or.inr (World.ownsRow.kept h hg ?_)
  cases e:v.ownBlock with
  | none=>exact Or.inl rfl
  | some g=>exact Or.inr fun e2=>by have:=(h.lt g e).1;have:=hr g e2.symm;omega
theorem RowE.below {w w':World} {p:Addr} {base:Nat} {v:Value} {xs:List VT} (h:RowE w p base v xs) (hb:Below w.heap.size w w'):RowE w' p base v xs:=by
 rcases h with h | h
 ·exact Or.inl h
 ·exact Or.inr (zS h hb)
theorem RowE.far {w w':World} {p:Addr} {base N:Nat} {v:Value} {xs:List VT} (h:RowE w p base v xs) (hg:w.grownBy w' (some N)) (hN:w.heap.size<=N∨∀ g,v.ownBlock=some g->g ≠ N):RowE w' p base v xs:=by
 rcases h with h | h
 ·exact Or.inl h
 ·refine Or.inr (World.ownsRow.kept h hg ?_)
  cases e:v.ownBlock with
  | none=>exact Or.inl rfl
  | some g=>
   refine Or.inr fun e2=>?_
   have e3:=Option.some.inj e2
   rcases hN with hN | hN
   ·have:=(h.lt g e).2;omega
   ·exact hN g e e3
theorem zIH {x:Int} (h0:-9223372036854775808<=x) (h1:x<=9223372036854775807):(Lit.int .i64 x).wf=true:=by
 have:=wrap64_wf x;rw [wrap64_fit h0 h1] at this;exact this
def VD (t:List BK) (x:VT):Prop:=(1<=x.1/\x.1<=4)/\(0<=x.2.1/\x.2.1<=1000)/\(0<=x.2.2.1/\x.2.2.1 < (t.length:Int))/\(0<=x.2.2.2/\x.2.2.2<=7)
theorem VD.wf {t:List BK} {x:VT} (h:VD t x) (ht:t.length<=1000):wfV x:=by
 obtain ⟨h1,h2,h3,h4⟩:=h;exact ⟨zIH (by omega) (by omega),zIH (by omega) (by omega),zIH (by omega) (by omega),zIH (by omega) (by omega)⟩
theorem vote7_st {w:World} {B base:Nat} {ao:Option Addr} {len cap b off:Nat} {v:Value} {qs:TL} {n:Nat} (h:St w B ao len cap b off) (ho:OwnU w base v qs) (hB:B < base) (hbt:BT (bks qs) n) (hn:n<=1000) :
  Calls Tryz.prog 136 #[.pointer (Option.some ⟨B,0,none⟩),v] w fun e w'=>∃ x:VT,e=.returned (voteV x)/\VD (bks qs) x/\St w' B ao len cap b off/\w.grownBy w' (Option.some B):=by
 have H:=hid h;have hBw:=h.cur.lt;have HO:=hid ho;have HBT:=hid hbt;have hqp:0 < qs.length:=by have:=hbt.1;rw [yO] at this;exact this
 have hqn:qs.length<=1000:=by have:=hbt.2.1;rw [yO] at this;omega
 obtain ⟨a1,c1,h4,hz⟩:=yL ho.row;subst h4;obtain ⟨g,rfl⟩:=hz hqp;clear h ho hbt hz;have hb:Below w.heap.size w (w.alloc (.cells #[.int .i64 0,.int .i64 0,.int .i64 0,.int .i64 0] 28)):=(br _ _).alloc (nl _) _;have HB0:Hid (Below w.heap.size w (w.alloc (.cells #[.int .i64 0,.int .i64 0,.int .i64 0,.int .i64 0] 28))):=hb;clear hb;go_enter Tryz.func136,Tryz.ntmps136;go_wp2_with fail
 refine (xO 4 (by omega) (by omega) (H.out.below HB0.out)).mono ?_;rintro e w2 ⟨x,rfl,hx0,hx1,hS,hg⟩;have HS2:=hid hS;have HK2:Hid (Bx w2 w.heap.size #[.int .i64 0,.int .i64 0,.int .i64 0,.int .i64 0] 28):=(hg.block w.heap.size (by simp) (fun e=>by have:=Option.some.inj e;omega)).trans (heap_alloc_new w _);have HG2:Hid (w.grownBy w2 (Option.some B)):=xC (kV HB0.out) hg;clear hS hg;go_wp2_with fail
 refine (xO 4 (by omega) (by omega) HS2.out).mono ?_;rintro e w3 ⟨y,rfl,hy0,hy1,hS,hg⟩;have hs2:w.heap.size < w2.heap.size:=(gl HK2.out);have HS3:=hid hS;have HK3:Hid (Bx w3 w.heap.size #[.int .i64 0,.int .i64 0,.int .i64 0,.int .i64 0] 28):=(hg.block w.heap.size hs2 (fun e=>by have:=Option.some.inj e;omega)).trans HK2.out;have HG3:Hid (w.grownBy w3 (Option.some B)):=xC HG2.out hg;clear hS hg;go_wp2_with fail
 refine (xO (qs.length:Int) (by omega) (by omega) HS3.out).mono ?_;rintro e w4 ⟨z,rfl,hz0,hz1,hS,hg⟩;have hs3:w.heap.size < w3.heap.size:=(gl HK3.out);have HS4:=hid hS;have HK4:Hid (Bx w4 w.heap.size #[.int .i64 0,.int .i64 0,.int .i64 0,.int .i64 0] 28):=(hg.block w.heap.size hs3 (fun e=>by have:=Option.some.inj e;omega)).trans HK3.out;have HG4:Hid (w.grownBy w4 (Option.some B)):=xC HG3.out hg;clear hS hg;obtain ⟨k,rfl⟩:=Int.eq_ofNat_of_zero_le hz0;have hk:k < qs.length:=by omega
 have HO4:Hid (OwnU w4 base (.slice (some ⟨g,0,none⟩) qs.length c1) qs):=HO.out.st HG4.out hB;have y1:w4.cell? ⟨g,k * 7+1,none⟩=some (.int .i64 qs[k].1.1.2):=(own_blk HO4.out.row rfl hk).2.1
 have hvw:0<=qs[k].1.1.2/\qs[k].1.1.2<=1000:=by
  have h1:=HBT.out.2.2 qs[k].1 (by unfold bks;exact List.mem_map_of_mem (List.getElem_mem hk));exact h1.2.2
 have HVD:Hid (VD (bks qs) (1+x,qs[k].1.1.2,(k:Int),y)):=⟨⟨by simp only;omega,by simp only;omega⟩,hvw,⟨hz0,by simp only [yO];omega⟩,⟨hy0,by simp only;omega⟩⟩;obtain ⟨⟨a0,f0⟩,⟨a1',f1⟩,⟨a2,f2⟩,⟨a3,f3⟩,hk5,hg5⟩:=blk_four HK4.out (.int .i64 (1+x)) (.int .i64 qs[k].1.1.2) (.int .i64 (k:Int)) (.int .i64 y);obtain ⟨z0,z1,z2,z3⟩:=zZ hk5;have HG5:Hid (w4.grownBy _ (Option.some w.heap.size)):=hg5;clear hk5 hg5 hvw;go_wp2;refine bodyPost_ret (v:=.agg #[.int .i64 (1+x),.int .i64 qs[k].1.1.2,.int .i64 (k:Int),.int .i64 y]) (by simp [results,Tryz.results136,go_sem,z0,z1,z2,z3]) rfl ?_;exact ⟨(1+x,qs[k].1.1.2,(k:Int),y),rfl,HVD.out,HS4.out.other HG5.out (by omega) (fun hl e=>by have:=H.out.code.lt hl;omega),yT HG4.out (nl _) HG5.out⟩
structure VI (w:World) (B:Nat) (ao:Option Addr) (len cap b off:Nat) (V:Nat) (xs:Array Value) (o:Value) (l:List VT) (wr:World):Prop where
 st:St wr B ao len cap b off
 row:RowE wr ⟨w.heap.size,0,none⟩ (V+1) o l
 box:Bx wr V xs 28
 emp:Bx wr w.heap.size #[] 28
 grown:w.grownBy wr (some B)
 lt:B < w.heap.size
 lt2:w.heap.size < V
 cl:0 < len->b < w.heap.size
theorem VI.vlt {w:World} {B:Nat} {ao:Option Addr} {len cap b off:Nat} {V:Nat} {xs:Array Value} {o:Value} {l:List VT} {wr:World} (h:VI w B ao len cap b off V xs o l wr):V < wr.heap.size:=(gl h.box)
theorem VI.step {w:World} {B:Nat} {ao:Option Addr} {len cap b off:Nat} {V:Nat} {xs:Array Value} {o:Value} {l:List VT} {wr w':World} (h:VI w B ao len cap b off V xs o l wr) (hS:St w' B ao len cap b off) (hg:wr.grownBy w' (some B)):VI w B ao len cap b off V xs o l w':=
 ⟨hS,h.row.kept hg (fun g e=>by cases e;have:=h.lt;have:=h.lt2;omega),(hg.block _ h.vlt (fun e=>by have:=Option.some.inj e;have:=h.lt;have:=h.lt2;omega)).trans h.box,(hg.block _ (by have:=h.vlt;have:=h.lt2;omega) (fun e=>by have:=Option.some.inj e;have:=h.lt;omega)).trans h.emp,xC h.grown hg,h.lt,h.lt2,h.cl⟩
theorem VI.below {w:World} {B:Nat} {ao:Option Addr} {len cap b off:Nat} {V:Nat} {xs:Array Value} {o:Value} {l:List VT} {wr w':World} (h:VI w B ao len cap b off V xs o l wr) (hb:Below wr.heap.size wr w'):VI w B ao len cap b off V xs o l w':=
 ⟨h.st.below hb,h.row.below hb,(hb.block _ h.vlt).trans h.box,(hb.block _ (by have:=h.vlt;have:=h.lt2;omega)).trans h.emp,xC h.grown (kV hb),h.lt,h.lt2,h.cl⟩
theorem VI.other {w:World} {B:Nat} {ao:Option Addr} {len cap b off:Nat} {V:Nat} {xs:Array Value} {o:Value} {l:List VT} {wr w':World} {N:Nat} (h:VI w B ao len cap b off V xs o l wr) (hg:wr.grownBy w' (some N)) (hN:V < N) (hr:∀ g,o.ownBlock=some g->g ≠ N):VI w B ao len cap b off V xs o l w':=by
 have h1:=h.lt;have h2:=h.lt2;have h3:=h.vlt;exact ⟨h.st.other hg (by omega) (fun hl e=>by have:=h.cl hl;omega),h.row.far hg (Or.inr hr),(hg.block _ h3 (fun e=>by have:=Option.some.inj e;omega)).trans h.box,(hg.block _ (by omega) (fun e=>by have:=Option.some.inj e;omega)).trans h.emp,yT h.grown (by omega) hg,h1,h2,h.cl⟩
theorem VI.far {w:World} {B:Nat} {ao:Option Addr} {len cap b off:Nat} {V:Nat} {xs:Array Value} {o:Value} {l:List VT} {wr:World} (h:VI w B ao len cap b off V xs o l wr):∀ g,o.ownBlock=some g->g ≠ wr.heap.size:=fun g hg=>by
 have h2:=h.lt2;have h3:=h.vlt
 rcases h.row with ⟨e,_⟩ | hr
 ·rw [e] at hg;have:=Option.some.inj (show some w.heap.size=some g from hg);omega
 ·have:=(hr.lt g hg).2;omega
theorem VI.push {w:World} {B:Nat} {ao:Option Addr} {len cap b off:Nat} {V:Nat} {xs:Array Value} {o o':Value} {l:List VT} {wr w':World} {r:Option Nat} {y:VT} (h:VI w B ao len cap b off V xs o l wr) (hown:w'.ownsRow (V+1) 28 4 o' (l.length+1) (zE xD l ++ xD y)) (hg:wr.grownBy w' r) (hr:∀ g,r=some g->V+1<=g):VI w B ao len cap b off V xs o' (l ++ [y]) w':=by
 have h1:=h.lt;have h2:=h.lt2;have h3:=h.vlt;refine ⟨h.st.row hg (fun g e=>by have:=hr g e;omega) (fun hl g e=>by have:=h.cl hl;have:=hr g e;omega),Or.inr (by rw [zY,List.length_append];exact hown),(hg.block _ h3 (fun e=>by have:=hr _ e.symm;omega)).trans h.box,(hg.block _ (by omega) (fun e=>by have:=hr _ e.symm;omega)).trans h.emp,?_,h1,h2,h.cl⟩;exact grown_row h.grown (br _ _) hg (fun g e=>by have:=hr g e;omega)
theorem VI.own {w:World} {B:Nat} {ao:Option Addr} {len cap b off:Nat} {V:Nat} {xs:Array Value} {o:Value} {l:List VT} {wr:World} (h:VI w B ao len cap b off V xs o l wr):wr.ownsRow w.heap.size 28 4 o l.length (zE xD l):=by
 rcases h.row with ⟨e,e2⟩ | hr
 ·subst e2;rw [e]
  exact own_same (yH w 28 4) fun g hg=>by
   have e3:=Option.some.inj (show some w.heap.size=some g from hg);subst e3;rw [h.emp];exact (heap_alloc_new w _).symm
 ·exact zN hr (by have:=h.lt2;omega)
theorem zEE (a b c d:Int):(#[Value.int .i64 a,.int .i64 b,.int .i64 c,.int .i64 d]).all (·.oneCell')=true:=by simp [Value.oneCell']
theorem wfV_of {a b c d:Int} (h0:-9223372036854775808<=a/\a<=9223372036854775807) (h1:-9223372036854775808<=b/\b<=9223372036854775807) (h2:-9223372036854775808<=c/\c<=9223372036854775807) (h3:-9223372036854775808<=d/\d<=9223372036854775807):wfV (a,b,c,d):=⟨zIH h0.1 h0.2,zIH h1.1 h1.2,zIH h2.1 h2.2,zIH h3.1 h3.2⟩
def intsA (xs:List Int):Array Value:=(xs.map fun x=>Value.int .i64 x).toArray
theorem pickL_st {w:World} {B L:Nat} {ao:Option Addr} {len cap b off:Nat} (xs:List Int) (hn:0 < xs.length) (hn2:xs.length<=1000) (h:St w B ao len cap b off) (hL:L ≠ B) {t:TypeId} (hc:w.heap[L]?=Option.some (.cells (intsA xs) t (0,0))) :
  Calls Tryz.prog 56 #[.pointer (Option.some ⟨B,0,none⟩),.slice (Option.some ⟨L,0,none⟩) xs.length xs.length] w fun e w'=>∃ z,z∈xs/\e=.returned (.int .i64 z)/\St w' B ao len cap b off/\w.grownBy w' (Option.some B):=by
 refine (pickI_st (fun k=>xs.getD k 0) xs.length hn hn2 h hL (gl hc) (fun k hk=>?_)).mono ?_
 ·rw [cell_of_row _ L k _ _ (0,0) hc];unfold intsA;simp [hk]
 ·rintro e w' ⟨k,hk,rfl,hS,hg⟩;exact ⟨_,by simp [hk],rfl,hS,hg⟩
theorem any7_st {w:World} {B base:Nat} {ao:Option Addr} {len cap b off:Nat} {v:Value} {qs:TL} {n:Nat} (h:St w B ao len cap b off) (ho:OwnU w base v qs) (hB:B < base) (hbt:BT (bks qs) n) (hn:n<=1000) :
  Calls Tryz.prog 99 #[.pointer (Option.some ⟨B,0,none⟩),v] w fun e w'=>∃ x:VT,e=.returned (voteV x)/\wfV x/\St w' B ao len cap b off/\w.grownBy w' (Option.some B):=by
 have H:=hid h;have hBw:=h.cur.lt;have HCL:Hid (0 < len->b < w.heap.size):=h.code.lt;have HO:=hid ho;have HBT:=hid hbt;have hbn:=hbt.2.1;clear h ho hbt;obtain ⟨W0,hW0⟩:∃ W0,W0=w.alloc (.cells #[.int .i64 0,.int .i64 0,.int .i64 0,.int .i64 0] 28):=⟨_,rfl⟩;have HB0:Hid (Below w.heap.size w W0):=hid (by rw [hW0];exact (br _ _).alloc (nl _) _);have HE0:Hid (Bx W0 w.heap.size #[.int .i64 0,.int .i64 0,.int .i64 0,.int .i64 0] 28):=(by rw [hW0];exact heap_alloc_new w _:W0.heap[w.heap.size]?=_);go_enter Tryz.func99,Tryz.ntmps99;go_wp2_with fail
 rw [<- hW0];clear hW0;refine (xO 10 (by omega) (by omega) (H.out.below HB0.out)).mono ?_;rintro e w1 ⟨kk,rfl,hk0,hk1,hS,hg⟩;have HS1:=hid hS;have HE1:Hid (Bx w1 w.heap.size #[.int .i64 0,.int .i64 0,.int .i64 0,.int .i64 0] 28):=(hg.block _ (gl HE0.out) (fun e=>by have:=Option.some.inj e;omega)).trans HE0.out;have HG1:Hid (w.grownBy w1 (Option.some B)):=xC (kV HB0.out) hg;clear hS hg HE0 HB0;go_wp2_with fail
 refine (xO 60 (by omega) (by omega) HS1.out).mono ?_;rintro e w2 ⟨x,rfl,hx0,hx1,hS,hg⟩;have HS2:=hid hS;have HE2:Hid (Bx w2 w.heap.size #[.int .i64 0,.int .i64 0,.int .i64 0,.int .i64 0] 28):=(hg.block _ (gl HE1.out) (fun e=>by have:=Option.some.inj e;omega)).trans HE1.out;have HG2:Hid (w.grownBy w2 (Option.some B)):=xC HG1.out hg;clear hS hg HS1 HE1 HG1;go_wp2_with fail
 refine (vote7_st HS2.out (HO.out.st HG2.out hB) hB HBT.out hn).mono ?_;rintro e w3 ⟨⟨t0,t1,t2,t3⟩,rfl,hvd,hS,hg⟩;unfold voteV;simp only;obtain ⟨d0,d1,d2,d3⟩:=hvd;simp only at d0 d1 d2 d3;have HD:Hid ((1<=t0/\t0<=4)/\(0<=t1/\t1<=1000)/\(0<=t2/\t2 < 1000)/\(0<=t3/\t3<=7)):=⟨d0,d1,⟨d2.1,by omega⟩,d3⟩;have HS3:=hid hS;have HE3:Hid (Bx w3 w.heap.size #[.int .i64 0,.int .i64 0,.int .i64 0,.int .i64 0] 28):=(hg.block _ (gl HE2.out) (fun e=>by have:=Option.some.inj e;omega)).trans HE2.out;have HG3:Hid (w.grownBy w3 (Option.some B)):=xC HG2.out hg;clear hS hg HS2 HE2 HG2 d0 d1 d2 d3;obtain ⟨W5,hW5⟩:∃ W5,W5=w3.alloc (.cells #[.int .i64 t0,.int .i64 t1,.int .i64 t2,.int .i64 t3] 28):=⟨_,rfl⟩;have HB5:Hid (Below w3.heap.size w3 W5):=hid (by rw [hW5];exact (br _ _).alloc (nl _) _);have HX5:Hid (Bx W5 w3.heap.size #[.int .i64 t0,.int .i64 t1,.int .i64 t2,.int .i64 t3] 28):=(by rw [hW5];exact heap_alloc_new w3 _:W5.heap[w3.heap.size]?=_);have lE:w.heap.size < w3.heap.size:=(gl HE3.out);have HE5:Hid (Bx W5 w.heap.size #[.int .i64 0,.int .i64 0,.int .i64 0,.int .i64 0] 28):=(HB5.out.block _ lE).trans HE3.out;have HS5:Hid (St W5 B ao len cap b off):=HS3.out.below HB5.out;have HG5:Hid (w.grownBy W5 (Option.some B)):=xC HG3.out (kV HB5.out);have lX:w3.heap.size < W5.heap.size:=(gl HX5.out);obtain ⟨X,hX⟩:∃ X,X=w3.heap.size:=⟨_,rfl⟩;rw [<- hX] at HX5 lE lX;clear HS3 HE3 HG3 HB5 HBT HO
 go_upto_region 4 with fail
 rw [<- hW5,<- hX];clear hW5 hX
 by_cases h0:kk=0
 ·have e0:(kk == 0)=true:=by simpa using h0
  obtain ⟨wd,hwd⟩:∃ wd,wd=W5.setCell ⟨X,0,none⟩ (.int .i64 (x % 6)):=⟨_,rfl⟩;obtain ⟨a0,a1,a2,a3⟩:=zZ HX5.out;have f0:W5.frozen? ⟨X,0,none⟩=false:=frozen_of_row _ X 0 _ _ HX5.out;have hgd:W5.grownBy wd (Option.some X):=by rw [hwd];exact yK _ X 0 _
  have hkd:Bx wd X #[.int .i64 (x % 6),.int .i64 t1,.int .i64 t2,.int .i64 t3] 28:=by rw [hwd];exact heap_setCell_same W5 X 0 _ _ _ HX5.out
  obtain ⟨k0,k1,k2,k3⟩:=zZ hkd;have HSd:Hid (St wd B ao len cap b off):=HS5.out.other hgd (by omega) (fun hl e=>by have:=HCL.out hl;omega);have HGd:Hid (w.grownBy wd (Option.some B)):=yT HG5.out (by omega) hgd;have HEd0:Bx wd w.heap.size #[.int .i64 0,.int .i64 0,.int .i64 0,.int .i64 0] 28:=(hgd.block _ (by omega) (fun e=>by have:=Option.some.inj e;omega)).trans HE5.out;have HEd:Hid ((W5.setCell ⟨X,0,none⟩ (.int .i64 (x % 6))).heap[w.heap.size]?=some (.cells #[.int .i64 0,.int .i64 0,.int .i64 0,.int .i64 0] 28 (0,0))):=(by rw [<- hwd];exact HEd0:(W5.setCell ⟨X,0,none⟩ (.int .i64 (x % 6))).heap[w.heap.size]?=_);rw [hwd] at k0 k1 k2 k3;obtain ⟨⟨p0,p1⟩,⟨p2,p3⟩,⟨p4,p5⟩,p6,p7⟩:=HD.out;clear h0 hgd hkd HEd0;go_wp2_with (refine w_st w.heap.size #[.int .i64 (x % 6),.int .i64 t1,.int .i64 t2,.int .i64 t3] HEd.out (zEE _ _ _ _) ?_;intro wg hgg hkg hsg;clear hsg;have HGG:Hid (wd.grownBy wg (Option.some w.heap.size)):=hid (by rw [hwd];exact hgg);obtain ⟨m0,m1,m2,m3⟩:=zZ hkg;clear hgg hkg)
  refine bodyPost_ret (v:=.agg #[.int .i64 (x % 6),.int .i64 t1,.int .i64 t2,.int .i64 t3]) (by simp [results,Tryz.results99,go_sem,m0,m1,m2,m3]) rfl ?_;exact ⟨(x % 6,t1,t2,t3),rfl,wfV_of (by omega) (by omega) (by omega) (by omega),HSd.out.other HGG.out (by omega) (fun hl e=>by have:=HCL.out hl;omega),yT HGd.out (nl _) HGG.out⟩
 have e0:(kk == 0)=false:=by simpa using h0
 clear h0
 by_cases h1:kk=1
 ·have e1:(kk == 1)=true:=by simpa using h1
  obtain ⟨wd,hwd⟩:∃ wd,wd=W5.setCell ⟨X,1,none⟩ (.int .i64 x):=⟨_,rfl⟩;obtain ⟨a0,a1,a2,a3⟩:=zZ HX5.out;have f0:W5.frozen? ⟨X,1,none⟩=false:=frozen_of_row _ X 1 _ _ HX5.out;have hgd:W5.grownBy wd (Option.some X):=by rw [hwd];exact yK _ X 1 _
  have hkd:Bx wd X #[.int .i64 t0,.int .i64 x,.int .i64 t2,.int .i64 t3] 28:=by rw [hwd];exact heap_setCell_same W5 X 1 _ _ _ HX5.out
  obtain ⟨k0,k1,k2,k3⟩:=zZ hkd;have HSd:Hid (St wd B ao len cap b off):=HS5.out.other hgd (by omega) (fun hl e=>by have:=HCL.out hl;omega);have HGd:Hid (w.grownBy wd (Option.some B)):=yT HG5.out (by omega) hgd;have HEd0:Bx wd w.heap.size #[.int .i64 0,.int .i64 0,.int .i64 0,.int .i64 0] 28:=(hgd.block _ (by omega) (fun e=>by have:=Option.some.inj e;omega)).trans HE5.out;have HEd:Hid ((W5.setCell ⟨X,1,none⟩ (.int .i64 x)).heap[w.heap.size]?=some (.cells #[.int .i64 0,.int .i64 0,.int .i64 0,.int .i64 0] 28 (0,0))):=(by rw [<- hwd];exact HEd0:(W5.setCell ⟨X,1,none⟩ (.int .i64 x)).heap[w.heap.size]?=_);rw [hwd] at k0 k1 k2 k3;obtain ⟨⟨p0,p1⟩,⟨p2,p3⟩,⟨p4,p5⟩,p6,p7⟩:=HD.out;clear h1 hgd hkd HEd0;go_wp2_with (refine w_st w.heap.size #[.int .i64 t0,.int .i64 x,.int .i64 t2,.int .i64 t3] HEd.out (zEE _ _ _ _) ?_;intro wg hgg hkg hsg;clear hsg;have HGG:Hid (wd.grownBy wg (Option.some w.heap.size)):=hid (by rw [hwd];exact hgg);obtain ⟨m0,m1,m2,m3⟩:=zZ hkg;clear hgg hkg)
  refine bodyPost_ret (v:=.agg #[.int .i64 t0,.int .i64 x,.int .i64 t2,.int .i64 t3]) (by simp [results,Tryz.results99,go_sem,m0,m1,m2,m3]) rfl ?_;exact ⟨(t0,x,t2,t3),rfl,wfV_of (by omega) (by omega) (by omega) (by omega),HSd.out.other HGG.out (by omega) (fun hl e=>by have:=HCL.out hl;omega),yT HGd.out (nl _) HGG.out⟩
 have e1:(kk == 1)=false:=by simpa using h1
 clear h1
 by_cases h2:kk=2
 ·have e2:(kk == 2)=true:=by simpa using h2
  obtain ⟨wd,hwd⟩:∃ wd,wd=W5.setCell ⟨X,2,none⟩ (.int .i64 (x % 70 - 1)):=⟨_,rfl⟩;obtain ⟨a0,a1,a2,a3⟩:=zZ HX5.out;have f0:W5.frozen? ⟨X,2,none⟩=false:=frozen_of_row _ X 2 _ _ HX5.out;have hgd:W5.grownBy wd (Option.some X):=by rw [hwd];exact yK _ X 2 _
  have hkd:Bx wd X #[.int .i64 t0,.int .i64 t1,.int .i64 (x % 70 - 1),.int .i64 t3] 28:=by rw [hwd];exact heap_setCell_same W5 X 2 _ _ _ HX5.out
  obtain ⟨k0,k1,k2,k3⟩:=zZ hkd;have HSd:Hid (St wd B ao len cap b off):=HS5.out.other hgd (by omega) (fun hl e=>by have:=HCL.out hl;omega);have HGd:Hid (w.grownBy wd (Option.some B)):=yT HG5.out (by omega) hgd;have HEd0:Bx wd w.heap.size #[.int .i64 0,.int .i64 0,.int .i64 0,.int .i64 0] 28:=(hgd.block _ (by omega) (fun e=>by have:=Option.some.inj e;omega)).trans HE5.out;have HEd:Hid ((W5.setCell ⟨X,2,none⟩ (.int .i64 (x % 70 - 1))).heap[w.heap.size]?=some (.cells #[.int .i64 0,.int .i64 0,.int .i64 0,.int .i64 0] 28 (0,0))):=(by rw [<- hwd];exact HEd0:(W5.setCell ⟨X,2,none⟩ (.int .i64 (x % 70 - 1))).heap[w.heap.size]?=_);rw [hwd] at k0 k1 k2 k3;obtain ⟨⟨p0,p1⟩,⟨p2,p3⟩,⟨p4,p5⟩,p6,p7⟩:=HD.out;clear h2 hgd hkd HEd0;go_wp2_with (refine w_st w.heap.size #[.int .i64 t0,.int .i64 t1,.int .i64 (x % 70 - 1),.int .i64 t3] HEd.out (zEE _ _ _ _) ?_;intro wg hgg hkg hsg;clear hsg;have HGG:Hid (wd.grownBy wg (Option.some w.heap.size)):=hid (by rw [hwd];exact hgg);obtain ⟨m0,m1,m2,m3⟩:=zZ hkg;clear hgg hkg)
  refine bodyPost_ret (v:=.agg #[.int .i64 t0,.int .i64 t1,.int .i64 (x % 70 - 1),.int .i64 t3]) (by simp [results,Tryz.results99,go_sem,m0,m1,m2,m3]) rfl ?_;exact ⟨(t0,t1,x % 70 - 1,t3),rfl,wfV_of (by omega) (by omega) (by omega) (by omega),HSd.out.other HGG.out (by omega) (fun hl e=>by have:=HCL.out hl;omega),yT HGd.out (nl _) HGG.out⟩
 have e2:(kk == 2)=false:=by simpa using h2
 clear h2
 by_cases h3:kk=3
 ·have e3:(kk == 3)=true:=by simpa using h3
  obtain ⟨wd,hwd⟩:∃ wd,wd=W5.setCell ⟨X,3,none⟩ (.int .i64 (x % 9 - 1)):=⟨_,rfl⟩;obtain ⟨a0,a1,a2,a3⟩:=zZ HX5.out;have f0:W5.frozen? ⟨X,3,none⟩=false:=frozen_of_row _ X 3 _ _ HX5.out;have hgd:W5.grownBy wd (Option.some X):=by rw [hwd];exact yK _ X 3 _
  have hkd:Bx wd X #[.int .i64 t0,.int .i64 t1,.int .i64 t2,.int .i64 (x % 9 - 1)] 28:=by rw [hwd];exact heap_setCell_same W5 X 3 _ _ _ HX5.out
  obtain ⟨k0,k1,k2,k3⟩:=zZ hkd;have HSd:Hid (St wd B ao len cap b off):=HS5.out.other hgd (by omega) (fun hl e=>by have:=HCL.out hl;omega);have HGd:Hid (w.grownBy wd (Option.some B)):=yT HG5.out (by omega) hgd;have HEd0:Bx wd w.heap.size #[.int .i64 0,.int .i64 0,.int .i64 0,.int .i64 0] 28:=(hgd.block _ (by omega) (fun e=>by have:=Option.some.inj e;omega)).trans HE5.out;have HEd:Hid ((W5.setCell ⟨X,3,none⟩ (.int .i64 (x % 9 - 1))).heap[w.heap.size]?=some (.cells #[.int .i64 0,.int .i64 0,.int .i64 0,.int .i64 0] 28 (0,0))):=(by rw [<- hwd];exact HEd0:(W5.setCell ⟨X,3,none⟩ (.int .i64 (x % 9 - 1))).heap[w.heap.size]?=_);rw [hwd] at k0 k1 k2 k3;obtain ⟨⟨p0,p1⟩,⟨p2,p3⟩,⟨p4,p5⟩,p6,p7⟩:=HD.out;clear h3 hgd hkd HEd0;go_wp2_with (refine w_st w.heap.size #[.int .i64 t0,.int .i64 t1,.int .i64 t2,.int .i64 (x % 9 - 1)] HEd.out (zEE _ _ _ _) ?_;intro wg hgg hkg hsg;clear hsg;have HGG:Hid (wd.grownBy wg (Option.some w.heap.size)):=hid (by rw [hwd];exact hgg);obtain ⟨m0,m1,m2,m3⟩:=zZ hkg;clear hgg hkg)
  refine bodyPost_ret (v:=.agg #[.int .i64 t0,.int .i64 t1,.int .i64 t2,.int .i64 (x % 9 - 1)]) (by simp [results,Tryz.results99,go_sem,m0,m1,m2,m3]) rfl ?_;exact ⟨(t0,t1,t2,x % 9 - 1),rfl,wfV_of (by omega) (by omega) (by omega) (by omega),HSd.out.other HGG.out (by omega) (fun hl e=>by have:=HCL.out hl;omega),yT HGd.out (nl _) HGG.out⟩
 have e3:(kk == 3)=false:=by simpa using h3
 clear h3;obtain ⟨wd,hwd⟩:∃ wd,wd=W5:=⟨_,rfl⟩;obtain ⟨k0,k1,k2,k3⟩:=zZ HX5.out;have HSd:Hid (St wd B ao len cap b off):=hid (by rw [hwd];exact HS5.out);have HGd:Hid (w.grownBy wd (Option.some B)):=hid (by rw [hwd];exact HG5.out);have HEd:Hid (Bx W5 w.heap.size #[.int .i64 0,.int .i64 0,.int .i64 0,.int .i64 0] 28):=HE5.out;obtain ⟨⟨p0,p1⟩,⟨p2,p3⟩,⟨p4,p5⟩,p6,p7⟩:=HD.out;go_wp2_with (refine w_st w.heap.size #[.int .i64 t0,.int .i64 t1,.int .i64 t2,.int .i64 t3] HEd.out (zEE _ _ _ _) ?_;intro wg hgg hkg hsg;clear hsg;have HGG:Hid (wd.grownBy wg (Option.some w.heap.size)):=hid (by rw [hwd];exact hgg);obtain ⟨m0,m1,m2,m3⟩:=zZ hkg;clear hgg hkg)
 refine bodyPost_ret (v:=.agg #[.int .i64 t0,.int .i64 t1,.int .i64 t2,.int .i64 t3]) (by simp [results,Tryz.results99,go_sem,m0,m1,m2,m3]) rfl ?_;exact ⟨(t0,t1,t2,t3),rfl,wfV_of (by omega) (by omega) (by omega) (by omega),HSd.out.other HGG.out (by omega) (fun hl e=>by have:=HCL.out hl;omega),yT HGd.out (nl _) HGG.out⟩
structure Vw (B:Int) (c:CU):Prop where
 tree:∀ b∈c.tree,b.1.2<=B
 peers:∀ p∈c.peers,p.view<=B
theorem Vw.mono {B B':Int} {c:CU} (h:Vw B c) (hb:B<=B'):Vw B' c:=⟨fun b hm=>Int.le_trans (h.tree b hm) hb,fun p hm=>Int.le_trans (h.peers p hm) hb⟩
theorem enter_vw {p:PE} {v B:Int} (h:p.view<=B) (hv:v<=B):(yI p v).view<=B:=by
 unfold yI
 split
 ·exact hv
 ·exact h
theorem at_vw {t:List BK} {B:Int} (h0:0<=B) (h:∀ b∈t,b.1.2<=B) (k:Int):yR t k<=B:=by
 unfold yR
 by_cases hk:k.toNat < t.length
 ·rw [List.getElem?_eq_getElem hk];exact h _ (List.getElem_mem hk)
 ·rw [List.getElem?_eq_none (by omega)];exact h0
theorem leadV_vw {p:PE} {n:Int} {v:VT} {B:Int} (h:p.view<=B):(zCF p n v).1.view<=B+1:=by
 have h1:(ledP p n v).view<=B+1:=by
  unfold ledP
  split
  ·rename_i e;exact enter_vw (by omega) (by have:=e.2.2;omega)
  ·omega
 unfold zCF leadR
 split
 ·unfold leadQ
  split
  ·split
   ·exact h1
   ·exact h1
  ·exact h1
 ·exact h1
theorem news_vw {p:PE} {n:Int} {l:LT} {B:Int} (h:p.view<=B):(newsP p n l).view<=B+1:=by
 unfold newsP
 split
 ·rename_i e
  have hv:(yI p l.1.2.2.2.1).view<=B+1:=enter_vw (by omega) (by rcases e.2 with e | e <;> omega)
  split
  ·exact hv
  ·exact hv
 ·omega
theorem lead_vw {t:List BK} {p:PE} {n:Int} {l:LT} {B:Int} (h:p.view<=B):(kZ t n p l).1.view<=B+1:=by
 have h1:p.view<=B+1:=by omega
 unfold kZ
 split
 ·split
  ·exact leadV_vw h
  ·split
   ·exact news_vw h
   ·exact h1
 ·exact h1
theorem lok_vw {t:List BK} {n:Int} {l:LT} {B:Int} (h0:0<=B) (ht:∀ b∈t,b.1.2<=B) (h:qI t n l=true) (h2:l.1.1 ≠ 2) (h4:l.1.1 ≠ 4):l.1.2.2.2.1<=B:=by
 unfold qI at h;simp only [Bool.and_eq_true] at h;obtain ⟨a,-,-,-,b⟩:=h;have ha:=zDF a;unfold yCA at b
 by_cases h1:l.1.1=1
 ·rw [if_pos h1] at b;simp only [Bool.and_eq_true,decide_eq_true_eq] at b;rw [<- b.2.2.1];exact at_vw h0 ht _
 ·rw [if_neg h1,if_neg h2,if_pos (by omega)] at b;simp only [Bool.and_eq_true,decide_eq_true_eq] at b;obtain ⟨-,-,b,c⟩:=b;rw [<- c];unfold kH at b
  split at b
  ·rename_i e;rw [e];exact h0
  ·simp only [Bool.and_eq_true] at b;have d:=b.1;unfold zCI at d;simp only [Bool.and_eq_true,decide_eq_true_eq] at d;rw [<- d.2.2.2.2.1];exact at_vw h0 ht _
theorem next_vw (p:PE) (a b c d:Int):(zIG p a b c d).1.view=p.view:=by unfold zIG;split <;> rfl
theorem qc_vw {t:List BK} {n:Int} {p:PE} {l:LT} {B:Int} (h:p.view<=B) (hl:l.1.2.2.2.1<=B):(qcH t n p l).1.view<=B+1:=by
 have h1:(yI p l.1.2.2.2.1).view<=B:=enter_vw h hl;unfold qcH
 split
 ·rw [next_vw];show (yI p l.1.2.2.2.1).view<=B+1;omega
 ·split
  ·rw [next_vw];show (yI p l.1.2.2.2.1).view<=B+1;omega
  ·split
   ·unfold doneV;exact enter_vw (by rw [through_view];omega) (by omega)
   ·show (yI p l.1.2.2.2.1).view<=B+1;omega
theorem block_vw {t:List BK} {p:PE} {l:LT} {B:Int} (h:p.view<=B) (hl:l.1.2.2.2.1<=B):(blockH t p l).1.view<=B:=by
 have h1:(yI p l.1.2.2.2.1).view<=B:=enter_vw h hl;unfold blockH
 split
 ·exact h1
 ·exact h1
theorem ask_vw {t:List BK} {n:Int} {p:PE} {l:LT} {B:Int} (h0:0<=B) (ht:∀ b∈t,b.1.2<=B) (h:p.view<=B):(qC t n p l).1.view<=B+1:=by
 have h1:p.view<=B+1:=by omega
 unfold qC
 split
 ·rename_i e
  split
  ·exact lead_vw h
  ·rename_i k
   have hl:=lok_vw h0 ht e.1 (fun x=>k (Or.inl x)) (fun x=>k (Or.inr x))
   split
   ·split
    ·exact qc_vw h hl
    ·have:=block_vw (t:=t) h hl;omega
   ·exact h1
 ·exact h1
theorem early_view (t:List BK) (p:PE) (k:Int):(yDF t p k).view=p.view:=rfl
theorem chain_view (t:List BK) (p:PE) (k:Int):(jN t p k).view=p.view:=by
 unfold jN
 split
 ·have h2:∀ (q:PE),(zGC t q k).view=q.view:=fun q=>by
   unfold zGC
   split
   ·exact through_view _ _ _
   ·rfl
  unfold yDH
  split
  ·rw [early_view,h2];rfl
  ·rw [h2];rfl
 ·rfl
theorem chainH_vw {t:List BK} {n:Int} {p:PE} {l:LT} {B:Int} (h0:0<=B) (ht:∀ b∈t,b.1.2<=B) (h:p.view<=B):(xI t n p l).1.view<=B+1:=by
 have h1:p.view<=B+1:=by omega
 unfold xI
 split
 ·rename_i e
  split
  ·exact lead_vw h
  ·rename_i k2
   split
   ·exact lead_vw h
   ·rename_i k4
    have hl:=lok_vw h0 ht e.1 k2 k4
    split
    ·exact h1
    ·split
     ·unfold yBD
      split
      ·unfold votesH;exact enter_vw (by show (jN t p l.1.2.2.2.2).view<=B+1;rw [chain_view];exact h1) (by omega)
      ·show (jN t p l.1.2.2.2.2).view<=B+1;rw [chain_view];exact h1
     ·exact h1
 ·exact h1
theorem hear_vw {c:CU} {p:PE} {l:LT} {B:Int} (h0:0<=B) (hc:Vw B c) (h:p.view<=B):(zFA c p l).1.view<=B+1:=by
 unfold zFA
 split
 ·exact chainH_vw h0 hc.tree h
 ·exact ask_vw h0 hc.tree h
theorem set_vw {B:Int} {c:CU} (h:Vw B c) (i:Int) {p:PE} (hp:p.view<=B):Vw B (zCG c i p):=by
 refine ⟨h.tree,fun x hx=>?_⟩
 rcases List.mem_or_eq_of_mem_set hx with hx | rfl
 ·exact h.peers x hx
 ·exact hp
theorem post_vw {B:Int} {c:CU} (h:Vw B c) (ls:List LT):Vw B (jV c ls):=by
 unfold jV
 split
 ·exact h
 ·exact ⟨h.tree,h.peers⟩
theorem say_vw {B:Int}:∀ (ls:List LT) {c:CU},Vw B c->Vw B (zIC c ls)
 | [],_,h=>h
 | l :: ls,c,h=>by
  refine say_vw ls (c:=yFD c l) ?_;unfold yFD;refine post_vw ?_ _
  split
  ·unfold zHF
   split
   ·exact h
   ·exact ⟨h.tree,h.peers⟩
  ·exact h
theorem peAt_vw {B:Int} {c:CU} (h0:0<=B) (h:Vw B c) (i:Int):(zCJ c i).view<=B:=by
 unfold zCJ
 by_cases hk:i.toNat < c.peers.length
 ·rw [List.getElem?_eq_getElem hk];exact h.peers _ (List.getElem_mem hk)
 ·rw [List.getElem?_eq_none (by omega)];exact h0
theorem out_vw {B:Int} {c:CU} (h:Vw B c) (k:Int):Vw B (zAC c k):=by
 unfold zAC
 split
 ·exact ⟨h.tree,h.peers⟩
 ·exact h
theorem put_vw {B:Int} {t:List BK} (h:∀ b∈t,b.1.2<=B) {b:BK} (hb:b.1.2<=B):∀ x∈zGE t b,x.1.2<=B:=by
 unfold zGE
 split
 ·exact h
 ·split
  ·exact h
  ·intro x hx
   rcases List.mem_append.1 hx with hx | hx
   ·exact h x hx
   ·rcases List.mem_singleton.1 hx with rfl;exact hb
theorem hand_vw {B:Int} {c:CU} (h:Vw B c) (l:LT):Vw B (jM c l).1:=by
 unfold jM
 split
 ·exact post_vw h _
 ·exact h
theorem far_vw {B:Int}:∀ (l:List PE) (n:Int),n<=B->(∀ p∈l,p.view<=B)->yEH l n<=B
 | [],_,hn,_=>hn
 | p :: l,n,hn,h=>by
  unfold yEH;refine far_vw l _ ?_ (fun x hx=>h x (List.mem_cons_of_mem _ hx))
  split
  ·exact h p (List.mem_cons_self ..)
  ·exact hn
theorem do_vw {B:Int} {c:CU} (h0:0<=B) (h:Vw B c) (e:EV):Vw (B+1) (doC c e).1:=by
 have hm:Vw (B+1) c:=h.mono (by omega);unfold doC
 split
 ·unfold offerP
  split
  ·exact hm
  ·exact ⟨hm.tree,hm.peers⟩
 ·split
  ·unfold showC
   split
   ·refine post_vw ?_ _;have hp:=peAt_vw h0 h e.at'
    have hs:(showP c e.at').view<=B+1:=by
     unfold showP showsP
     split
     ·omega
     ·show (zCJ c e.at').view<=B+1;omega
    refine ⟨put_vw hm.tree ?_,(set_vw hm e.at' hs).peers⟩;show (zCJ c e.at').view<=B+1;omega
   ·exact hm
  ·split
   ·unfold carryC
    split
    ·have ho:=out_vw h e.at';show Vw (B+1) (if _ then _ else _)
     split
     ·unfold heardC;exact say_vw _ (set_vw (ho.mono (by omega)) _ (hear_vw h0 ho (peAt_vw h0 ho _)))
     ·exact ho.mono (by omega)
    ·exact hm
   ·split
    ·exact out_vw hm _
    ·split
     ·unfold yEC
      split
      ·exact post_vw hm _
      ·exact hm
     ·split
      ·unfold waitC
       split
       ·refine post_vw (set_vw hm _ ?_) _;have hp:=peAt_vw h0 h e.at';unfold zGH
        split
        ·exact enter_vw (by omega) (by omega)
        ·omega
       ·exact hm
      ·split
       ·unfold fallC
        split
        ·exact set_vw hm _ (peAt_vw (by omega) hm _)
        ·exact hm
       ·unfold lieC
        split
        ·exact hm
        ·split
         ·exact hand_vw hm _
         ·split
          ·split
           ·exact hand_vw hm _
           ·exact hm
          ·split
           ·unfold zBC
            split
            ·exact hm
            ·split
             ·refine hand_vw ?_ _;refine ⟨put_vw hm.tree ?_,hm.peers⟩;show lieW c e<=B+1;unfold lieW
              split
              ·have:=at_vw h0 h.tree (yBJ c e);omega
              ·have:=far_vw c.peers 0 h0 h.peers;omega
             ·exact hm
           ·exact hand_vw hm _
structure LifeW (m:Nat) (c:CU):Prop extends jJ m c where
 vw:Vw ((m:Int)+1) c
theorem LifeW.mono {m m':Nat} {c:CU} (h:LifeW m c) (hm:m<=m'):LifeW m' c:=⟨h.1.mono hm,h.vw.mono (by omega)⟩
theorem LifeW.step {m:Nat} {c:CU} (h:LifeW m c) {e:EV} (he:evFit e):LifeW (m+1) (doC c e).1:=⟨do_sm h.1 he,(do_vw (by omega) h.vw e).mono (by omega)⟩
end Go.Proofs.YtdopefimjabigadGreat
