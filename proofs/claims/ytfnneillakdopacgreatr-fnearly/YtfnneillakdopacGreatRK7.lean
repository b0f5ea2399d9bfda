/-
  Texts of ours that later ones lean on, in one: StepN, LifeN, LifeH, ClusW, LieVN, VarS, LowS, FourS, SumN, SumX, SumS, SealX, SealS.
-/
import Derived.Test.YtfnneillakdopacGreatRClusOZ
import Derived.Test.YtfnneillakdopacGreatRK4
import Derived.Test.YtfnneillakdopacGreatRTimeSZ
import Derived.Test.YtfnneillakdopacGreatRShowSZ
import Derived.Test.YtfnneillakdopacGreatRReadySZ
import Derived.Test.YtfnneillakdopacGreatRAskSZ
import Derived.Test.YtfnneillakdopacGreatRChainHSZ
import Derived.Test.YtfnneillakdopacGreatRK6
import Derived.Test.YtfnneillakdopacGreatRK2
import Derived.Test.YtfnneillakdopacGreatRK1
import Derived.Test.YtfnneillakdopacGreatRK3
import Derived.BigQuiet
import Derived.WalkKit
import Derived.Laws.BitsLemmas
import Derived.Test.YtfnneillakdopacGreatRRows
import Derived.WalkSmall
set_option maxRecDepth 100000
set_option maxHeartbeats 32000000
namespace Go.Proofs.YtfnneillakdopacGreatR
open _root_.Go.Proofs.Tryz
open Go.Value renaming int->I,oneCell'->Af
open Go.IntKind renaming i64->U
open Option renaming none->Aa,some->Ab
open List renaming getElem_mem->Ac,length_append->Ad,getElem?_eq_getElem->Ae,length_cons->Ai
open Or renaming inl->Ag,inr->Ah
open Go.RowKit Num
variable {c:CU} {s:CW} {bl n ph to' vw:Int} {l:LT} {t:List BK} {N b hi hi' k lo m m':Nat} {p:PE} {q:QC} {v:Value} {w w':World}
def zHF (c:CU) (v:VT):CU:=if v∈c.said then c else { c with said:=c.said ++ [v] }
def yFD (c:CU) (l:LT):CU:=jV (if l.1.1=2 then zHF c l.2.2 else c) [l]
def zIC (c:CU) (ls:List LT):CU:=ls.foldl yFD c
def zFA (c:CU) (p:PE) (l:LT):PE × List LT:=if c.chain=true then xI c.tree c.n p l else qC c.tree c.n p l
def zeroPe:PE:=⟨0,0,(0,0,0,0),(0,0,0,0),(0,0,0,0),[],[],[],[],[],[],0⟩
def zCJ (c:CU) (i:Int):PE:=c.peers[i.toNat]?.getD zeroPe
def zCG (c:CU) (i:Int) (p:PE):CU:={ c with peers:=c.peers.set i.toNat p }
def heardC (c:CU) (l:LT):CU:=zIC (zCG c l.1.2.2.1 (zFA c (zCJ c l.1.2.2.1) l).1) (zFA c (zCJ c l.1.2.2.1) l).2
def carryC (c:CU) (k:Int):CU × Bool:=
 if 0<=k/\k < c.net.length then (if xT (zAC c k) (zBH c k).1.2.2.1=true then heardC (zAC c k) (zBH c k) else zAC c k,true) else (c,false)
def waitC (c:CU) (i:Int):CU × Bool:=
 if xT c i=true/\jT (zCJ c i) c.n=true then (jV (zCG c i (zGH (zCJ c i) c.n)) [yEB (zCJ c i) c.n],true) else (c,false)
def showM (c:CU):Nat:=if 4 < c.pend.length then 4 else c.pend.length
def showA (c:CU) (i:Int):List BK:=zGE c.tree (showB (zCJ c i) (c.pend.take (showM c)))
def showK (c:CU) (i:Int):Int:=showsK c.tree (zCJ c i) (c.pend.take (showM c))
def showP (c:CU) (i:Int):PE:=showsP c.tree (zCJ c i) (c.pend.take (showM c))
def showsC (c:CU) (i:Int):CU:={ zCG c i (showP c i) with tree:=showA c i,pend:=c.pend.drop (showM c) }
def showC (c:CU) (i:Int):CU × Bool:=
 if xT c i=true/\readyB (zCJ c i) c.n c.chain=true/\¬ 60 < wrap64 ((c.net.length:Int)+c.n)/\¬ showK c i < 0 then (jV (showsC c i) (zCA (showA c i) (showP c i) (showK c i) c.n),true) else (c,false)
def sm (x:Int):Prop:=0<=x/\x<=1000
def smQ (q:QC):Prop:=sm q.1/\sm q.2.1/\sm q.2.2.1/\sm q.2.2.2
def smV (v:VT):Prop:=sm v.1/\sm v.2.1/\sm v.2.2.1/\sm v.2.2.2
def smL (l:LT):Prop:=(sm l.1.1/\sm l.1.2.1/\sm l.1.2.2.1/\sm l.1.2.2.2.1/\sm l.1.2.2.2.2)/\smQ l.2.1/\smV l.2.2
theorem sm0:sm 0:=⟨by decide,by decide⟩
theorem smQ0:smQ (0,0,0,0):=⟨sm0,sm0,sm0,sm0⟩
theorem smV0:smV (0,0,0,0):=⟨sm0,sm0,sm0,sm0⟩
structure smB (b:BK):Prop where
 par:-1<=b.1.1/\b.1.1<=1000
 view:0<=b.1.2/\b.1.2<=900
 many:b.2.1.length<=4
 cmds:∀ c∈b.2.1,zAF c=true
 just:smQ b.2.2
structure smT (t:List BK):Prop where
 one:1<=t.length
 many:t.length<=60
 each:∀ b∈t,smB b
 fst:t[0]?=some kE
 on:∀ i (h:i < t.length),0 < i->0<=t[i].1.1/\t[i].1.1 < (i:Int)/\t[i].2.2.2.2.1=t[i].1.1
def ascR (l:List Int):Prop:=l.Pairwise (· < ·)/\∀ x∈l,0<=x/\x < 60
theorem asc_len:∀ (l:List Int) (lo:Int),l.Pairwise (· < ·)->(∀ x∈l,lo<=x/\x < 60)->l.length<=(60 - lo).toNat
 | [],_,_,_=>by simp
 | a :: l,lo,hp,h=>by
  have hc:=List.pairwise_cons.1 hp;have ha:=h a (List.mem_cons_self ..);have:=asc_len l (a+1) hc.2 (fun x hx=>⟨by have:=hc.1 x hx;omega,(h x (List.mem_cons_of_mem _ hx)).2⟩);simp only [Ai];omega
theorem ascR.len {l:List Int} (h:ascR l):l.length<=60:=by have:=asc_len l 0 h.1 h.2;omega
theorem ascR.sm {l:List Int} (h:ascR l):∀ x∈l,sm x:=fun x hx=>⟨(h.2 x hx).1,by have:=(h.2 x hx).2;omega⟩
structure smP (m:Nat) (p:PE):Prop where
 id:0<=p.id/\p.id<=6
 view:0<=p.view/\p.view<=900
 high:smQ p.high
 lock:smQ p.lock
 last:smV p.last
 row:ascR p.row
 cells:fair p.cells
 early:p.early.length<=60/\∀ x∈p.early,sm x
 undos:p.undos.length<=300/\∀ u∈p.undos,zHH u=true
 votes:p.votes.length<=m/\∀ v∈p.votes,smV v
 news:p.news.length<=m/\∀ l∈p.news,smL l
 shown:sm p.shown
structure jJ (m:Nat) (c:CU):Prop where
 n:c.n=4
 liars:0<=c.liars/\c.liars<=15
 tree:smT c.tree
 lpeers:c.peers.length=4
 peers:∀ p∈c.peers,smP m p
 ids:∀ i (h:i < c.peers.length),c.peers[i].id=(i:Int)
 net:c.net.length<=60/\∀ l∈c.net,smL l
 said:c.said.length<=10 * m/\∀ v∈c.said,smV v
 pend:c.pend.length<=8/\∀ x∈c.pend,zAF x=true
theorem smP.mono (h:smP m p) (hm:m<=m'):smP m' p:=
 ⟨h.id,h.view,h.high,h.lock,h.last,h.row,h.cells,h.early,h.undos,⟨by have:=h.votes.1;omega,h.votes.2⟩,⟨by have:=h.news.1;omega,h.news.2⟩,h.shown⟩
theorem jJ.mono (h:jJ m c) (hm:m<=m'):jJ m' c:=
 ⟨h.n,h.liars,h.tree,h.lpeers,fun p hp=>(h.peers p hp).mono hm,h.ids,h.net,⟨by have:=h.said.1;omega,h.said.2⟩,h.pend⟩
theorem smT.at (h:smT t) (k:Nat):smB (t[k]?.getD kE):=by
 by_cases hk:k < t.length
 ·rw [Ae hk];exact h.each _ (Ac hk)
 ·rw [List.getElem?_eq_none (by omega)];exact ⟨⟨by decide,by decide⟩,⟨by decide,by decide⟩,by decide,fun c hc=>by simp [kE] at hc,smQ0⟩
theorem smT.just (h:smT t) (k:Int):smQ (zIF t k):=by
 unfold zIF;exact (h.at _).just
theorem smT.view (h:smT t) (k:Int):0<=yR t k/\yR t k<=900:=by
 unfold yR;exact (h.at _).view
theorem yEJ {a b:QC} (h:smQ a) (h2:smQ b):smQ (yF a b):=by unfold yF;split <;> assumption
theorem cmdsAt_sm (h:smT t) (k:Int):(kN t k).length<=4/\∀ c∈kN t k,zAF c=true:=by
 unfold kN
 split
 ·exact ⟨(h.at _).many,(h.at _).cmds⟩
 ·exact ⟨by simp,fun c hc=>by simp at hc⟩
theorem fair_doneAll {cs:CL} (h:fair cs) (l:List CM):fair (yD cs l):=by
 by_cases hc:kS cs=true
 ·exact fair_of (doneAll_ok l hc)
 ·rw [(doneAll_bad (by simpa using hc) l).1];exact h
theorem fair_rowC (t:List BK):∀ (row:List Int) {cs:CL},fair cs->fair (zGF t cs row)
 | [],_,h=>h
 | k :: row,cs,h=>by unfold zGF;exact fair_rowC t row (fair_doneAll h _)
theorem fair_undoneAll {cs:CL} (h:fair cs):∀ us:List UN,fair (xY cs us)
 | []=>h
 | _ :: us=>undone_fair (fair_undoneAll h us)
theorem undo_fair {cs:CL} {key:ByteArray} (h:fair cs) (hk:zIJ key=true):zHH (yDB cs key)=true:=by
 by_cases hh:zBB cs key=true
 ·obtain ⟨d,hd,rfl,e⟩:=undo_find hh;have hn:=(h.1 d hd).2;rw [e];unfold zHH;simp only [hk,hn]
  rfl
 ·rw [undo_no (by simpa using hh)];unfold zHH;simp only [hk]
  decide
theorem undos_fair:∀ (l:List CM) {cs:CL},fair cs->(∀ c∈l,zAF c=true)->∀ u∈jQ cs l,zHH u=true
 | [],_,_,_=>fun _ hu=>by simp [jQ] at hu
 | c :: l,cs,h,hl=>fun u hu=>by
  unfold jQ at hu
  rcases List.mem_cons.1 hu with rfl | hu
  ·exact undo_fair h (cmdB_bd (hl c (List.mem_cons_self ..))).2.1
  ·exact undos_fair l (fair_doneAll (l:=[c]) h) (fun d hd=>hl d (List.mem_cons_of_mem _ hd)) u hu
theorem earU_fair {t:List BK} (ht:smT t):∀ (row:List Int) {cs:CL},fair cs->∀ u∈yDE t cs row,zHH u=true
 | [],_,_=>fun _ hu=>by simp [yDE] at hu
 | k :: row,cs,h=>fun u hu=>by
  unfold yDE at hu
  rcases List.mem_append.1 hu with hu | hu
  ·exact undos_fair _ h (cmdsAt_sm ht k).2 u hu
  ·exact earU_fair ht row (fair_doneAll h _) u hu
theorem earU_four {t:List BK} (ht:smT t):∀ (row:List Int) {cs:CL},(yDE t cs row).length<=4 * row.length
 | [],_=>by simp [yDE]
 | k :: row,cs=>by
  unfold yDE;rw [Ad,zGI];have:=(cmdsAt_sm ht k).1;have:=earU_four ht row (cs:=yD cs (kN t k));simp only [Ai];omega
theorem downN_desc (t:List BK):∀ (n k:Nat) (l:List Nat),zAD t n k=some l->l.Pairwise (fun a b=>b < a)/\∀ x∈l,0 < x/\x<=k
 | n,0,l,h=>by cases n <;> (simp [zAD] at h;subst h;simp)
 | 0,_+1,_,h=>by cases h
 | n+1,k+1,l,h=>by
  rw [zAD] at h
  split at h
  ·rename_i hc
   cases hd:zAD t n (zDI t (k+1)).toNat with
   | none=>rw [hd] at h;cases h
   | some l'=>
    rw [hd] at h;obtain rfl:=(Option.some.inj h).symm;have ih:=downN_desc t n _ l' hd;refine ⟨List.pairwise_cons.2 ⟨fun x hx=>?_,ih.1⟩,fun x hx=>?_⟩
    ·have:=(ih.2 x hx).2;omega
    ·rcases List.mem_cons.1 hx with rfl | hx
     ·omega
     ·have:=ih.2 x hx;omega
  ·cases h
theorem rowI_asc (ht:smT t) (k:Int):ascR (rowI t k):=by
 cases hd:qH t k with
 | none=>rw [zJE hd];exact ⟨List.Pairwise.nil,fun x hx=>by cases hx⟩
 | some l=>
  rw [zJF hd];have a:=hd;unfold qH at a
  split at a
  ·rename_i hk
   have h1:=downN_desc t _ _ l a;have hm:=ht.many;refine ⟨?_,fun x hx=>?_⟩
   ·unfold qG;rw [List.pairwise_map,List.pairwise_reverse];exact h1.1.imp (fun h=>by omega)
   ·obtain ⟨y,hy,rfl⟩:=List.mem_map.1 hx;have:=h1.2 y (List.mem_reverse.1 hy);omega
  ·cases a
theorem rowI_sm (ht:smT t) (k:Int):∀ x∈rowI t k,sm x:=(rowI_asc ht k).sm
theorem after_asc (ht:smT t) (k u:Int):ascR (kB t k u)/\∀ x∈kB t k u,u < x:=by
 unfold kB
 split
 ·have h:=rowI_asc ht k;exact ⟨⟨h.1.filter _,fun x hx=>h.2 x (List.mem_filter.1 hx).1⟩,fun x hx=>by simpa using (List.mem_filter.1 hx).2⟩
 ·exact ⟨⟨List.Pairwise.nil,fun x hx=>by cases hx⟩,fun x hx=>by cases hx⟩
theorem asc_last {l:List Int} (h:ascR l):∀ x∈l,x<=qS l:=fun x hx=>by
 obtain ⟨i,hi,rfl⟩:=List.mem_iff_getElem.1 hx;unfold qS;rw [List.getD_eq_getElem?_getD,Ae (by omega)];show l[i]<=l[l.length - 1]
 by_cases e:i=l.length - 1
 ·subst e;omega
 ·have:=List.pairwise_iff_getElem.1 h.1 i (l.length - 1) hi (by omega) (by omega);omega
theorem asc_app (ht:smT t) {l:List Int} (h:ascR l) (k:Int):ascR (l ++ kB t k (qS l)):=by
 have ha:=after_asc ht k (qS l);refine ⟨List.pairwise_append.2 ⟨h.1,ha.1.1,fun x hx y hy=>?_⟩,fun x hx=>?_⟩
 ·have:=asc_last h x hx;have:=ha.2 y hy;omega
 ·rcases List.mem_append.1 hx with hx | hx
  ·exact h.2 x hx
  ·exact ha.1.2 x hx
theorem after_sm (ht:smT t) (k u:Int):(kB t k u).length<=60/\∀ x∈kB t k u,sm x:=by
 have hl:=zDA t k u;refine ⟨by have:=ht.many;omega,fun x hx=>?_⟩;unfold kB at hx
 split at hx
 ·exact rowI_sm ht k x (List.mem_filter.1 hx).1
 ·simp at hx
theorem back_sm (h:smP m p):smP m (jC p):=
 ⟨h.id,h.view,h.high,h.lock,h.last,h.row,fair_undoneAll h.cells _,⟨by simp [jC],fun x hx=>by simp [jC] at hx⟩,⟨by simp [jC],fun x hx=>by simp [jC] at hx⟩,h.votes,h.news,h.shown⟩
theorem through_sm (ht:smT t) (h:smP m p) (k:Int):smP (m+1) (kO t p k):=by
 unfold kO
 split
 ·have hb:=(back_sm h).mono (Nat.le_succ m);unfold jW;exact { hb with row:=asc_app ht h.row k,cells:=fair_rowC t _ hb.cells }
 ·exact h.mono (Nat.le_succ m)
theorem early_sm (ht:smT t) (h:smP m p) (k:Int):smP m (yDF t p k):=by
 have hb:=back_sm h;have ha:=after_sm ht k (qS p.row);unfold yDF yBH;refine { hb with cells:=fair_rowC t _ hb.cells,early:=ha,undos:=⟨?_,earU_fair ht _ hb.cells⟩ };have:=earU_four ht (kB t k (qS p.row)) (cs:=(jC p).cells);have:=ha.1;show (yDE t (jC p).cells (kB t k (qS p.row))).length<=300;omega
theorem yAB (h:smP m p) (v:Int):smP m (yI p v):=by
 unfold yI
 split
 ·rename_i hv
  exact { h with view:=⟨by show 0<=v;have:=h.view;omega,hv.2⟩,votes:=⟨by simp,fun x hx=>by simp at hx⟩,news:=⟨by simp,fun x hx=>by simp at hx⟩ }
 ·exact h
theorem voted_sm (h:smP m p) (h1:sm ph) (h2:sm vw) (h3:sm bl):smP m (yP p ph vw bl):=
 { h with last:=⟨h1,h2,h3,by have:=h.id;exact ⟨this.1,by show p.id<=1000;omega⟩⟩ }
theorem high_sm (h:smP m p) (hq:smQ q):smP m { p with high:=yF p.high q }:={ h with high:=yEJ h.high hq }
theorem lock_sm (h:smP m p) (hq:smQ q):smP m { p with lock:=yF p.lock q }:={ h with lock:=yEJ h.lock hq }
theorem id_sm (h:smP m p):sm p.id:=⟨h.id.1,by have:=h.id;omega⟩
theorem view_sm (h:smP m p):sm p.view:=⟨h.view.1,by have:=h.view;omega⟩
theorem leader_sm {v:Int} (hn:n=4):sm (xQ v n):=by
 unfold xQ
 split
 ·exact sm0
 ·subst hn;exact ⟨by omega,by omega⟩
theorem answer_sm (h:smP m p) {k:Int} {v:VT} (hk:sm k) (ht:sm to') (hq:smQ q) (hv:smV v):smL (kX p k to' q v):=by
 unfold kX
 split
 ·exact ⟨⟨hk,id_sm h,ht,hv.2.1,sm0⟩,smQ0,hv⟩
 ·exact ⟨⟨hk,id_sm h,ht,view_sm h,sm0⟩,hq,smV0⟩
theorem give_sm (h:smP m p) (h1:sm ph) (h2:sm vw) (h3:sm bl) (ht:sm to'):smL (zEJ p ph vw bl to'):=
 answer_sm (voted_sm h h1 h2 h3) ⟨by decide,by decide⟩ ht smQ0 ⟨h1,h2,h3,id_sm h⟩
theorem qY (p:PE) (v:Int):(yI p v).id=p.id:=by unfold yI;split <;> rfl
theorem through_id (t:List BK) (p:PE) (k:Int):(kO t p k).id=p.id:=by unfold kO;split <;> rfl
theorem chain_id (t:List BK) (p:PE) (k:Int):(jN t p k).id=p.id:=by
 unfold jN
 split
 ·rename_i b c _ _
  have h1:(yDI t p k b).id=p.id:=rfl
  have h2:(zGC t (yDI t p k b) k).id=p.id:=by
   unfold zGC
   split
   ·rw [through_id];rfl
   ·rfl
  unfold yDH
  split
  ·exact h2
  ·exact h2
 ·rfl
theorem leadV_id (p:PE) (n:Int) (v:VT):(zCF p n v).1.id=p.id:=by
 have h1:(ledP p n v).id=p.id:=by
  unfold ledP
  split
  ·exact qY _ _
  ·rfl
 unfold zCF leadR leadQ
 split
 ·split
  ·split
   ·exact h1
   ·exact h1
  ·exact h1
 ·exact h1
theorem news_id (p:PE) (n:Int) (l:LT):(newsP p n l).id=p.id:=by
 unfold newsP
 split
 ·split
  ·exact qY _ _
  ·exact qY _ _
 ·rfl
theorem lead_id (t:List BK) (n:Int) (p:PE) (l:LT):(kZ t n p l).1.id=p.id:=by
 unfold kZ
 split
 ·split
  ·exact leadV_id _ _ _
  ·split
   ·exact news_id _ _ _
   ·rfl
 ·rfl
theorem next_id (p:PE) (a b c d:Int):(zIG p a b c d).1.id=p.id:=by unfold zIG;split <;> rfl
theorem qc_id (t:List BK) (n:Int) (p:PE) (l:LT):(qcH t n p l).1.id=p.id:=by
 unfold qcH
 split
 ·rw [next_id];exact qY _ _
 ·split
  ·rw [next_id];exact qY _ _
  ·split
   ·unfold doneV;rw [qY,through_id,qY]
   ·exact qY _ _
theorem block_id (t:List BK) (p:PE) (l:LT):(blockH t p l).1.id=p.id:=by
 unfold blockH
 split
 ·exact qY _ _
 ·exact qY _ _
theorem ask_id (t:List BK) (n:Int) (p:PE) (l:LT):(qC t n p l).1.id=p.id:=by
 unfold qC
 split
 ·split
  ·exact lead_id _ _ _ _
  ·split
   ·split
    ·exact qc_id _ _ _ _
    ·exact block_id _ _ _
   ·rfl
 ·rfl
theorem chainH_id (t:List BK) (n:Int) (p:PE) (l:LT):(xI t n p l).1.id=p.id:=by
 unfold xI
 split
 ·split
  ·exact lead_id _ _ _ _
  ·split
   ·exact lead_id _ _ _ _
   ·split
    ·rfl
    ·split
     ·unfold yBD
      split
      ·unfold votesH;rw [qY];exact chain_id _ _ _
      ·exact chain_id _ _ _
     ·rfl
 ·rfl
def smR (m:Nat) (r:PE × List LT):Prop:=smP m r.1/\r.2.length<=7/\∀ x∈r.2,smL x
theorem smR.none (h:smP m p):smR m (p,[]):=⟨h,by simp,fun x hx=>by simp at hx⟩
theorem smR.one (h:smP m p) (hl:smL l):smR m (p,[l]):=⟨h,by simp,fun x hx=>by rcases List.mem_singleton.1 hx with rfl;exact hl⟩
theorem qcOf_sm {l:List VT} {p v b:Int} (h1:sm p) (h2:sm v) (h3:sm b):smQ (zHE l p v b n).1:=by
 unfold zHE
 split
 ·exact smQ0
 ·have:=zEC l p v b 7;exact ⟨h1,h2,h3,this.1,by show zHG l p v b 7<=1000;have:=this.2;omega⟩
theorem says_sm {m:Nat} {p:PE} {q:QC} (h:smP m p) (hq:smQ q):∀ i,i<=100->∀ x∈zAH p q i,smL x
 | 0,_=>fun x hx=>by simp [zAH] at hx
 | i+1,hi=>fun x hx=>by
  unfold zAH at hx
  rcases List.mem_append.1 hx with hx | hx
  ·exact says_sm h hq i (by omega) x hx
  ·rcases List.mem_singleton.1 hx with rfl
   exact answer_sm h ⟨by decide,by decide⟩ ⟨by omega,by omega⟩ hq smV0
theorem leadV_sm {v:VT} (hn:n=4) (h:smP m p) (hv:smV v):smR (m+1) (zCF p n v):=by
 have h1:smP m (ledP p n v):=by
  unfold ledP
  split
  ·exact yAB h _
  ·exact h
 unfold zCF leadR
 split
 ·have h2:smP (m+1) { ledP p n v with votes:=(ledP p n v).votes ++ [v] }:=by
   refine { h1.mono (Nat.le_succ m) with votes:=⟨?_,fun x hx=>?_⟩ }
   ·have:=h1.votes.1;simp only [Ad,List.length_singleton];omega
   ·rcases List.mem_append.1 hx with hx | hx
    ·exact h1.votes.2 x hx
    ·rcases List.mem_singleton.1 hx with rfl;exact hv
  unfold leadQ
  split
  ·split
   ·exact smR.none (high_sm h2 (qcOf_sm hv.1 hv.2.1 hv.2.2.1))
   ·refine ⟨h2,?_,says_sm h2 (qcOf_sm hv.1 hv.2.1 hv.2.2.1) _ (by omega)⟩;rw [says_len];omega
  ·exact smR.none h2
 ·exact smR.none (h1.mono (Nat.le_succ m))
theorem news_sm (h:smP m p) (hl:smL l):smP (m+1) (newsP p n l):=by
 unfold newsP
 split
 ·have h1:=yAB h l.1.2.2.2.1
  split
  ·exact h1.mono (Nat.le_succ m)
  ·refine { h1.mono (Nat.le_succ m) with news:=⟨?_,fun x hx=>?_⟩ }
   ·have:=h1.news.1;simp only [Ad,List.length_singleton];omega
   ·rcases List.mem_append.1 hx with hx | hx
    ·exact h1.news.2 x hx
    ·rcases List.mem_singleton.1 hx with rfl;exact hl
 ·exact h.mono (Nat.le_succ m)
theorem lead_sm (hn:n=4) (h:smP m p) (hl:smL l):smR (m+1) (kZ t n p l):=by
 unfold kZ
 split
 ·split
  ·exact leadV_sm hn h hl.2.2
  ·split
   ·exact smR.none (news_sm h hl)
   ·exact smR.none (h.mono (Nat.le_succ m))
 ·exact smR.none (h.mono (Nat.le_succ m))
theorem next_sm (h:smP m p) (h1:sm ph) (h2:sm vw) (h3:sm bl) (ht:sm to'):smR m (zIG p ph vw bl to'):=by
 unfold zIG
 split
 ·exact smR.one (voted_sm h h1 h2 h3) (give_sm h h1 h2 h3 ht)
 ·exact smR.none h
theorem done_sm (ht:smT t) (h:smP m p) (vw bl:Int):smP (m+1) (doneV t p vw bl):=yAB (through_sm ht h bl) _
theorem qcH_sm (ht:smT t) (hn:n=4) (h:smP m p) (hl:smL l):smR (m+1) (qcH t n p l):=by
 have h1:=yAB h l.1.2.2.2.1;have h2:=h1.mono (Nat.le_succ m);unfold qcH
 split
 ·exact next_sm (high_sm h2 hl.2.1) ⟨by decide,by decide⟩ hl.1.2.2.2.1 hl.2.1.2.2.1 hl.1.2.1
 ·split
  ·exact next_sm (lock_sm h2 hl.2.1) ⟨by decide,by decide⟩ hl.1.2.2.2.1 hl.2.1.2.2.1 hl.1.2.1
  ·split
   ·have h3:=done_sm ht h1 l.1.2.2.2.1 l.2.1.2.2.1;exact smR.one h3 (answer_sm h3 ⟨by decide,by decide⟩ (leader_sm hn) h3.high smV0)
   ·exact smR.none h2
theorem block_sm (h:smP m p) (hl:smL l):smR m (blockH t p l):=by
 have h1:=yAB h l.1.2.2.2.1;unfold blockH
 split
 ·exact smR.one (voted_sm h1 ⟨by decide,by decide⟩ hl.1.2.2.2.1 hl.1.2.2.2.2) (give_sm h1 ⟨by decide,by decide⟩ hl.1.2.2.2.1 hl.1.2.2.2.2 hl.1.2.1)
 ·exact smR.none h1
theorem smR.mono {r:PE × List LT} (h:smR m r) (hm:m<=m'):smR m' r:=⟨h.1.mono hm,h.2⟩
theorem ask_sm (ht:smT t) (hn:n=4) (h:smP m p) (hl:smL l):smR (m+1) (qC t n p l):=by
 unfold qC
 split
 ·split
  ·exact lead_sm hn h hl
  ·split
   ·split
    ·exact qcH_sm ht hn h hl
    ·exact (block_sm h hl).mono (Nat.le_succ m)
   ·exact smR.none (h.mono (Nat.le_succ m))
 ·exact smR.none (h.mono (Nat.le_succ m))
theorem chainP_sm (ht:smT t) (h:smP m p) (k:Int):smP (m+1) (jN t p k):=by
 unfold jN
 split
 ·rename_i b c _ _
  have h1:smP m (yDI t p k b):={ h with high:=yEJ h.high (ht.just k),lock:=yEJ h.lock (ht.just b) }
  have h2:smP (m+1) (zGC t (yDI t p k b) k):=by
   unfold zGC
   split
   ·exact through_sm ht h1 _
   ·exact h1.mono (Nat.le_succ m)
  unfold yDH
  split
  ·exact early_sm ht h2 c
  ·exact h2
 ·exact h.mono (Nat.le_succ m)
theorem chainH_sm (ht:smT t) (hn:n=4) (h:smP m p) (hl:smL l):smR (m+1) (xI t n p l):=by
 unfold xI
 split
 ·split
  ·exact lead_sm hn h hl
  ·split
   ·exact lead_sm hn (high_sm h hl.2.1) hl
   ·split
    ·exact smR.none (h.mono (Nat.le_succ m))
    ·split
     ·have h2:=chainP_sm ht h l.1.2.2.2.2;unfold yBD
      split
      ·unfold votesH;exact smR.one (yAB (voted_sm h2 ⟨by decide,by decide⟩ hl.1.2.2.2.1 hl.1.2.2.2.2) _) (give_sm h2 ⟨by decide,by decide⟩ hl.1.2.2.2.1 hl.1.2.2.2.2 (leader_sm hn))
      ·exact smR.none h2
     ·exact smR.none (h.mono (Nat.le_succ m))
 ·exact smR.none (h.mono (Nat.le_succ m))
theorem hear_sm (h:jJ m c) (hp:smP m p) (hl:smL l):smR (m+1) (zFA c p l):=by
 unfold zFA
 split
 ·exact chainH_sm h.tree h.n hp hl
 ·exact ask_sm h.tree h.n hp hl
theorem hear_id (c:CU) (p:PE) (l:LT):(zFA c p l).1.id=p.id:=by
 unfold zFA
 split
 ·exact chainH_id _ _ _ _
 ·exact ask_id _ _ _ _
theorem set_sm (h:jJ m c) (i:Int) (hp:smP m p) (hi:p.id=(zCJ c i).id):jJ m (zCG c i p):=by
 refine { h with lpeers:=?_,peers:=fun x hx=>?_,ids:=fun j hj=>?_ }
 ·show (c.peers.set i.toNat p).length=4;rw [List.length_set];exact h.lpeers
 ·rcases List.mem_or_eq_of_mem_set hx with hx | rfl
  ·exact h.peers x hx
  ·exact hp
 ·have b:j < (c.peers.set i.toNat p).length:=hj;have a:j < c.peers.length:=by rwa [List.length_set] at b
  have d:((c.peers.set i.toNat p)[j]'b).id=(j:Int):=by
   rw [List.getElem_set]
   split
   ·rename_i e
    subst e;rw [hi];unfold zCJ;rw [Ae a];exact h.ids _ a
   ·exact h.ids j a
  exact d
theorem post_sm {ls:List LT} (h:jJ m c) (hl:∀ x∈ls,smL x):jJ m (jV c ls):=by
 unfold jV
 split
 ·exact h
 ·refine { h with net:=⟨?_,fun x hx=>?_⟩ }
  ·show (c.net ++ ls).length<=60;rw [Ad];omega
  ·rcases List.mem_append.1 hx with hx | hx
   ·exact h.net.2 x hx
   ·exact hl x hx
structure LifeS (m k:Nat) (c:CU):Prop where
 life:jJ (m+1) { c with said:=[] }
 said:c.said.length+k<=10 * (m+1)/\∀ v∈c.said,smV v
theorem LifeS.to (h:LifeS m k c):jJ (m+1) c:={ h.life with said:=⟨by have:=h.said.1;omega,h.said.2⟩ }
theorem say_sm (h:LifeS m (k+1) c) (hl:smL l):LifeS m k (yFD c l):=by
 unfold yFD
 have h1:LifeS m k (if l.1.1=2 then zHF c l.2.2 else c):=by
  split
  ·unfold zHF
   split
   ·exact ⟨h.life,by have:=h.said.1;omega,h.said.2⟩
   ·refine ⟨h.life,?_,fun v hv=>?_⟩
    ·show (c.said ++ [l.2.2]).length+k<=_;rw [Ad,List.length_singleton];have:=h.said.1;omega
    ·rcases List.mem_append.1 hv with hv | hv
     ·exact h.said.2 v hv
     ·rcases List.mem_singleton.1 hv with rfl;exact hl.2.2
  ·exact ⟨h.life,by have:=h.said.1;omega,h.said.2⟩
 generalize (if l.1.1=2 then zHF c l.2.2 else c)=d at h1 ⊢
 have h2:=post_sm h1.life (ls:=[l]) (fun x hx=>by rcases List.mem_singleton.1 hx with rfl;exact hl);unfold jV at h2 ⊢
 split at h2
 ·rename_i hc
  rw [if_pos hc];exact h1
 ·rename_i hc
  rw [if_neg hc];exact ⟨h2,h1.said⟩
theorem sayAll_sm {m:Nat}:∀ (ls:List LT) {k:Nat} {c:CU},LifeS m (k+ls.length) c->(∀ x∈ls,smL x)->LifeS m k (zIC c ls)
 | [],_,_,h,_=>h
 | l :: ls,k,c,h,hl=>by
  have h1:LifeS m (k+ls.length) (yFD c l):=say_sm (by simpa [Nat.add_assoc] using h) (hl l (List.mem_cons_self ..));exact sayAll_sm ls h1 (fun x hx=>hl x (List.mem_cons_of_mem _ hx))
theorem flat_setE {α:Type} {f:α->List Value} {m:Nat} (hm:∀ x,(f x).length=m) (x:α):∀ (l:List α) (i:Nat),i < l.length->setEl (zE f l) i m (f x)=zE f (l.set i x)
 | [],i,h=>by simp at h
 | a :: l,0,_=>by
  unfold setEl;simp only [Nat.zero_mul,List.take_zero,List.nil_append,Nat.zero_add,List.set_cons_zero];show f x ++ (f a ++ zE f l).drop m=f x ++ zE f l;rw [<- hm a,List.drop_left]
 | a :: l,i+1,h=>by
  have ih:=flat_setE hm x l i (by simpa using h);unfold setEl at ih ⊢;show (f a ++ zE f l).take ((i+1) * m) ++ f x ++ (f a ++ zE f l).drop ((i+1) * m+m)=f a ++ zE f (l.set i x);have e1:(i+1) * m=(f a).length+i * m:=by rw [hm a,Nat.add_mul,Nat.one_mul,Nat.add_comm]
  rw [e1,List.take_append,List.take_of_length_le (by omega),show (f a).length+i * m - (f a).length=i * m by omega,Nat.add_assoc,List.drop_append,List.drop_of_length_le (by omega),show (f a).length+(i * m+m) - (f a).length=i * m+m by omega,<- ih];simp
theorem pes_set (ps:PL) (i:Nat) (x:PE × PV):pes (ps.set i x)=(pes ps).set i x.1:=by unfold pes;rw [List.map_set]
theorem xG.setPeer {hi2 g n cap:Nat} {t:PV} (h:xG lo hi w c s) (hv:s.peersV=.slice (Ab ⟨g,0,Aa⟩) n cap) (hg:w.grownBy w' (some g)) (hlo:lo<=hi)
  (hrow:w'.ownsRow lo 35 21 s.peersV s.peers.length (zE peerF (s.peers.set m (p,t)))) (hd:zO hi hi2 w' p t) (hh:hi<=hi2):xG lo hi2 w' { c with peers:=c.peers.set m p } { s with peers:=s.peers.set m (p,t) }:=by
 have ad:zFD s 1 g:=Ag (by rw [hv];rfl);have hf:FrS (fun k=>k=g) w w':=FrS.of_grown hg (fun k e=>by cases e;rfl);have o:∀ i k,i < 5->i ≠ 1->zFD s i k->¬ k=g:=fun i k hi af hp e=>af (h.dis i 1 k hi (by omega) hp (by rw [e];exact ad))
 obtain ⟨r,ab⟩:∃ r,Bx w g r 35:=by
  have hr:=h.peers.row;rw [hv] at hr;obtain ⟨_,⟨aa,_⟩ | ⟨g2,aj,r,aa,_,ag,_⟩⟩:=hr
  ·cases aa
  ·injection aa with l _ _
   injection l with l
   injection l with l
   subst l;exact ⟨r,ag⟩
 have d:∀ i k,i < 5->zFD { s with peers:=s.peers.set m (p,t) } i k->zFD s i k∨(i=1/\hi<=k/\k < hi2):=fun i k f hp=>by
  match i,f with
  | 0,_=>exact Ag hp
  | 1,_=>
   rcases hp with hp | ⟨x,hx,hp⟩
   ·exact Ag (Ag hp)
   ·rcases List.mem_or_eq_of_mem_set hx with hx | rfl
    ·exact Ag (Ah ⟨x,hx,hp⟩)
    ·obtain ⟨a,ha,ea⟩:=hp;exact Ah ⟨rfl,zED hd.2.1 a ha k ea⟩
  | 2,_=>exact Ag hp
  | 3,_=>exact Ag hp
  | 4,_=>exact Ag hp
 refine ⟨h.etree,h.tree.frs hf (fun k hk=>o 0 k (by omega) (by omega) hk),by show pes (s.peers.set m (p,t))=c.peers.set m p;rw [pes_set,h.epeers],⟨by show w'.ownsRow lo _ 21 s.peersV (s.peers.set m (p,t)).length _;rw [List.length_set];exact hrow,fun x hx=>?_,?_⟩,hf.own h.net (fun k hk=>o 2 k (by omega) (by omega) hk),hf.own h.said (fun k hk=>o 3 k (by omega) (by omega) hk),hf.own h.pend (fun k hk=>o 4 k (by omega) (by omega) hk),fun i j k f u h1 h2=>?_,fun i k f hp=>?_,hd.2.2⟩
 ·rcases List.mem_or_eq_of_mem_set hx with hx | rfl
  ·have ho:=h.peers.own.each x hx;exact (ho.frs hf (fun k hk e=>six_not_box ho ab (by rw [<- e];exact hk))).wide hf.size (nl _)
  ·exact (hd.wide hd.2.2 (nl _)).low hlo
 ·have ai:=List.pairwise_iff_getElem.1 h.peers.own.apart;have y:∀ x∈s.peers,∀ a∈six x.2,∀ k,a.ownBlock=some k->lo<=k/\k < hi:=fun x hx a ha k e=>h.lim 1 k (by omega) (Ah ⟨x,hx,a,ha,e⟩)
  refine List.pairwise_iff_getElem.2 fun i j ah ae ac=>?_
  have v:i < s.peers.length:=by simpa using ah
  have z:j < s.peers.length:=by simpa using ae
  simp only [List.getElem_set]
  split
  ·split
   ·omega
   ·exact fun a ha b hb=>yQ (zED hd.2.1 a ha) (y _ (Ac z) b hb) (Ah (nl _))
  ·split
   ·exact fun a ha b hb=>yQ (y _ (Ac v) a ha) (zED hd.2.1 b hb) (Ag (nl _))
   ·exact ai i j v z ac
 ·rcases d i k f h1 with a | ⟨a,b,_⟩
  ·rcases d j k u h2 with a' | ⟨a',b',_⟩
   ·exact h.dis i j k f u a a'
   ·have:=h.lim i k f a;omega
  ·rcases d j k u h2 with a' | ⟨a',b',_⟩
   ·have:=h.lim j k u a';omega
   ·omega
 ·rcases d i k f hp with a | ⟨a,b,b'⟩
  ·have:=h.lim i k f a;omega
  ·omega
theorem xG.setSaid {l:List VT} (h:xG lo hi w c s) (hh:hi<=hi') (hs:hi'<=w.heap.size) (ho:w.ownsRow lo 28 4 v l.length (zE xD l)) (hv:∀ g,v.ownBlock=some g->hi<=g/\g < hi') (hlo:lo<=hi):xG lo hi' w { c with said:=l } { s with said:=v }:=by
 have d:∀ i g,i < 5->zFD { s with said:=v } i g->zFD s i g∨(i=3/\hi<=g/\g < hi'):=fun i g e hp=>by
  match i,e with
  | 0,_=>exact Ag hp
  | 1,_=>exact Ag hp
  | 2,_=>exact Ag hp
  | 3,_=>exact Ah ⟨rfl,hv g hp⟩
  | 4,_=>exact Ag hp
 refine ⟨h.etree,h.tree,h.epeers,h.peers,h.net,ho,h.pend,fun i j g e f h1 h2=>?_,fun i g e hp=>?_,hs⟩
 ·rcases d i g e h1 with a | ⟨a,b,_⟩
  ·rcases d j g f h2 with a' | ⟨a',b',_⟩
   ·exact h.dis i j g e f a a'
   ·have:=h.lim i g e a;omega
  ·rcases d j g f h2 with a' | ⟨a',b',_⟩
   ·have:=h.lim j g f a';omega
   ·omega
 ·rcases d i g e hp with a | ⟨a,b,b'⟩
  ·have:=h.lim i g e a;omega
  ·omega
theorem xG.setPend2 {l:List CM} (h:xG lo hi w c s) (hh:hi<=hi') (hs:hi'<=w.heap.size) (ho:w.ownsRow lo 139 3 v l.length (zE kL l)) (hv:∀ g,v.ownBlock=some g->hi<=g/\g < hi') (hlo:lo<=hi):xG lo hi' w { c with pend:=l } { s with pend:=v }:=by
 have d:∀ i g,i < 5->zFD { s with pend:=v } i g->zFD s i g∨(i=4/\hi<=g/\g < hi'):=fun i g e hp=>by
  match i,e with
  | 0,_=>exact Ag hp
  | 1,_=>exact Ag hp
  | 2,_=>exact Ag hp
  | 3,_=>exact Ag hp
  | 4,_=>exact Ah ⟨rfl,hv g hp⟩
 refine ⟨h.etree,h.tree,h.epeers,h.peers,h.net,h.said,ho,fun i j g e f h1 h2=>?_,fun i g e hp=>?_,hs⟩
 ·rcases d i g e h1 with a | ⟨a,b,_⟩
  ·rcases d j g f h2 with a' | ⟨a',b',_⟩
   ·exact h.dis i j g e f a a'
   ·have:=h.lim i g e a;omega
  ·rcases d j g f h2 with a' | ⟨a',b',_⟩
   ·have:=h.lim j g f a';omega
   ·omega
 ·rcases d i g e hp with a | ⟨a,b,b'⟩
  ·have:=h.lim i g e a;omega
  ·omega
theorem xG.setTree {ps:TL} (h:xG lo hi w c s) (hh:hi<=hi') (hs:hi'<=w.heap.size) (ho:xH w lo v ps) (hv:∀ g,inTree v ps g->hi<=g/\g < hi') (hlo:lo<=hi):xG lo hi' w { c with tree:=bks ps } { s with treeV:=v,tree:=ps }:=by
 have d:∀ i g,i < 5->zFD { s with treeV:=v,tree:=ps } i g->zFD s i g∨(i=0/\hi<=g/\g < hi'):=fun i g e hp=>by
  match i,e with
  | 0,_=>exact Ah ⟨rfl,hv g hp⟩
  | 1,_=>exact Ag hp
  | 2,_=>exact Ag hp
  | 3,_=>exact Ag hp
  | 4,_=>exact Ag hp
 refine ⟨rfl,ho,h.epeers,h.peers,h.net,h.said,h.pend,fun i j g e f h1 h2=>?_,fun i g e hp=>?_,hs⟩
 ·rcases d i g e h1 with a | ⟨a,b,_⟩
  ·rcases d j g f h2 with a' | ⟨a',b',_⟩
   ·exact h.dis i j g e f a a'
   ·have:=h.lim i g e a;omega
  ·rcases d j g f h2 with a' | ⟨a',b',_⟩
   ·have:=h.lim j g f a';omega
   ·omega
 ·rcases d i g e hp with a | ⟨a,b,b'⟩
  ·have:=h.lim i g e a;omega
  ·omega
structure InW (N lo:Nat) (w w':World) (c:CU) (s:CW):Prop where
 box:Bx w' N (zR c s) 124
 own:xG lo w'.heap.size w' c s
 fr:FrS (fun k=>k=N∨lo<=k) w w'
theorem InB.weak (h:InB N lo w w' c s):InW N lo w w' c s:=⟨h.box,h.own,h.fr.mono fun _ e=>Ag e⟩
theorem InW.trans {w'':World} {c':CU} {s':CW} (h:InW N lo w w' c s) (k:InW N lo w' w'' c' s'):InW N lo w w'' c' s':=⟨k.box,k.own,h.fr.trans k.fr⟩
theorem InB.trans {w'':World} {c':CU} {s':CW} (h:InB N lo w w' c s) (k:InB N lo w' w'' c' s'):InB N lo w w'' c' s':=⟨k.box,k.own,h.fr.trans k.fr⟩
theorem InB.more {x:World} (h:InB N lo w w' c s) (hb:Be w' x):InB N lo w x c s:=⟨(hb.block N (gl h.box)).trans h.box,(h.own.below hb).wide hb.size (nl _),h.fr.trans (FrS.of_below hb)⟩
theorem InW.more {x:World} (h:InW N lo w w' c s) (hb:Be w' x):InW N lo w x c s:=⟨(hb.block N (gl h.box)).trans h.box,(h.own.below hb).wide hb.size (nl _),h.fr.trans (FrS.of_below hb)⟩
theorem InB.start (hb:Bx w N (zR c s) 124) (h:xG lo hi w c s):InB N lo w w c s:=⟨hb,h.wide h.size (nl _),FrS.refl _ _⟩
def lieView (c:CU) (k:Int):Int:=if 0<=k/\k<=(c.tree.length:Int) - 1 then yR c.tree k else 0
def yAH (c:CU) (i to' ph k:Int):LT:=((2,i,to',lieView c k,0),(0,0,0,0),(ph,lieView c k,k,i))
theorem ClusR.viewCell (h:ClusR w c s):∃ a cap,s.treeV=.slice a c.tree.length cap/\∀ j (_:j < c.tree.length),∃ g off,a=Ab ⟨g,off,Aa⟩/\g < w.heap.size/\w.cell? ⟨g,off+j * 7+1,Aa⟩=Ab (I U (yR c.tree (j:Int))):=by
 obtain ⟨a,cap,e,hr⟩:=zAI h.tree;have hl:s.tree.length=c.tree.length:=by rw [<- h.etree,yO]
 refine ⟨a,cap,by rw [e,hl],fun j hj=>?_⟩;obtain ⟨g,off,e2,hg,hc⟩:=hr (by omega);refine ⟨g,off,e2,hg,?_⟩;have b:j < s.tree.length:=by omega
 rw [(hc j b).2.1,viewAt_at hj]
 congr 2
 have:c.tree[j]?=some s.tree[j].1:=by rw [<- h.etree];simp [bks,b]
 rw [Ae hj] at this;rw [Option.some.inj this]
theorem lieVote_s (c:CU) (s:CW) (i to' ph k:Int) (w:World) (hR:ClusR w c s) (hl:(c.tree.length:Int)<=1048576) :
  Calls prog 200 #[clusV c s,I U i,I U to',I U ph,I U k] w fun e w'=>e=.returned (.agg (zQ (yAH c i to' ph k)))/\Be w w':=by
 obtain ⟨p,ct,et,d⟩:=hR.viewCell;have m:=hid d;clear hR d;obtain ⟨W,hW⟩:=nw ((w.alloc (.cells (zR c s) 124)).alloc (.cells (zQ ((0,0,0,0,0),(0,0,0,0),(0,0,0,0))) 61));have HW:Hid (Be w W/\Bx W w.heap.size (zR c s) 124/\Bx W (w.heap.size+1) (zQ ((0,0,0,0,0),(0,0,0,0),(0,0,0,0))) 61):=hid (by rw [hW];exact ⟨ba (ba (br _ _) _) _,qK w _ _⟩);have c3:=zB HW.2.1 3 s.treeV rfl;rw [et] at c3;clear et;unfold zQ at hW;obtain ⟨V,hV⟩:=nw (lieView c k);obtain ⟨LL,b⟩:=nw (yAH c i to' ph k);have f:Hid (LL=((2,i,to',V,0),(0,0,0,0),(ph,V,k,i))):=(by rw [b,hV];rfl:LL=_);have HV:Hid (V=lieView c k):=hV;rw [<- b];clear b hV;go_enter func200,ntmps200;go_wp2_with (rw [<- hW];clear hW)
 refine (yS k 0 ((c.tree.length:Int) - 1) W).mono ?_;rintro e w1 ⟨rfl,hw⟩;obtain rfl:=hw.symm;clear hw
 by_cases hin:0<=k/\k<=(c.tree.length:Int) - 1
 ·rw [kY hin];obtain ⟨j,hj⟩:∃ j:Nat,k=(j:Int):=⟨k.toNat,by omega⟩;subst hj;have l:j < c.tree.length:=by omega
  obtain ⟨g,h,rfl,hg,hc⟩:=m j l;have o:W.cell? ⟨g,h+j * 7+1,Aa⟩=Ab (I U V):=by rw [HW.out.1.cell (by exact hg),hc,HV.out];unfold lieView;rw [if_pos hin]
  have q0:(0:Int)<=(j:Int):=by omega
  have q1:(j:Int) < (c.tree.length:Int):=by omega
  clear hin hc hg
  go_wp2_with (first
   | (refine w_st W.heap.size #[I U ph,I U V,I U (j:Int),I U i] (heap_alloc_new W _) (by simp [Af]) ?_;intro y hg hk hz;have a:Be W y:=yB hg;have HY:=hid (qad3 (bt HW.1 a) (bk a HW.2.2) hk);clear hg hk hz a)
   | (refine w_ld W.heap.size HY.2.2 underlying28 ?_)
   | (refine zC rfl _ _ _ rfl (w.heap.size+1) (zQ LL) rfl (by rw [f.out];rfl) 61 (zQ ((0,0,0,0,0),(0,0,0,0),(0,0,0,0))) HY.2.1 (by kernel_rfl) rfl (kD _) ?_;intro z hg hk hz;have HZ:Hid (Bx z (w.heap.size+1) (zQ LL) 61/\Be w z):=⟨hk,HY.1.grown hg HY.1.size (fun k e=>by cases e;omega)⟩;clear hg hk hz))
  refine b_cr (.agg (zQ LL)) results200 HZ.1 underlying61 ?_;exact ⟨rfl,HZ.2⟩
 ·rw [zAB hin];have n:V=0:=by rw [HV.out];exact if_neg hin
  subst n;clear hin
  go_wp2_with (first
   | (refine w_st W.heap.size #[I U ph,I U 0,I U k,I U i] (heap_alloc_new W _) (by simp [Af]) ?_;intro y hg hk hz;have a:Be W y:=yB hg;have HY:=hid (qad3 (bt HW.1 a) (bk a HW.2.2) hk);clear hg hk hz a)
   | (refine w_ld W.heap.size HY.2.2 underlying28 ?_)
   | (refine zC rfl _ _ _ rfl (w.heap.size+1) (zQ LL) rfl (by rw [f.out];rfl) 61 (zQ ((0,0,0,0,0),(0,0,0,0),(0,0,0,0))) HY.2.1 (by kernel_rfl) rfl (kD _) ?_;intro z hg hk hz;have HZ:Hid (Bx z (w.heap.size+1) (zQ LL) 61/\Be w z):=⟨hk,HY.1.grown hg HY.1.size (fun k e=>by cases e;omega)⟩;clear hg hk hz))
  refine b_cr (.agg (zQ LL)) results200 HZ.1 underlying61 ?_;exact ⟨rfl,HZ.2⟩
theorem var_any (n:Int) (w:World) (h0:0<=n) (h1:n<=1000000000) :
  Calls prog 222 #[I U n] w fun e w'=>e=.returned (.string (strOfNums (vbs n)))/\Be w w':=by
 obtain ⟨i0,hi,k,i,l⟩:=info_parts info5;go_enter func222,ntmps222;go_wp2
 go_loopw [0,3] (fun a v wr=>∃ (m:Int) (xs:List Int) (f:Nat),a=I U m/\0<=m/\xs.length+m<=n/\m.toNat<=f/\Hid (vbs n=xs ++ vb f m)/\wr.ownsRow w.heap.size 5 1 v xs.length (xs.map (Value.int .u8))/\Be w wr)
  (fun a _ _=>(intOf a).toNat)
 case atStart=>exact ⟨n,[],n.toNat,rfl,h0,by simp,nl _,rfl,World.ownsRow_made _ #[] 0 (nl _) (by decide) rfl,(br _ _).alloc (nl _) _⟩
 case round=>
  obtain ⟨m,xs,f,rfl,s,p,hf,HV,d,h⟩:=hrel;have t:=h.size
  by_cases hm:127 < m
  ·obtain ⟨g,j,o⟩:=vb_big f m hm hf;have HG:=hid j;clear j;go_wp2_with (at_builtin;refine wpList_append_own _ rfl _ _ 22 rfl w.heap.size 5 i0 (.int .u8 0) 1 1 underlying22 hi k i l rfl (by decide) _ _ _ rfl (d.alloc _) ⟨wr.heap.size,0,Aa⟩ 1 1 [.int .u8 (m % 128+128)] rfl rfl (news1 _ _ _) (ones1 _ _) (by unfold maxLen;omega) (by omega) (by simp;omega) ?_)
   intro v' w1 c b _;have R:=push_step h d c b;clear c b d h;go_wp2
   go_roundw
   case rel=>exact ⟨m / 128,xs ++ [m % 128+128],g,rfl,by omega,by simp;omega,o,(show vbs n=(xs ++ [m % 128+128]) ++ vb g (m / 128) from by have e:=HV.out;rw [HG.out] at e;simpa using e),R.1,R.2⟩
   case measure=>simp [intOf];omega
  ·have HG:Hid (vb f m=[m]):=zAJ f m (by omega);go_wp2_with (at_builtin;refine wpList_append_own _ rfl _ _ 22 rfl w.heap.size 5 i0 (.int .u8 0) 1 1 underlying22 hi k i l rfl (by decide) _ _ _ rfl (d.alloc _) ⟨wr.heap.size,0,Aa⟩ 1 1 [.int .u8 (m)] rfl rfl (news1 _ _ _) (ones1 _ _) (by unfold maxLen;omega) (by omega) (by simp;omega) ?_)
   intro v' w1 c b _;have R:=push_step h d c b;have r:=strOfNums_row R.1;have hb:=R.2;clear c b d h R;go_wp2;go_ret;exact ⟨ret_str (by have e:=HV.out;rw [HG.out] at e;exact e.symm),hb⟩
theorem var_big (n:Int) (w:World) (h0:0<=n) (h1:n<=9223372036854775807) :
  Calls prog 222 #[I U n] w fun e w'=>e=.returned (.string (vT n))/\Be w w':=by
 obtain ⟨i0,hi,k,i,l⟩:=info_parts info5;have HT:Hid ((vbs n).length<=10):=vbs_ten n h1;go_enter func222,ntmps222;go_wp2
 go_loopw [0,3] (fun a v wr=>∃ (m:Int) (xs:List Int) (f:Nat),a=I U m/\(0<=m/\m<=9223372036854775807)/\m.toNat<=f/\Hid (vbs n=xs ++ vb f m)/\wr.ownsRow w.heap.size 5 1 v xs.length (xs.map (Value.int .u8))/\Be w wr)
  (fun a _ _=>(intOf a).toNat)
 case atStart=>exact ⟨n,[],n.toNat,rfl,⟨h0,h1⟩,nl _,rfl,World.ownsRow_made _ #[] 0 (nl _) (by decide) rfl,(br _ _).alloc (nl _) _⟩
 case round=>
  obtain ⟨m,xs,f,rfl,⟨s,u⟩,hf,HV,d,h⟩:=hrel;have t:=h.size;have p:xs.length<=10:=by have h2:=congrArg List.length HV;rw [Ad] at h2;have:=HT.out;omega
  by_cases hm:127 < m
  ·obtain ⟨g,j,o⟩:=vb_big f m hm hf;have HG:=hid j;clear j;go_wp2_with (at_builtin;refine wpList_append_own _ rfl _ _ 22 rfl w.heap.size 5 i0 (.int .u8 0) 1 1 underlying22 hi k i l rfl (by decide) _ _ _ rfl (d.alloc _) ⟨wr.heap.size,0,Aa⟩ 1 1 [.int .u8 (m % 128+128)] rfl rfl (news1 _ _ _) (ones1 _ _) (by unfold maxLen;omega) (by omega) (by simp;omega) ?_)
   intro v' w1 c b _;have R:=push_step h d c b;clear c b d h;go_wp2
   go_roundw
   case rel=>exact ⟨m / 128,xs ++ [m % 128+128],g,rfl,⟨by omega,by omega⟩,o,(show vbs n=(xs ++ [m % 128+128]) ++ vb g (m / 128) from by have e:=HV.out;rw [HG.out] at e;simpa using e),R.1,R.2⟩
   case measure=>simp [intOf];omega
  ·have HG:Hid (vb f m=[m]):=zAJ f m (by omega);go_wp2_with (at_builtin;refine wpList_append_own _ rfl _ _ 22 rfl w.heap.size 5 i0 (.int .u8 0) 1 1 underlying22 hi k i l rfl (by decide) _ _ _ rfl (d.alloc _) ⟨wr.heap.size,0,Aa⟩ 1 1 [.int .u8 (m)] rfl rfl (news1 _ _ _) (ones1 _ _) (by unfold maxLen;omega) (by omega) (by simp;omega) ?_)
   intro v' w1 c b _;have R:=push_step h d c b;have r:=strOfNums_row R.1;have hb:=R.2;clear c b d h R;go_wp2;go_ret;exact ⟨ret_str (by have e:=HV.out;rw [HG.out] at e;exact e.symm),hb⟩
theorem ret_txt {x y:ByteArray} (h:x=y):Ending.returned (.string x)=Ending.returned (.string y):=by rw [h]
theorem low_s (n:Int) (w:World) (h1:n<=9223372036854775807) :
  Calls prog 219 #[I U n] w fun e w'=>e=.returned (.string (jH n))/\Be w w':=by
 by_cases h:n < 0
 ·have HE:Hid (jH n=vT 0):=hid (by unfold jH lowI;rw [if_pos h]);go_enter func219,ntmps219;go_wp2_with fail
  refine (var_big 0 w (by omega) (by omega)).mono ?_;rintro e w1 ⟨rfl,hb⟩;go_wp2;go_ret;exact ⟨ret_txt HE.symm,hb⟩
 ·have HE:Hid (jH n=vT n):=hid (by unfold jH lowI;rw [if_neg h]);go_enter func219,ntmps219;go_wp2_with fail
  refine (var_big n w (by omega) h1).mono ?_;rintro e w1 ⟨rfl,hb⟩;go_wp2;go_ret;exact ⟨ret_txt HE.symm,hb⟩
theorem zAG {a b c d:Value} {t:TypeId} (h:w.heap[N]?=Ab (.cells #[a,b,c,d] t (0,0))):w.cell? ⟨N,0,Aa⟩=some a/\w.cell? ⟨N,1,Aa⟩=some b/\w.cell? ⟨N,2,Aa⟩=some c/\w.cell? ⟨N,3,Aa⟩=some d:=by
 refine ⟨?_,?_,?_,?_⟩
 ·rw [cell_of_row _ N 0 _ _ (0,0) h];rfl
 ·rw [cell_of_row _ N 1 _ _ (0,0) h];rfl
 ·rw [cell_of_row _ N 2 _ _ (0,0) h];rfl
 ·rw [cell_of_row _ N 3 _ _ (0,0) h];rfl
theorem fourV_s (a b c d:Int) (w:World) (h0:a<=9223372036854775807) (h1:b<=9223372036854775807) (h2:c<=9223372036854775807) (h3:d<=9223372036854775807) :
  Calls prog 221 #[.agg #[I U a,I U b,I U c,I U d]] w fun e w'=>e=.returned (.string (zCC a b c d))/\Be w w':=by
 have za:=kA h0;have zb:=kA h1;have zc:=kA h2;have zd:=kA h3;have b1:(jH a).size+(jH b).size<=9223372036854775807:=by omega
 have b2:(jH a ++ jH b).size+(jH c).size<=9223372036854775807:=by rw [ByteArray.size_append];omega
 have b3:(jH a ++ jH b ++ jH c).size+(jH d).size<=9223372036854775807:=by rw [ByteArray.size_append,ByteArray.size_append];omega
 obtain ⟨W1,f⟩:=nw (w.alloc (.cells #[I U a,I U b,I U c,I U d] 28))
 have HW:Hid (Bx W1 w.heap.size #[I U a,I U b,I U c,I U d] 28/\Be w W1):=by
  rw [f];exact ⟨heap_alloc_new w _,ba (br _ _) _⟩
 have l0:w.heap.size < W1.heap.size:=(gl HW.1);have HX:Hid (∀ w',Be W1 w'->Bx w' w.heap.size #[I U a,I U b,I U c,I U d] 28):=fun w' h'=>(h'.block _ l0).trans HW.1
 have g:=yX W1;have y0:∀ x:Bw W1,x.to.cell? ⟨w.heap.size,0,Aa⟩=Ab (I U a):=fun x=>(zAG (HX _ x.below)).1
 have y1:∀ x:Bw W1,x.to.cell? ⟨w.heap.size,1,Aa⟩=Ab (I U b):=fun x=>(zAG (HX _ x.below)).2.1
 have y2:∀ x:Bw W1,x.to.cell? ⟨w.heap.size,2,Aa⟩=Ab (I U c):=fun x=>(zAG (HX _ x.below)).2.2.1
 have y3:∀ x:Bw W1,x.to.cell? ⟨w.heap.size,3,Aa⟩=Ab (I U d):=fun x=>(zAG (HX _ x.below)).2.2.2
 clear za zb zc zd;go_enter func221,ntmps221;go_wp2;rw [<- f];clear f;refine rb ?_;repeat (go_big_quiet_step (refine xX (low_s _ _ (by assumption))))
 refine qnn fun x=>?_
 go_wp2;go_ret;exact ⟨rfl,bt HW.2 x.below⟩
theorem fourQ_s (a b c d:Int) (w:World) (h0:a<=9223372036854775807) (h1:b<=9223372036854775807) (h2:c<=9223372036854775807) (h3:d<=9223372036854775807) :
  Calls prog 220 #[.agg #[I U a,I U b,I U c,I U d]] w fun e w'=>e=.returned (.string (zCC a b c d))/\Be w w':=by
 have za:=kA h0;have zb:=kA h1;have zc:=kA h2;have zd:=kA h3;have b1:(jH a).size+(jH b).size<=9223372036854775807:=by omega
 have b2:(jH a ++ jH b).size+(jH c).size<=9223372036854775807:=by rw [ByteArray.size_append];omega
 have b3:(jH a ++ jH b ++ jH c).size+(jH d).size<=9223372036854775807:=by rw [ByteArray.size_append,ByteArray.size_append];omega
 obtain ⟨W1,f⟩:=nw (w.alloc (.cells #[I U a,I U b,I U c,I U d] 26))
 have HW:Hid (Bx W1 w.heap.size #[I U a,I U b,I U c,I U d] 26/\Be w W1):=by
  rw [f];exact ⟨heap_alloc_new w _,ba (br _ _) _⟩
 have l0:w.heap.size < W1.heap.size:=(gl HW.1);have HX:Hid (∀ w',Be W1 w'->Bx w' w.heap.size #[I U a,I U b,I U c,I U d] 26):=fun w' h'=>(h'.block _ l0).trans HW.1
 have g:=yX W1;have y0:∀ x:Bw W1,x.to.cell? ⟨w.heap.size,0,Aa⟩=Ab (I U a):=fun x=>(zAG (HX _ x.below)).1
 have y1:∀ x:Bw W1,x.to.cell? ⟨w.heap.size,1,Aa⟩=Ab (I U b):=fun x=>(zAG (HX _ x.below)).2.1
 have y2:∀ x:Bw W1,x.to.cell? ⟨w.heap.size,2,Aa⟩=Ab (I U c):=fun x=>(zAG (HX _ x.below)).2.2.1
 have y3:∀ x:Bw W1,x.to.cell? ⟨w.heap.size,3,Aa⟩=Ab (I U d):=fun x=>(zAG (HX _ x.below)).2.2.2
 clear za zb zc zd;go_enter func220,ntmps220;go_wp2;rw [<- f];clear f;refine rb ?_;repeat (go_big_quiet_step (refine xX (low_s _ _ (by assumption))))
 refine qnn fun x=>?_
 go_wp2;go_ret;exact ⟨rfl,bt HW.2 x.below⟩
end Go.Proofs.YtfnneillakdopacGreatR
namespace Go.Proofs.YtfnneillakdopacGreatR.Num
variable {c:CU} {s:CW} {bl n ph to' vw:Int} {l:LT} {t:List BK} {N b hi hi' k lo m m':Nat} {p:PE} {q:QC} {v:Value} {w w':World}
def half (n:Nat):Nat:=if n % 2=1 then n / 2 ^^^ 3558460437 else n / 2
theorem half_odd {n:Nat} (h:n % 2=1):half n=n / 2 ^^^ 3558460437:=if_pos h
theorem half_even {n:Nat} (h:n % 2=0):half n=n / 2:=if_neg (by omega)
theorem xor_lt32 {a:Nat} (ha:a < 4294967296) (hb:b < 4294967296):a ^^^ b < 4294967296:=Nat.xor_lt_two_pow (n:=32) ha hb
theorem half_lt {n:Nat} (h:n < 4294967296):half n < 4294967296:=by
 unfold half
 split
 ·exact xor_lt32 (by omega) (by decide)
 ·omega
def yAE:Nat->Nat->Nat
 | 0,n=>n
 | k+1,n=>half (yAE k n)
theorem halves_lt (k:Nat) {n:Nat} (h:n < 4294967296):yAE k n < 4294967296:=by
 induction k with
 | zero=>exact h
 | succ k ih=>exact half_lt ih
def byteSum (s b:Nat):Nat:=yAE 8 (s ^^^ b)
theorem byteSum_lt {s:Nat} (h:s < 4294967296) (hb:b < 256):byteSum s b < 4294967296:=halves_lt 8 (xor_lt32 h (by omega))
def sums (s:Nat) (l:List Int):Nat:=l.foldl (fun s b=>byteSum s b.toNat) s
theorem sums_nil (s:Nat):sums s []=s:=rfl
theorem sums_cons (s:Nat) (b:Int) (l:List Int):sums s (b :: l)=sums (byteSum s b.toNat) l:=by unfold sums;rw [List.foldl_cons]
theorem sums_append (s:Nat) (l k:List Int):sums s (l ++ k)=sums (sums s l) k:=List.foldl_append
theorem sums_snoc (s:Nat) (l:List Int) (b:Int):sums s (l ++ [b])=byteSum (sums s l) b.toNat:=by rw [sums_append,sums_cons,sums_nil]
def bytesOk (l:List Int):Prop:=∀ x∈l,0<=x/\x<=255
theorem sums_lt (l:List Int):∀ s:Nat,s < 4294967296->bytesOk l->sums s l < 4294967296:=by
 induction l with
 | nil=>intro s h _;exact h
 | cons b l ih=>
  intro s h hb;have h0:=hb b (by simp);exact ih _ (byteSum_lt h (by omega)) fun x hx=>hb x (by simp [hx])
def yFE (x:Nat):List Int:=[(x:Int) / 16777216,(x:Int) / 65536 % 256,(x:Int) / 256 % 256,(x:Int) % 256]
theorem seal4_ok {x:Nat} (hx:x < 4294967296):bytesOk (yFE x):=by
 intro y hy;simp only [yFE,List.mem_cons,List.not_mem_nil,or_false] at hy
 rcases hy with rfl | rfl | rfl | rfl <;> omega
end Go.Proofs.YtfnneillakdopacGreatR.Num
namespace Go.Proofs.YtfnneillakdopacGreatR
open _root_.Go.Proofs.Tryz
open Go.RowKit Num
variable {c:CU} {s:CW} {bl n ph to' vw:Int} {l:LT} {t:List BK} {N b hi hi' k lo m m':Nat} {p:PE} {q:QC} {v:Value} {w w':World}
theorem wrap32_lt (n:Int) (h0:0<=n) (h1:n < 4294967296):IntKind.u32.wrap n=n:=by
 have:IntKind.u32.wrap n=n % 4294967296:=by simp [IntKind.wrap,IntKind.bits,IntKind.signed]
 rw [this];omega
theorem xor32 (a b:Nat) (ha:a < 4294967296) (hb:b < 4294967296):bits .xor .u32 (a:Int) (b:Int)=((a ^^^ b:Nat):Int):=by
 have hx:a ^^^ b < 4294967296:=xor_lt32 ha hb
 have h1:(BitVec.ofInt 32 (a:Int)).toNat=a:=by
  rw [BitVec.ofInt_natCast,BitVec.toNat_ofNat];exact Nat.mod_eq_of_lt (by omega)
 have h2:(BitVec.ofInt 32 (b:Int)).toNat=b:=by
  rw [BitVec.ofInt_natCast,BitVec.toNat_ofNat];exact Nat.mod_eq_of_lt (by omega)
 show IntKind.u32.wrap ((BitVec.ofInt 32 (a:Int) ^^^ BitVec.ofInt 32 (b:Int)).toNat:Int)=_;rw [BitVec.toNat_xor,h1,h2];exact wrap32_lt _ (by omega) (by omega)
theorem ret_nat {k:IntKind} {a:Nat} (h:a=b):Ending.returned (.int k (a:Int))=.returned (.int k (b:Int)):=by rw [h]
theorem bs_ok (s:ByteArray):bytesOk (bs s):=by
 intro x hx;simp only [bs,List.mem_map] at hx;obtain ⟨c,_,rfl⟩:=hx;exact byte_le c
theorem bs_take_ok (s:ByteArray) (k:Nat):bytesOk ((bs s).take k):=fun x hx=>bs_ok s x (List.mem_of_mem_take hx)
theorem sums_at (x:Nat) (s:ByteArray) (k:Nat) (h:k < s.size):sums x ((bs s).take (k+1))=byteSum (sums x ((bs s).take k)) s[k].toNat:=by
 rw [Num.take_snoc s k h,sums_snoc];rfl
theorem halves_odd {n y:Nat} (hy:y=yAE k n) (h:(y:Int) % 2=1) (hx:y < 4294967296):bits .xor .u32 ((y:Int) / 2) 3558460437=(yAE (k+1) n:Int):=by
 have:=xor32 (y / 2) 3558460437 (by omega) (by decide);have e:yAE (k+1) n=y / 2 ^^^ 3558460437:=by rw [hy];show half _=_;rw [half_odd (by omega)]
 rw [e,<- this];rfl
theorem halves_even {n y:Nat} (hy:y=yAE k n) (h:¬ (y:Int) % 2=1):y / 2=yAE (k+1) n:=by
 have e:yAE (k+1) n=y / 2:=by rw [hy];show half _=_;rw [half_even (by omega)]
 exact e.symm
theorem sum_s (x:Nat) (hx:x < 4294967296) (s:ByteArray) (hs:(s.size:Int)<=1048600) (w:World) :
  Calls prog 251 #[.int .u32 (x:Int),.string s] w fun e w'=>e=.returned (.int .u32 (sums x (bs s):Int))/\w'=w:=by
 go_enter func251,ntmps251;go_wp2
 go_loop [0,5] (fun v i=>∃ (k y:Nat),k<=s.size/\i=.int .i64 (k:Int)/\v=.int .u32 (y:Int)/\Hid (y=sums x ((bs s).take k))) (fun _ i=>s.size - (intOf i).toNat)
 case atStart=>exact ⟨0,x,Nat.zero_le _,rfl,rfl,rfl⟩
 case round=>
  obtain ⟨k,y,hk,rfl,rfl,HY⟩:=hrel
  by_cases hlt:(k:Int) < s.size
  ·have f:k < s.size:=by omega
   have hb:=byte_le s[k];have hy:y < 4294967296:=by rw [HY.out];exact sums_lt _ _ hx (bs_take_ok s k)
   have q0:(0:Int)<=(k:Int):=by omega
   have c:=xor32 y s[k].toNat hy (by omega);have b:y ^^^ s[k].toNat < 4294967296:=xor_lt32 hy (by omega)
   generalize hz:y ^^^ s[k].toNat=z at c b
   have HZ:=hid hz;clear hz;go_wp2
   go_loop [0,6] (fun v i=>∃ (j u:Nat),j<=8/\i=.int .i64 (j:Int)/\v=.int .u32 (u:Int)/\Hid (u=yAE j z)) (fun _ i=>8 - (intOf i).toNat)
   case atStart=>exact ⟨0,z,Nat.zero_le _,rfl,rfl,rfl⟩
   case round=>
    obtain ⟨j,u,hj,rfl,rfl,HU⟩:=hrel;have hu:u < 4294967296:=by rw [HU.out];exact halves_lt _ b
    by_cases hj8:(j:Int) < 8
    ·by_cases hodd:(u:Int) % 2=1
     ·have a:=halves_odd HU hodd hu;go_wp2
      go_round
      case rel=>exact ⟨j+1,yAE (j+1) z,by omega,by go_num,rfl,rfl⟩
      case measure=>simp [intOf];omega
     ·have a:=halves_even HU hodd;go_wp2
      go_round
      case rel=>exact ⟨j+1,u / 2,by omega,by go_num,by simp,a⟩
      case measure=>simp [intOf];omega
    ·have d:j=8:=by omega
     subst d;go_wp2
     go_round
     case rel=>exact ⟨k+1,u,by omega,by go_num,rfl,(show _=sums x ((bs s).take (k+1)) from by rw [sums_at x s k f,<- HY.out,HU.out,<- HZ.out];rfl)⟩
     case measure=>simp [intOf];omega
  ·go_wp2;go_ret;exact ⟨ret_nat (by rw [HY.out,List.take_of_length_le (by rw [zDC];omega)]),rfl⟩
theorem sumOf_s (s:ByteArray) (hs:(s.size:Int)<=1048600) (w:World) :
  Calls prog 243 #[.string s] w fun e w'=>e=.returned (.int .u32 (sums 4294967295 (bs s):Int))/\w'=w:=by
 go_enter func243,ntmps243;go_wp2_with fail
 refine (sum_s 4294967295 (by decide) s hs w).mono ?_;rintro e w1 ⟨rfl,rfl⟩;go_wp2;go_ret;exact ⟨rfl,rfl⟩
theorem four_str (W:World) (a b c d:Int) (t:TypeId):(convert 22 9 (.slice (some ⟨W.heap.size,0,none⟩) 4 4)).run prog (W.alloc (.cells #[.int .u8 a,.int .u8 b,.int .u8 c,.int .u8 d] t))=.ok (.string (strOfNums [a,b,c,d])) (W.alloc (.cells #[.int .u8 a,.int .u8 b,.int .u8 c,.int .u8 d] t)):=by
 refine run_convert_bytes_arg _ 22 5 underlying22 underlying5 W.heap.size 0 4 4 [a,b,c,d] rfl ?_ 9 underlying9;intro i hi;rw [cell_of_row _ W.heap.size _ _ _ (0,0) (heap_alloc_new W _)]
 match i,hi with
 | 0,_=>rfl
 | 1,_=>rfl
 | 2,_=>rfl
 | 3,_=>rfl
def sumT (s:ByteArray):Nat:=sums 4294967295 (bs s)
theorem sumT_lt (s:ByteArray):sumT s < 4294967296:=sums_lt _ _ (by decide) (bs_ok s)
def sealRight (s:ByteArray) (n:Nat):Prop:=s.extract n s.size=strOfNums (yFE (sumT (s.extract 0 n)))
theorem seal_eq {s:ByteArray} {n:Nat} (h:sealRight s n):((s.extract n s.size).toList == (strOfNums (yFE (sumT (s.extract 0 n)))).toList)=true:=by
 rw [h];simp
theorem four_s (x:Nat) (hx:x < 4294967296) (w:World) :
  Calls prog 242 #[.int .u32 (x:Int)] w fun e w'=>e=.returned (.string (strOfNums (yFE x)))/\Be w w':=by
 have a:=four_str w ((x:Int) / 16777216) ((x:Int) / 65536 % 256) ((x:Int) / 256 % 256) ((x:Int) % 256) 5;go_enter func242,ntmps242;go_wp2;go_ret;exact ⟨rfl,(br _ _).alloc (nl _) _⟩
theorem sealed_no_s (s:ByteArray) (w:World) (h:(20000:Int) < s.size) :
  Calls prog 223 #[.string s] w fun e w'=>e=.returned (.tuple #[.string ByteArray.empty,.bool false])/\Be w w':=by
 go_enter func223,ntmps223;go_wp2
 go_ret2
 exact ⟨rfl,br _ _⟩
theorem sealed_yes_s (s:ByteArray) (w:World) (h:(s.size:Int)<=20000) :
  Calls prog 223 #[.string s] w fun e w'=>e=.returned (.tuple #[.string (s ++ strOfNums (yFE (sumT s))),.bool true])/\Be w w':=by
 have hx:=sumT_lt s
 have hr:s.size+(strOfNums (yFE (sumT s))).size<=9223372036854775807:=by
  rw [strOfNums_size];simp [yFE];omega
 go_enter func223,ntmps223;go_wp2_with fail
 refine (sumOf_s s (by omega) w).mono ?_;rintro e w1 ⟨rfl,hw⟩;obtain rfl:=hw.symm;clear hw;go_wp2_with fail
 refine (four_s (sumT s) hx _).mono ?_;rintro e w2 ⟨rfl,hb⟩;go_wp2
 go_ret2
 exact ⟨rfl,hb⟩
theorem unsealed_good_s (s:ByteArray) (w:World) (n:Nat) (hn:(s.size:Int) - 4=(n:Int)) (h2:(n:Int)<=20000) (hgood:Hid (sealRight s n)) :
  Calls prog 215 #[.string s] w fun e w'=>e=.returned (.tuple #[.string (s.extract 0 n),.bool true])/\Be w w':=by
 have hx:=sumT_lt (s.extract 0 n);have q1:(0:Int)<=(n:Int):=by omega
 have q3:(n:Int)<=(s.size:Int):=by omega
 have hz:(s.extract 0 n).size<=20000:=by rw [ByteArray.size_extract];omega
 have d1:decide ((n:Int) < 0)=false:=by simp
 have d2:decide ((20000:Int) < (n:Int))=false:=by simpa using h2
 have a:=seal_eq hgood.out;go_enter func215,ntmps215;go_wp2;have b:=yX w;refine rb ?_;repeat (go_big_quiet_step (first | refine zI (sumOf_s _ (by omega) _) | refine xX (four_s (sumT (s.extract 0 n)) hx _)))
 refine qnn fun x=>?_
 go_wp2
 go_ret2
 exact ⟨rfl,x.below⟩
end Go.Proofs.YtfnneillakdopacGreatR
