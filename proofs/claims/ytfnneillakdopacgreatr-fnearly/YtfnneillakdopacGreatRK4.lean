/-
  Texts of ours that later ones lean on, in one: ClusH, VotedS, PartP, BestS, ShowsS, TreeN, HeightS, AppC, PutS, CellS2, UndoS, UndoAllS, BackP, HasS, AppTwo, FloatY, ChainS, RowS, DoneS, DoneAllS, RowCS.
-/
import Derived.Test.YtfnneillakdopacGreatRClusOZ
import Derived.Test.YtfnneillakdopacGreatRK3
import Derived.Test.YtfnneillakdopacGreatRK1
import Derived.Test.YtfnneillakdopacGreatRK2
import Derived.Test.YtfnneillakdopacGreatRPutBSZ
import Derived.Laws.AppendOwn
import Derived.OwnWalk
import Derived.Laws.Cover1
import Derived.BigQuiet
import Derived.Deep.AppendLies
import Derived.Maps.AppendAt
set_option maxRecDepth 100000
set_option maxHeartbeats 32000000
namespace Go.Proofs.YtfnneillakdopacGreatR
open _root_.Go.Proofs.Tryz
open Go.Value renaming int->I,oneCell'->Am,string->Ar
open Go.IntKind renaming i64->U
open Option renaming none->Aa,some->Ab
open Nat renaming le_trans->Ac,lt_of_lt_of_le->Ad,zero_le->Ae
open Option.some renaming inj->Af
open List renaming getElem_mem->Ag,length_append->Ah,getElem?_eq_getElem->Al,length_take->As,take_length->At
open Go.World.ownsRow renaming kept->Ai,alloc->Aj
open _root_.Array renaming replicate->Ak
open Go.Obj renaming cells->An
open Or renaming inl->Ao,inr->Ap
open _root_.ByteArray renaming empty->Aq
open Go.RowKit Num
variable {a:Act} {L:Array Bool} {A O:Array Value} {cs:CL} {fn:Func} {b k under:Int} {t:List BK} {l:List Nat} {N base f i j m n s:Nat} {os:Oper} {P:Program} {ps:TL} {v:Value} {w w' x y:World}
theorem bitC_neq (x:Int) (k:Nat):((x / 2 ^ k).tmod 2 != 0)=decide (zAA x k ≠ 0):=by
 by_cases h:zAA x k=0
 ·rw [(shr_odd x k).2 h,h];rfl
 ·have h2:¬ (x / 2 ^ k).tmod 2=0:=fun e=>h ((shr_odd x k).1 e)
  rw [decide_eq_true h];simpa using h2
def qZ (c:CU) (i:Int):Bool:=inB i 0 (wrap64 (c.n - 1)) && (decide (i < 7) && decide (zAA c.liars i.toNat ≠ 0))
def xT (c:CU) (i:Int):Bool:=inB i 0 ((c.peers.length:Int) - 1) && (inB i 0 (wrap64 (c.n - 1)) && !qZ c i)
theorem yAI (c:CU) (s:CW) (i:Int) (w:World) :
  Calls prog 170 #[clusV c s,I U i] w fun e w'=>e=.returned (.bool (qZ c i))/\Be w w':=by
 obtain ⟨W,hW⟩:=nw (w.alloc (.cells (zR c s) 124));have HB:Hid (Be w W):=hid (by rw [hW];exact ba (br _ _) _);have HK:Hid (Bx W w.heap.size (zR c s) 124):=(by rw [hW];exact heap_alloc_new w _:W.heap[w.heap.size]?=_);go_enter func170,ntmps170;have c0:=zB HK 0 (I U c.n) rfl;rw [hW] at c0;go_wp2_with fail
 rw [<- hW];clear hW c0;refine (yS i 0 (wrap64 (c.n - 1)) W).mono ?_;rintro e w1 ⟨rfl,hw⟩;obtain rfl:=hw.symm;clear hw;have c2:=zB HK 2 (I U c.liars) rfl
 cases hi:inB i 0 (wrap64 (c.n - 1)) with
 | false=>
  have HE:Hid (qZ c i=false):=hid (by unfold qZ;rw [hi];rfl);go_wp2;go_ret;exact ⟨zL HE.symm,HB⟩
 | true=>
  have h0:0<=i:=by unfold inB at hi;simp at hi;exact hi.1
  by_cases h7:i < 7
  ·obtain ⟨j,hj⟩:∃ j:Nat,i=(j:Int):=⟨i.toNat,by omega⟩;subst hj;have HE:Hid (qZ c (j:Int)=decide (zAA c.liars j ≠ 0)):=(by unfold qZ;rw [hi,decide_eq_true h7];simp:qZ c (j:Int)=_);have a:(j:Int) < 7:=h7;clear hi h7;go_wp2;go_ret;exact ⟨zL (by rw [HE.out,bitC_neq]),HB⟩
  ·have HE:Hid (qZ c i=false):=hid (by unfold qZ;rw [hi,decide_eq_false h7];rfl);go_wp2;go_ret;exact ⟨zL HE.symm,HB⟩
theorem zHB (c:CU) (s:CW) (i:Int) (w:World) (hR:ClusR w c s) (hk:(c.peers.length:Int)<=1048576) :
  Calls prog 167 #[clusV c s,I U i] w fun e w'=>e=.returned (.bool (xT c i))/\Be w w':=by
 obtain ⟨ap,cp,ep,-⟩:=hR.peers.row;have d:s.peers.length=c.peers.length:=by rw [<- hR.epeers,yCI]
 rw [d] at ep;clear hR d;obtain ⟨W,hW⟩:=nw (w.alloc (.cells (zR c s) 124));have HB:Hid (Be w W):=hid (by rw [hW];exact ba (br _ _) _);have HK:Hid (Bx W w.heap.size (zR c s) 124):=(by rw [hW];exact heap_alloc_new w _:W.heap[w.heap.size]?=_);go_enter func167,ntmps167;have c0:=zB HK 4 (.slice ap c.peers.length cp) (by rw [<- ep];rfl);rw [hW] at c0;go_wp2_with fail
 rw [<- hW];clear hW c0;refine (yS i 0 ((c.peers.length:Int) - 1) W).mono ?_;rintro e w1 ⟨rfl,hw⟩;obtain rfl:=hw.symm;clear hw;have c2:=zB HK 0 (I U c.n) rfl
 cases hi:inB i 0 ((c.peers.length:Int) - 1) with
 | false=>
  have HE:Hid (xT c i=false):=hid (by unfold xT;rw [hi];rfl);go_wp2;go_ret;exact ⟨zL HE.symm,HB⟩
 | true=>
  go_wp2_with fail
  refine (yS i 0 (wrap64 (c.n - 1)) W).mono ?_;rintro e w1 ⟨rfl,hw⟩;obtain rfl:=hw.symm;clear hw
  cases hj:inB i 0 (wrap64 (c.n - 1)) with
  | false=>
   have HE:Hid (xT c i=false):=hid (by unfold xT;rw [hi,hj];rfl);go_wp2;go_ret;exact ⟨zL HE.symm,HB⟩
  | true=>
   have HE:Hid (xT c i=!qZ c i):=(by unfold xT;rw [hi,hj];rfl:xT c i=_);clear c2;go_wp2_with (refine qB (by first | rfl | simp [Region.wanted,yielded]) _ _ rfl w.heap.size rfl 124 _ (0,0) _ HK underlying124 rfl (by kernel_rfl) ?_)
   refine (yAI c s i W).mono ?_;rintro e w1 ⟨rfl,hb⟩;have f:Hid (Be w w1):=bt HB hb;clear hb;obtain ⟨b,a⟩:=nw (qZ c i);rw [<- a] at HE ⊢;clear a;go_wp2;go_ret;exact ⟨zL HE.symm,f⟩
theorem zM {op:Oper} (ty:TypeId) (x:Operand) (ho:op.op=.load ty x) (g:Nat) (hx:a.eval x=.pointer (Ab ⟨g,0,Aa⟩)) (t:TypeId) (cs:Array Value) (fr:Nat × Nat) (d:TypeDesc) (hg:w.heap[g]?=Ab (.cells cs t fr))
  (hu:P.underlying ty=some d) (hd:(match d with | .struct _ | .array _ _=>true | _=>false)=true) (hi:(P.info? ty).map (·.size)=some cs.size):(execOp a.eval op).run P w=.ok (.value (.agg cs)) w:=by
 unfold execOp;simp only [ho,hx,Instr.loadAt,Instr.sureAddr,Sem.run_bind,Sem.run_pure,Result.andThen_ok,run_loadVar_row w g t ty cs fr d hg hu hd hi]
theorem ldb {op:Oper} {ty t:TypeId} {x:Operand} {cs:Array Value} {fr:Nat × Nat} {d:TypeDesc} (g:Nat) (hg:w.heap[g]?=Ab (.cells cs t fr)) (hu:P.underlying ty=some d)
  (ho:op.op=.load ty x:=by exact rfl) (hx:a.eval x=.pointer (Ab ⟨g,0,Aa⟩):=by exact rfl) (hd:(match d with | .struct _ | .array _ _=>true | _=>false)=true:=by exact rfl) (hi:(P.info? ty).map (·.size)=some cs.size:=by kernel_rfl):(execOp a.eval op).run P w=.ok (.value (.agg cs)) w:=zM ty x ho g hx t cs fr d hg hu hd hi
theorem results_cells2 {p q:Tmp} {ty tz:TypeId} (h:fn.results=#[.cell p ty,.cell q tz]) (tmps:Array Value) (w:World) (g:Nat) (t:TypeId) (cs:Array Value) (fr:Nat × Nat) (d:TypeDesc) (g':Nat) (t':TypeId) (cs':Array Value) (fr':Nat × Nat) (d':TypeDesc)
  (hp:tmps.getD p undef=.pointer (Ab ⟨g,0,Aa⟩)) (hg:w.heap[g]?=Ab (.cells cs t fr)) (hu:P.underlying ty=some d) (hd:(match d with | .struct _ | .array _ _=>true | _=>false)=true) (hi:(P.info? ty).map (·.size)=some cs.size)
  (hq:tmps.getD q undef=.pointer (Ab ⟨g',0,Aa⟩)) (hg':w.heap[g']?=Ab (.cells cs' t' fr')) (hu':P.underlying tz=some d') (hd':(match d' with | .struct _ | .array _ _=>true | _=>false)=true) (hi':(P.info? tz).map (·.size)=some cs'.size) :
  (results fn tmps).run P w=.ok (.tuple #[.agg cs,.agg cs']) w:=by
 have b:tmps[p]?.getD undef=.pointer (Ab ⟨g,0,Aa⟩):=by simpa using hp
 have a:tmps[q]?.getD undef=.pointer (Ab ⟨g',0,Aa⟩):=by simpa using hq
 simp [results,h,b,a,asAddr,run_loadVar_row w g t ty cs fr d hg hu hd hi,run_loadVar_row w g' t' tz cs' fr' d' hg' hu' hd' hi']
theorem voted_s (p:PE) (s:PV) (phase view block:Int) (w:World) (hR:jS w p s) (hs:yC p) :
  Calls prog 241 #[yZ p s,I U phase,I U view,I U block] w fun e w'=>∃ s',e=.returned (.tuple #[yZ (yP p phase view block) s',.agg #[I U phase,I U view,I U block,I U p.id]])/\zO w.heap.size w'.heap.size w' (yP p phase view block) s'/\Be w w':=by
 have HR:=hid hR;have HS:=hid hs;clear hR hs;obtain ⟨W,hW⟩:=nw (((w.alloc (.cells (zA p s) 35)).alloc (.cells zF 35)).alloc (.cells #[I U 0,I U 0,I U 0,I U 0] 28))
 have HC:Hid (Be w W/\Bx W w.heap.size (zA p s) 35/\Bx W (w.heap.size+1) zF 35/\Bx W (w.heap.size+1+1) #[I U 0,I U 0,I U 0,I U 0] 28):=by
  rw [hW];exact ⟨ba (ba (ba (br _ _) _) _) _,zJH w _ _ _⟩
 have a:Hid (W.heap.size=w.heap.size+1+1+1):=hid (by rw [hW];simp);unfold zF at hW;go_enter func241,ntmps241;go_wp2_with (rw [<- hW];clear hW;refine w_ld w.heap.size HC.2.1 underlying35 ?_)
 refine (zHJ p s W (HR.below HC.1) HS).mono ?_;rintro e x1 ⟨s1,rfl,ho,hb⟩;have j:=hid ho.toD;have b:=hid hb;clear ho hb
 go_wp2_with (first
  | (refine w_st x1.heap.size (zA p s1) (heap_alloc_new x1 _) (zJ j.1) ?_;intro y1 hg hk hz;have c:Be x1 y1:=yB hg;have f:Hid (Bx3 w y1 x1.heap.size (zA p s) zF (zA p s1)):=⟨bt HC.1 (bt b c),(c.block _ (by have:=b.size;have:=a.out;omega)).trans ((b.block _ (by have:=a.out;omega)).trans HC.2.1),(c.block _ (by have:=b.size;have:=a.out;omega)).trans ((b.block _ (by have:=a.out;omega)).trans HC.2.2.1),hk,(by have:=b.size;have:=a.out;omega)⟩;have i:Hid (Bx y1 (w.heap.size+1+1) #[I U 0,I U 0,I U 0,I U 0] 28):=(c.block _ (by have:=b.size;have:=a.out;omega)).trans ((b.block _ (by have:=a.out;omega)).trans HC.2.2.2);have o:Hid (zO W.heap.size x1.heap.size y1 p s1):=j.below c;clear hg hk hz c j;have c0:=zB f.box 0 (I U p.id) rfl)
  | (refine yY rfl _ _ _ rfl x1.heap.size 10 #[I U phase,I U view,I U block,I U p.id] rfl rfl _ _ (f.more ((br _ _).alloc (nl _) (.cells #[I U phase,I U view,I U block,I U p.id] 28))).out (by kernel_rfl) (by simp [zA]) (by simp [Am]) (zA (yP p phase view block) s1) rfl ?_;intro y2 hg hk;have g:Hid (Bx3 w y2 x1.heap.size (zA p s) zF (zA (yP p phase view block) s1)):=(f.more ((br _ _).alloc (nl _) _)).put hg hk;have m:Hid (zO W.heap.size x1.heap.size y2 (yP p phase view block) s1):=((o.below ((br _ _).alloc (nl _) _)).far hg (Ap (nl _))).other rfl rfl rfl rfl rfl rfl;have t:=hid f.out.lt;have r:Hid (Bx y2 y1.heap.size #[I U phase,I U view,I U block,I U p.id] 28):=(hg.block _ (by simp) (fun e=>by have e:=Af e;have:=t.out;omega)).trans (heap_alloc_new y1 _);have k:Hid (Bx y2 (w.heap.size+1+1) #[I U 0,I U 0,I U 0,I U 0] 28):=(hg.block _ (by have:=(gl i);simp;omega) (fun e=>by have e:=Af e;have:=b.size;have:=a.out;omega)).trans ((((Below.refl y1.heap.size y1).alloc (nl _) _).block _ (gl i)).trans i);clear hg hk f o i c0))
 refine xA (fun x=>Bx x x1.heap.size (zA (yP p phase view block) s1) 35/\Bx x y1.heap.size #[I U phase,I U view,I U block,I U p.id] 28) (by kernel_rfl) ?_;show wpAnyH prog _ _ _ _ (3+1) (Ak 4 false) _ _;have hS:Bx y2.drew x1.heap.size (zA (yP p phase view block) s1) 35/\Bx y2.drew y1.heap.size #[I U phase,I U view,I U block,I U p.id] 28:=⟨g.out.out,r⟩;refine yJ 0 22 (.agg (zA (yP p phase view block) s1)) hS ?_ (hy:=fun x hx=>ldb x1.heap.size hx.1 underlying35);refine yJ 1 23 (.agg #[I U phase,I U view,I U block,I U p.id]) hS ?_ (hy:=fun x hx=>ldb y1.heap.size hx.2 underlying28);refine h_st 2 (w.heap.size+1) (zA (yP p phase view block) s1) g.zero (zJ m.1) ?_;intro z1 hg hk;have aa:=hid hk;have d:=hid (qad3 b.out.size t.out (gl r));have l:Hid (Be w z1):=(g.below.trans (br _ _).drew).grown hg g.below.size (qkk (by omega));have ae:Hid (zO W.heap.size x1.heap.size z1 (yP p phase view block) s1):=(m.below (br _ _).drew).far hg (Ao (by have:=a.out;omega));have ab:Hid (Bx z1 (w.heap.size+1+1) #[I U 0,I U 0,I U 0,I U 0] 28):=gk hg k (fun e=>by have e:=Af e;omega);have h:Bx z1 x1.heap.size (zA (yP p phase view block) s1) 35/\Bx z1 y1.heap.size #[I U phase,I U view,I U block,I U p.id] 28:=⟨gk hg hS.1 (fun e=>by have e:=Af e;have:=d.out;have:=a.out;omega),gk hg hS.2 (fun e=>by have e:=Af e;have:=d.out;have:=a.out;omega)⟩;have z:Hid (x1.heap.size<=z1.heap.size):=Ac (by have:=d.out;show x1.heap.size<=y2.heap.size;omega) hg.size;clear hg hk hS;refine ⟨h,?_⟩;refine h_st 3 (w.heap.size+1+1) #[I U phase,I U view,I U block,I U p.id] ab (by simp [Am]) ?_;intro z2 hg hk;have k:=hid hk;have y:Hid (Bx z2 (w.heap.size+1) (zA (yP p phase view block) s1) 35):=gk hg aa (fun e=>by have e:=Af e;omega);have u:Hid (Be w z2):=l.grown hg l.size (qkk (by omega));have ad:Hid (zO W.heap.size x1.heap.size z2 (yP p phase view block) s1):=ae.far hg (Ao (by have:=a.out;omega));have ac:Hid (x1.heap.size<=z2.heap.size):=Ac z hg.size;have n:Bx z2 x1.heap.size (zA (yP p phase view block) s1) 35/\Bx z2 y1.heap.size #[I U phase,I U view,I U block,I U p.id] 28:=⟨gk hg h.1 (fun e=>by have e:=Af e;have:=d.out;have:=a.out;omega),gk hg h.2 (fun e=>by have e:=Af e;have:=d.out;have:=a.out;omega)⟩;clear hg hk h;refine ⟨n,?_⟩;refine h_dn ?_;clear n;go_wp2;refine bodyPost_ret (v:=.tuple #[.agg (zA (yP p phase view block) s1),.agg #[I U phase,I U view,I U block,I U p.id]]) (results_cells2 results241 _ _ (w.heap.size+1) 35 _ (0,0) _ (w.heap.size+1+1) 28 _ (0,0) _ rfl y underlying35 rfl (by kernel_rfl) rfl k underlying28 rfl (by kernel_rfl)) rfl ?_;exact ⟨_,rfl,(ad.wide ac (nl _)).low HC.1.size,u⟩
section
variable {P:Program} {ops:Array Oper} {Q:Exit->Act->World->Prop} {md:Region.Mode} {C:World->Prop} {pend:Nat->Bool}
theorem xW {ty t:TypeId} {x y:Operand} {o:Nat} {cells old new:Array Value} (ho:ops[s]?=some os) (hgd:os.guard=none) (hop:os.op=.store ty x y) (hd:os.dst=none) (hr:Region.ready md ops L=[s])
  (hx:a.eval x=.pointer (Ab ⟨N,o,Aa⟩)) (hy:a.eval y=.agg cells) (hg:w.heap[N]?=Ab (.cells old t (0,0))) (hi:(P.info? ty).map (·.size)=some cells.size) (hold:o+cells.size<=old.size) (h1:cells.all (·.oneCell')=true) (hn:yBB old o cells=new)
  (h:∀ w',w.grownBy w' (some N)->w'.heap[N]?=Ab (.cells new t (0,0))->(pend s=true->C w')/\zX P md ops Q C pend f (L.setIfInBounds s true) a w'):zX P md ops Q C pend (f+1) L a w:=by
 subst hn;obtain ⟨g1,g2,_⟩:=zEB (cells:=yBB old o cells) hg;refine ⟨fun h0=>(by rw [hr] at h0;cases h0),fun j hj=>?_⟩;rw [hr] at hj;obtain rfl:j=s:=by simpa using hj
 unfold wpOp;simp only [ho];rw [if_pos (by simp [Region.wanted,hgd])];refine Ao ?_;unfold Oper.wp execOp;simp only [hop,hx,hy,Instr.storeAt,Instr.sureAddr,Sem.run_bind,Sem.run_pure,Result.andThen_ok,yCJ w N o t ty old cells hg hi hold h1];unfold Oper.upon;simp only [hd];exact h _ g1 g2
theorem p_pa {ty t:TypeId} {x y:Operand} (s N o:Nat) (cells old new:Array Value) (hg:w.heap[N]?=Ab (.cells old t (0,0))) (hold:o+cells.size<=old.size) (h1:cells.all (·.oneCell')=true) (hn:yBB old o cells=new)
  (h:∀ w',w.grownBy w' (some N)->w'.heap[N]?=Ab (.cells new t (0,0))->(pend s=true->C w')/\zX P md ops Q C pend f (L.setIfInBounds s true) a w')
  (ho:ops[s]?=some os:=by exact rfl) (hgd:os.guard=none:=by exact rfl) (hop:os.op=.store ty x y:=by exact rfl) (hd:os.dst=none:=by exact rfl) (hr:Region.ready md ops L=[s]:=by kernel_rfl) (hx:a.eval x=.pointer (Ab ⟨N,o,Aa⟩):=by exact rfl) (hy:a.eval y=.agg cells:=by exact rfl) (hi:(P.info? ty).map (·.size)=some cells.size:=by kernel_rfl):zX P md ops Q C pend (f+1) L a w:=xW ho hgd hop hd hr hx hy hg hi hold h1 hn h
end
def zAE (q:QC) (l:List LT):QC:=l.foldl (fun q x=>yF q x.2.1) q
def bestT (p:PE):QC:=zAE p.high p.news
theorem best_snoc (q:QC) (l:List LT) (k:Nat) (h:k < l.length):zAE q (l.take (k+1))=yF (zAE q (l.take k)) l[k].2.1:=by
 unfold zAE;rw [List.take_succ_eq_append_getElem h,List.foldl_append]
 rfl
structure BqS (w y:World) (N:Nat) (A O:Array Value):Prop where
 below:Be w y
 box:Bx y w.heap.size A 35
 zero:Bx y (w.heap.size+1) #[I U 0,I U 0,I U 0,I U 0] 26
 out:Bx y N O 26
 far:w.heap.size+1 < N
theorem BqS.lt (h:BqS w y N A O):N < y.heap.size:=(gl h.out)
theorem BqS.more (h:BqS w y N A O) (hb:Be y x):BqS w x N A O:=by
 have:=h.lt;have:=h.far;exact ⟨bt h.below hb,(hb.block _ (by omega)).trans h.box,(hb.block _ (by omega)).trans h.zero,(hb.block _ (by omega)).trans h.out,h.far⟩
theorem BqS.put {O':Array Value} (h:BqS w y N A O) (hg:y.grownBy x (some N)) (hk:Bx x N O' 26):BqS w x N A O':=by
 have:=h.lt;have:=h.far;exact ⟨h.below.grown hg h.below.size (qkk (by omega)),(hg.block _ (by omega) (qsn (by omega))).trans h.box,(hg.block _ (by omega) (qsn (by omega))).trans h.zero,hk,h.far⟩
theorem bestQc_s (p:PE) (s:PV) (w:World) (hR:jS w p s) (hn:(p.news.length:Int)<=1048576) :
  Calls prog 211 #[yZ p s] w fun e w'=>e=.returned (.agg #[I U (bestT p).1,I U (bestT p).2.1,I U (bestT p).2.2.1,I U (bestT p).2.2.2])/\Be w w':=by
 obtain ⟨a,cap,er,hr⟩:=hR.news;have HN:=hid hr;clear hr hR;obtain ⟨W,hW⟩:=nw ((w.alloc (.cells (zA p s) 35)).alloc (.cells #[I U 0,I U 0,I U 0,I U 0] 26))
 have HC:Hid (Be w W/\Bx W w.heap.size (zA p s) 35/\Bx W (w.heap.size+1) #[I U 0,I U 0,I U 0,I U 0] 26):=by
  rw [hW];exact ⟨ba (ba (br _ _) _) _,qK w _ _⟩
 have t:Hid (W.heap.size=w.heap.size+1+1):=hid (by rw [hW];simp);have c2:=zB HC.2.1 2 (I U p.high.1) rfl;have c3:=zB HC.2.1 3 (I U p.high.2.1) rfl;have c4:=zB HC.2.1 4 (I U p.high.2.2.1) rfl;have c5:=zB HC.2.1 5 (I U p.high.2.2.2) rfl;go_enter func211,ntmps211;obtain ⟨N,hN⟩:=nw W.heap.size;go_wp2_with (first | (refine w_st W.heap.size #[I U p.high.1,I U p.high.2.1,I U p.high.2.2.1,I U p.high.2.2.2] (heap_alloc_new W _) (by simp [Am]) ?_;intro y1 hg hk hz;have hb:Be W y1:=yB hg;have y:Hid (BqS w y1 N (zA p s) #[I U (zAE p.high (p.news.take 0)).1,I U (zAE p.high (p.news.take 0)).2.1,I U (zAE p.high (p.news.take 0)).2.2.1,I U (zAE p.high (p.news.take 0)).2.2.2]):=⟨bt HC.1 hb,bk hb HC.2.1,bk hb HC.2.2,(by rw [hN];exact hk),(by have:=t.out;omega)⟩;clear hg hk hz hb c2 c3 c4 c5) | (rw [<- hW];clear hW))
 rw [<- hN];clear hN HC t
 go_loopw [4] (fun i wr=>∃ k:Nat,k<=p.news.length/\i=I U (k:Int)/\Hid (BqS w wr N (zA p s) #[I U (zAE p.high (p.news.take k)).1,I U (zAE p.high (p.news.take k)).2.1,I U (zAE p.high (p.news.take k)).2.2.1,I U (zAE p.high (p.news.take k)).2.2.2])) (fun i _=>p.news.length - (intOf i).toNat)
 case atStart=>exact ⟨0,Ae _,rfl,y⟩
 case round=>
  obtain ⟨m,hm,rfl,HY⟩:=hrel;have n:=zB HY.box 19 s.news rfl;rw [er] at n
  by_cases hlt:(m:Int) < p.news.length
  ·have c:m < p.news.length:=by omega
   obtain ⟨g,b,rfl,hg,hc⟩:=HN (by omega);have q0:(0:Int)<=(m:Int):=by omega
   obtain ⟨jq,j⟩:∃ jq:QC,jq=p.news[m].2.1:=⟨_,rfl⟩
   have HJ:Hid (∀ x:World,Be w x->x.cell? ⟨g,b+m * 13+5,Aa⟩=Ab (I U jq.1)/\x.cell? ⟨g,b+m * 13+6,Aa⟩=Ab (I U jq.2.1)/\x.cell? ⟨g,b+m * 13+7,Aa⟩=Ab (I U jq.2.2.1)/\x.cell? ⟨g,b+m * 13+8,Aa⟩=Ab (I U jq.2.2.2)):=fun x hb=>by
    refine ⟨?_,?_,?_,?_⟩ <;> rw [hb.cell (by exact hg),j]
    ·exact hc m c 5 (by omega)
    ·exact hc m c 6 (by omega)
    ·exact hc m c 7 (by omega)
    ·exact hc m c 8 (by omega)
   have v:Hid (zAE p.high (p.news.take (m+1))=yF (zAE p.high (p.news.take m)) jq):=(by rw [best_snoc _ _ _ c,j]:zAE p.high (p.news.take (m+1))=_);obtain ⟨qm,o⟩:=nw (zAE p.high (p.news.take m));rw [<- o] at HY v;clear hc hg j o;go_wp2;clear n;refine p_rg (fun i=>decide (i < 8)) (fun x=>Bx x N #[I U qm.1,I U qm.2.1,I U qm.2.2.1,I U qm.2.2.2] 26/\Bx x w.heap.size (zA p s) 35/\x.cell? ⟨g,b+m * 13+5,Aa⟩=Ab (I U jq.1)/\x.cell? ⟨g,b+m * 13+6,Aa⟩=Ab (I U jq.2.1)/\x.cell? ⟨g,b+m * 13+7,Aa⟩=Ab (I U jq.2.2.1)/\x.cell? ⟨g,b+m * 13+8,Aa⟩=Ab (I U jq.2.2.2)) ?_;show zX prog _ _ _ _ _ (8+1) (Ak 9 false) _ _;have hS:Bx wr.drew N #[I U qm.1,I U qm.2.1,I U qm.2.2.1,I U qm.2.2.2] 26/\Bx wr.drew w.heap.size (zA p s) 35/\wr.drew.cell? ⟨g,b+m * 13+5,Aa⟩=Ab (I U jq.1)/\wr.drew.cell? ⟨g,b+m * 13+6,Aa⟩=Ab (I U jq.2.1)/\wr.drew.cell? ⟨g,b+m * 13+7,Aa⟩=Ab (I U jq.2.2.1)/\wr.drew.cell? ⟨g,b+m * 13+8,Aa⟩=Ab (I U jq.2.2.2):=⟨HY.out.out,HY.box,HJ wr.drew (HY.below.trans (br _ _).drew)⟩;refine zD 0 14 (.agg #[I U qm.1,I U qm.2.1,I U qm.2.2.1,I U qm.2.2.2]) hS ?_ (hy:=by intro x hx;have d0:=zB hx.1 0 (I U qm.1) rfl;have d1:=zB hx.1 1 (I U qm.2.1) rfl;have d2:=zB hx.1 2 (I U qm.2.2.1) rfl;have d3:=zB hx.1 3 (I U qm.2.2.2) rfl;go_simp;try rfl);refine p_pt 1 15 w.heap.size 19 hS ?_;refine zD 2 16 (.slice (Ab ⟨g,b,Aa⟩) p.news.length cap) hS ?_ (hy:=by intro x hx;have d:=zB hx.2.1 19 s.news rfl;rw [er] at d;go_simp;try rfl);refine zD 3 17 (I U (m:Int)) hS ?_;refine p_pt 4 18 g (b+m * 13) hS ?_;refine p_pt 5 19 g (b+m * 13+5) hS ?_;refine zD 6 20 (.agg #[I U jq.1,I U jq.2.1,I U jq.2.2.1,I U jq.2.2.2]) hS ?_ (hy:=by intro x hx;have d0:=hx.2.2.1;have d1:=hx.2.2.2.1;have d2:=hx.2.2.2.2.1;have d3:=hx.2.2.2.2.2;go_simp;try rfl);refine kJ 7 21 159 #[.agg #[I U qm.1,I U qm.2.1,I U qm.2.2.1,I U qm.2.2.2],.agg #[I U jq.1,I U jq.2.1,I U jq.2.2.1,I U jq.2.2.2]] ((yAF qm jq wr.drew).mono ?_);rintro e x3 ⟨rfl,u⟩;have hb:=(bw wr).trans u;have HX:Hid (BqS w x3 N (zA p s) #[I U qm.1,I U qm.2.1,I U qm.2.2.1,I U qm.2.2.2]):=HY.more hb;have l:Bx x3 N #[I U qm.1,I U qm.2.1,I U qm.2.2.1,I U qm.2.2.2] 26/\Bx x3 w.heap.size (zA p s) 35/\x3.cell? ⟨g,b+m * 13+5,Aa⟩=Ab (I U jq.1)/\x3.cell? ⟨g,b+m * 13+6,Aa⟩=Ab (I U jq.2.1)/\x3.cell? ⟨g,b+m * 13+7,Aa⟩=Ab (I U jq.2.2.1)/\x3.cell? ⟨g,b+m * 13+8,Aa⟩=Ab (I U jq.2.2.2):=⟨HX.out.out,HX.box,HJ x3 HX.below⟩;clear hb u hS HY;refine ⟨_,rfl,fun _=>l,?_⟩;simp only [pz];refine p_pa 8 N 0 #[I U (yF qm jq).1,I U (yF qm jq).2.1,I U (yF qm jq).2.2.1,I U (yF qm jq).2.2.2] #[I U qm.1,I U qm.2.1,I U qm.2.2.1,I U qm.2.2.2] #[I U (yF qm jq).1,I U (yF qm jq).2.1,I U (yF qm jq).2.2.1,I U (yF qm jq).2.2.2] l.1 (by simp) (by simp [Am]) rfl ?_;intro y3 hg hk;have r:Hid (BqS w y3 N (zA p s) #[I U (yF qm jq).1,I U (yF qm jq).2.1,I U (yF qm jq).2.2.1,I U (yF qm jq).2.2.2]):=HX.put hg hk;rw [<- v.out] at r;clear hg hk l HX;refine ⟨fun h=>absurd h (by decide),?_⟩;refine p_do ?_;go_wp2
   go_roundw
   case rel=>exact ⟨m+1,by omega,by go_num,r⟩
   case measure=>simp [intOf];omega
  ·have aa:m=p.news.length:=by omega
   subst aa;rw [At] at HY;obtain ⟨QQ,f⟩:=nw (bestT p);have HY:Hid (BqS w wr N (zA p s) #[I U QQ.1,I U QQ.2.1,I U QQ.2.2.1,I U QQ.2.2.2]):=hid (by rw [f];exact HY.out);have HE:=hid f.symm;clear f
   go_wp2_with (first
    | (refine w_ld N HY.out.out underlying26 ?_)
    | (refine w_st (w.heap.size+1) #[I U QQ.1,I U QQ.2.1,I U QQ.2.2.1,I U QQ.2.2.2] HY.zero (by simp [Am]) ?_;intro z hg hk hz;have HZ:=hid (qad2 (HY.below.grown hg HY.below.size (qkk (by omega))) hk);clear hg hk hz))
   refine b_cr (.agg #[I U QQ.1,I U QQ.2.1,I U QQ.2.2.1,I U QQ.2.2.2]) results211 HZ.2 underlying26 ?_;rw [HE.out];exact ⟨rfl,HZ.1⟩
def showB (p:PE) (cmds:List CM):BK:=(((bestT p).2.2.1,p.view),cmds,bestT p)
def showsP (t:List BK) (p:PE) (cmds:List CM):PE:=if zBE t (showB p cmds) < 0 then p else { p with shown:=p.view,high:=bestT p }
def showsK (t:List BK) (p:PE) (cmds:List CM):Int:=if zBE t (showB p cmds) < 0 then -1 else zBE t (showB p cmds)
theorem results_tct {p q r:Tmp} {ty:TypeId} (h:fn.results=#[.tmp q,.cell p ty,.tmp r]) (tmps:Array Value) (w:World) (g:Nat) (t:TypeId) (cs:Array Value) (fr:Nat × Nat) (d:TypeDesc) (u v:Value)
  (hp:tmps.getD p undef=.pointer (Ab ⟨g,0,Aa⟩)) (hg:w.heap[g]?=Ab (.cells cs t fr)) (hu:P.underlying ty=some d) (hd:(match d with | .struct _ | .array _ _=>true | _=>false)=true) (hi:(P.info? ty).map (·.size)=some cs.size)
  (hq:tmps.getD q undef=u) (hr:tmps.getD r undef=v) :
  (results fn tmps).run P w=.ok (.tuple #[u,.agg cs,v]) w:=by
 have b:tmps[p]?.getD undef=.pointer (Ab ⟨g,0,Aa⟩):=by simpa using hp
 have a:tmps[q]?.getD undef=u:=by simpa using hq
 have c:tmps[r]?.getD undef=v:=by simpa using hr
 simp [results,h,b,a,c,asAddr,run_loadVar_row w g t ty cs fr d hg hu hd hi]
theorem xH.boxed (h:xH w base v ps) (hN:Bx w N A 35) (hg:w.grownBy w' (some N)):xH w' base v ps:=
 ⟨Ai h.row hg (zH h.row hN (by decide)),fun p hp=>Ai (h.cmds p hp) hg (zH (h.cmds p hp) hN (by decide)),h.apart⟩
structure ShwB (w y:World) (N M mid:Nat) (A O:Array Value) (q:PE) (s:PV) (v:Value) (qs:TL):Prop where
 below:Be w y
 box:Bx y w.heap.size A 35
 zero:Bx y (w.heap.size+1) zF 35
 qc:Bx y M O 26
 out:Bx y N (zA q s) 35
 own:zO mid y.heap.size y q s
 tree:xH y w.heap.size v qs
 far:w.heap.size+1 < N/\w.heap.size+1 < mid
theorem ShwB.put {M mid:Nat} {q q':PE} {s:PV} {qs:TL} (h:ShwB w y N M mid A O q s v qs) (hg:y.grownBy x (some N)) (hk:Bx x N (zA q' s) 35) (e0:q'.row=q.row) (e1:q'.cells=q.cells) (e2:q'.early=q.early) (e3:q'.undos=q.undos) (e4:q'.votes=q.votes) (e5:q'.news=q.news):ShwB w x N M mid A O q' s v qs:=by
 have:=h.far
 have hM:M ≠ N:=fun e=>by
  have h1:_=_:=h.qc;rw [e,h.out] at h1;injection h1 with h1
  injection h1 with _ h2
  exact absurd h2 (by decide)
 exact ⟨h.below.grown hg h.below.size (qkk (by omega)),gk hg h.box (qsn (by omega)),gk hg h.zero (qsn (by omega)),gk hg h.qc (fun e=>hM (Af e)),hk,((h.own.boxed h.out hg).wide hg.size (nl _)).other e0 e1 e2 e3 e4 e5,h.tree.boxed h.out hg,h.far⟩
theorem shows_s (ps:TL) (v:Value) (p:PE) (s:PV) (cmds:List CM) (cv:Value) (w:World) (hT:zID w v ps) (hk:okT (bks ps)) (hR:jS w p s) (hs:yC p) (hC:yM w cv 3 kL cmds) (hcb:(cmds.length:Int)<=1048576/\∀ c∈cmds,(c.2.1.size:Int)<=1048576) :
  Calls prog 190 #[v,yZ p s,cv] w fun e w'=>∃ v' s',e=.returned (.tuple #[v',yZ (showsP (bks ps) p cmds) s',I U (showsK (bks ps) p cmds)])/\(∃ qs mid,bks qs=zGE (bks ps) (showB p cmds)/\xH w' w.heap.size v' qs/\yDC mid v' qs/\zO mid w'.heap.size w' (showsP (bks ps) p cmds) s'/\w.heap.size<=mid)/\Be w w':=by
 have HT:=hid hT;have HK:=hid hk;have HR:=hid hR;have HS:=hid hs;have ar:=hid hC;have aq:=hid hcb;obtain ⟨av,bv,rfl,-⟩:=hT.q.1;obtain ⟨ac,bc,rfl,-⟩:=hC;clear hT hk hR hs hcb;obtain ⟨W,hW⟩:=nw ((w.alloc (.cells (zA p s) 35)).alloc (.cells zF 35))
 have m:Hid (Be w W/\Bx W w.heap.size (zA p s) 35/\Bx W (w.heap.size+1) zF 35/\w.heap.size+1 < W.heap.size):=by
  rw [hW];exact ⟨ba (ba (br _ _) _) _,(qK w _ _).1,(qK w _ _).2,by simp⟩
 unfold zF at hW;obtain ⟨q,hq⟩:=nw (bestT p);obtain ⟨b,ad⟩:∃ b:BK,b=((q.2.2.1,p.view),cmds,q):=⟨_,rfl⟩;have ab:Hid (showB p cmds=b):=hid (by rw [ad,hq];rfl);have ap:Hid (∀ cw,blkV b cw=.agg #[I U q.2.2.1,I U p.view,cw,I U q.1,I U q.2.1,I U q.2.2.1,I U q.2.2.2]):=fun cw=>by rw [ad];rfl
 have an:Hid (b.2.1=cmds):=hid (by rw [ad]);have HQ:=hid hq.symm;clear hq ad;go_enter func190,ntmps190;go_wp2_with (rw [<- hW];clear hW;refine w_ld w.heap.size m.2.1 underlying35 ?_)
 refine (bestQc_s p s W (HR.below m.1) HS.news).mono ?_;rw [HQ.out];rintro e x1 ⟨rfl,hb⟩;have y:Hid (Be w x1/\Bx x1 w.heap.size (zA p s) 35/\Bx x1 (w.heap.size+1) zF 35/\w.heap.size+1 < x1.heap.size):=⟨bt m.1 hb,bk hb m.2.1,bk hb m.2.2.1,Ad m.2.2.2 hb.size⟩;clear hb m
 go_wp2_with (first
  | (refine w_st x1.heap.size #[I U q.1,I U q.2.1,I U q.2.2.1,I U q.2.2.2] (heap_alloc_new x1 _) (by simp [Am]) ?_;intro y1 hg hk hz;have ae:Be x1 y1:=yB hg;have h:=hid (qad4 (bt y.1 ae) (bk ae y.2.1) (bk ae y.2.2.1) hk);have aa:=hid y.out.2.2.2;clear hg hk hz ae y;have c2:=zB h.2.2.2 2 (I U q.2.2.1) rfl;have cp:=zB h.2.1 1 (I U p.view) rfl)
  | (refine w_ld x1.heap.size h.2.2.2 underlying26 ?_))
 have r:=putBlock_s ps _ b (.slice ac cmds.length bc) y1 (HT.below h.1) (by rw [an.out];exact ar.out.below h.1) HK (by unfold okB;rw [an.out];exact aq.out);rw [ap.out] at r;refine r.mono ?_;rintro e x2 ⟨v2,qs,rfl,am,ho,hb⟩;have i:=hid (qad4 (bt h.1 hb) (bk hb h.2.1) (bk hb h.2.2.1) (bk hb h.2.2.2));have ak:=hid (qad3 (ho.base h.1.size) ho.lim am);obtain ⟨kk,aj⟩:=nw (zBE (bks ps) b);have ao:=hid aj.symm;rw [<- aj];clear ho hb am r aj h c2 cp;go_wp2_with (refine w_ld w.heap.size i.2.1 underlying35 ?_)
 refine (zHJ p s x2 (HR.below i.1) HS).mono ?_;rintro e x3 ⟨s1,rfl,ho,hb⟩;have n:=hid ho.toD;have g:=hid (qad4 (bt i.1 hb) (bk hb i.2.1) (bk hb i.2.2.1) (bk hb i.2.2.2));have k:Hid (xH x3 w.heap.size v2 qs/\yDC x2.heap.size v2 qs/\bks qs=zGE (bks ps) b):=⟨ak.1.below hb,ak.2⟩;have o:=hid (qad4 i.out.1.size (gl g.2.2.2) hb.size (gl i.2.2.2));clear ho hb i ak
 by_cases hkn:kk < 0
 ·have HE:Hid (showsP (bks ps) p cmds=p/\showsK (bks ps) p cmds=-1):=hid (by unfold showsP showsK;rw [ab.out,ao.out,if_pos hkn,if_pos hkn];exact ⟨rfl,rfl⟩);go_wp2_with (refine w_st x3.heap.size (zA p s1) (heap_alloc_new x3 _) (zJ n.1) ?_;intro y3 hg hk hz;have a:Be x3 y3:=yB hg;have d:Hid (ShwB w y3 x3.heap.size x1.heap.size x2.heap.size (zA p s) #[I U q.1,I U q.2.1,I U q.2.2.1,I U q.2.2.2] p s1 v2 qs):=⟨bt g.1 a,bk a g.2.1,bk a g.2.2.1,bk a g.2.2.2,hk,(n.below a).wide a.size (nl _),k.1.below a,(by have:=aa.out;have:=o.out;omega)⟩;have l:=hid (qad3 k.out.2.1 k.out.2.2 o.out.1);clear hg hk hz a g n k o aa)
  obtain ⟨NN,t⟩:=nw x3.heap.size;rw [<- t] at d ⊢;clear t;refine xA (fun x=>Bx x NN (zA p s1) 35) (by kernel_rfl) ?_;show wpAnyH prog _ _ _ _ (4+1) (Ak 5 false) _ _;have hS:Bx y3.drew NN (zA p s1) 35:=d.out.out;refine yJ 0 31 v2 hS ?_;refine yJ 1 32 (.agg (zA p s1)) hS ?_ (hy:=fun x hx=>ldb NN hx underlying35);refine yJ 2 6 v2 hS ?_;refine h_st 3 (w.heap.size+1) (zA p s1) d.zero (zJ d.own.1) ?_;intro z hg hk;have hd:=bw y3;have ag:Hid (Be w z):=(bt d.below hd).grown hg d.below.size (qkk (by omega));have al:=hid hk;have ai:Hid (zO x2.heap.size z.heap.size z p s1):=((d.own.below hd).boxed d.zero hg).wide hg.size (nl _);have ah:Hid (xH z w.heap.size v2 qs):=(d.tree.below hd).boxed d.zero hg;have u:Hid (Bx z NN (zA p s1) 35):=gk hg d.out.out (qsn (by have:=d.far;omega));clear hg hk hd hS;refine ⟨u,?_⟩;refine yJ 4 8 (I U (-1)) u ?_;refine h_dn ?_;go_wp2;refine bodyPost_ret (v:=.tuple #[v2,.agg (zA p s1),I U (-1)]) (results_tct results190 _ _ (w.heap.size+1) 35 _ (0,0) _ _ _ rfl al underlying35 rfl (by kernel_rfl) rfl rfl) rfl ?_;rw [HE.out.1,HE.out.2,ab.out];exact ⟨_,_,rfl,⟨qs,_,l.2.1,ah,l.1,ai,l.2.2⟩,ag⟩
 ·obtain ⟨q2,j⟩:∃ q2:PE,q2={ p with shown:=p.view,high:=q }:=⟨_,rfl⟩;have HE:Hid (showsP (bks ps) p cmds=q2/\showsK (bks ps) p cmds=kk):=hid (by unfold showsP showsK;rw [ab.out,ao.out,if_neg hkn,if_neg hkn,j,HQ.out];exact ⟨rfl,rfl⟩)
  go_wp2_with (first
   | (refine w_st x3.heap.size (zA p s1) (heap_alloc_new x3 _) (zJ n.1) ?_;intro y3 hg hk hz;have a:Be x3 y3:=yB hg;have d:Hid (ShwB w y3 x3.heap.size x1.heap.size x2.heap.size (zA p s) #[I U q.1,I U q.2.1,I U q.2.2.1,I U q.2.2.2] p s1 v2 qs):=⟨bt g.1 a,bk a g.2.1,bk a g.2.2.1,bk a g.2.2.2,hk,(n.below a).wide a.size (nl _),k.1.below a,(by have:=aa.out;have:=o.out;omega)⟩;have l:=hid (qad3 k.out.2.1 k.out.2.2 o.out.1);clear hg hk hz a g n k o aa;have cp:=zB d.box 1 (I U p.view) rfl)
   | (refine w_sc x3.heap.size 20 (I U p.view) d.out.out (by simp [zA]) rfl (zA { p with shown:=p.view } s1) rfl ?_;intro y4 hg hk;have af:Hid (ShwB w y4 x3.heap.size x1.heap.size x2.heap.size (zA p s) #[I U q.1,I U q.2.1,I U q.2.2.1,I U q.2.2.2] { p with shown:=p.view } s1 v2 qs):=d.put hg hk rfl rfl rfl rfl rfl rfl;clear hg hk d cp)
   | (refine w_ld x1.heap.size af.qc underlying26 ?_)
   | (refine yY rfl _ _ _ rfl x3.heap.size 2 #[I U q.1,I U q.2.1,I U q.2.2.1,I U q.2.2.2] rfl rfl _ _ af.out.out (by kernel_rfl) (by simp [zA]) (by simp [Am]) (zA q2 s1) (by rw [j];rfl) ?_;intro y5 hg hk;have f:Hid (ShwB w y5 x3.heap.size x1.heap.size x2.heap.size (zA p s) #[I U q.1,I U q.2.1,I U q.2.2.1,I U q.2.2.2] q2 s1 v2 qs):=af.put hg hk (by rw [j]) (by rw [j]) (by rw [j]) (by rw [j]) (by rw [j]) (by rw [j]);clear hg hk af j))
  obtain ⟨NN,t⟩:=nw x3.heap.size;rw [<- t] at f ⊢;clear t;refine xA (fun x=>Bx x NN (zA q2 s1) 35) (by kernel_rfl) ?_;show wpAnyH prog _ _ _ _ (5+1) (Ak 6 false) _ _;have hS:Bx y5.drew NN (zA q2 s1) 35:=f.out.out;refine yJ 0 38 v2 hS ?_;refine yJ 1 39 (.agg (zA q2 s1)) hS ?_ (hy:=fun x hx=>ldb NN hx underlying35);refine yJ 2 40 (I U kk) hS ?_;refine yJ 3 6 v2 hS ?_;refine h_st 4 (w.heap.size+1) (zA q2 s1) f.zero (zJ f.own.1) ?_;intro z hg hk;have hd:=bw y5;have ag:Hid (Be w z):=(bt f.below hd).grown hg f.below.size (qkk (by omega));have al:=hid hk;have ai:Hid (zO x2.heap.size z.heap.size z q2 s1):=((f.own.below hd).boxed f.zero hg).wide hg.size (nl _);have ah:Hid (xH z w.heap.size v2 qs):=(f.tree.below hd).boxed f.zero hg;have u:Hid (Bx z NN (zA q2 s1) 35):=gk hg f.out.out (qsn (by have:=f.far;omega));clear hg hk hd hS;refine ⟨u,?_⟩;refine yJ 5 8 (I U kk) u ?_;refine h_dn ?_;go_wp2;refine bodyPost_ret (v:=.tuple #[v2,.agg (zA q2 s1),I U (kk)]) (results_tct results190 _ _ (w.heap.size+1) 35 _ (0,0) _ _ _ rfl al underlying35 rfl (by kernel_rfl) rfl rfl) rfl ?_;rw [HE.out.1,HE.out.2,ab.out];exact ⟨_,_,rfl,⟨qs,_,l.2.1,ah,l.1,ai,l.2.2⟩,ag⟩
def zDI (t:List BK) (k:Nat):Int:=(t[k]?.getD kE).1.1
theorem parAt_at {k:Nat} (h:k < t.length):zDI t k=t[k].1.1:=by unfold zDI;rw [Al h];rfl
def zAD (t:List BK):Nat->Nat->Option (List Nat)
 | _,0=>some []
 | 0,_+1=>none
 | n+1,k+1=>if k+1 < t.length/\0<=zDI t (k+1)/\zDI t (k+1)<=(k:Int) then (zAD t n (zDI t (k+1)).toNat).map ((k+1) :: ·) else none
def qH (t:List BK) (k:Int):Option (List Nat):=if 0<=k/\k < (t.length:Int) then zAD t t.length k.toNat else none
theorem downN_more (t:List BK):∀ (n m k:Nat),k<=n->n<=m->zAD t n k=zAD t m k
 | n,m,0,_,_=>by cases n <;> cases m <;> rfl
 | 0,_,k+1,h,_=>by omega
 | n+1,0,k+1,_,h=>by omega
 | n+1,m+1,k+1,h,h2=>by
  unfold zAD
  split
  ·rename_i hc
   rw [downN_more t n m _ (by omega) (by omega)]
  ·rfl
theorem downN_at (t:List BK) (n k:Nat) (hk:k+1<=n):zAD t n (k+1)=if k+1 < t.length/\0<=zDI t (k+1)/\zDI t (k+1)<=(k:Int) then (zAD t n (zDI t (k+1)).toNat).map ((k+1) :: ·) else none:=by
 cases n with
 | zero=>omega
 | succ n=>
  rw [zAD]
  split
  ·rename_i hc
   rw [downN_more t n (n+1) _ (by omega) (by omega)]
  ·rfl
def xZ (t:List BK) (k:Int):Int:=match qH t k with
 | some l=>(l.length:Int)
 | none=>-1
def rowT (t:List BK) (k:Int):List Nat:=match qH t k with
 | some l=>l.reverse
 | none=>[]
def yBI (t:List BK) (k under:Int):Bool:=match qH t k with
 | some l=>decide (under=0) || l.any fun x=>decide ((x:Int)=under)
 | none=>false
def okAtT (t:List BK) (k:Nat):Prop:=0 < k/\k < t.length/\0<=zDI t k/\zDI t k<=(k:Int) - 1
theorem down_zero (h:0 < t.length):qH t 0=some []:=by
 unfold qH;rw [if_pos ⟨by omega,by omega⟩]
 cases t.length <;> rfl
theorem down_step {k:Nat} (h:okAtT t k):qH t (k:Int)=(qH t (zDI t k)).map (k :: ·):=by
 obtain ⟨h0,h1,h2,h3⟩:=h;obtain ⟨j,rfl⟩:∃ j,k=j+1:=⟨k - 1,by omega⟩;unfold qH;rw [if_pos ⟨by omega,by omega⟩,if_pos ⟨h2,by omega⟩,show ((j+1:Nat):Int).toNat=j+1 by omega,downN_at t t.length j (by omega),if_pos ⟨h1,h2,by omega⟩]
theorem down_bad {k:Nat} (h0:0 < k) (h:¬ okAtT t k):qH t (k:Int)=none:=by
 obtain ⟨j,rfl⟩:∃ j,k=j+1:=⟨k - 1,by omega⟩;unfold qH
 by_cases h1:(0:Int)<=((j+1:Nat):Int)/\((j+1:Nat):Int) < (t.length:Int)
 ·rw [if_pos h1,show ((j+1:Nat):Int).toNat=j+1 by omega,downN_at t t.length j (by omega),if_neg (fun hc=>h ⟨h0,hc.1,hc.2.1,by omega⟩)]
 ·rw [if_neg h1]
theorem down_out (h:¬ (0<=k/\k < (t.length:Int))):qH t k=none:=if_neg h
def qU (t:List BK) (k:Int) (n:Nat):Int:=match qH t k with
 | some l=>(n:Int)+(l.length:Int)
 | none=>-1
theorem heightT_N (t:List BK) (k:Int):xZ t k=qU t k 0:=by unfold xZ qU;cases qH t k <;> simp
theorem heightN_step {k:Nat} (h:okAtT t k):qU t (k:Int) n=qU t (zDI t k) (n+1):=by
 unfold qU;rw [down_step h]
 cases qH t (zDI t k) with
 | none=>rfl
 | some l=>simp;omega
theorem heightN_bad {k:Nat} (h0:0 < k) (h:¬ okAtT t k):qU t (k:Int) n=-1:=by unfold qU;rw [down_bad h0 h]
theorem heightN_out (h:¬ (0<=k/\k < (t.length:Int))):qU t k n=-1:=by unfold qU;rw [down_out h]
theorem heightN_zero (h:0 < t.length):qU t 0 n=(n:Int):=by unfold qU;rw [down_zero h];simp
theorem heightN_none (h:t.length=0):qU t 0 n=-1:=heightN_out (by omega)
theorem down_some {k:Nat} (h0:0 < k) (h:qH t (k:Int)=some l):okAtT t k/\∃ l',qH t (zDI t k)=some l'/\l=k :: l':=by
 by_cases hk:okAtT t k
 ·rw [down_step hk] at h
  cases hp:qH t (zDI t k) with
  | none=>rw [hp] at h;cases h
  | some l'=>
   rw [hp] at h;exact ⟨hk,l',rfl,(Af h).symm⟩
 ·rw [down_bad h0 hk] at h;cases h
theorem down_range (h:qH t k=some l):0<=k/\k < (t.length:Int):=by
 by_cases hk:0<=k/\k < (t.length:Int)
 ·exact hk
 ·rw [down_out hk] at h;cases h
theorem heightT_none (h:qH t k=none):xZ t k=-1:=by unfold xZ;rw [h]
theorem heightT_some (h:qH t k=some l):xZ t k=(l.length:Int):=by unfold xZ;rw [h]
def extL (l:List Nat) (under:Int):Bool:=decide (under=0) || l.any fun x=>decide ((x:Int)=under)
theorem extT_some (h:qH t k=some l):yBI t k under=extL l under:=by unfold yBI;rw [h];rfl
theorem extT_none (h:qH t k=none):yBI t k under=false:=by unfold yBI;rw [h]
theorem extL_nil (under:Int):extL [] under=decide (under=0):=by simp [extL]
theorem extL_hit {x:Nat} (h:(x:Int)=under):extL (x :: l) under=true:=by simp [extL,h]
theorem extL_miss {x:Nat} (h:¬ (x:Int)=under):extL (x :: l) under=extL l under:=by simp [extL,h]
def qG (l:List Nat):List Int:=l.map fun x:Nat=>(x:Int)
theorem intsN_len (l:List Nat):(qG l).length=l.length:=by simp [qG]
theorem intsN_cons (x:Nat) (l:List Nat):qG (x :: l)=(x:Int) :: qG l:=rfl
def rowI (t:List BK) (k:Int):List Int:=qG (rowT t k)
theorem zJE (h:qH t k=none):rowI t k=[]:=by unfold rowI rowT;rw [h];rfl
theorem zJF (h:qH t k=some l):rowI t k=qG l.reverse:=by unfold rowI rowT;rw [h]
theorem downN_len (t:List BK):∀ (n k:Nat) (l:List Nat),zAD t n k=some l->l.length<=n
 | n,0,l,h=>by cases n <;> (simp [zAD] at h;subst h;simp)
 | 0,_+1,_,h=>by cases h
 | n+1,k+1,l,h=>by
  rw [zAD] at h
  split at h
  ·cases hd:zAD t n (zDI t (k+1)).toNat with
   | none=>rw [hd] at h;cases h
   | some l'=>
    rw [hd] at h;obtain rfl:=(Af h).symm;have:=downN_len t n _ l' hd;simp;omega
  ·cases h
theorem down_len (h:qH t k=some l):l.length<=t.length:=by
 unfold qH at h
 split at h
 ·exact downN_len t _ _ l h
 ·cases h
theorem yCC (h:j < ps.length):zDI (bks ps) j=ps[j].1.1.1:=by rw [parAt_at (by rw [yO];exact h),bks_at h]
theorem zero_beq (u:Int):((0:Int) == u)=decide (u=0):=by
 by_cases h:u=0
 ·subst h;rfl
 ·have h2:¬ (0:Int)=u:=fun e=>h e.symm
  simp [h,h2]
theorem zero_dec (u:Int):decide ((0:Int)=u)=decide (u=0):=by
 by_cases h:u=0
 ·subst h;rfl
 ·have h2:¬ (0:Int)=u:=fun e=>h e.symm
  simp [h,h2]
theorem height_s (ps:TL) (v:Value) (k:Int) (w:World) (hT:jB w v ps) (hl:(ps.length:Int)<=1048576) :
  Calls prog 60 #[v,I U k] w fun e w'=>e=.returned (I U (xZ (bks ps) k))/\w'=w:=by
 obtain ⟨a,cap,rfl,hr⟩:=zAI hT;have HR:=hid hr;have b:=yO ps;clear hr hT;go_enter func60,ntmps60;go_wp2
 go_loop [1,5] (fun c n=>∃ (x:Int) (m:Nat),c=I U x/\n=I U (m:Int)/\(m=0∨(0<=x/\(m:Int)+x<=(ps.length:Int)))/\Hid (xZ (bks ps) k=qU (bks ps) x m)) (fun c _=>(intOf c).toNat)
 case atStart=>exact ⟨k,0,rfl,rfl,Ao rfl,heightT_N _ _⟩
 case round=>
  obtain ⟨x,m,rfl,rfl,hm,HH⟩:=hrel;have HM:=hid hm
  by_cases hx:x=0
  ·subst hx;clear hm
   by_cases h0:ps.length=0
   ·have HF:Hid (xZ (bks ps) k=-1):=HH.trans (heightN_none (by rw [b];exact h0));have d0:((ps.length:Int) == 0)=true:=by simp [h0]
    clear h0;go_wp2;go_ret;exact ⟨jD HF.symm,rfl⟩
   ·have HF:Hid (xZ (bks ps) k=(m:Int)):=HH.trans (heightN_zero (by rw [b];omega));have d0:((ps.length:Int) == 0)=false:=by simp [h0]
    clear h0;go_wp2;go_ret;exact ⟨jD HF.symm,rfl⟩
  ·have d1:(x != 0)=true:=by simpa using hx
   cases hi:inB x 0 ((ps.length:Int) - 1) with
   | false=>
    have hn:=inB_not hi;have HF:Hid (xZ (bks ps) k=-1):=HH.trans (heightN_out (by rw [b];omega));clear hm hn hx;go_wp2_with (go_at_call 57;refine (yS _ _ _ _).mono ?_;rintro e w' ⟨rfl,rfl⟩;try rw [hi])
    go_ret;exact ⟨jD HF.symm,rfl⟩
   | true=>
    obtain ⟨p0,p1⟩:=zDF hi;obtain ⟨j,rfl⟩:=Int.eq_ofNat_of_zero_le p0;have hj:j < ps.length:=by omega
    have q1:(j:Int) < ps.length:=by omega
    obtain ⟨g,d,rfl,hg,hc⟩:=HR (by omega);have c0:=(hc j hj).1;have f:(m:Int)<=1048576:=by rcases hm with h | h <;> omega
    clear hc
    cases hp:inB ps[j].1.1.1 0 ((j:Int) - 1) with
    | false=>
     have hn:=inB_not hp;have HF:Hid (xZ (bks ps) k=-1):=HH.trans (heightN_bad (by omega) (fun h=>hn (by have h2:=h.2.2;rw [yCC hj] at h2;exact h2)));clear hm hn hx;go_wp2_with (go_at_call 57;refine (yS _ _ _ _).mono ?_;rintro e w' ⟨rfl,rfl⟩;first | rw [hi] | rw [hp])
     go_ret;exact ⟨jD HF.symm,rfl⟩
    | true=>
     obtain ⟨r0,r1⟩:=zDF hp
     have HF:Hid (xZ (bks ps) k=qU (bks ps) ps[j].1.1.1 (m+1)):=(by
      rw [HH.out,heightN_step ⟨by omega,by rw [b];exact hj,by rw [yCC hj];exact r0,by rw [yCC hj];exact r1⟩,yCC hj]:xZ (bks ps) k=qU (bks ps) ps[j].1.1.1 (m+1))
     clear hm hx;go_wp2_with (go_at_call 57;refine (yS _ _ _ _).mono ?_;rintro e w' ⟨rfl,rfl⟩;first | rw [hi] | rw [hp])
     go_round
     case rel=>exact ⟨ps[j].1.1.1,m+1,rfl,by go_num,Ap ⟨r0,by have:=HM.out;omega⟩,HF⟩
     case measure=>simp [intOf];omega
theorem extends_s (ps:TL) (v:Value) (k under:Int) (w:World) (hT:jB w v ps) (hl:(ps.length:Int)<=1048576) :
  Calls prog 21 #[v,I U k,I U under] w fun e w'=>e=.returned (.bool (yBI (bks ps) k under))/\w'=w:=by
 have HT:=hid hT;obtain ⟨a,cap,rfl,hr⟩:=zAI hT;have HR:=hid hr;have f:=yO ps;clear hr hT
 cases hd:qH (bks ps) k with
 | none=>
  have hh:xZ (bks ps) k < 0:=by rw [heightT_none hd];omega
  have HF:Hid (yBI (bks ps) k under=false):=extT_none hd;clear hd;go_enter func21,ntmps21;go_wp2_with (go_at_call 60;refine (height_s ps _ k w HT hl).mono ?_;rintro e w' ⟨rfl,rfl⟩)
  go_ret;exact ⟨zL HF.symm,rfl⟩
 | some l=>
  have hh:¬ xZ (bks ps) k < 0:=by rw [heightT_some hd];omega
  have HE:Hid (yBI (bks ps) k under=extL l under):=extT_some hd;have HD:=hid hd;clear hd;go_enter func21,ntmps21;go_wp2_with (go_at_call 60;refine (height_s ps _ k w HT hl).mono ?_;rintro e w' ⟨rfl,rfl⟩)
  go_loop [1] (fun c=>∃ (x:Int) (lx:List Nat),c=I U x/\Hid (qH (bks ps) x=some lx)/\Hid (yBI (bks ps) k under=extL lx under)) (fun c=>(intOf c).toNat)
  case atStart=>exact ⟨k,l,rfl,HD,HE⟩
  case round=>
   obtain ⟨x,lx,rfl,HX,HL⟩:=hrel;obtain ⟨x0,x1⟩:=down_range HX;obtain ⟨j,rfl⟩:=Int.eq_ofNat_of_zero_le x0;have hj:j < ps.length:=by rw [f] at x1;omega
   by_cases hz:j=0
   ·subst hz
    have HF:Hid (yBI (bks ps) k under=decide (under=0)):=(by
     have h1:lx=[]:=by have:=HX.out;rw [show ((0:Nat):Int)=0 from rfl,down_zero (by rw [f];omega)] at this;exact (Af this).symm
     rw [HL.out,h1,extL_nil]:yBI (bks ps) k under=decide (under=0))
    clear x0 x1;go_wp2;go_ret;exact ⟨zL (by rw [HF.out];first | exact zero_beq _ | exact zero_dec _),rfl⟩
   ·obtain ⟨b,l',d,rfl⟩:=down_some (by omega) HX;have p0:(0:Int) < (j:Int):=by omega
    by_cases hu:(j:Int)=under
    ·have HF:Hid (yBI (bks ps) k under=true):=HL.trans (extL_hit hu);have d0:((j:Int) != under)=false:=by simp [hu]
     have d1:((j:Int) == under)=true:=by simp [hu]
     clear hu b;go_wp2;go_ret;exact ⟨zL HF.symm,rfl⟩
    ·have HF:Hid (yBI (bks ps) k under=extL l' under):=HL.trans (extL_miss hu);have d0:((j:Int) != under)=true:=by simpa using hu
     obtain ⟨g,h,rfl,hg,hc⟩:=HR (by omega);have c0:=(hc j hj).1;have q1:(j:Int) < ps.length:=by omega
     have HP:Hid (qH (bks ps) ps[j].1.1.1=some l'):=hid (by rw [<- yCC hj];exact d);have HM:Hid (ps[j].1.1.1<=(j:Int) - 1):=hid (by rw [<- yCC hj];exact b.2.2.2);clear hu b hc d x1;go_wp2
     go_round
     case rel=>exact ⟨ps[j].1.1.1,l',rfl,HP,HF⟩
     case measure=>have:=HM.out;simp [intOf];omega
theorem infoC:(prog.info? 92).map (fun i=>(i.zero,i.size,i.bytes))=Ab (Ab (.agg #[.string Aq,I U 0]),2,24):=by kernel_rfl
theorem run_append_none {t ty e:TypeId} {i:TypeInfo} (ht:P.underlying t=Ab (.slice e)) (hi:P.info? e=some i) (w:World) {xs:List Value} (hown:w.ownsRow base e m v n xs) (c:Nat) :
  (Builtin.append_ #[t,t] ty #[v,.slice none 0 c]).run P w=.ok v w:=by
 obtain ⟨hl,⟨rfl,h0⟩ | ⟨g,cap,b,rfl,hb,hh,hn,hc,hs,a⟩⟩:=hown
 ·simp [Builtin.append_,run_underlying ht,sizeOf,typeInfo,hi,Builtin.lenOf,Builtin.firstCells]
 ·have:n<=cap:=by omega
  simp [Builtin.append_,run_underlying ht,sizeOf,typeInfo,hi,Builtin.lenOf,Builtin.firstCells,storeCells,this]
theorem flat_one :∀ u∈kM cs,u.oneCell'=true:=by
 intro u hu;obtain ⟨c,_,hc⟩:=List.mem_flatMap.1 hu;simp at hc
 rcases hc with rfl | rfl <;> rfl
theorem yV (w:World) {ops:Array Oper} {rest:List Oper} {o:Oper} {Q:Exit->Act->World->Prop} (hgd:o.guard=none) (s x:Operand)
  (ho:o.op=.call { callee:=.builtin .append,args:=#[s,x],argTypes:=#[30,30] })
  (base:Nat) (v:Value) (xs:CL) (hs:a.eval s=v) (hown:w.ownsRow base 92 2 v xs.length (kM xs))
  (src:Value) (cs:CL) (hx:a.eval x=src) (hsrc:qQ w src cs) (h63:xs.length+cs.length<=4194304) (hbase:base<=w.heap.size)
  (h:∀ v' w',w'.ownsRow base 92 2 v' (xs ++ cs).length (kM (xs ++ cs))->w.grownBy w' v.ownBlock->wpList prog ops Q rest (a.put o.dst v') w'):wpList prog ops Q (o :: rest) a w:=by
 obtain ⟨i0,hi,l,i,m⟩:=info_parts infoC;obtain ⟨ad,cap,rfl,hr⟩:=hsrc
 cases ad with
 | none=>
  have h0:cs.length=0:=by
   rcases Nat.eq_zero_or_pos cs.length with h | h
   ·exact h
   ·obtain ⟨_,_,e,_⟩:=hr h;cases e
  obtain rfl:cs=[]:=List.eq_nil_of_length_eq_zero h0;refine wpList_plain hgd fun K' k=>?_
  have d:=run_append_none (ty:=o.type) underlying30 hi w hown cap;unfold Oper.wp execOp;simp only [ho,resolve,invoke,builtin,Sem.run_bind,Sem.run_pure,Result.andThen_ok,List.map_toArray,List.map_cons,List.map_nil,hs,hx,List.length_nil,d];exact k _ _ (h v w (by simpa using hown) ⟨rfl,rfl,rfl,nl _,fun _ _ _=>rfl⟩)
 | some ad=>
  refine wpList_append_own _ hgd s x 30 ho base 92 i0 _ 2 24 underlying30 hi l i m rfl (by decide) v _ _ hs hown ad cs.length cap (kM cs) hx (flat_len cs) ?_ flat_one (by unfold maxLen;omega) (by omega) hbase fun v' w' h1 h2 _=>h v' w' (by rw [Ah,flat_append];exact h1) h2
  intro j u hj
  have n:j < cs.length * 2:=by
   rw [<- flat_len];exact (List.getElem?_eq_some_iff.1 hj).1
  obtain ⟨g,b,f,hg,hc⟩:=hr (by omega)
  cases f
  have hp:(⟨g,b,Aa⟩:Addr).add j=⟨g,b+j,Aa⟩:=by unfold Addr.add;split <;> simp_all
  rw [hp];have hf:=flat_at cs (j / 2) (by omega);have c:=hc (j / 2) (by omega)
  by_cases hev:j % 2=0
  ·have e:j=j / 2 * 2:=by omega
   rw [<- e] at hf c;rw [c.1,<- hf.1,hj]
  ·have e:j=j / 2 * 2+1:=by omega
   have e':b+j=b+j / 2 * 2+1:=by omega
   rw [<- e] at hf;rw [e',c.2,<- hf.2,hj]
theorem one_cell (W:World) (c:ByteArray × Int) (t:TypeId):qQ (W.alloc (.cells #[.string c.1,I U c.2] t)) (.slice (Ab ⟨W.heap.size,0,Aa⟩) 1 1) [c]:=by
 refine ⟨_,1,rfl,fun _=>⟨W.heap.size,0,rfl,by simp,fun i hi=>?_⟩⟩;have:i=0:=by simp at hi;omega
 subst this;simp
theorem take_yes {p:ByteArray × Int->Bool} {k:Nat} (h:k < cs.length) (hp:p cs[k]=true):(cs.take (k+1)).filter p=(cs.take k).filter p ++ [cs[k]]:=by
 rw [List.take_add_one,Al h,List.filter_append];simp [hp]
theorem take_no {p:ByteArray × Int->Bool} {k:Nat} (h:k < cs.length) (hp:p cs[k]=false):(cs.take (k+1)).filter p=(cs.take k).filter p:=by
 rw [List.take_add_one,Al h,List.filter_append];simp [hp]
theorem take_len {p:ByteArray × Int->Bool} {k:Nat} (h:k<=cs.length):((cs.take k).filter p).length<=k:=by
 have:=List.length_filter_le p (cs.take k);rw [As] at this;omega
theorem put_s (cs:CL) (v:Value) (x:ByteArray × Int) (w:World) (hv:qQ w v cs) (hl:(cs.length:Int)<=1048576) :
  Calls prog 99 #[v,cellV x] w fun e w'=>∃ v',e=.returned v'/\w'.ownsRow w.heap.size 92 2 v' (putC cs x).length (kM (putC cs x))/\Be w w':=by
 obtain ⟨d,num⟩:=x;have ac:Be w (w.alloc (An #[Ar d,I U num] 92)):=ba (br _ _) _;obtain ⟨a,cap,rfl,hr⟩:=hv;have HR:=hid hr;have HB:=hid ac;clear hr ac;unfold cellV;go_enter func99,ntmps99;go_wp2;obtain ⟨w1,aa⟩:=nw (w.alloc (An #[Ar d,I U num] 92));have r:w1.heap.size=w.heap.size+1:=by rw [aa];simp
 have HW:=hid aa;rw [<- aa];clear aa
 go_loopw [5,6] (fun o i wr=>∃ k:Nat,k<=cs.length/\i=I U (k:Int)/\wr.ownsRow w1.heap.size 92 2 o ((cs.take k).filter fun c=>kLt c.1 d).length (kM ((cs.take k).filter fun c=>kLt c.1 d))/\Be w1 wr) (fun _ i _=>cs.length - (intOf i).toNat)
 case atStart=>
  refine ⟨0,Ae _,rfl,?_,ba (br _ _) _⟩;have:=yH w1 92 2;rw [r] at this ⊢;exact this
 case round=>
  obtain ⟨k,hk,rfl,n,f⟩:=hrel;have HO:=hid n;have ab:=take_len (p:=fun c=>kLt c.1 d) hk;clear n
  by_cases hlt:(k:Int) < cs.length
  ·have l:k < cs.length:=by omega
   obtain ⟨g,u,rfl,hg,hc⟩:=HR (by omega);have q0:(0:Int)<=(k:Int):=by omega
   have ad:=yX wr;have B1:Be w w1:=by rw [HW.out];exact HB.out
   have s:w1.cell? ⟨w.heap.size,0,Aa⟩=Ab (.string d):=by rw [HW.out];simp
   have c0:∀ x:Bw wr,x.to.cell? ⟨g,u+k * 2,Aa⟩=Ab (.string cs[k].1):=fun x=>by rw [(bt B1 (bt f x.below)).cell (by exact hg)];exact (hc k l).1
   have c1:∀ x:Bw wr,x.to.cell? ⟨g,u+k * 2+1,Aa⟩=Ab (I U cs[k].2):=fun x=>by rw [(bt B1 (bt f x.below)).cell (by exact hg)];exact (hc k l).2
   have c2:∀ x:Bw wr,x.to.cell? ⟨w.heap.size,0,Aa⟩=Ab (.string d):=fun x=>by rw [(bt f x.below).cell (by simp [r])];exact s
   clear hc s B1
   cases z:Op.bytesLess cs[k].1.toList d.toList with
   | false=>
    have HT:Hid (((cs.take (k+1)).filter fun c=>kLt c.1 d)=_):=take_no l z;go_wp2;refine rb ?_;repeat (go_big_quiet_step (fail))
    refine qnn fun x=>?_
    go_wp2
    go_roundw
    case rel=>exact ⟨k+1,by omega,by go_num,by rw [HT.out];exact zS HO x.below,bt f x.below⟩
    case measure=>simp [intOf];omega
   | true=>
    have HT:Hid (((cs.take (k+1)).filter fun c=>kLt c.1 d)=_):=take_yes l z;go_wp2;refine rb ?_;repeat (go_big_quiet_step (fail))
    refine qnn fun x=>?_
    have ag:=(bt f x.below).size;have m:Hid (x.to.ownsRow w1.heap.size 92 2 _ ((cs.take k).filter fun c=>kLt c.1 d).length (kM ((cs.take k).filter fun c=>kLt c.1 d))):=zS HO x.below;go_wp2_with (at_builtin;refine yV _ rfl _ _ rfl w1.heap.size _ ((cs.take k).filter fun c=>kLt c.1 d) rfl (Aj m _) _ [cs[k]] rfl (one_cell _ cs[k] _) (by simp;omega) (by simp;omega) ?_;intro v' w3 j h)
    go_roundw
    case rel=>exact ⟨k+1,by omega,by go_num,by rw [HT.out];exact j,(ba (bt f x.below) _).grown h (by simp;omega) fun b hb=>(m.lt b hb).1⟩
    case measure=>simp [intOf];omega
  ·have y:k=cs.length:=by omega
   have m:Hid (wr.ownsRow w1.heap.size 92 2 u5 (cs.filter fun c=>kLt c.1 d).length (kM (cs.filter fun c=>kLt c.1 d))):=by have:=HO.out;rw [y,At] at this;exact this
   have ae:=f.size;have ak:(cs.filter fun c=>kLt c.1 d).length<=cs.length:=List.length_filter_le _ _;have B1:Be w w1:=by rw [HW.out];exact HB.out
   have s:wr.cell? ⟨w.heap.size,0,Aa⟩=Ab (.string d):=by rw [f.cell (by simp [r]),HW.out];simp
   have af:wr.cell? ⟨w.heap.size,1,Aa⟩=Ab (I U num):=by rw [f.cell (by simp [r]),HW.out];simp
   clear y HO ab;go_wp2_with (at_builtin;refine yV _ rfl _ _ rfl w1.heap.size _ (cs.filter fun c=>kLt c.1 d) rfl (Aj m _) _ [(d,num)] rfl (one_cell _ (d,num) _) (by simp;omega) (by simp;omega) ?_;intro v' w3 j h)
   have B3:Be w1 w3:=(ba f _).grown h (by simp;omega) fun b hb=>(m.lt b hb).1
   have ai:=hid j;clear j h s af B1 m f ae
   go_loopw [5,7] (fun o i wr=>∃ k:Nat,k<=cs.length/\i=I U (k:Int)/\wr.ownsRow w1.heap.size 92 2 o ((cs.filter fun c=>kLt c.1 d) ++ (d,num) :: (cs.take k).filter fun c=>kLt d c.1).length (kM ((cs.filter fun c=>kLt c.1 d) ++ (d,num) :: (cs.take k).filter fun c=>kLt d c.1))/\Be w1 wr) (fun _ i _=>cs.length - (intOf i).toNat)
   case atStart=>exact ⟨0,Ae _,rfl,ai,B3⟩
   case round=>
    obtain ⟨k,hk,rfl,n,f⟩:=hrel;have HO:=hid n;have ab:=take_len (p:=fun c=>kLt d c.1) hk;clear n
    by_cases hlt:(k:Int) < cs.length
    ·have l:k < cs.length:=by omega
     obtain ⟨g,u,rfl,hg,hc⟩:=HR (by omega);have q0:(0:Int)<=(k:Int):=by omega
     have ad:=yX wr;have B1:Be w w1:=by rw [HW.out];exact HB.out
     have s:w1.cell? ⟨w.heap.size,0,Aa⟩=Ab (.string d):=by rw [HW.out];simp
     have c0:∀ x:Bw wr,x.to.cell? ⟨g,u+k * 2,Aa⟩=Ab (.string cs[k].1):=fun x=>by rw [(bt B1 (bt f x.below)).cell (by exact hg)];exact (hc k l).1
     have c1:∀ x:Bw wr,x.to.cell? ⟨g,u+k * 2+1,Aa⟩=Ab (I U cs[k].2):=fun x=>by rw [(bt B1 (bt f x.below)).cell (by exact hg)];exact (hc k l).2
     have c2:∀ x:Bw wr,x.to.cell? ⟨w.heap.size,0,Aa⟩=Ab (.string d):=fun x=>by rw [(bt f x.below).cell (by simp [r])];exact s
     clear hc s B1
     cases t:kLt d cs[k].1 with
     | false=>
      cases z:Op.bytesLess cs[k].1.toList d.toList with
      | true=>
       have HT:Hid (((cs.take (k+1)).filter fun c=>kLt d c.1)=_):=take_no l t;go_wp2;refine rb ?_;repeat (go_big_quiet_step (fail))
       refine qnn fun x=>?_
       go_wp2
       go_roundw
       case rel=>exact ⟨k+1,by omega,by go_num,by rw [HT.out];exact zS HO x.below,bt f x.below⟩
       case measure=>simp [intOf];omega
      | false=>
       have ah:(cs[k].1.toList == d.toList)=true:=ba_eq (kLt_tri z t);have HT:Hid (((cs.take (k+1)).filter fun c=>kLt d c.1)=_):=take_no l t;go_wp2;refine rb ?_;repeat (go_big_quiet_step (fail))
       refine qnn fun x=>?_
       go_wp2
       go_roundw
       case rel=>exact ⟨k+1,by omega,by go_num,by rw [HT.out];exact zS HO x.below,bt f x.below⟩
       case measure=>simp [intOf];omega
     | true=>
      have HT:Hid (((cs.take (k+1)).filter fun c=>kLt d c.1)=_):=take_yes l t;have z:Op.bytesLess cs[k].1.toList d.toList=false:=kLt_asym t;have ah:(cs[k].1.toList == d.toList)=false:=ba_ne (kLt_ne t).symm;go_wp2;refine rb ?_;repeat (go_big_quiet_step (fail))
      refine qnn fun x=>?_
      have ag:=(bt f x.below).size;have m:Hid (x.to.ownsRow w1.heap.size 92 2 u5 ((cs.filter fun c=>kLt c.1 d) ++ (d,num) :: (cs.take k).filter fun c=>kLt d c.1).length (kM ((cs.filter fun c=>kLt c.1 d) ++ (d,num) :: (cs.take k).filter fun c=>kLt d c.1))):=zS HO x.below;have aj:((cs.filter fun c=>kLt c.1 d) ++ (d,num) :: (cs.take k).filter fun c=>kLt d c.1).length<=2097153:=by simp;omega
      go_wp2_with (at_builtin;refine yV _ rfl _ _ rfl w1.heap.size _ ((cs.filter fun c=>kLt c.1 d) ++ (d,num) :: (cs.take k).filter fun c=>kLt d c.1) rfl (Aj m _) _ [cs[k]] rfl (one_cell _ cs[k] _) (by simp only [List.length_singleton];omega) (by simp;omega) ?_;intro v' w3 j h)
      go_roundw
      case rel=>exact ⟨k+1,by omega,by go_num,by rw [HT.out];simpa using j,(ba (bt f x.below) _).grown h (by simp;omega) fun b hb=>(m.lt b hb).1⟩
      case measure=>simp [intOf];omega
    ·have y:k=cs.length:=by omega
     have HK:=hid y;have B1:Be w w1:=by rw [HW.out];exact HB.out
     clear y;go_wp2;go_ret;refine ⟨_,rfl,zN (base:=w1.heap.size) ?_ (by omega),bt B1 f⟩;have:=HO.out;rw [HK.out,At] at this;exact this
theorem cellsOk_s (cs:CL) (v:Value) (w:World) (hv:qQ w v cs) (hl:(cs.length:Int)<=1048576) (hall:∀ c∈cs,(c.1.size:Int)<=1048576) :
  Calls prog 97 #[v] w fun e w'=>e=.returned (.bool (kS cs))/\Be w w':=by
 obtain ⟨a,cap,rfl,hr⟩:=hv;have HR:=hid hr;have HA:=hid hall;clear hr hall;go_enter func97,ntmps97;go_wp2
 go_loopw [3] (fun i wr=>∃ k:Nat,k<=cs.length/\i=I U (k:Int)/\Hid (okTo cs k)/\Be w wr) (fun i _=>cs.length - (intOf i).toNat)
 case atStart=>exact ⟨0,Ae _,rfl,fun i hi=>by omega,br _ _⟩
 case round=>
  obtain ⟨k,hk,rfl,HO,b⟩:=hrel
  by_cases hlt:(k:Int) < cs.length
  ·have d:k < cs.length:=by omega
   obtain ⟨g,l,rfl,hg,hc⟩:=HR (by omega);have r:=yX wr;have m:=HA cs[k] (Ag d);have c0:∀ x:Bw wr,x.to.cell? ⟨g,l+k * 2,Aa⟩=Ab (.string cs[k].1):=fun x=>by rw [(bt b x.below).cell (by exact hg)];exact (hc k d).1
   have c1:∀ x:Bw wr,x.to.cell? ⟨g,l+k * 2+1,Aa⟩=Ab (I U cs[k].2):=fun x=>by rw [(bt b x.below).cell (by exact hg)];exact (hc k d).2
   have q0:(0:Int)<=(k:Int):=by omega
   cases f:zIJ cs[k].1 with
   | false=>
    have HN:Hid (okAt cs k=false):=by
     cases k with
     | zero=>rw [yFC d,f];rfl
     | succ j=>rw [zGD d,f];rfl
    clear hc;go_wp2;refine rb ?_;repeat (go_big_quiet_step (first | refine zI (key_s _ _ m) | refine zI (yS _ _ _ _)))
    refine qnn fun x=>?_
    go_wp2;go_ret;exact ⟨zL (cellsB_no d HN).symm,bt b x.below⟩
   | true=>
    cases h:inB cs[k].2 0 1000000000 with
    | false=>
     have HN:Hid (okAt cs k=false):=by
      cases k with
      | zero=>rw [yFC d,f,zEH,h];rfl
      | succ j=>rw [zGD d,f,zEH,h];rfl
     clear hc;go_wp2;refine rb ?_;repeat (go_big_quiet_step (first | refine zI (key_s _ _ m) | refine zI (yS _ _ _ _)))
     refine qnn fun x=>?_
     go_wp2;go_ret;exact ⟨zL (cellsB_no d HN).symm,bt b x.below⟩
    | true=>
     cases k with
     | zero=>
      have HN:Hid (okAt cs 0=true):=by rw [yFC d,f,zEH,h];rfl
      have s:∀ x:Bw wr,x.to.cell? ⟨g,l,Aa⟩=Ab (.string cs[0].1):=fun x=>by simpa using c0 x
      have t:∀ x:Bw wr,x.to.cell? ⟨g,l+1,Aa⟩=Ab (I U cs[0].2):=fun x=>by simpa using c1 x
      have q1:(0:Int) < (cs.length:Int):=by omega
      clear hc;go_wp2;refine rb ?_;repeat (go_big_quiet_step (first | refine zI (key_s _ _ m) | refine zI (yS _ _ _ _)))
      refine qnn fun x=>?_
      go_wp2
      go_roundw
      case rel=>exact ⟨1,by omega,by go_num,okTo_next HO HN,bt b x.below⟩
      case measure=>simp [intOf];omega
     | succ j=>
      have c2:∀ x:Bw wr,x.to.cell? ⟨g,l+j * 2,Aa⟩=Ab (.string cs[j].1):=fun x=>by rw [(bt b x.below).cell (by exact hg)];exact (hc j (by omega)).1
      have q1:((j:Int)+1) < (cs.length:Int):=by omega
      have q2:(0:Int)<=(j:Int):=by omega
      cases p:Op.bytesLess cs[j].1.toList cs[j+1].1.toList with
      | false=>
       have HN:Hid (okAt cs (j+1)=false):=by rw [zGD d,f,zEH,h,p];rfl
       clear hc;go_wp2;refine rb ?_;repeat (go_big_quiet_step (first | refine zI (key_s _ _ m) | refine zI (yS _ _ _ _)))
       refine qnn fun x=>?_
       go_wp2;go_ret;exact ⟨zL (cellsB_no d HN).symm,bt b x.below⟩
      | true=>
       have HN:Hid (okAt cs (j+1)=true):=by rw [zGD d,f,zEH,h,p];rfl
       clear hc;go_wp2;refine rb ?_;repeat (go_big_quiet_step (first | refine zI (key_s _ _ m) | refine zI (yS _ _ _ _)))
       refine qnn fun x=>?_
       go_wp2
       go_roundw
       case rel=>exact ⟨j+1+1,by omega,by go_num,okTo_next HO HN,bt b x.below⟩
       case measure=>simp [intOf];omega
  ·have n:k=cs.length:=by omega
   have HK:=hid n;clear n;go_wp2;go_ret;have o:=HO.out;rw [HK.out] at o;exact ⟨zL (by rw [cellsB_all o];simp;omega),b⟩
theorem undo_block {t:TypeId} {u0 u1 u2:Value} (h:Below (w.alloc (.cells #[u0,u1,u2] t)).heap.size (w.alloc (.cells #[u0,u1,u2] t)) w'):w'.heap[w.heap.size]?=Ab (.cells #[u0,u1,u2] t (0,0)):=
 (h.block w.heap.size (by simp)).trans (heap_alloc_new w _)
theorem undoOf_s (cs:CL) (v:Value) (key:ByteArray) (w:World) (hv:qQ w v cs) (hl:(cs.length:Int)<=1048576) :
  Calls prog 108 #[v,.string key] w fun e w'=>e=.returned (undoV (yDB cs key))/\Be w w':=by
 have HV:=hid hv;obtain ⟨a,cap,rfl,hr⟩:=hv;have HR:=hid hr;clear hr;go_enter func108,ntmps108;go_wp2_with fail
 have B1:Be w (w.alloc (.cells #[.string Aq,.bool false,I U 0] 95)):=ba (br _ _) _;have HK:Hid ((w.alloc (.cells #[.string Aq,.bool false,I U 0] 95)).heap[w.heap.size]?=Ab (.cells #[.string Aq,.bool false,I U 0] 95 (0,0))):=heap_alloc_new w _;refine (cellAt_s cs _ key _ (HV.below B1) hl).mono ?_;rintro e w2 ⟨rfl,rfl⟩;have d:=hid B1;clear B1
 cases hh:zBB cs key with
 | false=>
  have b:cellAt cs key=-1:=cellAt_no hh;have HE:Hid (yDB cs key=(key,false,0)):=undo_no hh;rw [b];go_wp2;refine bodyPost_ret (v:=.agg #[.string key,.bool false,I U 0]) (by simp [results,results108,go_sem]) rfl ?_;refine ⟨?_,?_⟩
  ·rw [HE.out];rfl
  ·exact ba (br _ _) _
 | true=>
  obtain ⟨j,hj,b,hu⟩:=undo_at hh;have HE:=hid hu;rw [b];clear hu b;obtain ⟨g,c,rfl,hg,hc⟩:=HR (by omega);have q0:(0:Int)<=(j:Int):=by omega
  have q1:(j:Int) < cs.length:=by omega
  have c1:(w.alloc (.cells #[.string Aq,.bool false,I U 0] 95)).cell? ⟨g,c+j * 2+1,Aa⟩=Ab (I U cs[j].2):=by rw [d.out.cell (by exact hg)];exact (hc j hj).2
  clear hc;go_wp2;refine bodyPost_ret (v:=.agg #[.string key,.bool true,I U cs[j].2]) (by simp [results,results108,go_sem]) rfl ?_;refine ⟨?_,?_⟩
  ·rw [HE.out];rfl
  ·exact ba (br _ _) _
theorem undone_s (cs:CL) (v:Value) (u:UN) (w:World) (hv:qQ w v cs) (hok:okL cs) (hk:(u.1.size:Int)<=1048576) :
  Calls prog 56 #[v,undoV u] w fun e w'=>∃ v',e=.returned v'/\w'.ownsRow w.heap.size 92 2 v' (jK cs u).length (kM (jK cs u))/\Be w w':=by
 obtain ⟨d,m,num⟩:=u;have hl:=hok.1;have HL:=hid hok;have HV:=hid hv;obtain ⟨a,cap,rfl,hr⟩:=hv;have HR:=hid hr;clear hr hok;simp only at hk;unfold undoV;go_enter func56,ntmps56;go_wp2_with fail
 have B1:Be w (w.alloc (An #[Ar d,Value.bool m,I U num] 95)):=ba (br _ _) _;refine (cellsOk_s cs _ _ (HV.below B1) hl HL.2).mono ?_;rintro e w2 ⟨rfl,r⟩;have j:Hid (Be w w2):=bt B1 r;have k0:w2.cell? ⟨w.heap.size,0,Aa⟩=Ab (.string d):=by rw [r.cell (by simp)];simp
 have k1:w2.cell? ⟨w.heap.size,1,Aa⟩=Ab (.bool m):=by rw [r.cell (by simp)];simp
 have k2:w2.cell? ⟨w.heap.size,2,Aa⟩=Ab (I U num):=by rw [r.cell (by simp)];simp
 have ah:w.heap.size < w2.heap.size:=by have:=r.size;simp at this;omega
 clear B1 r
 cases ag:kS cs with
 | false=>
  have HE:Hid (jK cs (d,m,num)=cs):=undone_bad ag;have y:Hid (qQ (w2.alloc (.cells #[] 92)) (.slice a cs.length cap) cs):=(HV.below j).below (ba (br _ _) _);have n:Hid ((w2.alloc (.cells #[] 92)).ownsRow w2.heap.size 92 2 (.slice (Ab ⟨w2.heap.size,0,Aa⟩) 0 0) ([]:CL).length (kM [])):=yH w2 92 2;go_wp2_with (at_builtin;refine yV _ rfl _ _ rfl w2.heap.size _ [] rfl n _ cs rfl y (by simp;omega) (by simp) ?_;intro v5 w5 h f)
  have B5:Be w2 w5:=(ba (br _ _) _).grown f (by simp) fun b hb=>(n.lt b hb).1
  have s:Hid (w5.ownsRow w2.heap.size 92 2 v5 cs.length (kM cs)):=hid (by simpa using h);clear h f
  try go_wp2
  go_ret;exact ⟨v5,rfl,by rw [HE.out];exact zN s j.size,bt j B5⟩
 | true=>
  have al:=hid ag;clear ag;go_wp2_with fail
  refine (key_s d _ hk).mono ?_;rintro e w2 ⟨rfl,rfl⟩
  cases z:zIJ d with
  | false=>
   have HE:Hid (jK cs (d,m,num)=cs):=undone_not (by unfold zHH;simp only;rw [z];rfl);have y:Hid (qQ (w2.alloc (.cells #[] 92)) (.slice a cs.length cap) cs):=(HV.below j).below (ba (br _ _) _);have n:Hid ((w2.alloc (.cells #[] 92)).ownsRow w2.heap.size 92 2 (.slice (Ab ⟨w2.heap.size,0,Aa⟩) 0 0) ([]:CL).length (kM [])):=yH w2 92 2;go_wp2_with (at_builtin;refine yV _ rfl _ _ rfl w2.heap.size _ [] rfl n _ cs rfl y (by simp;omega) (by simp) ?_;intro v5 w5 h f)
   have B5:Be w2 w5:=(ba (br _ _) _).grown f (by simp) fun b hb=>(n.lt b hb).1
   have s:Hid (w5.ownsRow w2.heap.size 92 2 v5 cs.length (kM cs)):=hid (by simpa using h);clear h f
   try go_wp2
   go_ret;exact ⟨v5,rfl,by rw [HE.out];exact zN s j.size,bt j B5⟩
  | true=>
   go_wp2_with fail
   refine (yS num 0 1000000000 _).mono ?_;rintro e w2 ⟨rfl,rfl⟩
   cases ad:inB num 0 1000000000 with
   | false=>
    have HE:Hid (jK cs (d,m,num)=cs):=undone_not (by unfold zHH zEH;simp only;rw [z,ad];rfl);have y:Hid (qQ (w2.alloc (.cells #[] 92)) (.slice a cs.length cap) cs):=(HV.below j).below (ba (br _ _) _);have n:Hid ((w2.alloc (.cells #[] 92)).ownsRow w2.heap.size 92 2 (.slice (Ab ⟨w2.heap.size,0,Aa⟩) 0 0) ([]:CL).length (kM [])):=yH w2 92 2;go_wp2_with (at_builtin;refine yV _ rfl _ _ rfl w2.heap.size _ [] rfl n _ cs rfl y (by simp;omega) (by simp) ?_;intro v5 w5 h f)
    have B5:Be w2 w5:=(ba (br _ _) _).grown f (by simp) fun b hb=>(n.lt b hb).1
    have s:Hid (w5.ownsRow w2.heap.size 92 2 v5 cs.length (kM cs)):=hid (by simpa using h);clear h f
    try go_wp2
    go_ret;exact ⟨v5,rfl,by rw [HE.out];exact zN s j.size,bt j B5⟩
   | true=>
    have HE:Hid (jK cs (d,m,num)=backC cs (d,m,num)):=undone_yes al (by unfold zHH zEH;simp only;rw [z,ad];rfl);clear z ad
    cases m with
    | true=>
     have HP:Hid (backC cs (d,true,num)=putC cs (d,num)):=back_true cs d num;go_wp2_with fail
     refine (put_s cs _ (d,num) _ (HV.below j) hl).mono ?_;rintro e w6 ⟨v6,rfl,t,ap⟩;have am:=hid t;clear t;go_wp2;go_ret;exact ⟨v6,rfl,by rw [HE.out,HP.out];exact zN am j.size,bt j ap⟩
    | false=>
     have HP:Hid (backC cs (d,false,num)=cs.filter fun c=>decide (c.1 ≠ d)):=back_false cs d num;have HC:Hid (∀ w',Be w2 w'->w'.cell? ⟨w.heap.size,0,Aa⟩=Ab (.string d)):=fun w' hb=>by rw [hb.cell (by exact ah)];exact k0
     go_wp2;clear k0 k2
     go_loopw [5,6] (fun o i wr=>∃ k:Nat,k<=cs.length/\i=I U (k:Int)/\wr.ownsRow w2.heap.size 92 2 o ((cs.take k).filter fun c=>decide (c.1 ≠ d)).length (kM ((cs.take k).filter fun c=>decide (c.1 ≠ d)))/\Be w2 wr) (fun _ i _=>cs.length - (intOf i).toNat)
     case atStart=>exact ⟨0,Ae _,rfl,yH w2 92 2,ba (br _ _) _⟩
     case round=>
      obtain ⟨k,ak,rfl,ac,l⟩:=hrel;have HO:=hid ac;have an:=take_len (p:=fun c=>decide (c.1 ≠ d)) ak;clear ac
      by_cases hlt:(k:Int) < cs.length
      ·have ab:k < cs.length:=by omega
       obtain ⟨g,ai,rfl,hg,hc⟩:=HR (by omega);have q0:(0:Int)<=(k:Int):=by omega
       have aq:=yX wr;have c0:∀ x:Bw wr,x.to.cell? ⟨g,ai+k * 2,Aa⟩=Ab (.string cs[k].1):=fun x=>by rw [(bt j (bt l x.below)).cell (by exact hg)];exact (hc k ab).1
       have c1:∀ x:Bw wr,x.to.cell? ⟨g,ai+k * 2+1,Aa⟩=Ab (I U cs[k].2):=fun x=>by rw [(bt j (bt l x.below)).cell (by exact hg)];exact (hc k ab).2
       have c2:∀ x:Bw wr,x.to.cell? ⟨w.heap.size,0,Aa⟩=Ab (.string d):=fun x=>HC _ (bt l x.below)
       clear hc
       by_cases hlb:cs[k].1=d
       ·have ao:=ba_eq hlb;have HT:Hid (((cs.take (k+1)).filter fun c=>decide (c.1 ≠ d))=_):=take_no (p:=fun c=>decide (c.1 ≠ d)) ab (by simp [hlb]);clear hlb;go_wp2;refine rb ?_;repeat (go_big_quiet_step (fail))
        refine qnn fun x=>?_
        go_wp2
        go_roundw
        case rel=>exact ⟨k+1,by omega,by go_num,by rw [HT.out];exact zS HO x.below,bt l x.below⟩
        case measure=>simp [intOf];omega
       ·have ao:=ba_ne hlb;have HT:Hid (((cs.take (k+1)).filter fun c=>decide (c.1 ≠ d))=_):=take_yes (p:=fun c=>decide (c.1 ≠ d)) ab (by simp [hlb]);clear hlb;go_wp2;refine rb ?_;repeat (go_big_quiet_step (fail))
        refine qnn fun x=>?_
        have ar:=(bt l x.below).size;have aa:Hid (x.to.ownsRow w2.heap.size 92 2 _ ((cs.take k).filter fun c=>decide (c.1 ≠ d)).length (kM ((cs.take k).filter fun c=>decide (c.1 ≠ d)))):=zS HO x.below;go_wp2_with (at_builtin;refine yV _ rfl _ _ rfl w2.heap.size _ ((cs.take k).filter fun c=>decide (c.1 ≠ d)) rfl (Aj aa _) _ [cs[k]] rfl (one_cell _ cs[k] _) (by simp only [List.length_singleton];omega) (by simp;omega) ?_;intro v' w3 af ae)
        go_roundw
        case rel=>exact ⟨k+1,by omega,by go_num,by rw [HT.out];exact af,(ba (bt l x.below) _).grown ae (by simp;omega) fun b hb=>(aa.lt b hb).1⟩
        case measure=>simp [intOf];omega
      ·have aj:k=cs.length:=by omega
       have aa:Hid (wr.ownsRow w2.heap.size 92 2 u5 (cs.filter fun c=>decide (c.1 ≠ d)).length (kM (cs.filter fun c=>decide (c.1 ≠ d)))):=by have:=HO.out;rw [aj,At] at this;exact this
       clear aj HO an;go_wp2;go_ret;exact ⟨_,rfl,by rw [HE.out,HP.out];exact zN aa j.size,bt j l⟩
theorem undoneAll_s (cs:CL) (us:List UN) (v u:Value) (w:World) (hv:qQ w v cs) (hu:yM w u 3 kK us) (hok:okL cs) (hl:(us.length:Int)<=1048576) (hall:∀ x∈us,(x.1.size:Int)<=1048576) :
  Calls prog 17 #[v,u] w fun e w'=>∃ v',e=.returned v'/\w'.ownsRow w.heap.size 92 2 v' (xY cs us).length (kM (xY cs us))/\Be w w':=by
 have HV:=hid hv;have HL:=hid hok;have HA:=hid hall;have h1:=hok.1;have t:Hid (qQ (w.alloc (.cells #[] 92)) v cs):=hv.below (ba (br _ _) _);have r:Hid ((w.alloc (.cells #[] 92)).ownsRow w.heap.size 92 2 (.slice (Ab ⟨w.heap.size,0,Aa⟩) 0 0) ([]:CL).length (kM [])):=yH w 92 2;obtain ⟨a,cap,rfl,_⟩:=hv;obtain ⟨b,ae,rfl,hr⟩:=hu;have HR:=hid hr;clear hall hr hok;go_enter func17,ntmps17;go_wp2_with (at_builtin;refine yV _ rfl _ _ rfl w.heap.size _ [] rfl r _ cs rfl t (by simp;omega) (by simp) ?_;intro v0 w0 m d)
 have B0:Be w w0:=(ba (br _ _) _).grown d (by simp) fun b hb=>(r.lt b hb).1
 have af:=B0.size;have z:Hid (w0.ownsRow w.heap.size 92 2 v0 cs.length (kM cs)):=hid (by simpa using m);have ab:=hid B0;clear m d r t B0
 go_loopw [5,6] (fun o i wr=>∃ k:Nat,k<=us.length/\i=I U ((k:Int) - 1)/\wr.ownsRow w.heap.size 92 2 o (xY cs (us.drop k)).length (kM (xY cs (us.drop k)))/\Be w wr) (fun _ i _=>(intOf i+1).toNat)
 case atStart=>exact ⟨us.length,nl _,rfl,by rw [List.drop_length];exact z.out,ab⟩
 case round=>
  obtain ⟨k,hk,rfl,n,f⟩:=hrel;have HO:=hid n;have HB:=hid f;have ac:=f.size;clear n f
  cases k with
  | zero=>
   rw [show (((0:Nat):Int) - 1)=-1 from rfl];go_wp2;go_ret;exact ⟨_,rfl,HO,HB⟩
  | succ j=>
   rw [show (((j+1:Nat):Int) - 1)=(j:Int) by omega];have h:j < us.length:=by omega
   have q0:(0:Int)<=(j:Int):=by omega
   have q1:(j:Int) < us.length:=by omega
   obtain ⟨g,p,rfl,hg,hc⟩:=HR (by omega);have c0:wr.cell? ⟨g,p+j * 3,Aa⟩=Ab (.string us[j].1):=by rw [HB.out.cell (by exact hg)];exact hc j h 0 (by omega)
   have c1:wr.cell? ⟨g,p+j * 3+1,Aa⟩=Ab (.bool us[j].2.1):=by rw [HB.out.cell (by exact hg)];exact hc j h 1 (by omega)
   have c2:wr.cell? ⟨g,p+j * 3+2,Aa⟩=Ab (I U us[j].2.2):=by rw [HB.out.cell (by exact hg)];exact hc j h 2 (by omega)
   have aa:Hid (okL (xY cs (us.drop (j+1)))):=yDJ HL _ fun c hc=>HA c (List.mem_of_mem_drop hc)
   have HS:Hid (xY cs (us.drop j)=jK (xY cs (us.drop (j+1))) us[j]):=undoneAll_step h;clear hc;go_wp2_with fail
   refine (undone_s (xY cs (us.drop (j+1))) _ us[j] wr (qT HO) aa (HA _ (Ag h))).mono ?_;rintro e w2 ⟨v2,rfl,l,s⟩;have ad:=hid l;have y:Hid (Be w w2):=bt HB s;clear l s c0 c1 c2;go_wp2
   go_roundw
   case rel=>exact ⟨j,by omega,rfl,by rw [HS.out];exact zN ad ac,y⟩
   case measure=>simp [intOf]
def qS (l:List Int):Int:=l.getD (l.length - 1) 0
def jC (p:PE):PE:={ p with cells:=xY p.cells p.undos,early:=[],undos:=[] }
theorem okL_back {p:PE} (h:yC p):okL (jC p).cells:=yDJ ⟨h.cells,h.kcells⟩ p.undos h.kundos
theorem yG {r:Option Nat} (h:Be w w'):w.grownBy w' r:=⟨h.os,h.tape,h.output,h.size,fun k hk _=>h.block k hk⟩
theorem last_s (p:PE) (s:PV) (w:World) (hR:jS w p s) (hs:(p.row.length:Int)<=1048576) :
  Calls prog 71 #[yZ p s] w fun e w'=>e=.returned (I U (qS p.row))/\Be w w':=by
 obtain ⟨a,cap,er,hr⟩:=hR.row;have HR:=hid hr;have HK:Hid ((w.alloc (.cells (zA p s) 35)).heap[w.heap.size]?=Ab (.cells (zA p s) 35 (0,0))):=heap_alloc_new w _;have c:=zB HK 14 s.row rfl;rw [er] at c;clear hr hR
 by_cases h0:(p.row.length:Int)=0
 ·have b0:((p.row.length:Int) == 0)=true:=by simpa using h0
  have HE:Hid (qS p.row=0):=hid (by unfold qS;rw [List.eq_nil_of_length_eq_zero (show p.row.length=0 by omega)];rfl);go_enter func71,ntmps71;go_wp2;go_ret;exact ⟨by rw [HE.out];rfl,ba (br _ _) _⟩
 ·have b0:((p.row.length:Int) == 0)=false:=by simpa using h0
  have hm:p.row.length - 1 < p.row.length:=by omega
  have HE:Hid (qS p.row=p.row[p.row.length - 1]):=(by unfold qS;simp [List.getD,hm]:qS p.row=_);obtain ⟨g,b,rfl,hg,hc⟩:=HR (by omega);have q0:(0:Int)<=(p.row.length:Int) - 1:=by omega
  have q1:(p.row.length:Int) - 1 < p.row.length:=by omega
  have d:(w.alloc (.cells (zA p s) 35)).cell? ⟨g,b+(p.row.length - 1),Aa⟩=Ab (I U p.row[p.row.length - 1]):=by
   rw [((Below.refl w.heap.size w).alloc (nl _) _).cell (by exact hg)];have:=hc (p.row.length - 1) hm 0 (by omega)
   simpa [xJ] using this
  have f:((p.row.length:Int) - 1).toNat=p.row.length - 1:=by omega
  clear hc hg HR;go_enter func71,ntmps71;go_wp2;go_ret;exact ⟨by rw [HE.out];rfl,ba (br _ _) _⟩
theorem back_s (p:PE) (s:PV) (N lo hi:Nat) (w:World) (hD:zO lo hi w p s) (hN:Bx w N (zA p s) 35) (hlo:lo<=w.heap.size) (hs:yC p) :
  Calls prog 72 #[.pointer (Ab ⟨N,0,Aa⟩)] w fun e w'=>(∃ u,e=.returned u)/\w.grownBy w' (some N)/\∃ s',Bx w' N (zA (jC p) s') 35/\zO lo w'.heap.size w' (jC p) s':=by
 have HD:=hid hD;have HN:=hid hN;have HS:=hid hs;clear hD hN hs;go_enter func72,ntmps72;go_wp2;refine p_rg (fun i=>i != 12) (fun x=>Bx x N (zA p s) 35) ?_;show zX prog _ _ _ _ _ (12+1) (Ak 13 false) _ _;have hS:Bx w.drew N (zA p s) 35:=HN;refine p_pt 0 2 N 0 hS ?_;refine p_pt 1 3 N 0 hS ?_;refine p_pt 2 4 N 0 hS ?_;refine p_pt 3 5 N 15 hS ?_;refine zD 4 6 s.cells hS ?_ (hy:=by intro x hx;have c:=zB hx 15 s.cells rfl;go_simp;try rfl);refine p_pt 5 7 N 0 hS ?_;refine p_pt 6 8 N 0 hS ?_;refine p_pt 7 9 N 17 hS ?_;refine zD 8 10 s.undos hS ?_ (hy:=by intro x hx;have c:=zB hx 17 s.undos rfl;go_simp;try rfl);have ab:N < w.heap.size:=(gl HN);refine kJ 9 11 17 #[s.cells,s.undos] ((undoneAll_s p.cells p.undos s.cells s.undos w.drew (HD.reads.cells.below (br _ _).drew) (HD.reads.undos.below (br _ _).drew) ⟨HS.cells,HS.kcells⟩ HS.undos HS.kundos).mono ?_);rintro e x1 ⟨v1,rfl,ho,y⟩;have hb:=(bw w).trans y;have v:=hid hb;have d:=hid ho;have t:Hid (zO lo hi x1 p s):=HD.below hb;have b:Bx x1 N (zA p s) 35:=(hb.block _ ab).trans HN;clear ho hb y hS;refine ⟨_,rfl,fun _=>b,?_⟩;simp only [pz];refine zD 10 12 (.pointer (Ab ⟨N,0,Aa⟩)) b ?_;refine zD 11 13 (.pointer (Ab ⟨N,15,Aa⟩)) b ?_;refine p_ce 12 N 15 v1 (zA p s) (zA { p with cells:=xY p.cells p.undos } { s with cells:=v1 }) b (by simp [zA]) (zDH d) rfl ?_;intro x2 hg hk;have f:=hid hk;have m:Hid (w.grownBy x2 (some N)):=zP (yG v) hg;have k:Hid (zO lo x2.heap.size x2 { p with cells:=xY p.cells p.undos } { s with cells:=v1 }):=((t.boxed b hg).setCells (Ac HD.2.2 (Ac v.size hg.size)) (nl _) (zN (Ai d hg (zH d b (by decide))) hlo) (fun g e=>Ad (d.lt g e).2 hg.size) (fun g e=>Ap (Ac HD.2.2 (d.lt g e).1)));refine ⟨fun h=>(by cases h),?_⟩;refine p_do ?_;clear hg hk d t b;obtain ⟨q1,o⟩:∃ q1:PE,q1={ p with cells:=xY p.cells p.undos }:=⟨_,rfl⟩;obtain ⟨t1,r⟩:∃ t1:PV,t1={ s with cells:=v1 }:=⟨_,rfl⟩;rw [<- o,<- r] at f k;have ae:Hid (jC p={ q1 with early:=[],undos:=[] }):=(by rw [o];rfl:jC p=_);clear o r
 go_wp2_with (first
  | (refine w_sc N 16 (.slice (Ab ⟨x2.heap.size,0,Aa⟩) 0 0) ((((Below.refl x2.heap.size x2).alloc (nl _) (.cells #[] 3)).block _ (gl f)).trans f) (by simp [zA]) rfl (zA q1 { t1 with early:=.slice (Ab ⟨x2.heap.size,0,Aa⟩) 0 0 }) rfl ?_;intro x3 hg hk;have n:Hid (w.grownBy x3 (some N)):=zP m (zP (yG ((Below.refl x2.heap.size x2).alloc (nl _) _)) hg);have a:(x2.alloc (.cells #[] 3)).heap[N]?=Option.some (.cells (zA q1 t1) 35 (0,0)):=(((Below.refl x2.heap.size x2).alloc (nl _) (.cells #[] 3)).block _ (gl f)).trans f;have j:=hid hk;have z:Hid (zO lo x3.heap.size x3 { q1 with early:=[] } { t1 with early:=.slice (Ab ⟨x2.heap.size,0,Aa⟩) 0 0 }):=zO.setEarly (l:=[]) ((k.below ((Below.refl x2.heap.size x2).alloc (nl _) _)).boxed a hg) (Ac (by simp) hg.size) (nl _) (zN (Ai (yH x2 3 1) hg (zH (yH x2 3 1) a (by decide))) (by have:=m.size;omega)) (fun g e=>by cases e;exact Ad (by simp) hg.size) (fun g e=>by cases e;exact Ap (nl _));clear hg hk a f k m)
  | (refine w_sc N 17 (.slice (Ab ⟨x3.heap.size,0,Aa⟩) 0 0) ((((Below.refl x3.heap.size x3).alloc (nl _) (.cells #[] 95)).block _ (gl j)).trans j) (by simp [zA]) rfl (zA { q1 with early:=[] } { t1 with early:=.slice (Ab ⟨x2.heap.size,0,Aa⟩) 0 0,undos:=.slice (Ab ⟨x3.heap.size,0,Aa⟩) 0 0 }) rfl ?_;intro x4 hg hk;have aa:Hid (w.grownBy x4 (some N)):=zP n (zP (yG ((Below.refl x3.heap.size x3).alloc (nl _) _)) hg);have a:(x3.alloc (.cells #[] 95)).heap[N]?=Option.some (.cells (zA { q1 with early:=[] } { t1 with early:=.slice (Ab ⟨x2.heap.size,0,Aa⟩) 0 0 }) 35 (0,0)):=(((Below.refl x3.heap.size x3).alloc (nl _) (.cells #[] 95)).block _ (gl j)).trans j;have ad:=hid hk;have ac:Hid (zO lo x4.heap.size x4 { q1 with early:=[],undos:=[] } { t1 with early:=.slice (Ab ⟨x2.heap.size,0,Aa⟩) 0 0,undos:=.slice (Ab ⟨x3.heap.size,0,Aa⟩) 0 0 }):=zO.setUndos (l:=[]) ((z.below ((Below.refl x3.heap.size x3).alloc (nl _) _)).boxed a hg) (Ac (by simp) hg.size) (nl _) (zN (Ai (yH x3 95 3) hg (zH (yH x3 95 3) a (by decide))) (by have:=n.size;omega)) (fun g e=>by cases e;exact Ad (by simp) hg.size) (fun g e=>by cases e;exact Ap (nl _));clear hg hk a j z n))
 refine bodyPost_end (results_none results72 _ _ _) rfl ?_;rw [ae.out];exact ⟨⟨_,rfl⟩,aa,_,ad,ac⟩
def sameV (x v:VT):Bool:=decide (x.2.2.2=v.2.2.2) && (decide (x.1=v.1) && decide (x.2.1=v.2.1))
def hasV (l:List VT) (v:VT):Bool:=l.any fun x=>sameV x v
theorem has_snoc {l:List VT} {v:VT} (h:m < l.length):hasV (l.take (m+1)) v=(hasV (l.take m) v || sameV l[m] v):=by
 unfold hasV;rw [List.take_succ_eq_append_getElem h,List.any_append];simp
theorem has_hit {l:List VT} {v:VT} (h:m < l.length) (hs:sameV l[m] v=true):hasV l v=true:=by
 unfold hasV;exact List.any_eq_true.2 ⟨l[m],Ag h,hs⟩
theorem yCH {lo:Nat} {l:LT} (h:lo<=x.heap.size):(x.alloc (.cells (zQ l) 61)).ownsRow lo 61 13 (.slice (Ab ⟨x.heap.size,0,Aa⟩) 1 1) 1 (yE l):=by
 exact ⟨rfl,Ap ⟨x.heap.size,1,zQ l,rfl,h,heap_alloc_new x _,nl _,by unfold maxLen;omega,rfl,rfl⟩⟩
theorem has_s (l:List VT) (lv:Value) (v:VT) (w:World) (hR:yM w lv 4 xD l) (hl:(l.length:Int)<=1048576) :
  Calls prog 156 #[lv,.agg #[I U v.1,I U v.2.1,I U v.2.2.1,I U v.2.2.2]] w fun e w'=>e=.returned (.bool (hasV l v))/\Be w w':=by
 obtain ⟨v0,v1,v2,v3⟩:=v;simp only;obtain ⟨a,cap,rfl,hr⟩:=hR;have HR:=hid hr;clear hr;obtain ⟨W,hW⟩:=nw (w.alloc (.cells #[I U v0,I U v1,I U v2,I U v3] 28));have HW:Hid (Be w W/\Bx W w.heap.size #[I U v0,I U v1,I U v2,I U v3] 28):=hid (by rw [hW];exact ⟨ba (br _ _) _,heap_alloc_new w _⟩);go_enter func156,ntmps156;go_wp2;rw [<- hW];clear hW
 go_loopw [5] (fun i wr=>∃ m:Nat,m<=l.length/\i=I U (m:Int)/\Hid (hasV (l.take m) (v0,v1,v2,v3)=false)/\Hid (Be w wr/\Bx wr w.heap.size #[I U v0,I U v1,I U v2,I U v3] 28)) (fun i _=>l.length - (intOf i).toNat)
 case atStart=>exact ⟨0,Ae _,rfl,rfl,HW⟩
 case round=>
  obtain ⟨m,hm,rfl,HF,HY⟩:=hrel
  by_cases hlt:(m:Int) < l.length
  ·have b:m < l.length:=by omega
   obtain ⟨g,c,rfl,hg,hc⟩:=HR (by omega);have q0:(0:Int)<=(m:Int):=by omega
   have k:=yX wr;obtain ⟨x,hx⟩:∃ x:VT,x=l[m]:=⟨_,rfl⟩;have z0:∀ z:Bw wr,z.to.cell? ⟨g,c+m * 4,Aa⟩=Ab (I U x.1):=fun z=>by rw [(bt HY.1 z.below).cell (by exact hg),hx];exact hc m b 0 (by omega)
   have z1:∀ z:Bw wr,z.to.cell? ⟨g,c+m * 4+1,Aa⟩=Ab (I U x.2.1):=fun z=>by rw [(bt HY.1 z.below).cell (by exact hg),hx];exact hc m b 1 (by omega)
   have z3:∀ z:Bw wr,z.to.cell? ⟨g,c+m * 4+3,Aa⟩=Ab (I U x.2.2.2):=fun z=>by rw [(bt HY.1 z.below).cell (by exact hg),hx];exact hc m b 3 (by omega)
   have y0:∀ z:Bw wr,z.to.cell? ⟨w.heap.size,0,Aa⟩=Ab (I U v0):=fun z=>zB (bk z.below HY.2) 0 _ rfl
   have y1:∀ z:Bw wr,z.to.cell? ⟨w.heap.size,1,Aa⟩=Ab (I U v1):=fun z=>zB (bk z.below HY.2) 1 _ rfl
   have y3:∀ z:Bw wr,z.to.cell? ⟨w.heap.size,3,Aa⟩=Ab (I U v3):=fun z=>zB (bk z.below HY.2) 3 _ rfl
   have f:Hid (sameV x (v0,v1,v2,v3)=true->hasV l (v0,v1,v2,v3)=true):=fun h=>has_hit b (by rw [<- hx];exact h)
   have d:Hid (sameV x (v0,v1,v2,v3)=false->hasV (l.take (m+1)) (v0,v1,v2,v3)=false):=fun h=>by rw [has_snoc b,HF.out,<- hx,h];rfl
   clear hc hg hx
   by_cases h3:x.2.2.2=v3
   ·have b3:(x.2.2.2 == v3)=true:=by simpa using h3
    have d3:decide (x.2.2.2=v3)=true:=decide_eq_true h3
    by_cases h0:x.1=v0
    ·have b0:(x.1 == v0)=true:=by simpa using h0
     have d0:decide (x.1=v0)=true:=decide_eq_true h0
     by_cases h1:x.2.1=v1
     ·have b1:(x.2.1 == v1)=true:=by simpa using h1
      have d1:decide (x.2.1=v1)=true:=decide_eq_true h1;have HE:Hid (hasV l (v0,v1,v2,v3)=true):=f (by unfold sameV;simp only;rw [d3,d0,d1];rfl);clear h3 h0 h1;go_wp2;refine rb ?_;repeat (go_big_quiet_step (fail))
      refine qnn fun x=>?_
      go_wp2;go_ret;exact ⟨zL HE.symm,bt HY.1 x.below⟩
     ·have b1:(x.2.1 == v1)=false:=by simpa using h1
      have d1:decide (x.2.1=v1)=false:=decide_eq_false h1;have HN:Hid (hasV (l.take (m+1)) (v0,v1,v2,v3)=false):=d.out (by unfold sameV;simp only;rw [d3,d0,d1];rfl);clear h3 h0 h1;go_wp2;refine rb ?_;repeat (go_big_quiet_step (fail))
      refine qnn fun x=>?_
      go_wp2
      go_roundw
      case rel=>exact ⟨m+1,by omega,by go_num,HN,bt HY.1 x.below,bk x.below HY.2⟩
      case measure=>simp [intOf];omega
    ·have b0:(x.1 == v0)=false:=by simpa using h0
     have d0:decide (x.1=v0)=false:=decide_eq_false h0;have HN:Hid (hasV (l.take (m+1)) (v0,v1,v2,v3)=false):=d.out (by unfold sameV;simp only;rw [d3,d0];rfl);clear h3 h0;go_wp2;refine rb ?_;repeat (go_big_quiet_step (fail))
     refine qnn fun x=>?_
     go_wp2
     go_roundw
     case rel=>exact ⟨m+1,by omega,by go_num,HN,bt HY.1 x.below,bk x.below HY.2⟩
     case measure=>simp [intOf];omega
   ·have b3:(x.2.2.2 == v3)=false:=by simpa using h3
    have d3:decide (x.2.2.2=v3)=false:=decide_eq_false h3;have HN:Hid (hasV (l.take (m+1)) (v0,v1,v2,v3)=false):=d.out (by unfold sameV;simp only;rw [d3];rfl);clear h3;go_wp2;refine rb ?_;repeat (go_big_quiet_step (fail))
    refine qnn fun x=>?_
    go_wp2
    go_roundw
    case rel=>exact ⟨m+1,by omega,by go_num,HN,bt HY.1 x.below,bk x.below HY.2⟩
    case measure=>simp [intOf];omega
  ·have j:m=l.length:=by omega
   subst j;rw [At] at HF;go_wp2;go_ret;exact ⟨zL HF.symm,HY.1⟩
def zEJ (p:PE) (phase view block to:Int):LT:=kX (yP p phase view block) 2 to (0,0,0,0) (phase,view,block,p.id)
theorem give_s (p:PE) (s:PV) (N lo hi:Nat) (phase view block to:Int) (w:World) (hD:zO lo hi w p s) (hN:Bx w N (zA p s) 35) (hlo:lo<=w.heap.size) (hs:yC p) :
  Calls prog 213 #[.pointer (Ab ⟨N,0,Aa⟩),I U phase,I U view,I U block,I U to] w fun e w'=>∃ v',e=.returned v'/\w.grownBy w' (some N)/\(∃ s',Bx w' N (zA (yP p phase view block) s') 35/\zO lo w'.heap.size w' (yP p phase view block) s')/\w'.ownsRow w.heap.size 61 13 v' 1 (yE (zEJ p phase view block to)):=by
 have HD:=hid hD;have HN:=hid hN;have HS:=hid hs;have ab:N < w.heap.size:=(gl hN);clear hD hN hs;go_enter func213,ntmps213;go_wp2_with (refine w_ld N HN underlying35 ?_)
 refine (voted_s p s phase view block w HD.reads HS).mono ?_;obtain ⟨Q,hQ⟩:=nw (yP p phase view block);have HE:Hid (kX Q 2 to (0,0,0,0) (phase,view,block,p.id)=zEJ p phase view block to):=(by rw [hQ];rfl:kX Q 2 to (0,0,0,0) (phase,view,block,p.id)=_);have ad:=hid hQ.symm;rw [<- hQ];clear hQ;rintro e x1 ⟨s1,rfl,ho,hb⟩;have n:=hid ho;have h:=hid (qad2 hb ((hb.block _ ab).trans HN));clear ho hb
 go_wp2_with (first
  | (refine zC rfl _ _ _ rfl x1.heap.size (zA Q s1) rfl rfl 35 zF (qK x1 _ _).1 (by kernel_rfl) rfl (zJ n.1) ?_;intro y1 hg hk hz;have y:Be x1 y1:=(((br _ _).alloc (nl _) _).alloc (by simp) _).grown hg (by simp;omega) (fun k hk=>by cases hk;exact nl _);have c:Hid (Bx y1 x1.heap.size (zA Q s1) 35/\Bx y1 (x1.heap.size+1) #[I U 0,I U 0,I U 0,I U 0] 28/\Be x1 y1):=⟨hk,(hg.block _ (by simp) (fun e=>by have e:=Af e;omega)).trans (qK x1 _ _).2,y⟩;clear hg hk hz y)
  | (refine w_st (x1.heap.size+1) #[I U phase,I U view,I U block,I U p.id] c.2.1 (by simp [Am]) ?_;intro y2 hg hk hz;have g:Be x1 y2:=c.2.2.grown hg c.2.2.size (qkk (by omega));have b:Hid (Bx y2 x1.heap.size (zA Q s1) 35/\Bx y2 (x1.heap.size+1) #[I U phase,I U view,I U block,I U p.id] 28/\Be x1 y2):=⟨gk hg c.1 (fun e=>by have e:=Af e;omega),hk,g⟩;have l:Hid (zO w.heap.size x1.heap.size y2 Q s1):=n.below g;have o:Hid (Bx y2 N (zA p s) 35):=bk g h.2;clear hg hk hz g c n)
  | (refine w_ld x1.heap.size b.1 underlying35 ?_)
  | (refine w_st N (zA Q s1) o (zJ l.1) ?_;intro y3 hg hk hz;have f:Hid (Bx y3 N (zA Q s1) 35/\Bx y3 (x1.heap.size+1) #[I U phase,I U view,I U block,I U p.id] 28):=⟨hk,gk hg b.2.1 (fun e=>by have e:=Af e;have:=h.1.size;omega)⟩;have z:Hid (zO w.heap.size y3.heap.size y3 Q s1):=((l.boxed o hg).wide (Ac b.2.2.size hg.size) (nl _));have r:Hid (w.grownBy y3 (Option.some N)):=zP (yG (bt h.1 b.2.2)) hg;clear hg hk hz b l o h))
 refine xA (fun x=>Bx x N (zA Q s1) 35/\Bx x (x1.heap.size+1) #[I U phase,I U view,I U block,I U p.id] 28) (by kernel_rfl) ?_;show wpAnyH prog _ _ _ _ (8+1) (Ak 9 false) _ _;have hS:Bx y3.drew N (zA Q s1) 35/\Bx y3.drew (x1.heap.size+1) #[I U phase,I U view,I U block,I U p.id] 28:=f;refine h_pt 0 26 N 0 hS ?_;refine h_pt 1 27 N 0 hS ?_;refine yJ 2 28 (.agg (zA Q s1)) hS ?_ (hy:=fun x hx=>ldb N hx.1 underlying35);refine yJ 3 29 (I U to) hS ?_;refine yJ 4 30 (.agg #[I U 0,I U 0,I U 0,I U 0]) hS ?_;refine yJ 5 31 (.agg #[I U phase,I U view,I U block,I U p.id]) hS ?_ (hy:=fun x hx=>ldb (x1.heap.size+1) hx.2 underlying28);refine h_cl 6 32 40 #[.agg (zA Q s1),I U 2,I U to,.agg #[I U 0,I U 0,I U 0,I U 0],.agg #[I U phase,I U view,I U block,I U p.id]] ((answered_s Q s1 2 to (0,0,0,0) (phase,view,block,p.id) y3.drew).mono ?_);rw [HE.out];obtain ⟨LL,u⟩:=nw (zEJ p phase view block to);rw [<- u];rintro e x4 ⟨rfl,v⟩;have hb:=(bw y3).trans v;have i:=hid (qad2 (bk hb f.1) (bk hb f.2));have t:Hid (zO w.heap.size x4.heap.size x4 Q s1):=(z.below hb).wide hb.size (nl _);have j:Hid (w.grownBy x4 (some N)):=zP r (yG hb);clear hb v hS f z r;refine ⟨_,rfl,i,?_⟩;simp only [pz];obtain ⟨y5,d⟩:=nw (x4.alloc (.cells (zQ LL) 61));have a:Be x4 y5:=by rw [d];exact (br _ _).alloc (nl _) _
 have m:=hid (qad2 (bk a i.1) (bk a i.2));have ae:Hid (zO w.heap.size y5.heap.size y5 Q s1):=(t.below a).wide a.size (nl _);have aa:Hid (w.grownBy y5 (some N)):=zP j (yG a);have ac:Hid (y5.ownsRow w.heap.size 61 13 (.slice (Ab ⟨x4.heap.size,0,Aa⟩) 1 1) 1 (yE LL)):=hid (by rw [d];exact yCH j.size);refine h_run (s:=7) (e':=some 33) rfl rfl rfl (by kernel_rfl) (.slice (Ab ⟨x4.heap.size,0,Aa⟩) 1 1) y5 ?_ ⟨m,?_⟩
 ·rw [d];unfold letV zQ;go_simp
  try rfl
 clear d a i t j;simp only [pz];refine yJ 8 10 (.slice (Ab ⟨x4.heap.size,0,Aa⟩) 1 1) m ?_;refine h_dn ?_;go_wp2;go_ret;rw [ad.out,<- u];exact ⟨_,rfl,aa,⟨s1,m.1,(ae.low hlo)⟩,ac⟩
section
variable {P:Program} {ops:Array Oper} {Q:Exit->Act->World->Prop} {md:Region.Mode} {C:World->Prop} {pend:Nat->Bool}
def StepP (P:Program) (md:Region.Mode) (ops:Array Oper) (Q:Exit->Act->World->Prop) (C:World->Prop) (pend:Nat->Bool) (f:Nat) (L:Array Bool) (a:Act) (w:World) (s:Nat):Prop:=
 wpOp P ops Q s (fun a' w'=>(pend s=true->C w')/\zX P md ops Q C pend f (L.setIfInBounds s true) a' w') a w
theorem zFC (hr:Region.ready md ops L=[i,j]) (h1:StepP P md ops Q C pend f L a w i) (h2:StepP P md ops Q C pend f L a w j):zX P md ops Q C pend (f+1) L a w:=by
 refine ⟨fun h0=>(by rw [hr] at h0;cases h0),fun k hk=>?_⟩;rw [hr] at hk
 rcases List.mem_cons.1 hk with rfl | hk
 ·exact h1
 ·obtain rfl:k=j:=by simpa using hk
  exact h2
theorem kG (hr:Region.ready md ops L=[i]) (h1:StepP P md ops Q C pend f L a w i):zX P md ops Q C pend (f+1) L a w:=by
 refine ⟨fun h0=>(by rw [hr] at h0;cases h0),fun k hk=>?_⟩;rw [hr] at hk;obtain rfl:k=i:=by simpa using hk
 exact h1
theorem p_on (i:Nat) (h:StepP P md ops Q C pend f L a w i) (hr:Region.ready md ops L=[i]:=by kernel_rfl):zX P md ops Q C pend (f+1) L a w:=kG hr h
theorem xU {e':Option Tmp} (ho:ops[s]?=some os) (he:os.dst=e') (hgd:os.guard=none)
  (v:Value) (w':World) (hrun:(execOp a.eval os).run P w=.ok (.value v) w') (h:(pend s=true->C w')/\zX P md ops Q C pend f (L.setIfInBounds s true) (a.put e' v) w'):StepP P md ops Q C pend f L a w s:=by
 subst he;unfold StepP wpOp;simp only [ho];rw [if_pos (by simp [Region.wanted,hgd])];refine Ao ?_;unfold Oper.wp;rw [hrun];exact h
theorem xS {α:Type} {g:α->List Value} {e':Option Tmp} (ho:ops[s]?=some os) (he:os.dst=e') (hgd:os.guard=none) (x y:Operand) (t:TypeId) (hop:os.op=.call {callee:=.builtin .append,args:=#[x,y],argTypes:=#[t,t] })
  (base:Nat) (e:TypeId) (i:TypeInfo) (z:Value) (bytes:Nat) (ht:P.underlying t=Ab (.slice e)) (hi:P.info? e=some i) (hz:i.zero=some z) (hsize:i.size=m) (hby:i.bytes=bytes) (hzs:z.cells.size=m) (hsz:0 < m)
  (hm:∀ y,(g y).length=m) (hone:∀ y,∀ u∈g y,u.oneCell'=true)
  (v:Value) (xs:List α) (hs:a.eval x=v) (hown:w.ownsRow base e m v xs.length (zE g xs))
  (src:Value) (cs:List α) (hx:a.eval y=src) (hsrc:yM w src m g cs) (h63:xs.length+cs.length<=maxLen) (hbytes:(xs.length+cs.length) * bytes<=140737488355328) (hbase:base<=w.heap.size)
  (h:∀ v' w',w'.ownsRow base e m v' (xs ++ cs).length (zE g (xs ++ cs))->w.grownBy w' v.ownBlock->(v'.ownBlock=v.ownBlock∨v'.ownBlock=some w.heap.size)->(pend s=true->C w')/\zX P md ops Q C pend f (L.setIfInBounds s true) (a.put e' v') w'):StepP P md ops Q C pend f L a w s:=by
 subst he;unfold StepP wpOp;simp only [ho];rw [if_pos (by simp [Region.wanted,hgd])];refine Ao ?_;obtain ⟨ad,cap,rfl,hr⟩:=hsrc
 cases ad with
 | none=>
  have h0:cs.length=0:=by
   rcases Nat.eq_zero_or_pos cs.length with h | h
   ·exact h
   ·obtain ⟨_,_,e,_⟩:=hr h;cases e
  obtain rfl:cs=[]:=List.eq_nil_of_length_eq_zero h0;have b:=yBC (ty:=os.type) ht hi w hown cap;unfold Oper.wp execOp;simp only [hop,resolve,invoke,builtin,Sem.run_bind,Sem.run_pure,Result.andThen_ok,List.map_toArray,List.map_cons,List.map_nil,hs,hx,List.length_nil,b];exact h v w (by simpa using hown) ⟨rfl,rfl,rfl,nl _,fun _ _ _=>rfl⟩ (Ao rfl)
 | some ad=>
  have d:∀ j u,(zE g cs)[j]?=some u->w.cell? (ad.add j)=some u:=by
   intro j u hj
   have k:j < cs.length * m:=by
    rw [<- jX hm];exact (List.getElem?_eq_some_iff.1 hj).1
   have h0:0 < cs.length:=by
    rcases Nat.eq_zero_or_pos cs.length with h | h
    ·rw [h] at k;omega
    ·exact h
   obtain ⟨g',c,l,hg,hc⟩:=hr h0
   cases l
   have hp:(⟨g',c,Aa⟩:Addr).add j=⟨g',c+j,Aa⟩:=by unfold Addr.add;split <;> simp_all
   have hd:j / m < cs.length:=Nat.div_lt_of_lt_mul (by rw [Nat.mul_comm];exact k);have hr:j % m < m:=Nat.mod_lt _ hsz;have e:j=j / m * m+j % m:=by rw [Nat.mul_comm];exact (Nat.div_add_mod j m).symm
   have hf:=jY hm cs (j / m) hd (j % m) hr;rw [<- e] at hf;rw [hp,show c+j=c+j / m * m+j % m by omega,hc (j / m) hd (j % m) hr,<- hf,hj]
  have h1:∀ u∈zE g cs,u.oneCell'=true:=fun u hu=>by
   obtain ⟨y,_,hy⟩:=List.mem_flatMap.1 hu;exact hone y u hy
  obtain ⟨v',w',b,h2,h3,_,h5⟩:=run_append_own_at (P:=P) w base t os.type e i z m bytes ht hi hz hsize hby hzs hsz v _ _ hown ad cs.length cap (zE g cs) (jX hm cs) d h1 h63 hbytes hbase;unfold Oper.wp execOp;simp only [hop,resolve,invoke,builtin,Sem.run_bind,Sem.run_pure,Result.andThen_ok,List.map_toArray,List.map_cons,List.map_nil,hs,hx,b];exact h v' w' (by rw [Ah,zY];exact h2) h3 h5
end
section
variable {P:Program} {ops:Array Oper} {Q:Exit->Act->World->Prop} {md:Region.Mode} {S:World->Prop}
theorem fl_out {d:Option Tmp} {oi:Oper} {obj:Obj} {T:World->Prop} 
  (hi:ops[i]?=some oi) (hdd:oi.dst=d) (hmk:Makes P oi obj) (hb:∀ w,T w->base<=w.heap.size) (hU:Up T) (hTS:∀ w,T w->S w) (hr0:Region.ready md ops L=[i])
  (fin:∀ N w,T w->base<=N->w.heap[N]?=some obj->wpAnyH P md ops Q S f (L.setIfInBounds i true) (a.put d (flP N)) w):Fl P md ops Q S i d obj base T f L a:=by
 subst hdd;intro al w hT hI
 cases al with
 | some N=>exact fin N w hT hI.1 hI.2
 | none=>
  show wpAnyH P md ops Q S (f+1) L a w;refine ⟨fun h=>(by rw [hr0] at h;cases h),fun j hj=>?_⟩;rw [hr0] at hj;obtain rfl:j=i:=by simpa using hj
  refine zGJ hi (by simp [Region.wanted,hmk.1]) (hmk.2 a.eval w) ⟨hTS _ (hU _ _ hT (yA w obj)),?_⟩;exact fin w.heap.size (w.alloc obj) (hU _ _ hT (yA w obj)) (hb w hT) (zBA w obj)
end
def zIF (t:List BK) (k:Int):QC:=(t[k.toNat]?.getD kE).2.2
def zHC (t:List BK) (k:Int):Int:=(zIF t k).2.2.1
def zGG (t:List BK) (k:Int):Option (Int × Int × Int):=
 if xZ t k < 1 then none else
 if inB (zHC t k) 0 (k - 1)=false then none else
 if inB (zHC t (zHC t k)) 0 ((t.length:Int) - 1)=false then none else
 if inB (zHC t (zHC t (zHC t k))) 0 ((t.length:Int) - 1)=false then none else
 some (zHC t k,zHC t (zHC t k),zHC t (zHC t (zHC t k)))
theorem height_in (h:¬ xZ t k < 1):0<=k/\k < (t.length:Int):=by
 unfold xZ at h
 cases hd:qH t k with
 | none=>rw [hd] at h;simp at h
 | some l=>
  unfold qH at hd
  split at hd
  ·rename_i hc;exact hc
  ·cases hd
theorem threeT_in {c d:Int} (h:zGG t k=Ab (b,c,d)):(0<=k/\k < (t.length:Int))/\(0<=b/\b < (t.length:Int))/\(0<=c/\c < (t.length:Int))/\(0<=d/\d < (t.length:Int)):=by
 unfold zGG at h
 split at h
 ·cases h
 ·rename_i h0
  have hk:=height_in h0
  split at h
  ·cases h
  ·rename_i h1
   split at h
   ·cases h
   ·rename_i h2
    split at h
    ·cases h
    ·rename_i h3
     injection h with h
     injection h with e1 h
     injection h with e2 e3
     subst e1 e2 e3;simp only [inB,decide_eq_false_iff_not,Decidable.not_not] at h1 h2 h3;exact ⟨hk,⟨h1.1,by omega⟩,⟨h2.1,by omega⟩,⟨h3.1,by omega⟩⟩
def zFB (t:List BK) (b c:Int):Bool:=decide (b ≠ 0) && (decide (c ≠ 0) && decide (yR t b=wrap64 (yR t c+1)))
def zCH (t:List BK) (k:Int):Option Int:=match zGG t k with
 | some (b,c,d)=>if zFB t b c=true/\yR t c=wrap64 (yR t d+1) then some d else none
 | none=>none
def rowAns:Option Int->Value
 | some d=>.tuple #[I U d,.bool true]
 | none=>.tuple #[I U 0,.bool false]
theorem zDJ {t u v x:Tmp} (h:fn.results=#[.tmp t,.tmp u,.tmp v,.tmp x]) (tmps:Array Value) (P:Program) (w:World) :
  (results fn tmps).run P w=.ok (.tuple #[tmps.getD t undef,tmps.getD u undef,tmps.getD v undef,tmps.getD x undef]) w:=by
 simp [results,h]
theorem tree_cell (h:jB w v ps) (hj:j < ps.length):∃ g off cap,v=.slice (Ab ⟨g,off,Aa⟩) ps.length cap/\g < w.heap.size/\∀ i (hi:i < ps.length),w.cell? ⟨g,off+i * 7+1,Aa⟩=Ab (I U ps[i].1.1.2)/\w.cell? ⟨g,off+i * 7+5,Aa⟩=Ab (I U ps[i].1.2.2.2.2.1):=by
 obtain ⟨a,cap,rfl,hr⟩:=h.1;obtain ⟨g,off,rfl,hg,hc⟩:=hr (by omega);exact ⟨g,off,cap,rfl,hg,fun i hi=>⟨hc i hi 1 (by omega),hc i hi 5 (by omega)⟩⟩
theorem justB_at (h:j < ps.length):zHC (bks ps) (j:Int)=ps[j].1.2.2.2.2.1:=by unfold zHC zIF;simp [bks,h]
theorem viewAt_tl (h:j < ps.length):yR (bks ps) (j:Int)=ps[j].1.1.2:=by unfold yR;simp [bks,h]
theorem three_s (ps:TL) (v:Value) (k:Int) (w:World) (hT:jB w v ps) (hl:(ps.length:Int)<=1048576) :
  Calls prog 238 #[v,I U k] w fun e w'=>e=.returned (match zGG (bks ps) k with | some (b,c,d)=>.tuple #[I U b,I U c,I U d,.bool true] | none=>.tuple #[I U 0,I U 0,I U 0,.bool false])/\w'=w:=by
 have HT:=hid hT;have f:Hid ((bks ps).length=ps.length):=yO ps;obtain ⟨R,hR⟩:=nw (match zGG (bks ps) k with | some (b,c,d)=>Value.tuple #[I U b,I U c,I U d,.bool true] | none=>.tuple #[I U 0,I U 0,I U 0,.bool false]);have HR:=hid hR;rw [<- hR];clear hR hT;obtain ⟨a,cap,rfl,-⟩:=HT.1;go_enter func238,ntmps238;go_wp2_with fail
 refine (height_s ps _ k w HT hl).mono ?_;rintro e w' ⟨rfl,hw⟩;obtain rfl:=hw.symm;clear hw
 by_cases h0:xZ (bks ps) k < 1
 ·have HE:Hid (R=.tuple #[I U 0,I U 0,I U 0,.bool false]):=(by rw [HR.out];unfold zGG;rw [if_pos h0]:R=_);go_wp2;exact bodyPost_ret (zDJ results238 _ _ _) rfl ⟨by rw [HE.out];rfl,rfl⟩
 have hk:=height_in h0;rw [f.out] at hk;have H0:=hid h0;obtain ⟨kn,rfl⟩:∃ kn:Nat,k=(kn:Int):=⟨k.toNat,by omega⟩;have i:kn < ps.length:=by omega
 obtain ⟨g,p,o,e',hg,hc⟩:=tree_cell HT i;injection e' with e1 _ e3
 subst e1 e3;have h:=hid hc;clear hc hg;have k0:(0:Int)<=(kn:Int):=by omega
 have k1:(kn:Int) < ps.length:=by omega
 have c0:=(h kn i).2;rw [<- justB_at i] at c0;obtain ⟨b,hb⟩:=nw (zHC (bks ps) (kn:Int));have HB:=hid hb;rw [<- hb] at c0;clear hb;go_wp2_with fail
 refine (yS b 0 ((kn:Int) - 1) w).mono ?_;rintro e w' ⟨rfl,hw⟩;obtain rfl:=hw.symm;clear hw c0
 by_cases h1:0<=b/\b<=(kn:Int) - 1
 rotate_left
 ·rw [zAB h1];have HE:Hid (R=.tuple #[I U 0,I U 0,I U 0,.bool false]):=(by rw [HR.out];unfold zGG;rw [if_neg (show ¬ xZ (bks ps) (kn:Int) < 1 by have:=H0.out;omega),if_pos (by rw [<- HB.out];exact zAB h1)]:R=_);go_wp2;exact bodyPost_ret (zDJ results238 _ _ _) rfl ⟨by rw [HE.out];rfl,rfl⟩
 have H1:=hid h1;rw [kY h1];obtain ⟨bn,m⟩:∃ bn:Nat,b=(bn:Int):=⟨b.toNat,by omega⟩;subst m;have l:bn < ps.length:=by omega
 have b0:(0:Int)<=(bn:Int):=by omega
 have b1:(bn:Int) < ps.length:=by omega
 have c0:=(h bn l).2;rw [<- justB_at l] at c0;obtain ⟨c,hc⟩:=nw (zHC (bks ps) (bn:Int));have HC:=hid hc;rw [<- hc] at c0;clear hc;go_wp2_with fail
 refine (yS c 0 ((ps.length:Int) - 1) w).mono ?_;rintro e w' ⟨rfl,hw⟩;obtain rfl:=hw.symm;clear hw c0
 by_cases h2:0<=c/\c<=(ps.length:Int) - 1
 rotate_left
 ·rw [zAB h2];have HE:Hid (R=.tuple #[I U 0,I U 0,I U 0,.bool false]):=(by rw [HR.out];unfold zGG;rw [if_neg (show ¬ xZ (bks ps) (kn:Int) < 1 by have:=H0.out;omega),if_neg (by rw [<- HB.out,kY H1.out];decide),if_pos (by rw [<- HB.out,<- HC.out,f.out];exact zAB h2)]:R=_);go_wp2;exact bodyPost_ret (zDJ results238 _ _ _) rfl ⟨by rw [HE.out];rfl,rfl⟩
 have H2:=hid h2;rw [kY h2];obtain ⟨cn,n⟩:∃ cn:Nat,c=(cn:Int):=⟨c.toNat,by omega⟩;subst n;have j:cn < ps.length:=by omega
 have d0:(0:Int)<=(cn:Int):=by omega
 have d1:(cn:Int) < ps.length:=by omega
 have c0:=(h cn j).2;rw [<- justB_at j] at c0;obtain ⟨d,hd⟩:=nw (zHC (bks ps) (cn:Int));have HD:=hid hd;rw [<- hd] at c0;clear hd;go_wp2_with fail
 refine (yS d 0 ((ps.length:Int) - 1) w).mono ?_;rintro e w' ⟨rfl,hw⟩;obtain rfl:=hw.symm;clear hw c0
 by_cases h3:0<=d/\d<=(ps.length:Int) - 1
 rotate_left
 ·rw [zAB h3];have HE:Hid (R=.tuple #[I U 0,I U 0,I U 0,.bool false]):=(by rw [HR.out];unfold zGG;rw [if_neg (show ¬ xZ (bks ps) (kn:Int) < 1 by have:=H0.out;omega),if_neg (by rw [<- HB.out,kY H1.out];decide),if_neg (by rw [<- HB.out,<- HC.out,f.out,kY H2.out];decide),if_pos (by rw [<- HB.out,<- HC.out,<- HD.out,f.out];exact zAB h3)]:R=_);go_wp2;exact bodyPost_ret (zDJ results238 _ _ _) rfl ⟨by rw [HE.out];rfl,rfl⟩
 rw [kY h3];have HE:Hid (R=.tuple #[I U (bn:Int),I U (cn:Int),I U d,.bool true]):=(by rw [HR.out];unfold zGG;rw [if_neg (show ¬ xZ (bks ps) (kn:Int) < 1 by have:=H0.out;omega),if_neg (by rw [<- HB.out,kY H1.out];decide),if_neg (by rw [<- HB.out,<- HC.out,f.out,kY H2.out];decide),if_neg (by rw [<- HB.out,<- HC.out,<- HD.out,f.out,kY h3];decide),<- HB.out,<- HC.out,<- HD.out]:R=_);go_wp2;exact bodyPost_ret (zDJ results238 _ _ _) rfl ⟨by rw [HE.out];rfl,rfl⟩
theorem next_s (ps:TL) (v:Value) (b c:Int) (w:World) (hT:jB w v ps) (hb:0<=b/\b < (ps.length:Int)) (hc:0<=c/\c < (ps.length:Int)) :
  Calls prog 240 #[v,I U b,I U c] w fun e w'=>e=.returned (.bool (zFB (bks ps) b c))/\Be w w':=by
 obtain ⟨bn,rfl⟩:∃ bn:Nat,b=(bn:Int):=⟨b.toNat,by omega⟩;obtain ⟨cn,rfl⟩:∃ cn:Nat,c=(cn:Int):=⟨c.toNat,by omega⟩;have d:bn < ps.length:=by omega
 have k:cn < ps.length:=by omega
 obtain ⟨g,f,cap,rfl,hg,a⟩:=tree_cell hT d;have b0:(0:Int)<=(bn:Int):=by omega
 have b1:(bn:Int) < ps.length:=by omega
 have c0:(0:Int)<=(cn:Int):=by omega
 have c1:(cn:Int) < ps.length:=by omega
 have l:=yX w;have y1:∀ x:Bw w,x.to.cell? ⟨g,f+bn * 7+1,Aa⟩=Ab (I U ps[bn].1.1.2):=fun x=>by rw [x.below.cell (by exact hg)];exact (a bn d).1
 have y2:∀ x:Bw w,x.to.cell? ⟨g,f+cn * 7+1,Aa⟩=Ab (I U ps[cn].1.1.2):=fun x=>by rw [x.below.cell (by exact hg)];exact (a cn k).1
 have HV:=hid (qad2 (viewAt_tl d) (viewAt_tl k));obtain ⟨vb,j⟩:=nw (ps[bn].1.1.2);obtain ⟨vc,i⟩:=nw (ps[cn].1.1.2);rw [<- j] at y1 HV;rw [<- i] at y2 HV;clear a hg hT j i;have HN:Hid (zFB (bks ps) (bn:Int) (cn:Int)=(decide ((bn:Int) ≠ 0) && (decide ((cn:Int) ≠ 0) && decide (vb=wrap64 (vc+1))))):=(by unfold zFB;rw [HV.out.1,HV.out.2]:zFB (bks ps) (bn:Int) (cn:Int)=_);clear HV;obtain ⟨B,hB⟩:∃ B:Int,B=(bn:Int):=⟨_,rfl⟩
 by_cases hz:(bn:Int)=0
 ·have e1:((bn:Int) != 0)=false:=by simpa using hz
  have HE:Hid (zFB (bks ps) (bn:Int) (cn:Int)=false):=(by rw [HN.out,decide_eq_false (fun h=>h hz)];rfl:_=false);clear hz;go_enter func240,ntmps240;go_wp2;refine rb ?_;repeat (go_big_quiet_step (fail))
  refine qnn fun x=>?_
  go_wp2;go_ret;exact ⟨zL HE.symm,x.below⟩
 ·have e1:((bn:Int) != 0)=true:=by simpa using hz
  by_cases hy:(cn:Int)=0
  ·have e2:((cn:Int) != 0)=false:=by simpa using hy
   have HE:Hid (zFB (bks ps) (bn:Int) (cn:Int)=false):=(by rw [HN.out,decide_eq_false (fun h:(cn:Int) ≠ 0=>h hy)];simp:_=false);clear hz hy;go_enter func240,ntmps240;go_wp2;refine rb ?_;repeat (go_big_quiet_step (fail))
   refine qnn fun x=>?_
   go_wp2;go_ret;exact ⟨zL HE.symm,x.below⟩
  ·have e2:((cn:Int) != 0)=true:=by simpa using hy
   by_cases he:vb=wrap64 (vc+1)
   ·have e3:(vb == wrap64 (vc+1))=true:=by simpa using he
    have HE:Hid (zFB (bks ps) (bn:Int) (cn:Int)=true):=(by rw [HN.out,decide_eq_true hz,decide_eq_true hy,decide_eq_true he];rfl:_=true);clear hz hy he;go_enter func240,ntmps240;go_wp2;refine rb ?_;repeat (go_big_quiet_step (fail))
    refine qnn fun x=>?_
    go_wp2;go_ret;exact ⟨zL HE.symm,x.below⟩
   ·have e3:(vb == wrap64 (vc+1))=false:=by simpa using he
    have HE:Hid (zFB (bks ps) (bn:Int) (cn:Int)=false):=(by rw [HN.out,decide_eq_false he];simp:_=false);clear hz hy he;go_enter func240,ntmps240;go_wp2;refine rb ?_;repeat (go_big_quiet_step (fail))
    refine qnn fun x=>?_
    go_wp2;go_ret;exact ⟨zL HE.symm,x.below⟩
theorem next_is {c:Int} {r:Bool} (h:zFB (bks ps) b c=r) (w:World) (hT:jB w v ps) (hb:0<=b/\b < (ps.length:Int)) (hc:0<=c/\c < (ps.length:Int)) :
  Calls prog 240 #[v,I U b,I U c] w fun e w'=>e=.returned (.bool r)/\Be w w':=by rw [<- h];exact next_s ps v b c w hT hb hc
theorem threeRow_s (ps:TL) (v:Value) (k:Int) (w:World) (hT:jB w v ps) (hl:(ps.length:Int)<=1048576) :
  Calls prog 239 #[v,I U k] w fun e w'=>e=.returned (rowAns (zCH (bks ps) k))/\Be w w':=by
 have HT:=hid hT;have s:Hid ((bks ps).length=ps.length):=yO ps;obtain ⟨a,cap,rfl,-⟩:=HT.1;clear hT;have u:=yX w
 cases h3:zGG (bks ps) k with
 | none=>
  have f:=hid h3;have HR:Hid (zCH (bks ps) k=none):=hid (by unfold zCH;rw [h3]);rw [HR.out];clear h3 HR;unfold rowAns;simp only;go_enter func239,ntmps239;go_wp2_with fail
  have h3:=three_s ps _ k w HT hl;rw [f.out] at h3;refine h3.mono ?_;clear h3;rintro e w' ⟨rfl,hw⟩;obtain rfl:=hw.symm;clear hw;go_wp2;refine rb ?_;repeat (go_big_quiet_step (fail))
  refine qnn fun x=>?_
  go_wp2
  go_ret2
  exact ⟨rfl,x.below⟩
 | some q=>
  obtain ⟨b,c,d⟩:=q;have f:=hid h3;have n:=threeT_in h3;rw [s.out] at n;obtain ⟨_,⟨b0,b1⟩,⟨c0,c1⟩,⟨d0,d1⟩⟩:=n;have HR:Hid (zCH (bks ps) k=if zFB (bks ps) b c=true/\yR (bks ps) c=wrap64 (yR (bks ps) d+1) then some d else none):=(by unfold zCH;rw [h3]:zCH (bks ps) k=_);clear h3;obtain ⟨cn,rfl⟩:∃ cn:Nat,c=(cn:Int):=⟨c.toNat,by omega⟩;obtain ⟨dn,rfl⟩:∃ dn:Nat,d=(dn:Int):=⟨d.toNat,by omega⟩;have l:cn < ps.length:=by omega
  have r:dn < ps.length:=by omega
  obtain ⟨g,j,t,e',hg,i⟩:=tree_cell HT l;injection e' with e1 _ e3
  subst e1 e3;have m:Hid (∀ x:Bw w,jB x.to (.slice (Ab ⟨g,j,Aa⟩) ps.length cap) ps):=fun x=>HT.below x.below
  have y1:∀ x:Bw w,x.to.cell? ⟨g,j+cn * 7+1,Aa⟩=Ab (I U ps[cn].1.1.2):=fun x=>by rw [x.below.cell (by exact hg)];exact (i cn l).1
  have y2:∀ x:Bw w,x.to.cell? ⟨g,j+dn * 7+1,Aa⟩=Ab (I U ps[dn].1.1.2):=fun x=>by rw [x.below.cell (by exact hg)];exact (i dn r).1
  rw [viewAt_tl l,viewAt_tl r] at HR;obtain ⟨vb,p⟩:=nw (ps[cn].1.1.2);obtain ⟨vc,o⟩:=nw (ps[dn].1.1.2);rw [<- p] at y1 HR;rw [<- o] at y2 HR;clear i hg p o
  by_cases hx:zFB (bks ps) b (cn:Int)=true
  ·by_cases he:vb=wrap64 (vc+1)
   ·have e3:(vb != wrap64 (vc+1))=false:=by simpa using he
    rw [HR.out,if_pos ⟨hx,he⟩];clear he HR;unfold rowAns;simp only;go_enter func239,ntmps239;go_wp2_with fail
    have h3:=three_s ps _ k w HT hl;rw [f.out] at h3;refine h3.mono ?_;clear h3;rintro e w' ⟨rfl,hw⟩;obtain rfl:=hw.symm;clear hw;go_wp2;refine rb ?_;repeat (go_big_quiet_step (first | (refine xX (next_is hx _ (m _) ⟨b0,b1⟩ ⟨c0,c1⟩))))
    refine qnn fun x=>?_
    go_wp2
    go_ret2
    exact ⟨rfl,x.below⟩
   ·have e3:(vb != wrap64 (vc+1))=true:=by simpa using he
    rw [HR.out,if_neg (fun h=>he h.2)];clear he HR;unfold rowAns;simp only;go_enter func239,ntmps239;go_wp2_with fail
    have h3:=three_s ps _ k w HT hl;rw [f.out] at h3;refine h3.mono ?_;clear h3;rintro e w' ⟨rfl,hw⟩;obtain rfl:=hw.symm;clear hw;go_wp2;refine rb ?_;repeat (go_big_quiet_step (first | (refine xX (next_is hx _ (m _) ⟨b0,b1⟩ ⟨c0,c1⟩))))
    refine qnn fun x=>?_
    go_wp2
    go_ret2
    exact ⟨rfl,x.below⟩
  ·rw [HR.out,if_neg (fun h=>hx h.1)];have hx:zFB (bks ps) b (cn:Int)=false:=by simpa using hx
   clear HR;unfold rowAns;simp only;go_enter func239,ntmps239;go_wp2_with fail
   have h3:=three_s ps _ k w HT hl;rw [f.out] at h3;refine h3.mono ?_;clear h3;rintro e w' ⟨rfl,hw⟩;obtain rfl:=hw.symm;clear hw;go_wp2;refine rb ?_;repeat (go_big_quiet_step (first | (refine xX (next_is hx _ (m _) ⟨b0,b1⟩ ⟨c0,c1⟩))))
   refine qnn fun x=>?_
   go_wp2
   go_ret2
   exact ⟨rfl,x.below⟩
theorem intF_one (n:Int):∀ u∈xJ n,u.oneCell'=true:=by intro u hu;simp [xJ] at hu;subst hu;rfl
theorem infoInt1:(prog.info? 3).map (fun i=>(i.zero,i.size,i.bytes))=Ab (Ab (I U 0),1,8):=by kernel_rfl
theorem own_int1 (w:World) (x:Int):(w.alloc (.cells #[I U x] 3)).ownsRow w.heap.size 3 1 (.slice (Ab ⟨w.heap.size,0,Aa⟩) 1 1) 1 (zE xJ [x]):=
 ⟨rfl,Ap ⟨w.heap.size,1,#[I U x],rfl,nl _,heap_alloc_new w _,nl _,by unfold maxLen;omega,rfl,rfl⟩⟩
theorem rev_snoc (pre:List Nat) (j:Nat):[(j:Int)] ++ qG pre.reverse=qG (pre ++ [j]).reverse:=by simp [qG]
theorem rowTo_s (ps:TL) (v:Value) (k:Int) (w:World) (hT:jB w v ps) (hl:(ps.length:Int)<=1048576) :
  Calls prog 59 #[v,I U k] w fun e w'=>∃ v',e=.returned v'/\w'.ownsRow w.heap.size 3 1 v' (rowI (bks ps) k).length (zE xJ (rowI (bks ps) k))/\Be w w':=by
 have HT:=hid hT;obtain ⟨a,cap,rfl,hr⟩:=zAI hT;have HR:=hid hr;have n:=yO ps;have m:Hid (Be w (w.alloc (.cells #[] 3))):=ba (br _ _) _;have s:Hid ((w.alloc (.cells #[] 3)).ownsRow w.heap.size 3 1 (.slice (Ab ⟨w.heap.size,0,Aa⟩) 0 0) 0 []):=yH w 3 1;obtain ⟨i0,hi,ag,af,ai⟩:=info_parts infoInt1;clear hr hT
 cases hd:qH (bks ps) k with
 | none=>
  have hh:xZ (bks ps) k < 0:=by rw [heightT_none hd];omega
  have HF:Hid (rowI (bks ps) k=[]):=zJE hd;clear hd;go_enter func59,ntmps59;go_wp2_with (go_at_call 60;refine (height_s ps _ k _ (HT.below m) hl).mono ?_;rintro e w' ⟨rfl,rfl⟩)
  go_ret;exact ⟨_,rfl,by rw [HF.out];exact s.out,m⟩
 | some l=>
  have hh:¬ xZ (bks ps) k < 0:=by rw [heightT_some hd];omega
  have HE:Hid (rowI (bks ps) k=qG l.reverse):=zJF hd;have HD:=hid hd;have aj:l.length<=ps.length:=by have:=down_len hd;rw [n] at this;exact this
  clear hd;go_enter func59,ntmps59;go_wp2_with (go_at_call 60;refine (height_s ps _ k _ (HT.below m) hl).mono ?_;rintro e w' ⟨rfl,rfl⟩)
  go_loopw [1,5] (fun c o wr=>∃ (x:Int) (b lx:List Nat),c=I U x/\Hid (qH (bks ps) x=some lx)/\Hid (l=b ++ lx)/\wr.ownsRow w.heap.size 3 1 o (qG b.reverse).length (zE xJ (qG b.reverse))/\Be w wr) (fun c _ _=>(intOf c).toNat)
  case atStart=>exact ⟨k,[],l,rfl,HD,rfl,s,m⟩
  case round=>
   obtain ⟨x,b,lx,rfl,HX,HL,h,f⟩:=hrel;have HO:=hid h;have HB:=hid f;have ae:=f.size;have ak:b.length<=ps.length:=by have:=congrArg List.length HL;rw [Ah] at this;omega
   obtain ⟨ao,co,ac,_⟩:=yL h;subst ac;clear h f;obtain ⟨x0,x1⟩:=down_range HX;obtain ⟨j,rfl⟩:=Int.eq_ofNat_of_zero_le x0;have hj:j < ps.length:=by rw [n] at x1;omega
   by_cases hz:j=0
   ·subst hz
    have HF:Hid (rowI (bks ps) k=qG b.reverse):=(by
     have h1:lx=[]:=by have:=HX.out;rw [show ((0:Nat):Int)=0 from rfl,down_zero (by rw [n];omega)] at this;exact (Af this).symm
     rw [HE.out,HL.out,h1,List.append_nil]:rowI (bks ps) k=qG b.reverse)
    clear x0 x1;go_wp2;go_ret;exact ⟨_,rfl,by rw [HF.out];exact HO.out,HB⟩
   ·obtain ⟨u,l',z,rfl⟩:=down_some (by omega) HX;have p0:(0:Int) < (j:Int):=by omega
    obtain ⟨g,ad,rfl,hg,hc⟩:=HR (by omega);have q1:(j:Int) < ps.length:=by omega
    have HK:Hid (∀ w',Be w w'->w'.cell? ⟨g,ad+j * 7,Aa⟩=Ab (I U ps[j].1.1.1)):=fun w' hb=>by rw [hb.cell (by exact hg)];exact (hc j hj).1
    have HP:Hid (qH (bks ps) ps[j].1.1.1=some l'):=hid (by rw [<- yCC hj];exact z);have HM:Hid (ps[j].1.1.1<=(j:Int) - 1):=hid (by rw [<- yCC hj];exact u.2.2.2);have ah:Hid (l=(b ++ [j]) ++ l'):=hid (by rw [HL.out];simp);have ab:Hid (yM (wr.alloc (.cells #[I U (j:Int)] 3)) (.slice ao (qG b.reverse).length co) 1 xJ (qG b.reverse)):=(zW jG HO).below (ba (br _ _) _);have r:(qG b.reverse).length=b.length:=by rw [intsN_len,List.length_reverse]
    have p:=hid r;clear u hc z x1 r;go_wp2_with (at_builtin;refine yBG _ rfl _ _ 29 rfl wr.heap.size 3 i0 _ 8 underlying29 hi ag af ai rfl (by decide) jG intF_one _ [(j:Int)] rfl (own_int1 wr (j:Int)) _ (qG b.reverse) rfl ab (by have:=p.out;simp;unfold maxLen;omega) (by have:=p.out;simp;omega) (by simp) ?_;intro v5 w5 i d;have t:Hid (Be w w5):=(ba HB _).grown d (by simp;omega) (fun y hy=>by have:=Af (show some wr.heap.size=some y from hy);omega);have aa:Hid (w5.ownsRow w.heap.size 3 1 v5 (qG (b ++ [j]).reverse).length (zE xJ (qG (b ++ [j]).reverse))):=(rev_snoc b j ▸ zN i ae);have c0:=HK _ t;clear i d)
    go_roundw
    case rel=>exact ⟨ps[j].1.1.1,b ++ [j],l',rfl,HP,ah,aa,t⟩
    case measure=>have:=HM.out;simp [intOf];omega
def kB (t:List BK) (k under:Int):List Int:=if yBI t k under=true then (rowI t k).filter fun x=>decide (under < x) else []
theorem filt_hit {l:List Int} {u:Int} (h:i < l.length) (hu:u < l[i]):(l.take (i+1)).filter (fun x=>decide (u < x))=(l.take i).filter (fun x=>decide (u < x)) ++ [l[i]]:=by
 rw [List.take_succ_eq_append_getElem h,List.filter_append];simp [hu]
theorem filt_miss {l:List Int} {u:Int} (h:i < l.length) (hu:¬ u < l[i]):(l.take (i+1)).filter (fun x=>decide (u < x))=(l.take i).filter (fun x=>decide (u < x)):=by
 rw [List.take_succ_eq_append_getElem h,List.filter_append];simp [hu]
theorem filt_le (l:List Int) (i:Nat) (u:Int):((l.take i).filter (fun x=>decide (u < x))).length<=l.length:=by
 refine Ac (List.length_filter_le _ _) ?_;rw [As];omega
theorem rowAfter_s (ps:TL) (v:Value) (k under:Int) (w:World) (hT:jB w v ps) (hl:(ps.length:Int)<=1048576) :
  Calls prog 20 #[v,I U k,I U under] w fun e w'=>∃ v',e=.returned v'/\w'.ownsRow w.heap.size 3 1 v' (kB (bks ps) k under).length (zE xJ (kB (bks ps) k under))/\Be w w':=by
 have HT:=hid hT;have ai:=yO ps;obtain ⟨i0,hi,aj,ag,al⟩:=info_parts infoInt1;clear hT
 cases he:yBI (bks ps) k under with
 | false=>
  have HF:Hid (kB (bks ps) k under=[]):=hid (by unfold kB;rw [he];rfl);go_enter func20,ntmps20;go_wp2_with fail
  refine (extends_s ps _ _ _ w HT hl).mono ?_;rintro e w' ⟨rfl,hw⟩;obtain rfl:=hw.symm;clear hw;rw [he];clear he;go_wp2;go_ret;exact ⟨_,rfl,by rw [HF.out];exact yH w 3 1,ba (br _ _) _⟩
 | true=>
  obtain ⟨row,f⟩:=nw (rowI (bks ps) k);have HF:Hid (kB (bks ps) k under=row.filter fun x=>decide (under < x)):=hid (by unfold kB;rw [he,f];rfl)
  have an:row.length<=ps.length:=by
   rw [f]
   cases hd:qH (bks ps) k with
   | none=>rw [zJE hd];simp
   | some l=>rw [zJF hd,intsN_len,List.length_reverse];have:=down_len hd;rw [ai] at this;exact this
  have HC:Hid (Calls prog 59 #[v,I U k] w fun e w'=>∃ v',e=.returned v'/\w'.ownsRow w.heap.size 3 1 v' row.length (zE xJ row)/\Be w w'):=(by rw [f];exact rowTo_s ps v k w HT hl);clear f;go_enter func20,ntmps20;go_wp2_with fail
  refine (extends_s ps _ _ _ w HT hl).mono ?_;rintro e w' ⟨rfl,hw⟩;obtain rfl:=hw.symm;clear hw;rw [he];clear he;go_wp2_with fail
  refine HC.out.mono ?_;rintro e w1 ⟨v1,rfl,b,p⟩;obtain ⟨a1,c1,h4,hz⟩:=yL b;subst h4;have u:Hid (yM w1 (.slice a1 row.length c1) 1 xJ row):=zW jG b;have ah:=hid p;have z:Hid (Be w1 (w1.alloc (.cells #[] 3))):=ba (br _ _) _;have ae:Hid ((w1.alloc (.cells #[] 3)).ownsRow w1.heap.size 3 1 (.slice (Ab ⟨w1.heap.size,0,Aa⟩) 0 0) 0 []):=yH w1 3 1;have ak:=p.size;clear b p hz;go_wp2
  go_loopw [8,9] (fun o c wr=>∃ i:Nat,i<=row.length/\c=I U (i:Int)/\wr.ownsRow w1.heap.size 3 1 o ((row.take i).filter fun x=>decide (under < x)).length (zE xJ ((row.take i).filter fun x=>decide (under < x)))/\Be w1 wr) (fun _ c _=>row.length - (intOf c).toNat)
  case atStart=>exact ⟨0,Ae _,rfl,ae,z⟩
  case round=>
   obtain ⟨i,ao,rfl,m,h⟩:=hrel;have HO:=hid m;have HB:=hid h;have am:=h.size;have ap:=filt_le row i under;clear m h
   by_cases hlt:(i:Int) < row.length
   ·have n:i < row.length:=by omega
    have q0:(0:Int)<=(i:Int):=by omega
    obtain ⟨a,c,e4,hr⟩:=u.out;injection e4 with aa t af
    subst aa;obtain ⟨g,ac,rfl,hg,hc⟩:=hr (by omega);have c0:wr.cell? ⟨g,ac+i,Aa⟩=Ab (I U row[i]):=by rw [HB.out.cell (by exact hg)];have:=hc i n 0 (by omega);rw [Nat.mul_one,Nat.add_zero] at this;exact this
    clear hr hc t af
    by_cases hu:under < row[i]
    ·have HN:Hid (((row.take (i+1)).filter fun x=>decide (under < x))=((row.take i).filter fun x=>decide (under < x)) ++ [row[i]]):=filt_hit n hu;go_wp2_with (at_builtin;refine wpList_append_own _ rfl _ _ 29 rfl w1.heap.size 3 i0 _ 1 8 underlying29 hi aj ag al rfl (by decide) _ _ _ rfl (Aj HO _) ⟨World.heap _ |>.size,0,Aa⟩ 1 1 [I U row[i]] rfl rfl (news1 _ _ _) (ones1 _ _) (by unfold maxLen;omega) (by omega) (by simp;omega) ?_;intro v5 w5 j d _;have ad:Hid (Be w1 w5):=(ba HB _).grown d (by simp;omega) (fun y hy=>(HO.lt y hy).1);have s:=hid j;clear j d)
     go_roundw
     case rel=>exact ⟨i+1,by omega,by go_num,by rw [HN.out,zY,Ah];exact s.out,ad⟩
     case measure=>simp [intOf];omega
    ·have HN:Hid (((row.take (i+1)).filter fun x=>decide (under < x))=((row.take i).filter fun x=>decide (under < x))):=filt_miss n hu;go_wp2
     go_roundw
     case rel=>exact ⟨i+1,by omega,by go_num,by rw [HN.out];exact HO.out,HB⟩
     case measure=>simp [intOf];omega
   ·have r:i=row.length:=by omega
    have ab:=hid r;clear r;go_wp2;go_ret;have ho:=HO.out;rw [ab.out,At] at ho;exact ⟨_,rfl,by rw [HF.out];exact zN ho ak,bt ah HB⟩
theorem yEA {a:Int} (h:a=b):Ending.returned (.tuple #[v,I U a])=.returned (.tuple #[v,I U b]):=by rw [h]
theorem done_s (cs:CL) (v:Value) (c:CM) (w:World) (hv:qQ w v cs) (hl:(cs.length:Int)<=1048576) (hall:∀ c∈cs,(c.1.size:Int)<=1048576) (hk:(c.2.1.size:Int)<=1048576) :
  Calls prog 100 #[v,cmdV c] w fun e w'=>∃ v',e=.returned (.tuple #[v',I U (jL cs c)])/\w'.ownsRow w.heap.size 92 2 v' (yAA cs c).length (kM (yAA cs c))/\Be w w':=by
 obtain ⟨kd,i,num⟩:=c;have HA:=hid hall;have HV:=hid hv;have B0:Be w (w.alloc (An #[I U kd,Ar i,I U num] 139)):=ba (br _ _) _;have an:Hid (qQ ((w.alloc (An #[I U kd,Ar i,I U num] 139)).alloc (.cells #[] 92)) v cs):=hv.below (ba B0 _)
 have O0:((w.alloc (An #[I U kd,Ar i,I U num] 139)).alloc (.cells #[] 92)).ownsRow (w.heap.size+1) 92 2 (.slice (Ab ⟨w.heap.size+1,0,Aa⟩) 0 0) ([]:CL).length (kM []):=by
  have:=yH (w.alloc (An #[I U kd,Ar i,I U num] 139)) 92 2;rw [show (w.alloc (An #[I U kd,Ar i,I U num] 139)).heap.size=w.heap.size+1 by simp] at this;exact this
 have aj:=hid O0;have ar:=hid B0;obtain ⟨a,cap,rfl,hr⟩:=hv;have HR:=hid hr;clear hall B0 O0 hr;unfold cmdV;go_enter func100,ntmps100;go_wp2_with (at_builtin;refine yV _ rfl _ _ rfl (w.heap.size+1) _ [] rfl aj _ cs rfl an (by simp;omega) (by simp) ?_;intro v0 w0 ab t)
 have ak:(w.alloc (An #[I U kd,Ar i,I U num] 139)).heap.size=w.heap.size+1:=by simp
 have B1:Below (w.alloc (An #[I U kd,Ar i,I U num] 139)).heap.size (w.alloc (An #[I U kd,Ar i,I U num] 139)) w0:=(ba (br _ _) _).grown t (by simp) fun b hb=>by have:=(aj.lt b hb).1;rw [ak];exact this
 have a5:w.heap.size < w0.heap.size:=by have:=B1.size;omega
 have ad:∀ w',Be w0 w'->w'.cell? ⟨w.heap.size,0,Aa⟩=Ab (I U kd)/\w'.cell? ⟨w.heap.size,1,Aa⟩=Ab (.string i)/\w'.cell? ⟨w.heap.size,2,Aa⟩=Ab (I U num):=fun w' hb=>by
  have au:w.heap.size < (w.alloc (An #[I U kd,Ar i,I U num] 139)).heap.size:=by omega
  refine ⟨?_,?_,?_⟩ <;> rw [(bt B1 hb).cell (by exact au)] <;> simp
 have HC:=hid ad;have k:Hid (Be w w0):=bt ar B1;have z:Hid (qQ w0 (.slice a cs.length cap) cs):=HV.below k;have u:Hid (w0.ownsRow w.heap.size 92 2 v0 cs.length (kM cs)):=zN (by simpa using ab) (Nat.le_succ _);clear ad B1 ab t aj an ak;clear HV;refine (cellsOk_s cs _ w0 z hl HA).mono ?_;rintro e w2 ⟨rfl,af⟩;obtain ⟨k0,k1,k2⟩:=HC w2 af
 cases ae:kS cs with
 | false=>
  have HE:Hid (jL cs (kd,i,num)=2):=code_bad ae;go_wp2
  go_ret2
  exact ⟨v0,yEA HE.symm,by rw [zFI (by rw [HE.out];decide)];exact zS u af,bt k af⟩
 | true=>
  go_wp2_with fail
  refine (cmd_s (kd,i,num) w2 hk).mono ?_;rintro e w3 ⟨rfl,al⟩;have m:=bt af al;clear k0 k1 k2;obtain ⟨k0,k1,k2⟩:=HC w3 m
  cases ag:zAF (kd,i,num) with
  | false=>
   have HE:Hid (jL cs (kd,i,num)=2):=code_cmd ag;go_wp2
   go_ret2
   exact ⟨v0,yEA HE.symm,by rw [zFI (by rw [HE.out];decide)];exact zS u m,bt k m⟩
  | true=>
   go_wp2_with fail
   refine (cellAt_s cs _ i w3 (z.below m) hl).mono ?_;rintro e w4 ⟨rfl,rfl⟩;have d:=hid m;obtain ⟨av,aq,n⟩:=cmdB_bd ag;obtain ⟨aw,az⟩:=numB_bd n;obtain ⟨ac,hA,a3⟩:=zFG.1 ae;have am:=hid hA;have ax:=hid ac;simp only at av aq n aw az;have p:=hid ae;have o:=hid ag;clear m ae ag hA ac al
   cases hh:zBB cs i with
   | false=>
    have ai:cellAt cs i=-1:=cellAt_no hh;rw [ai]
    by_cases h1:kd=1
    ·subst h1;have l:inB num 0 1000000000=true:=n;have HN:Hid (zEI cs (1,i,num)=num):=comes_set rfl
     by_cases h12:12<=(cs.length:Int)
     ·have HE:Hid (jL cs (1,i,num)=2):=code_over p o (by simp) (Ap ⟨hh,by omega⟩);go_wp2_with fail
      refine (yS _ _ _ _).mono ?_;rintro e w5 ⟨rfl,rfl⟩;rw [l];go_wp2
      go_ret2
      exact ⟨v0,yEA HE.symm,by rw [zFI (by rw [HE.out];decide)];exact zS u d,bt k d⟩
     ·have HE:Hid (jL cs (1,i,num)=0):=code_done p o (by simp) (fun h=>by
       rcases h with h | h
       ·rw [HN.out,n] at h;cases h
       ·omega)
      go_wp2_with fail
      refine (yS _ _ _ _).mono ?_;rintro e w5 ⟨rfl,rfl⟩;rw [l];go_wp2_with fail
      refine (put_s cs _ (i,num) _ (z.below d) hl).mono ?_;rintro e w6 ⟨v6,rfl,f,s⟩;have r:=hid f;clear f;go_wp2
      go_ret2
      exact ⟨v6,yEA HE.symm,by rw [yEF HE.out,HN.out];exact zN r (bt k d).size,bt k (bt d s)⟩
    ·have HE:Hid (jL cs (kd,i,num)=1):=code_none p o h1 hh;have ay:(kd != 1)=true:=by simpa using h1
     go_wp2
     go_ret2
     exact ⟨v0,yEA HE.symm,by rw [zFI (by rw [HE.out];decide)];exact zS u d,bt k d⟩
   | true=>
    obtain ⟨j,hj,ai,a1⟩:=cellAt_yes hh;rw [ai];subst a1;obtain ⟨a6,a4⟩:=numB_bd (ax cs[j] (Ag hj)).2
    by_cases h1:kd=1
    ·subst h1;have l:inB num 0 1000000000=true:=n;have HN:Hid (zEI cs (1,cs[j].1,num)=num):=comes_set rfl
     have HE:Hid (jL cs (1,cs[j].1,num)=0):=code_done p o (by simp) (fun h=>by
      rcases h with h | h
      ·rw [HN.out,n] at h;cases h
      ·rw [hh] at h;cases h.1)
     go_wp2_with fail
     refine (yS _ _ _ _).mono ?_;rintro e w5 ⟨rfl,rfl⟩;rw [l];go_wp2_with fail
     refine (put_s cs _ (cs[j].1,num) _ (z.below d) hl).mono ?_;rintro e w6 ⟨v6,rfl,f,s⟩;have r:=hid f;clear f;go_wp2
     go_ret2
     exact ⟨v6,yEA HE.symm,by rw [yEF HE.out,HN.out];exact zN r (bt k d).size,bt k (bt d s)⟩
    ·have ay:(kd != 1)=true:=by simpa using h1
     by_cases h3:kd=3
     ·subst h3;obtain ⟨g,aa,rfl,hg,hc⟩:=HR (by omega);have a0:=yX w4;have q0:(0:Int)<=(j:Int):=by omega
      have q1:(j:Int) < cs.length:=by omega
      have c1:∀ x:Bw w4,x.to.cell? ⟨g,aa+j * 2+1,Aa⟩=Ab (I U cs[j].2):=fun x=>by rw [(bt k (bt d x.below)).cell (by exact hg)];exact (hc j hj).2
      have cc:∀ x:Bw w4,x.to.cell? ⟨w.heap.size,0,Aa⟩=Ab (I U 3)/\x.to.cell? ⟨w.heap.size,1,Aa⟩=Ab (.string cs[j].1)/\x.to.cell? ⟨w.heap.size,2,Aa⟩=Ab (I U num):=fun x=>HC _ (bt d x.below)
      have a2:∀ x:Bw w4,x.to.cell? ⟨w.heap.size,0,Aa⟩=Ab (I U 3):=fun x=>(cc x).1
      have ap:∀ x:Bw w4,x.to.cell? ⟨w.heap.size,1,Aa⟩=Ab (.string cs[j].1):=fun x=>(cc x).2.1
      have ah:∀ x:Bw w4,x.to.cell? ⟨w.heap.size,2,Aa⟩=Ab (I U num):=fun x=>(cc x).2.2
      have HN:Hid (zEI cs (3,cs[j].1,num)=cs[j].2 - num):=comes_take am hj;clear hc cc
      cases l:inB (cs[j].2 - num) 0 1000000000 with
      | false=>
       have HE:Hid (jL cs (3,cs[j].1,num)=2):=code_over p o (fun h=>by rw [hh] at h;cases h.2) (Ao (by rw [HN.out];exact l));go_wp2;refine rb ?_;repeat (go_big_quiet_step (fail))
       refine qnn fun x=>?_
       have ao:=yX x.to;have BX:Hid (Be w0 x.to):=bt d x.below;have d1:∀ y:Bw x.to,y.to.cell? ⟨g,aa+j * 2+1,Aa⟩=Ab (I U cs[j].2):=fun y=>c1 ⟨y.to,bt x.below y.below⟩
       have d2:∀ y:Bw x.to,y.to.cell? ⟨w.heap.size,2,Aa⟩=Ab (I U num):=fun y=>ah ⟨y.to,bt x.below y.below⟩
       go_wp2;refine rb ?_;repeat (go_big_quiet_step (fail))
       refine qnn fun y=>?_
       go_wp2_with fail
       refine (yS _ _ _ _).mono ?_;rintro e w5 ⟨rfl,rfl⟩;rw [l];go_wp2
       go_ret2
       exact ⟨v0,yEA HE.symm,by rw [zFI (by rw [HE.out];decide)];exact zS u (bt BX.out y.below),bt k (bt BX.out y.below)⟩
      | true=>
       have HE:Hid (jL cs (3,cs[j].1,num)=0):=code_done p o (fun h=>by rw [hh] at h;cases h.2) (fun h=>by
        rcases h with h | h
        ·rw [HN.out,zEH,l] at h;cases h
        ·rw [hh] at h;cases h.1)
       go_wp2;refine rb ?_;repeat (go_big_quiet_step (fail))
       refine qnn fun x=>?_
       have ao:=yX x.to;have BX:Hid (Be w0 x.to):=bt d x.below;have d1:∀ y:Bw x.to,y.to.cell? ⟨g,aa+j * 2+1,Aa⟩=Ab (I U cs[j].2):=fun y=>c1 ⟨y.to,bt x.below y.below⟩
       have d2:∀ y:Bw x.to,y.to.cell? ⟨w.heap.size,2,Aa⟩=Ab (I U num):=fun y=>ah ⟨y.to,bt x.below y.below⟩
       have d3:∀ y:Bw x.to,y.to.cell? ⟨w.heap.size,1,Aa⟩=Ab (.string cs[j].1):=fun y=>ap ⟨y.to,bt x.below y.below⟩
       go_wp2;refine rb ?_;repeat (go_big_quiet_step (fail))
       refine qnn fun y=>?_
       go_wp2_with fail
       refine (yS _ _ _ _).mono ?_;rintro e w5 ⟨rfl,rfl⟩;rw [l];go_wp2_with fail
       refine (put_s cs _ (cs[j].1,cs[j].2 - num) _ (z.below (bt BX.out y.below)) hl).mono ?_;rintro e w6 ⟨v6,rfl,f,s⟩;have r:=hid f;clear f;go_wp2
       go_ret2
       exact ⟨v6,yEA HE.symm,by rw [yEF HE.out,HN.out];exact zN r (bt k (bt BX.out y.below)).size,bt k (bt (bt BX.out y.below) s)⟩
     ·obtain rfl:kd=2:=by omega
      obtain ⟨g,aa,rfl,hg,hc⟩:=HR (by omega);have a0:=yX w4;have q0:(0:Int)<=(j:Int):=by omega
      have q1:(j:Int) < cs.length:=by omega
      have c1:∀ x:Bw w4,x.to.cell? ⟨g,aa+j * 2+1,Aa⟩=Ab (I U cs[j].2):=fun x=>by rw [(bt k (bt d x.below)).cell (by exact hg)];exact (hc j hj).2
      have cc:∀ x:Bw w4,x.to.cell? ⟨w.heap.size,0,Aa⟩=Ab (I U 2)/\x.to.cell? ⟨w.heap.size,1,Aa⟩=Ab (.string cs[j].1)/\x.to.cell? ⟨w.heap.size,2,Aa⟩=Ab (I U num):=fun x=>HC _ (bt d x.below)
      have a2:∀ x:Bw w4,x.to.cell? ⟨w.heap.size,0,Aa⟩=Ab (I U 2):=fun x=>(cc x).1
      have ap:∀ x:Bw w4,x.to.cell? ⟨w.heap.size,1,Aa⟩=Ab (.string cs[j].1):=fun x=>(cc x).2.1
      have ah:∀ x:Bw w4,x.to.cell? ⟨w.heap.size,2,Aa⟩=Ab (I U num):=fun x=>(cc x).2.2
      have HN:Hid (zEI cs (2,cs[j].1,num)=cs[j].2+num):=comes_add am hj (by decide) (by decide);clear hc cc
      cases l:inB (cs[j].2+num) 0 1000000000 with
      | false=>
       have HE:Hid (jL cs (2,cs[j].1,num)=2):=code_over p o (fun h=>by rw [hh] at h;cases h.2) (Ao (by rw [HN.out];exact l));go_wp2;refine rb ?_;repeat (go_big_quiet_step (fail))
       refine qnn fun x=>?_
       go_wp2_with fail
       refine (yS _ _ _ _).mono ?_;rintro e w5 ⟨rfl,rfl⟩;rw [l];go_wp2
       go_ret2
       exact ⟨v0,yEA HE.symm,by rw [zFI (by rw [HE.out];decide)];exact zS u (bt d x.below),bt k (bt d x.below)⟩
      | true=>
       have HE:Hid (jL cs (2,cs[j].1,num)=0):=code_done p o (fun h=>by rw [hh] at h;cases h.2) (fun h=>by
        rcases h with h | h
        ·rw [HN.out,zEH,l] at h;cases h
        ·rw [hh] at h;cases h.1)
       go_wp2;refine rb ?_;repeat (go_big_quiet_step (fail))
       refine qnn fun x=>?_
       go_wp2_with fail
       refine (yS _ _ _ _).mono ?_;rintro e w5 ⟨rfl,rfl⟩;rw [l];go_wp2_with fail
       refine (put_s cs _ (cs[j].1,cs[j].2+num) _ (z.below (bt d x.below)) hl).mono ?_;rintro e w6 ⟨v6,rfl,f,s⟩;have r:=hid f;clear f;go_wp2
       go_ret2
       exact ⟨v6,yEA HE.symm,by rw [yEF HE.out,HN.out];exact zN r (bt k (bt d x.below)).size,bt k (bt (bt d x.below) s)⟩
theorem infoInt:(prog.info? 3).map (fun i=>(i.zero,i.size,i.bytes))=Ab (Ab (I U 0),1,8):=by kernel_rfl
theorem doneAll_s (cs:CL) (l:List CM) (v u:Value) (w:World) (hv:qQ w v cs) (hu:yM w u 3 kL l) (hok:okL cs) (hl:(l.length:Int)<=1048576) (hall:∀ c∈l,(c.2.1.size:Int)<=1048576) :
  Calls prog 58 #[v,u] w fun e w'=>∃ v1 v2,e=.returned (.tuple #[v1,v2])/\w'.ownsRow w.heap.size 92 2 v1 (yD cs l).length (kM (yD cs l))/\w'.ownsRow w.heap.size 3 1 v2 (zHI cs l).length ((zHI cs l).map (Value.int U))/\Be w w':=by
 have HV:=hid hv;have HL:=hid hok;have HA:=hid hall;have h1:=hok.1;have ae:Hid (qQ (w.alloc (.cells #[] 92)) v cs):=hv.below (ba (br _ _) _);have z:Hid ((w.alloc (.cells #[] 92)).ownsRow w.heap.size 92 2 (.slice (Ab ⟨w.heap.size,0,Aa⟩) 0 0) ([]:CL).length (kM [])):=yH w 92 2;obtain ⟨a,cap,rfl,_⟩:=hv;obtain ⟨b,ar,rfl,hr⟩:=hu;have HR:=hid hr;clear hall hr hok;go_enter func58,ntmps58;go_wp2_with (at_builtin;refine yV _ rfl _ _ rfl w.heap.size _ [] rfl z _ cs rfl ae (by simp;omega) (by simp) ?_;intro v0 w0 n f)
 have B0:Be w w0:=(ba (br _ _) _).grown f (by simp) fun b hb=>(z.lt b hb).1
 have ak:=B0.size;have ah:Hid (w0.ownsRow w.heap.size 92 2 v0 cs.length (kM cs)):=hid (by simpa using n);have ai:=hid B0;clear n f z ae B0;obtain ⟨i0,hi,ao,al,ap⟩:=info_parts infoInt
 go_loopw [6,7,8] (fun o q i wr=>∃ k:Nat,k<=l.length/\i=I U (k:Int)/\wr.ownsRow w.heap.size 92 2 o (yD cs (l.take k)).length (kM (yD cs (l.take k)))/\wr.ownsRow w.heap.size 3 1 q k ((zHI cs (l.take k)).map (Value.int U))/\Be w wr) (fun _ _ i _=>l.length - (intOf i).toNat)
 case atStart=>
  exact ⟨0,Ae _,rfl,zS ah (ba (br _ _) _),zN (yH w0 3 1) ak,ba ai _⟩
 case round=>
  obtain ⟨k,hk,rfl,s,x,h⟩:=hrel;have HO:=hid s;have HQ:=hid x;have HB:=hid h;have aj:=h.size;clear s x h
  by_cases hlt:(k:Int) < l.length
  ·have p:k < l.length:=by omega
   obtain ⟨g,y,rfl,hg,hc⟩:=HR (by omega);have q0:(0:Int)<=(k:Int):=by omega
   have c0:wr.cell? ⟨g,y+k * 3,Aa⟩=Ab (I U l[k].1):=by rw [HB.out.cell (by exact hg)];exact hc k p 0 (by omega)
   have c1:wr.cell? ⟨g,y+k * 3+1,Aa⟩=Ab (.string l[k].2.1):=by rw [HB.out.cell (by exact hg)];exact hc k p 1 (by omega)
   have c2:wr.cell? ⟨g,y+k * 3+2,Aa⟩=Ab (I U l[k].2.2):=by rw [HB.out.cell (by exact hg)];exact hc k p 2 (by omega)
   have t:okL (yD cs (l.take k)):=okL_all _ HL fun c hc=>HA c (List.mem_of_mem_take hc)
   have aa:=hid t;have HS:Hid (l.take (k+1)=l.take k ++ [l[k]]):=take_snoc p;clear hc t;go_wp2_with fail
   refine (done_s (yD cs (l.take k)) _ l[k] wr (qT HO) aa.1 aa.2 (HA _ (Ag p))).mono ?_;rintro e w2 ⟨v2,rfl,j,r⟩;have ad:=hid j;have ab:Hid (w2.ownsRow w.heap.size 3 1 u7 k ((zHI cs (l.take k)).map (Value.int U))):=zS HQ r;have ag:Hid (Be w w2):=bt HB r;have aq:=r.size;clear j r c0 c1 c2;go_wp2_with (at_builtin;refine wpList_append_own _ rfl _ _ 29 rfl w.heap.size 3 i0 (I U 0) 1 8 underlying29 hi ao al ap rfl (by decide) _ _ _ rfl (Aj ab _) ⟨World.heap _ |>.size,0,Aa⟩ 1 1 [I U (jL (yD cs (l.take k)) l[k])] rfl rfl (news1 _ _ _) (one_int _) (by unfold maxLen;omega) (by omega) (by simp;omega) ?_;intro v3 w3 m d _)
   have an:Hid (w3.ownsRow w.heap.size 92 2 v2 _ _):=zN (Ai (Aj ad _) d (own_ne HQ ad (nl _))) aj;have af:=hid m;have am:Hid (Be w w3):=(ba ag _).grown d (by simp;omega) fun b hb=>(ab.lt b hb).1
   clear m d
   go_roundw
   case rel=>exact ⟨k+1,by omega,by go_num,by rw [HS.out,doneAll_snoc];exact an.out,by rw [HS.out,codes_snoc,List.map_append];exact af.out,am⟩
   case measure=>simp [intOf];omega
  ·have ac:k=l.length:=by omega
   have HK:=hid ac;clear ac;go_wp2
   go_ret2
   have e1:=HO.out;have e2:=HQ.out;rw [HK.out,At] at e1 e2;exact ⟨u6,u7,rfl,e1,by rw [codesC_len];exact e2,HB⟩
def kN (t:List BK) (k:Int):List CM:=if 0<=k/\k<=(t.length:Int) - 1 then (t[k.toNat]?.getD kE).2.1 else []
def zGF (t:List BK):CL->List Int->CL
 | cs,[]=>cs
 | cs,k :: row=>zGF t (yD cs (kN t k)) row
theorem rowC_take (t:List BK) (row:List Int):∀ (cs:CL) (m:Nat) (h:m < row.length),zGF t cs (row.take (m+1))=yD (zGF t cs (row.take m)) (kN t row[m]):=by
 induction row with
 | nil=>intro cs m h;simp at h
 | cons k row ih=>
  intro cs m h
  cases m with
  | zero=>rfl
  | succ m=>
   have:=ih (yD cs (kN t k)) m (by simpa using h)
   simpa [zGF] using this
theorem cmdsAt_ok (h:okT t) (k:Int):(∀ c∈kN t k,(c.2.1.size:Int)<=1048576)/\((kN t k).length:Int)<=1048576:=by
 unfold kN
 split
 ·rename_i hk
  have a:k.toNat < t.length:=by omega
  rw [Al a];have:=h.2 _ (Ag a);exact ⟨this.2,this.1⟩
 ·exact ⟨fun c hc=>(by cases hc),by simp⟩
theorem rowC_ok (ht:okT t) (row:List Int):∀ cs,okL cs->okL (zGF t cs row):=by
 induction row with
 | nil=>intro cs h;exact h
 | cons k row ih=>intro cs h;exact ih _ (okL_all _ h (cmdsAt_ok ht k).1)
theorem rowCells_s (ps:TL) (v:Value) (row:List Int) (u:Value) (w:World) (hT:jB w v ps) (hu:yM w u 1 xJ row) (hk:okT (bks ps)) (hl:(row.length:Int)<=1048576) :
  Calls prog 18 #[v,u] w fun e w'=>∃ v',e=.returned v'/\w'.ownsRow w.heap.size 92 2 v' (zGF (bks ps) [] row).length (kM (zGF (bks ps) [] row))/\Be w w':=by
 have HT:=hid hT;have HU:=hid hu;have HK:=hid hk;have ah:(ps.length:Int)<=1048576:=by have:=hk.1;rw [yO] at this;exact this
 have HP:Hid ((bks ps).length=ps.length):=yO ps;obtain ⟨a,cap,rfl,-⟩:=hT.1;obtain ⟨b,cb,rfl,hr⟩:=hu;have HR:=hid hr;clear hT hk hr;go_enter func18,ntmps18;go_wp2
 go_loopw [5,6] (fun o i wr=>∃ m:Nat,m<=row.length/\i=I U (m:Int)/\Hid (wr.ownsRow w.heap.size 92 2 o (zGF (bks ps) [] (row.take m)).length (kM (zGF (bks ps) [] (row.take m))))/\Hid (Be w wr)) (fun _ i _=>row.length - (intOf i).toNat)
 case atStart=>exact ⟨0,Ae _,rfl,yH w _ _,ba (br _ _) _⟩
 case round=>
  obtain ⟨m,hm,rfl,HO,HB⟩:=hrel
  by_cases hlt:(m:Int) < row.length
  ·have x:m < row.length:=by omega
   obtain ⟨g,aa,rfl,hg,hc⟩:=HR (by omega);have q0:(0:Int)<=(m:Int):=by omega
   obtain ⟨k,hk⟩:=nw (row[m]);have c0:wr.cell? ⟨g,aa+m,Aa⟩=Ab (I U k):=by rw [HB.out.cell (by exact hg),hk];have:=hc m x 0 (by omega);simpa [xJ] using this
   have HS:Hid (zGF (bks ps) [] (row.take (m+1))=yD (zGF (bks ps) [] (row.take m)) (kN (bks ps) k)):=(by rw [rowC_take _ _ _ _ x,hk]:zGF (bks ps) [] (row.take (m+1))=_);clear hc hk hg;go_wp2_with fail
   refine (yS k 0 ((ps.length:Int) - 1) wr).mono ?_;rintro e w1 ⟨rfl,hw⟩;obtain rfl:=hw.symm;clear hw
   by_cases hin:0<=k/\k<=(ps.length:Int) - 1
   ·rw [kY hin];obtain ⟨j,rfl⟩:∃ j:Nat,k=(j:Int):=⟨k.toNat,by omega⟩;have f:j < ps.length:=by omega
    have ag:(j:Int) < ps.length:=by omega
    have HC:Hid (kN (bks ps) (j:Int)=ps[j].1.2.1):=hid (by unfold kN;rw [if_pos (by rw [HP.out];exact hin)];simp [bks,f]);obtain ⟨ai,ct,et,ht⟩:=HT.1;injection et with ab _ ae
    subst ab ae;obtain ⟨gt,ot,rfl,r,t⟩:=ht (by omega);have y:=HT.2 ps[j] (Ag f);have d:Hid (yM wr ps[j].2 3 kL ps[j].1.2.1):=y.below HB;have af:Hid (okB ps[j].1):=okT_at HK f;have c1:wr.cell? ⟨gt,ot+j * 7+2,Aa⟩=some ps[j].2:=by rw [HB.out.cell (by exact r)];exact t j f 2 (by omega)
    obtain ⟨cv,h⟩:=nw (ps[j].2);obtain ⟨l,n⟩:=nw (ps[j].1.2.1);rw [<- h] at c1;have d:Hid (yM wr cv 3 kL l/\(l.length:Int)<=1048576/\∀ c∈l,(c.2.1.size:Int)<=1048576):=(by rw [h,n];exact ⟨d,af⟩:yM wr cv 3 kL l/\_/\_);have HC:Hid (kN (bks ps) (j:Int)=l):=hid (by rw [HC.out,n]);obtain ⟨ac,cc,ec,-⟩:=d.1;subst ec;clear h n t y ht r;go_wp2_with fail
    refine (doneAll_s _ l _ _ wr (qT HO) d.1 (rowC_ok HK _ _ ⟨by simp,fun c hc=>by cases hc⟩) d.2.1 d.2.2).mono ?_;rintro e w2 ⟨v1,v2,rfl,s,-,hb⟩;have p:Hid (w2.ownsRow w.heap.size 92 2 v1 (zGF (bks ps) [] (row.take (m+1))).length (kM (zGF (bks ps) [] (row.take (m+1))))):=(by rw [HS.out,HC.out];exact zN s HB.size:w2.ownsRow _ _ _ _ _ _);have z:Hid (Be w w2):=bt HB hb;clear s hb c0 c1;go_wp2
    go_roundw
    case rel=>exact ⟨m+1,by omega,by go_num,p,z⟩
    case measure=>simp [intOf];omega
   ·rw [zAB hin];have HC:Hid (kN (bks ps) k=[]):=hid (by unfold kN;rw [if_neg (by rw [HP.out];exact hin)]);have p:Hid (wr.ownsRow w.heap.size 92 2 u5 (zGF (bks ps) [] (row.take (m+1))).length (kM (zGF (bks ps) [] (row.take (m+1))))):=(by rw [HS.out,HC.out];exact HO.out:wr.ownsRow _ _ _ _ _ _);clear hin c0;go_wp2
    go_roundw
    case rel=>exact ⟨m+1,by omega,by go_num,p,HB⟩
    case measure=>simp [intOf];omega
  ·have ad:m=row.length:=by omega
   subst ad;rw [At] at HO;go_wp2;go_ret;exact ⟨_,rfl,HO,HB⟩
end Go.Proofs.YtfnneillakdopacGreatR
