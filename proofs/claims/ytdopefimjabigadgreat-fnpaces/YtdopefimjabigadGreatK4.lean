/-
  Texts of ours that later ones lean on, in one: ClusH, VotedS, PartP, BestS, ShowsS, TreeN, HeightS, AppC, PutS, CellS2, UndoS, UndoAllS, BackP, HasS, AppTwo, FloatY, ChainS, RowS, DoneS, DoneAllS, RowCS.
-/
import Derived.Test.YtdopefimjabigadGreatClusO
import Derived.Test.YtdopefimjabigadGreatK3
import Derived.Test.YtdopefimjabigadGreatK1
import Derived.Test.YtdopefimjabigadGreatK2
import Derived.Test.YtdopefimjabigadGreatPutBS
import Derived.Laws.AppendOwn
import Derived.OwnWalk
import Derived.Laws.Cover1
import Derived.BigQuiet
import Derived.Deep.AppendLies
import Derived.Maps.AppendAt
set_option maxRecDepth 100000
set_option maxHeartbeats 32000000
namespace Go.Proofs.YtdopefimjabigadGreat
open Go.RowKit Num
theorem bitC_neq (x:Int) (k:Nat):((x / 2 ^ k).tmod 2 != 0)=decide (zAA x k ≠ 0):=by
 by_cases h:zAA x k=0
 ·rw [(shr_odd x k).2 h,h];rfl
 ·have h2:¬ (x / 2 ^ k).tmod 2=0:=fun e=>h ((shr_odd x k).1 e)
  rw [decide_eq_true h];simpa using h2
def qZ (c:CU) (i:Int):Bool:=inB i 0 (wrap64 (c.n - 1)) && (decide (i < 7) && decide (zAA c.liars i.toNat ≠ 0))
def xT (c:CU) (i:Int):Bool:=inB i 0 ((c.peers.length:Int) - 1) && (inB i 0 (wrap64 (c.n - 1)) && !qZ c i)
theorem yAI (c:CU) (s:CW) (i:Int) (w:World) :
  Calls Tryz.prog 148 #[clusV c s,.int .i64 i] w fun e w'=>e=.returned (.bool (qZ c i))∧Below w.heap.size w w':=by
 obtain ⟨W,hW⟩:∃ W,W=w.alloc (.cells (zR c s) 90):=⟨_,rfl⟩;have HB:Hid (Below w.heap.size w W):=hid (by rw [hW];exact ba (br _ _) _);have HK:Hid (Bx W w.heap.size (zR c s) 90):=(by rw [hW];exact heap_alloc_new w _:W.heap[w.heap.size]?=_);go_enter Tryz.func148,Tryz.ntmps148;have c0:=zB HK.out 0 (.int .i64 c.n) rfl;rw [hW] at c0;go_wp2_with fail
 rw [← hW];clear hW c0;refine (yS i 0 (wrap64 (c.n - 1)) W).mono ?_;rintro e w1 ⟨rfl,hw⟩;obtain rfl:=hw.symm;clear hw;have c2:=zB HK.out 2 (.int .i64 c.liars) rfl
 cases hi:inB i 0 (wrap64 (c.n - 1)) with
 | false=>
  have HE:Hid (qZ c i=false):=hid (by unfold qZ;rw [hi];rfl);go_wp2;go_ret;exact ⟨zL HE.out.symm,HB.out⟩
 | true=>
  have h0:0≤i:=by unfold inB at hi;simp at hi;exact hi.1
  by_cases h7:i < 7
  ·obtain ⟨j,hj⟩:∃ j:Nat,i=(j:Int):=⟨i.toNat,by omega⟩;subst hj;have HE:Hid (qZ c (j:Int)=decide (zAA c.liars j ≠ 0)):=(by unfold qZ;rw [hi,decide_eq_true h7];simp:qZ c (j:Int)=_);have hj7:(j:Int) < 7:=h7;clear hi h7;go_wp2;go_ret;exact ⟨zL (by rw [HE.out,bitC_neq]),HB.out⟩
  ·have HE:Hid (qZ c i=false):=hid (by unfold qZ;rw [hi,decide_eq_false h7];rfl);go_wp2;go_ret;exact ⟨zL HE.out.symm,HB.out⟩
theorem zHB (c:CU) (s:CW) (i:Int) (w:World) (hR:ClusR w c s) (hk:(c.peers.length:Int)≤1048576) :
  Calls Tryz.prog 145 #[clusV c s,.int .i64 i] w fun e w'=>e=.returned (.bool (xT c i))∧Below w.heap.size w w':=by
 obtain ⟨ap,cp,ep,-⟩:=hR.peers.row;have hpl:s.peers.length=c.peers.length:=by rw [← hR.epeers,yCI]
 rw [hpl] at ep;clear hR hpl;obtain ⟨W,hW⟩:∃ W,W=w.alloc (.cells (zR c s) 90):=⟨_,rfl⟩;have HB:Hid (Below w.heap.size w W):=hid (by rw [hW];exact ba (br _ _) _);have HK:Hid (Bx W w.heap.size (zR c s) 90):=(by rw [hW];exact heap_alloc_new w _:W.heap[w.heap.size]?=_);go_enter Tryz.func145,Tryz.ntmps145;have c0:=zB HK.out 4 (.slice ap c.peers.length cp) (by rw [← ep];rfl);rw [hW] at c0;go_wp2_with fail
 rw [← hW];clear hW c0;refine (yS i 0 ((c.peers.length:Int) - 1) W).mono ?_;rintro e w1 ⟨rfl,hw⟩;obtain rfl:=hw.symm;clear hw;have c2:=zB HK.out 0 (.int .i64 c.n) rfl
 cases hi:inB i 0 ((c.peers.length:Int) - 1) with
 | false=>
  have HE:Hid (xT c i=false):=hid (by unfold xT;rw [hi];rfl);go_wp2;go_ret;exact ⟨zL HE.out.symm,HB.out⟩
 | true=>
  go_wp2_with fail
  refine (yS i 0 (wrap64 (c.n - 1)) W).mono ?_;rintro e w1 ⟨rfl,hw⟩;obtain rfl:=hw.symm;clear hw
  cases hj:inB i 0 (wrap64 (c.n - 1)) with
  | false=>
   have HE:Hid (xT c i=false):=hid (by unfold xT;rw [hi,hj];rfl);go_wp2;go_ret;exact ⟨zL HE.out.symm,HB.out⟩
  | true=>
   have HE:Hid (xT c i=!qZ c i):=(by unfold xT;rw [hi,hj];rfl:xT c i=_);clear c2;go_wp2_with (refine qB (by first | rfl | simp [Region.wanted,yielded]) _ _ rfl w.heap.size rfl 90 _ (0,0) _ HK.out Tryz.underlying90 rfl (by kernel_rfl) ?_)
   refine (yAI c s i W).mono ?_;rintro e w1 ⟨rfl,hb⟩;have HB1:Hid (Below w.heap.size w w1):=bt HB.out hb;clear hb;obtain ⟨b,hbb⟩:∃ b,b=qZ c i:=⟨_,rfl⟩;rw [← hbb] at HE ⊢;clear hbb;go_wp2;go_ret;exact ⟨zL HE.out.symm,HB1.out⟩
theorem zM {P:Program} {op:Oper} {a:Act} {w:World} (ty:TypeId) (x:Operand) (ho:op.op=.load ty x) (g:Nat) (hx:a.eval x=.pointer (some ⟨g,0,none⟩)) (t:TypeId) (cs:Array Value) (fr:Nat × Nat) (d:TypeDesc) (hg:w.heap[g]?=some (.cells cs t fr))
  (hu:P.underlying ty=some d) (hd:(match d with | .struct _ | .array _ _=>true | _=>false)=true) (hi:(P.info? ty).map (·.size)=some cs.size):(execOp a.eval op).run P w=.ok (.value (.agg cs)) w:=by
 unfold execOp;simp only [ho,hx,Instr.loadAt,Instr.sureAddr,Sem.run_bind,Sem.run_pure,Result.andThen_ok,run_loadVar_row w g t ty cs fr d hg hu hd hi]
theorem results_cells2 {P:Program} {fn:Func} {p q:Tmp} {ty tz:TypeId} (h:fn.results=#[.cell p ty,.cell q tz]) (tmps:Array Value) (w:World) (g:Nat) (t:TypeId) (cs:Array Value) (fr:Nat × Nat) (d:TypeDesc) (g':Nat) (t':TypeId) (cs':Array Value) (fr':Nat × Nat) (d':TypeDesc)
  (hp:tmps.getD p undef=.pointer (some ⟨g,0,none⟩)) (hg:w.heap[g]?=some (.cells cs t fr)) (hu:P.underlying ty=some d) (hd:(match d with | .struct _ | .array _ _=>true | _=>false)=true) (hi:(P.info? ty).map (·.size)=some cs.size)
  (hq:tmps.getD q undef=.pointer (some ⟨g',0,none⟩)) (hg':w.heap[g']?=some (.cells cs' t' fr')) (hu':P.underlying tz=some d') (hd':(match d' with | .struct _ | .array _ _=>true | _=>false)=true) (hi':(P.info? tz).map (·.size)=some cs'.size) :
  (results fn tmps).run P w=.ok (.tuple #[.agg cs,.agg cs']) w:=by
 have hp':tmps[p]?.getD undef=.pointer (some ⟨g,0,none⟩):=by simpa using hp
 have hq':tmps[q]?.getD undef=.pointer (some ⟨g',0,none⟩):=by simpa using hq
 simp [results,h,hp',hq',asAddr,run_loadVar_row w g t ty cs fr d hg hu hd hi,run_loadVar_row w g' t' tz cs' fr' d' hg' hu' hd' hi']
theorem voted_s (p:PE) (s:PV) (phase view block:Int) (w:World) (hR:jS w p s) (hs:yC p) :
  Calls Tryz.prog 83 #[yZ p s,.int .i64 phase,.int .i64 view,.int .i64 block] w fun e w'=>∃ s',e=.returned (.tuple #[yZ (yP p phase view block) s',.agg #[.int .i64 phase,.int .i64 view,.int .i64 block,.int .i64 p.id]])∧zO w.heap.size w'.heap.size w' (yP p phase view block) s'∧Below w.heap.size w w':=by
 have HR:=hid hR;have HS:=hid hs;clear hR hs;obtain ⟨W,hW⟩:∃ W,W=((w.alloc (.cells (zA p s) 35)).alloc (.cells zF 35)).alloc (.cells #[.int .i64 0,.int .i64 0,.int .i64 0,.int .i64 0] 28):=⟨_,rfl⟩
 have HC:Hid (Below w.heap.size w W∧Bx W w.heap.size (zA p s) 35∧Bx W (w.heap.size+1) zF 35∧Bx W (w.heap.size+1+1) #[.int .i64 0,.int .i64 0,.int .i64 0,.int .i64 0] 28):=by
  rw [hW];exact ⟨ba (ba (ba (br _ _) _) _) _,zJH w _ _ _⟩
 have HWS:Hid (W.heap.size=w.heap.size+1+1+1):=hid (by rw [hW];simp);unfold zF at hW;go_enter Tryz.func83,Tryz.ntmps83;go_wp2_with (rw [← hW];clear hW;refine w_ld w.heap.size HC.out.2.1 Tryz.underlying35 ?_)
 refine (zHJ p s W (HR.out.below HC.out.1) HS.out).mono ?_;rintro e x1 ⟨s1,rfl,ho,hb⟩;have HO1:=hid ho.toD;have HB1:=hid hb;clear ho hb
 go_wp2_with (first
  | (refine w_st x1.heap.size (zA p s1) (heap_alloc_new x1 _) (zJ HO1.out.1) ?_;intro y1 hg hk hz;have hb1:Below x1.heap.size x1 y1:=yB hg;have HY1:Hid (Bx3 w y1 x1.heap.size (zA p s) zF (zA p s1)):=⟨bt HC.out.1 (bt HB1.out hb1),(hb1.block _ (by have:=HB1.out.size;have:=HWS.out;omega)).trans ((HB1.out.block _ (by have:=HWS.out;omega)).trans HC.out.2.1),(hb1.block _ (by have:=HB1.out.size;have:=HWS.out;omega)).trans ((HB1.out.block _ (by have:=HWS.out;omega)).trans HC.out.2.2.1),hk,(by have:=HB1.out.size;have:=HWS.out;omega)⟩;have HV1:Hid (Bx y1 (w.heap.size+1+1) #[.int .i64 0,.int .i64 0,.int .i64 0,.int .i64 0] 28):=(hb1.block _ (by have:=HB1.out.size;have:=HWS.out;omega)).trans ((HB1.out.block _ (by have:=HWS.out;omega)).trans HC.out.2.2.2);have HD1:Hid (zO W.heap.size x1.heap.size y1 p s1):=HO1.out.below hb1;clear hg hk hz hb1 HO1;have c0:=zB HY1.out.box 0 (.int .i64 p.id) rfl)
  | (refine yY rfl _ _ _ rfl x1.heap.size 10 #[.int .i64 phase,.int .i64 view,.int .i64 block,.int .i64 p.id] rfl rfl _ _ (HY1.out.more ((br _ _).alloc (nl _) (.cells #[.int .i64 phase,.int .i64 view,.int .i64 block,.int .i64 p.id] 28))).out (by kernel_rfl) (by simp [zA]) (by simp [Value.oneCell']) (zA (yP p phase view block) s1) rfl ?_;intro y2 hg hk;have HY2:Hid (Bx3 w y2 x1.heap.size (zA p s) zF (zA (yP p phase view block) s1)):=(HY1.out.more ((br _ _).alloc (nl _) _)).put hg hk;have HD2:Hid (zO W.heap.size x1.heap.size y2 (yP p phase view block) s1):=((HD1.out.below ((br _ _).alloc (nl _) _)).far hg (Or.inr (nl _))).other rfl rfl rfl rfl rfl rfl;have HL2:=hid HY1.out.lt;have HN2:Hid (Bx y2 y1.heap.size #[.int .i64 phase,.int .i64 view,.int .i64 block,.int .i64 p.id] 28):=(hg.block _ (by simp) (fun e=>by have e:=Option.some.inj e;have:=HL2.out;omega)).trans (heap_alloc_new y1 _);have HV2:Hid (Bx y2 (w.heap.size+1+1) #[.int .i64 0,.int .i64 0,.int .i64 0,.int .i64 0] 28):=(hg.block _ (by have:=(gl HV1.out);simp;omega) (fun e=>by have e:=Option.some.inj e;have:=HB1.out.size;have:=HWS.out;omega)).trans ((((Below.refl y1.heap.size y1).alloc (nl _) _).block _ (gl HV1.out)).trans HV1.out);clear hg hk HY1 HD1 HV1 c0))
 refine xA (fun x=>Bx x x1.heap.size (zA (yP p phase view block) s1) 35∧Bx x y1.heap.size #[.int .i64 phase,.int .i64 view,.int .i64 block,.int .i64 p.id] 28) (by kernel_rfl) ?_;show wpAnyH Tryz.prog _ _ _ _ (3+1) (Array.replicate 4 false) _ _;have hS:Bx y2.drew x1.heap.size (zA (yP p phase view block) s1) 35∧Bx y2.drew y1.heap.size #[.int .i64 phase,.int .i64 view,.int .i64 block,.int .i64 p.id] 28:=⟨HY2.out.out,HN2.out⟩;refine yJ 0 22 (.agg (zA (yP p phase view block) s1)) hS ?_ (hy:=fun x hx=>zM _ _ rfl x1.heap.size rfl _ _ _ _ hx.1 Tryz.underlying35 rfl (by kernel_rfl));refine yJ 1 23 (.agg #[.int .i64 phase,.int .i64 view,.int .i64 block,.int .i64 p.id]) hS ?_ (hy:=fun x hx=>zM _ _ rfl y1.heap.size rfl _ _ _ _ hx.2 Tryz.underlying28 rfl (by kernel_rfl));refine h_st 2 (w.heap.size+1) (zA (yP p phase view block) s1) HY2.out.zero (zJ HD2.out.1) ?_;intro z1 hg hk;have HZ1:=hid hk;have HL1:Hid (W.heap.size≤x1.heap.size∧x1.heap.size < y1.heap.size∧y1.heap.size < y2.heap.size):=⟨HB1.out.size,HL2.out,(gl HN2.out)⟩;have HBz:Hid (Below w.heap.size w z1):=(HY2.out.below.trans (br _ _).drew).grown hg HY2.out.below.size (fun k hk=>by cases hk;omega);have HDz:Hid (zO W.heap.size x1.heap.size z1 (yP p phase view block) s1):=(HD2.out.below (br _ _).drew).far hg (Or.inl (by have:=HWS.out;omega));have HVz:Hid (Bx z1 (w.heap.size+1+1) #[.int .i64 0,.int .i64 0,.int .i64 0,.int .i64 0] 28):=(hg.block _ (gl HV2.out) (fun e=>by have e:=Option.some.inj e;omega)).trans HV2.out;have hS1:Bx z1 x1.heap.size (zA (yP p phase view block) s1) 35∧Bx z1 y1.heap.size #[.int .i64 phase,.int .i64 view,.int .i64 block,.int .i64 p.id] 28:=⟨(hg.block _ (gl hS.1) (fun e=>by have e:=Option.some.inj e;have:=HL1.out;have:=HWS.out;omega)).trans hS.1,(hg.block _ (gl hS.2) (fun e=>by have e:=Option.some.inj e;have:=HL1.out;have:=HWS.out;omega)).trans hS.2⟩;have HSz:Hid (x1.heap.size≤z1.heap.size):=Nat.le_trans (by have:=HL1.out;show x1.heap.size≤y2.heap.size;omega) hg.size;clear hg hk hS;refine ⟨hS1,?_⟩;refine h_st 3 (w.heap.size+1+1) #[.int .i64 phase,.int .i64 view,.int .i64 block,.int .i64 p.id] HVz.out (by simp [Value.oneCell']) ?_;intro z2 hg hk;have HV2:=hid hk;have HZ2:Hid (Bx z2 (w.heap.size+1) (zA (yP p phase view block) s1) 35):=(hg.block _ (gl HZ1.out) (fun e=>by have e:=Option.some.inj e;omega)).trans HZ1.out;have HB2:Hid (Below w.heap.size w z2):=HBz.out.grown hg HBz.out.size (fun k hk=>by cases hk;omega);have HD3:Hid (zO W.heap.size x1.heap.size z2 (yP p phase view block) s1):=HDz.out.far hg (Or.inl (by have:=HWS.out;omega));have HS2:Hid (x1.heap.size≤z2.heap.size):=Nat.le_trans HSz.out hg.size;have hS2:Bx z2 x1.heap.size (zA (yP p phase view block) s1) 35∧Bx z2 y1.heap.size #[.int .i64 phase,.int .i64 view,.int .i64 block,.int .i64 p.id] 28:=⟨(hg.block _ (gl hS1.1) (fun e=>by have e:=Option.some.inj e;have:=HL1.out;have:=HWS.out;omega)).trans hS1.1,(hg.block _ (gl hS1.2) (fun e=>by have e:=Option.some.inj e;have:=HL1.out;have:=HWS.out;omega)).trans hS1.2⟩;clear hg hk hS1;refine ⟨hS2,?_⟩;refine h_dn ?_;clear hS2;go_wp2;refine bodyPost_ret (v:=.tuple #[.agg (zA (yP p phase view block) s1),.agg #[.int .i64 phase,.int .i64 view,.int .i64 block,.int .i64 p.id]]) (results_cells2 Tryz.results83 _ _ (w.heap.size+1) 35 _ (0,0) _ (w.heap.size+1+1) 28 _ (0,0) _ rfl HZ2.out Tryz.underlying35 rfl (by kernel_rfl) rfl HV2.out Tryz.underlying28 rfl (by kernel_rfl)) rfl ?_;exact ⟨_,rfl,(HD3.out.wide HS2.out (nl _)).low HC.out.1.size,HB2.out⟩
section
variable {P:Program} {ops:Array Oper} {Q:Exit→Act→World→Prop} {md:Region.Mode} {C:World→Prop} {pend:Nat→Bool}
theorem xW {s:Nat} {os:Oper} {f:Nat} {L:Array Bool} {a:Act} {w:World} {ty t:TypeId} {x y:Operand} {N o:Nat} {cells old new:Array Value} (ho:ops[s]?=some os) (hgd:os.guard=none) (hop:os.op=.store ty x y) (hd:os.dst=none) (hr:Region.ready md ops L=[s])
  (hx:a.eval x=.pointer (some ⟨N,o,none⟩)) (hy:a.eval y=.agg cells) (hg:w.heap[N]?=some (.cells old t (0,0))) (hi:(P.info? ty).map (·.size)=some cells.size) (hold:o+cells.size≤old.size) (h1:cells.all (·.oneCell')=true) (hn:yBB old o cells=new)
  (h:∀ w',w.grownBy w' (some N)→w'.heap[N]?=some (.cells new t (0,0))→(pend s=true→C w')∧zX P md ops Q C pend f (L.setIfInBounds s true) a w'):zX P md ops Q C pend (f+1) L a w:=by
 subst hn;obtain ⟨g1,g2,_⟩:=zEB (cells:=yBB old o cells) hg;refine ⟨fun h0=>(by rw [hr] at h0;cases h0),fun j hj=>?_⟩;rw [hr] at hj;obtain rfl:j=s:=by simpa using hj
 unfold wpOp;simp only [ho];rw [if_pos (by simp [Region.wanted,hgd])];refine Or.inl ?_;unfold Oper.wp execOp;simp only [hop,hx,hy,Instr.storeAt,Instr.sureAddr,Sem.run_bind,Sem.run_pure,Result.andThen_ok,yCJ w N o t ty old cells hg hi hold h1];unfold Oper.upon;simp only [hd];exact h _ g1 g2
end
def zAE (q:QC) (l:List LT):QC:=l.foldl (fun q x=>yF q x.2.1) q
def bestT (p:PE):QC:=zAE p.high p.news
theorem best_snoc (q:QC) (l:List LT) (k:Nat) (h:k < l.length):zAE q (l.take (k+1))=yF (zAE q (l.take k)) l[k].2.1:=by
 unfold zAE;rw [List.take_succ_eq_append_getElem h,List.foldl_append]
 rfl
structure BqS (w y:World) (N:Nat) (A O:Array Value):Prop where
 below:Below w.heap.size w y
 box:Bx y w.heap.size A 35
 zero:Bx y (w.heap.size+1) #[.int .i64 0,.int .i64 0,.int .i64 0,.int .i64 0] 26
 out:Bx y N O 26
 far:w.heap.size+1 < N
theorem BqS.lt {w y:World} {N:Nat} {A O:Array Value} (h:BqS w y N A O):N < y.heap.size:=(gl h.out)
theorem BqS.more {w y x:World} {N:Nat} {A O:Array Value} (h:BqS w y N A O) (hb:Below y.heap.size y x):BqS w x N A O:=by
 have:=h.lt;have:=h.far;exact ⟨bt h.below hb,(hb.block _ (by omega)).trans h.box,(hb.block _ (by omega)).trans h.zero,(hb.block _ (by omega)).trans h.out,h.far⟩
theorem BqS.put {w y x:World} {N:Nat} {A O O':Array Value} (h:BqS w y N A O) (hg:y.grownBy x (some N)) (hk:Bx x N O' 26):BqS w x N A O':=by
 have:=h.lt;have:=h.far;exact ⟨h.below.grown hg h.below.size (fun k hk=>by cases hk;omega),(hg.block _ (by omega) (fun e=>by have:=Option.some.inj e;omega)).trans h.box,(hg.block _ (by omega) (fun e=>by have:=Option.some.inj e;omega)).trans h.zero,hk,h.far⟩
theorem bestQc_s (p:PE) (s:PV) (w:World) (hR:jS w p s) (hn:(p.news.length:Int)≤1048576) :
  Calls Tryz.prog 207 #[yZ p s] w fun e w'=>e=.returned (.agg #[.int .i64 (bestT p).1,.int .i64 (bestT p).2.1,.int .i64 (bestT p).2.2.1,.int .i64 (bestT p).2.2.2])∧Below w.heap.size w w':=by
 obtain ⟨a,cap,er,hr⟩:=hR.news;have HN:=hid hr;clear hr hR;obtain ⟨W,hW⟩:∃ W,W=(w.alloc (.cells (zA p s) 35)).alloc (.cells #[.int .i64 0,.int .i64 0,.int .i64 0,.int .i64 0] 26):=⟨_,rfl⟩
 have HC:Hid (Below w.heap.size w W∧Bx W w.heap.size (zA p s) 35∧Bx W (w.heap.size+1) #[.int .i64 0,.int .i64 0,.int .i64 0,.int .i64 0] 26):=by
  rw [hW];exact ⟨ba (ba (br _ _) _) _,qK w _ _⟩
 have HWS:Hid (W.heap.size=w.heap.size+1+1):=hid (by rw [hW];simp);have c2:=zB HC.out.2.1 2 (.int .i64 p.high.1) rfl;have c3:=zB HC.out.2.1 3 (.int .i64 p.high.2.1) rfl;have c4:=zB HC.out.2.1 4 (.int .i64 p.high.2.2.1) rfl;have c5:=zB HC.out.2.1 5 (.int .i64 p.high.2.2.2) rfl;go_enter Tryz.func207,Tryz.ntmps207;obtain ⟨N,hN⟩:∃ N,N=W.heap.size:=⟨_,rfl⟩;go_wp2_with (first | (refine w_st W.heap.size #[.int .i64 p.high.1,.int .i64 p.high.2.1,.int .i64 p.high.2.2.1,.int .i64 p.high.2.2.2] (heap_alloc_new W _) (by simp [Value.oneCell']) ?_;intro y1 hg hk hz;have hb:Below W.heap.size W y1:=yB hg;have HY1:Hid (BqS w y1 N (zA p s) #[.int .i64 (zAE p.high (p.news.take 0)).1,.int .i64 (zAE p.high (p.news.take 0)).2.1,.int .i64 (zAE p.high (p.news.take 0)).2.2.1,.int .i64 (zAE p.high (p.news.take 0)).2.2.2]):=⟨bt HC.out.1 hb,(hb.block _ (gl HC.out.2.1)).trans HC.out.2.1,(hb.block _ (gl HC.out.2.2)).trans HC.out.2.2,(by rw [hN];exact hk),(by have:=HWS.out;omega)⟩;clear hg hk hz hb c2 c3 c4 c5) | (rw [← hW];clear hW))
 rw [← hN];clear hN HC HWS
 go_loopw [4] (fun i wr=>∃ k:Nat,k≤p.news.length∧i=.int .i64 (k:Int)∧Hid (BqS w wr N (zA p s) #[.int .i64 (zAE p.high (p.news.take k)).1,.int .i64 (zAE p.high (p.news.take k)).2.1,.int .i64 (zAE p.high (p.news.take k)).2.2.1,.int .i64 (zAE p.high (p.news.take k)).2.2.2])) (fun i _=>p.news.length - (intOf i).toNat)
 case atStart=>exact ⟨0,Nat.zero_le _,rfl,HY1.out⟩
 case round=>
  obtain ⟨m,hm,rfl,HY⟩:=hrel;have c19:=zB HY.out.box 19 s.news rfl;rw [er] at c19
  by_cases hlt:(m:Int) < p.news.length
  ·have hmn:m < p.news.length:=by omega
   obtain ⟨g,off,rfl,hg,hc⟩:=HN.out (by omega);have q0:(0:Int)≤(m:Int):=by omega
   obtain ⟨jq,hjq⟩:∃ jq:QC,jq=p.news[m].2.1:=⟨_,rfl⟩
   have HJ:Hid (∀ x:World,Below w.heap.size w x→x.cell? ⟨g,off+m * 13+5,none⟩=some (.int .i64 jq.1)∧x.cell? ⟨g,off+m * 13+6,none⟩=some (.int .i64 jq.2.1)∧x.cell? ⟨g,off+m * 13+7,none⟩=some (.int .i64 jq.2.2.1)∧x.cell? ⟨g,off+m * 13+8,none⟩=some (.int .i64 jq.2.2.2)):=fun x hb=>by
    refine ⟨?_,?_,?_,?_⟩ <;> rw [hb.cell (by exact hg),hjq]
    ·exact hc m hmn 5 (by omega)
    ·exact hc m hmn 6 (by omega)
    ·exact hc m hmn 7 (by omega)
    ·exact hc m hmn 8 (by omega)
   have HST:Hid (zAE p.high (p.news.take (m+1))=yF (zAE p.high (p.news.take m)) jq):=(by rw [best_snoc _ _ _ hmn,hjq]:zAE p.high (p.news.take (m+1))=_);obtain ⟨qm,hqm⟩:∃ qm,qm=zAE p.high (p.news.take m):=⟨_,rfl⟩;rw [← hqm] at HY HST;clear hc hg hjq hqm;go_wp2;clear c19;refine zT (fun i=>decide (i < 8)) (fun x=>Bx x N #[.int .i64 qm.1,.int .i64 qm.2.1,.int .i64 qm.2.2.1,.int .i64 qm.2.2.2] 26∧Bx x w.heap.size (zA p s) 35∧x.cell? ⟨g,off+m * 13+5,none⟩=some (.int .i64 jq.1)∧x.cell? ⟨g,off+m * 13+6,none⟩=some (.int .i64 jq.2.1)∧x.cell? ⟨g,off+m * 13+7,none⟩=some (.int .i64 jq.2.2.1)∧x.cell? ⟨g,off+m * 13+8,none⟩=some (.int .i64 jq.2.2.2)) (by kernel_rfl) ?_;show zX Tryz.prog _ _ _ _ _ (8+1) (Array.replicate 9 false) _ _;have hS:Bx wr.drew N #[.int .i64 qm.1,.int .i64 qm.2.1,.int .i64 qm.2.2.1,.int .i64 qm.2.2.2] 26∧Bx wr.drew w.heap.size (zA p s) 35∧wr.drew.cell? ⟨g,off+m * 13+5,none⟩=some (.int .i64 jq.1)∧wr.drew.cell? ⟨g,off+m * 13+6,none⟩=some (.int .i64 jq.2.1)∧wr.drew.cell? ⟨g,off+m * 13+7,none⟩=some (.int .i64 jq.2.2.1)∧wr.drew.cell? ⟨g,off+m * 13+8,none⟩=some (.int .i64 jq.2.2.2):=⟨HY.out.out,HY.out.box,HJ.out wr.drew (HY.out.below.trans (br _ _).drew)⟩;refine zD 0 14 (.agg #[.int .i64 qm.1,.int .i64 qm.2.1,.int .i64 qm.2.2.1,.int .i64 qm.2.2.2]) hS ?_ (hy:=by intro x hx;have d0:=zB hx.1 0 (.int .i64 qm.1) rfl;have d1:=zB hx.1 1 (.int .i64 qm.2.1) rfl;have d2:=zB hx.1 2 (.int .i64 qm.2.2.1) rfl;have d3:=zB hx.1 3 (.int .i64 qm.2.2.2) rfl;go_simp;try with_reducible rfl);refine zD 1 15 (.pointer (some ⟨w.heap.size,19,none⟩)) hS ?_;refine zD 2 16 (.slice (some ⟨g,off,none⟩) p.news.length cap) hS ?_ (hy:=by intro x hx;have d:=zB hx.2.1 19 s.news rfl;rw [er] at d;go_simp;try with_reducible rfl);refine zD 3 17 (.int .i64 (m:Int)) hS ?_;refine zD 4 18 (.pointer (some ⟨g,off+m * 13,none⟩)) hS ?_;refine zD 5 19 (.pointer (some ⟨g,off+m * 13+5,none⟩)) hS ?_;refine zD 6 20 (.agg #[.int .i64 jq.1,.int .i64 jq.2.1,.int .i64 jq.2.2.1,.int .i64 jq.2.2.2]) hS ?_ (hy:=by intro x hx;have d0:=hx.2.2.1;have d1:=hx.2.2.2.1;have d2:=hx.2.2.2.2.1;have d3:=hx.2.2.2.2.2;go_simp;try with_reducible rfl);refine kJ 7 21 34 #[.agg #[.int .i64 qm.1,.int .i64 qm.2.1,.int .i64 qm.2.2.1,.int .i64 qm.2.2.2],.agg #[.int .i64 jq.1,.int .i64 jq.2.1,.int .i64 jq.2.2.1,.int .i64 jq.2.2.2]] ((yAF qm jq wr.drew).mono ?_);rintro e x3 ⟨rfl,hb0⟩;have hb:Below wr.heap.size wr x3:=((br _ _).drew).trans hb0;have HX:Hid (BqS w x3 N (zA p s) #[.int .i64 qm.1,.int .i64 qm.2.1,.int .i64 qm.2.2.1,.int .i64 qm.2.2.2]):=HY.out.more hb;have hS1:Bx x3 N #[.int .i64 qm.1,.int .i64 qm.2.1,.int .i64 qm.2.2.1,.int .i64 qm.2.2.2] 26∧Bx x3 w.heap.size (zA p s) 35∧x3.cell? ⟨g,off+m * 13+5,none⟩=some (.int .i64 jq.1)∧x3.cell? ⟨g,off+m * 13+6,none⟩=some (.int .i64 jq.2.1)∧x3.cell? ⟨g,off+m * 13+7,none⟩=some (.int .i64 jq.2.2.1)∧x3.cell? ⟨g,off+m * 13+8,none⟩=some (.int .i64 jq.2.2.2):=⟨HX.out.out,HX.out.box,HJ.out x3 HX.out.below⟩;clear hb hb0 hS HY;refine ⟨_,rfl,fun _=>hS1,?_⟩;simp only [pz];refine xW (s:=8) (N:=N) (o:=0) (cells:=#[.int .i64 (yF qm jq).1,.int .i64 (yF qm jq).2.1,.int .i64 (yF qm jq).2.2.1,.int .i64 (yF qm jq).2.2.2]) (old:=#[.int .i64 qm.1,.int .i64 qm.2.1,.int .i64 qm.2.2.1,.int .i64 qm.2.2.2]) (new:=#[.int .i64 (yF qm jq).1,.int .i64 (yF qm jq).2.1,.int .i64 (yF qm jq).2.2.1,.int .i64 (yF qm jq).2.2.2]) rfl rfl rfl rfl (by kernel_rfl) rfl rfl hS1.1 (by kernel_rfl) (by simp) (by simp [Value.oneCell']) rfl ?_;intro y3 hg hk;have HY3:Hid (BqS w y3 N (zA p s) #[.int .i64 (yF qm jq).1,.int .i64 (yF qm jq).2.1,.int .i64 (yF qm jq).2.2.1,.int .i64 (yF qm jq).2.2.2]):=HX.out.put hg hk;rw [← HST.out] at HY3;clear hg hk hS1 HX;refine ⟨fun h=>absurd h (by decide),?_⟩;refine zK (by kernel_rfl) ?_ _;go_wp2
   go_roundw
   case rel=>exact ⟨m+1,by omega,by go_num,HY3.out⟩
   case measure=>simp [intOf];omega
  ·have hml:m=p.news.length:=by omega
   subst hml;rw [List.take_length] at HY;obtain ⟨QQ,hQQ⟩:∃ QQ,QQ=bestT p:=⟨_,rfl⟩;have HY:Hid (BqS w wr N (zA p s) #[.int .i64 QQ.1,.int .i64 QQ.2.1,.int .i64 QQ.2.2.1,.int .i64 QQ.2.2.2]):=hid (by rw [hQQ];exact HY.out);have HE:=hid hQQ.symm;clear hQQ
   go_wp2_with (first
    | (refine w_ld N HY.out.out Tryz.underlying26 ?_)
    | (refine w_st (w.heap.size+1) #[.int .i64 QQ.1,.int .i64 QQ.2.1,.int .i64 QQ.2.2.1,.int .i64 QQ.2.2.2] HY.out.zero (by simp [Value.oneCell']) ?_;intro z hg hk hz;have HZ:Hid (Below w.heap.size w z∧Bx z (w.heap.size+1) #[.int .i64 QQ.1,.int .i64 QQ.2.1,.int .i64 QQ.2.2.1,.int .i64 QQ.2.2.2] 26):=⟨HY.out.below.grown hg HY.out.below.size (fun k hk=>by cases hk;omega),hk⟩;clear hg hk hz))
   refine bodyPost_ret (v:=.agg #[.int .i64 QQ.1,.int .i64 QQ.2.1,.int .i64 QQ.2.2.1,.int .i64 QQ.2.2.2]) (results_cell_row Tryz.results207 _ _ (w.heap.size+1) 26 _ (0,0) _ rfl HZ.out.2 Tryz.underlying26 rfl (by kernel_rfl)) rfl ?_;rw [HE.out];exact ⟨rfl,HZ.out.1⟩
def showB (p:PE) (cmds:List CM):BK:=(((bestT p).2.2.1,p.view),cmds,bestT p)
def showsP (t:List BK) (p:PE) (cmds:List CM):PE:=if zBE t (showB p cmds) < 0 then p else { p with shown:=p.view,high:=bestT p }
def showsK (t:List BK) (p:PE) (cmds:List CM):Int:=if zBE t (showB p cmds) < 0 then -1 else zBE t (showB p cmds)
theorem results_tct {P:Program} {fn:Func} {p q r:Tmp} {ty:TypeId} (h:fn.results=#[.tmp q,.cell p ty,.tmp r]) (tmps:Array Value) (w:World) (g:Nat) (t:TypeId) (cs:Array Value) (fr:Nat × Nat) (d:TypeDesc) (u v:Value)
  (hp:tmps.getD p undef=.pointer (some ⟨g,0,none⟩)) (hg:w.heap[g]?=some (.cells cs t fr)) (hu:P.underlying ty=some d) (hd:(match d with | .struct _ | .array _ _=>true | _=>false)=true) (hi:(P.info? ty).map (·.size)=some cs.size)
  (hq:tmps.getD q undef=u) (hr:tmps.getD r undef=v) :
  (results fn tmps).run P w=.ok (.tuple #[u,.agg cs,v]) w:=by
 have hp':tmps[p]?.getD undef=.pointer (some ⟨g,0,none⟩):=by simpa using hp
 have hq':tmps[q]?.getD undef=u:=by simpa using hq
 have hr':tmps[r]?.getD undef=v:=by simpa using hr
 simp [results,h,hp',hq',hr',asAddr,run_loadVar_row w g t ty cs fr d hg hu hd hi]
theorem xH.boxed {w w':World} {base N:Nat} {v:Value} {ps:TL} {A:Array Value} (h:xH w base v ps) (hN:Bx w N A 35) (hg:w.grownBy w' (some N)):xH w' base v ps:=
 ⟨World.ownsRow.kept h.row hg (zH h.row hN (by decide)),fun p hp=>World.ownsRow.kept (h.cmds p hp) hg (zH (h.cmds p hp) hN (by decide)),h.apart⟩
structure ShwB (w y:World) (N M mid:Nat) (A O:Array Value) (q:PE) (s:PV) (v:Value) (qs:TL):Prop where
 below:Below w.heap.size w y
 box:Bx y w.heap.size A 35
 zero:Bx y (w.heap.size+1) zF 35
 qc:Bx y M O 26
 out:Bx y N (zA q s) 35
 own:zO mid y.heap.size y q s
 tree:xH y w.heap.size v qs
 far:w.heap.size+1 < N∧w.heap.size+1 < mid
theorem ShwB.put {w y x:World} {N M mid:Nat} {A O:Array Value} {q q':PE} {s:PV} {v:Value} {qs:TL} (h:ShwB w y N M mid A O q s v qs) (hg:y.grownBy x (some N)) (hk:Bx x N (zA q' s) 35) (e0:q'.row=q.row) (e1:q'.cells=q.cells) (e2:q'.early=q.early) (e3:q'.undos=q.undos) (e4:q'.votes=q.votes) (e5:q'.news=q.news):ShwB w x N M mid A O q' s v qs:=by
 have:=h.far
 have hM:M ≠ N:=fun e=>by
  have h1:_=_:=h.qc;rw [e,h.out] at h1;injection h1 with h1
  injection h1 with _ h2
  exact absurd h2 (by decide)
 exact ⟨h.below.grown hg h.below.size (fun k hk=>by cases hk;omega),(hg.block _ (gl h.box) (fun e=>by have:=Option.some.inj e;omega)).trans h.box,(hg.block _ (gl h.zero) (fun e=>by have:=Option.some.inj e;omega)).trans h.zero,(hg.block _ (gl h.qc) (fun e=>hM (Option.some.inj e))).trans h.qc,hk,((h.own.boxed h.out hg).wide hg.size (nl _)).other e0 e1 e2 e3 e4 e5,h.tree.boxed h.out hg,h.far⟩
theorem shows_s (ps:TL) (v:Value) (p:PE) (s:PV) (cmds:List CM) (cv:Value) (w:World) (hT:zID w v ps) (hk:okT (bks ps)) (hR:jS w p s) (hs:yC p) (hC:yM w cv 3 kL cmds) (hcb:(cmds.length:Int)≤1048576∧∀ c∈cmds,(c.2.1.size:Int)≤1048576) :
  Calls Tryz.prog 180 #[v,yZ p s,cv] w fun e w'=>∃ v' s',e=.returned (.tuple #[v',yZ (showsP (bks ps) p cmds) s',.int .i64 (showsK (bks ps) p cmds)])∧(∃ qs mid,bks qs=zGE (bks ps) (showB p cmds)∧xH w' w.heap.size v' qs∧yDC mid v' qs∧zO mid w'.heap.size w' (showsP (bks ps) p cmds) s'∧w.heap.size≤mid)∧Below w.heap.size w w':=by
 have HT:=hid hT;have HK:=hid hk;have HR:=hid hR;have HS:=hid hs;have HCC:=hid hC;have HCB:=hid hcb;obtain ⟨av,bv,rfl,-⟩:=hT.q.1;obtain ⟨ac,bc,rfl,-⟩:=hC;clear hT hk hR hs hcb;obtain ⟨W,hW⟩:∃ W,W=(w.alloc (.cells (zA p s) 35)).alloc (.cells zF 35):=⟨_,rfl⟩
 have HC0:Hid (Below w.heap.size w W∧Bx W w.heap.size (zA p s) 35∧Bx W (w.heap.size+1) zF 35∧w.heap.size+1 < W.heap.size):=by
  rw [hW];exact ⟨ba (ba (br _ _) _) _,(qK w _ _).1,(qK w _ _).2,by simp⟩
 unfold zF at hW;obtain ⟨q,hq⟩:∃ q,q=bestT p:=⟨_,rfl⟩;obtain ⟨b,hb0⟩:∃ b:BK,b=((q.2.2.1,p.view),cmds,q):=⟨_,rfl⟩;have HB0:Hid (showB p cmds=b):=hid (by rw [hb0,hq];rfl);have HBV:Hid (∀ cw,blkV b cw=.agg #[.int .i64 q.2.2.1,.int .i64 p.view,cw,.int .i64 q.1,.int .i64 q.2.1,.int .i64 q.2.2.1,.int .i64 q.2.2.2]):=fun cw=>by rw [hb0];rfl
 have HBC:Hid (b.2.1=cmds):=hid (by rw [hb0]);have HQ:=hid hq.symm;clear hq hb0;go_enter Tryz.func180,Tryz.ntmps180;go_wp2_with (rw [← hW];clear hW;refine w_ld w.heap.size HC0.out.2.1 Tryz.underlying35 ?_)
 refine (bestQc_s p s W (HR.out.below HC0.out.1) HS.out.news).mono ?_;rw [HQ.out];rintro e x1 ⟨rfl,hb⟩;have HX1:Hid (Below w.heap.size w x1∧Bx x1 w.heap.size (zA p s) 35∧Bx x1 (w.heap.size+1) zF 35∧w.heap.size+1 < x1.heap.size):=⟨bt HC0.out.1 hb,(hb.block _ (gl HC0.out.2.1)).trans HC0.out.2.1,(hb.block _ (gl HC0.out.2.2.1)).trans HC0.out.2.2.1,Nat.lt_of_lt_of_le HC0.out.2.2.2 hb.size⟩;clear hb HC0
 go_wp2_with (first
  | (refine w_st x1.heap.size #[.int .i64 q.1,.int .i64 q.2.1,.int .i64 q.2.2.1,.int .i64 q.2.2.2] (heap_alloc_new x1 _) (by simp [Value.oneCell']) ?_;intro y1 hg hk hz;have hb1:Below x1.heap.size x1 y1:=yB hg;have HY1:Hid (Below w.heap.size w y1∧Bx y1 w.heap.size (zA p s) 35∧Bx y1 (w.heap.size+1) zF 35∧Bx y1 x1.heap.size #[.int .i64 q.1,.int .i64 q.2.1,.int .i64 q.2.2.1,.int .i64 q.2.2.2] 26):=⟨bt HX1.out.1 hb1,(hb1.block _ (gl HX1.out.2.1)).trans HX1.out.2.1,(hb1.block _ (gl HX1.out.2.2.1)).trans HX1.out.2.2.1,hk⟩;have HF1:=hid HX1.out.2.2.2;clear hg hk hz hb1 HX1;have c2:=zB HY1.out.2.2.2 2 (.int .i64 q.2.2.1) rfl;have cp:=zB HY1.out.2.1 1 (.int .i64 p.view) rfl)
  | (refine w_ld x1.heap.size HY1.out.2.2.2 Tryz.underlying26 ?_))
 have hput:=putBlock_s ps _ b (.slice ac cmds.length bc) y1 (HT.out.below HY1.out.1) (by rw [HBC.out];exact HCC.out.below HY1.out.1) HK.out (by unfold okB;rw [HBC.out];exact HCB.out);rw [HBV.out] at hput;refine hput.mono ?_;rintro e x2 ⟨v2,qs,rfl,hqs,ho,hb⟩;have HX2:Hid (Below w.heap.size w x2∧Bx x2 w.heap.size (zA p s) 35∧Bx x2 (w.heap.size+1) zF 35∧Bx x2 x1.heap.size #[.int .i64 q.1,.int .i64 q.2.1,.int .i64 q.2.2.1,.int .i64 q.2.2.2] 26):=⟨bt HY1.out.1 hb,(hb.block _ (gl HY1.out.2.1)).trans HY1.out.2.1,(hb.block _ (gl HY1.out.2.2.1)).trans HY1.out.2.2.1,(hb.block _ (gl HY1.out.2.2.2)).trans HY1.out.2.2.2⟩;have HO2:Hid (xH x2 w.heap.size v2 qs∧yDC x2.heap.size v2 qs∧bks qs=zGE (bks ps) b):=⟨ho.base HY1.out.1.size,ho.lim,hqs⟩;obtain ⟨kk,hkk⟩:∃ kk,kk=zBE (bks ps) b:=⟨_,rfl⟩;have HKK:=hid hkk.symm;rw [← hkk];clear ho hb hqs hput hkk HY1 c2 cp;go_wp2_with (refine w_ld w.heap.size HX2.out.2.1 Tryz.underlying35 ?_)
 refine (zHJ p s x2 (HR.out.below HX2.out.1) HS.out).mono ?_;rintro e x3 ⟨s1,rfl,ho,hb⟩;have HO3:=hid ho.toD;have HX3:Hid (Below w.heap.size w x3∧Bx x3 w.heap.size (zA p s) 35∧Bx x3 (w.heap.size+1) zF 35∧Bx x3 x1.heap.size #[.int .i64 q.1,.int .i64 q.2.1,.int .i64 q.2.2.1,.int .i64 q.2.2.2] 26):=⟨bt HX2.out.1 hb,(hb.block _ (gl HX2.out.2.1)).trans HX2.out.2.1,(hb.block _ (gl HX2.out.2.2.1)).trans HX2.out.2.2.1,(hb.block _ (gl HX2.out.2.2.2)).trans HX2.out.2.2.2⟩;have HT3:Hid (xH x3 w.heap.size v2 qs∧yDC x2.heap.size v2 qs∧bks qs=zGE (bks ps) b):=⟨HO2.out.1.below hb,HO2.out.2⟩;have HF3:Hid (w.heap.size≤x2.heap.size∧x1.heap.size < x3.heap.size∧x2.heap.size≤x3.heap.size∧x1.heap.size < x2.heap.size):=⟨HX2.out.1.size,(gl HX3.out.2.2.2),hb.size,(gl HX2.out.2.2.2)⟩;clear ho hb HX2 HO2
 by_cases hkn:kk < 0
 ·have HE:Hid (showsP (bks ps) p cmds=p∧showsK (bks ps) p cmds=-1):=hid (by unfold showsP showsK;rw [HB0.out,HKK.out,if_pos hkn,if_pos hkn];exact ⟨rfl,rfl⟩);go_wp2_with (refine w_st x3.heap.size (zA p s1) (heap_alloc_new x3 _) (zJ HO3.out.1) ?_;intro y3 hg hk hz;have hb3:Below x3.heap.size x3 y3:=yB hg;have HY3:Hid (ShwB w y3 x3.heap.size x1.heap.size x2.heap.size (zA p s) #[.int .i64 q.1,.int .i64 q.2.1,.int .i64 q.2.2.1,.int .i64 q.2.2.2] p s1 v2 qs):=⟨bt HX3.out.1 hb3,(hb3.block _ (gl HX3.out.2.1)).trans HX3.out.2.1,(hb3.block _ (gl HX3.out.2.2.1)).trans HX3.out.2.2.1,(hb3.block _ (gl HX3.out.2.2.2)).trans HX3.out.2.2.2,hk,(HO3.out.below hb3).wide hb3.size (nl _),HT3.out.1.below hb3,(by have:=HF1.out;have:=HF3.out;omega)⟩;have HL3:Hid (yDC x2.heap.size v2 qs∧bks qs=zGE (bks ps) b∧w.heap.size≤x2.heap.size):=⟨HT3.out.2.1,HT3.out.2.2,HF3.out.1⟩;clear hg hk hz hb3 HX3 HO3 HT3 HF3 HF1)
  obtain ⟨NN,hNN⟩:∃ NN,NN=x3.heap.size:=⟨_,rfl⟩;rw [← hNN] at HY3 ⊢;clear hNN;refine xA (fun x=>Bx x NN (zA p s1) 35) (by kernel_rfl) ?_;show wpAnyH Tryz.prog _ _ _ _ (4+1) (Array.replicate 5 false) _ _;have hS:Bx y3.drew NN (zA p s1) 35:=HY3.out.out;refine yJ 0 31 v2 hS ?_;refine yJ 1 32 (.agg (zA p s1)) hS ?_ (hy:=fun x hx=>zM _ _ rfl NN rfl _ _ _ _ hx Tryz.underlying35 rfl (by kernel_rfl));refine yJ 2 6 v2 hS ?_;refine h_st 3 (w.heap.size+1) (zA p s1) HY3.out.zero (zJ HY3.out.own.1) ?_;intro z hg hk;have hd:Below y3.heap.size y3 y3.drew:=(br _ _).drew;have HBz:Hid (Below w.heap.size w z):=(bt HY3.out.below hd).grown hg HY3.out.below.size (fun k hk=>by cases hk;omega);have HKz:=hid hk;have HFz:Hid (zO x2.heap.size z.heap.size z p s1):=((HY3.out.own.below hd).boxed HY3.out.zero hg).wide hg.size (nl _);have HTz:Hid (xH z w.heap.size v2 qs):=(HY3.out.tree.below hd).boxed HY3.out.zero hg;have HSz:Hid (Bx z NN (zA p s1) 35):=(hg.block _ (gl HY3.out.out) (fun e=>by have:=Option.some.inj e;have:=HY3.out.far;omega)).trans HY3.out.out;clear hg hk hd hS;refine ⟨HSz.out,?_⟩;refine yJ 4 8 (.int .i64 (-1)) HSz.out ?_;refine h_dn ?_;go_wp2;refine bodyPost_ret (v:=.tuple #[v2,.agg (zA p s1),.int .i64 (-1)]) (results_tct Tryz.results180 _ _ (w.heap.size+1) 35 _ (0,0) _ _ _ rfl HKz.out Tryz.underlying35 rfl (by kernel_rfl) rfl rfl) rfl ?_;rw [HE.out.1,HE.out.2,HB0.out];exact ⟨_,_,rfl,⟨qs,_,HL3.out.2.1,HTz.out,HL3.out.1,HFz.out,HL3.out.2.2⟩,HBz.out⟩
 ·obtain ⟨q2,hq2⟩:∃ q2:PE,q2={ p with shown:=p.view,high:=q }:=⟨_,rfl⟩;have HE:Hid (showsP (bks ps) p cmds=q2∧showsK (bks ps) p cmds=kk):=hid (by unfold showsP showsK;rw [HB0.out,HKK.out,if_neg hkn,if_neg hkn,hq2,HQ.out];exact ⟨rfl,rfl⟩)
  go_wp2_with (first
   | (refine w_st x3.heap.size (zA p s1) (heap_alloc_new x3 _) (zJ HO3.out.1) ?_;intro y3 hg hk hz;have hb3:Below x3.heap.size x3 y3:=yB hg;have HY3:Hid (ShwB w y3 x3.heap.size x1.heap.size x2.heap.size (zA p s) #[.int .i64 q.1,.int .i64 q.2.1,.int .i64 q.2.2.1,.int .i64 q.2.2.2] p s1 v2 qs):=⟨bt HX3.out.1 hb3,(hb3.block _ (gl HX3.out.2.1)).trans HX3.out.2.1,(hb3.block _ (gl HX3.out.2.2.1)).trans HX3.out.2.2.1,(hb3.block _ (gl HX3.out.2.2.2)).trans HX3.out.2.2.2,hk,(HO3.out.below hb3).wide hb3.size (nl _),HT3.out.1.below hb3,(by have:=HF1.out;have:=HF3.out;omega)⟩;have HL3:Hid (yDC x2.heap.size v2 qs∧bks qs=zGE (bks ps) b∧w.heap.size≤x2.heap.size):=⟨HT3.out.2.1,HT3.out.2.2,HF3.out.1⟩;clear hg hk hz hb3 HX3 HO3 HT3 HF3 HF1;have cp:=zB HY3.out.box 1 (.int .i64 p.view) rfl)
   | (refine zU rfl _ _ _ rfl x3.heap.size 20 (.int .i64 p.view) rfl rfl _ _ HY3.out.out (by kernel_rfl) (by simp [zA]) rfl (zA { p with shown:=p.view } s1) rfl ?_;intro y4 hg hk;have HY4:Hid (ShwB w y4 x3.heap.size x1.heap.size x2.heap.size (zA p s) #[.int .i64 q.1,.int .i64 q.2.1,.int .i64 q.2.2.1,.int .i64 q.2.2.2] { p with shown:=p.view } s1 v2 qs):=HY3.out.put hg hk rfl rfl rfl rfl rfl rfl;clear hg hk HY3 cp)
   | (refine w_ld x1.heap.size HY4.out.qc Tryz.underlying26 ?_)
   | (refine yY rfl _ _ _ rfl x3.heap.size 2 #[.int .i64 q.1,.int .i64 q.2.1,.int .i64 q.2.2.1,.int .i64 q.2.2.2] rfl rfl _ _ HY4.out.out (by kernel_rfl) (by simp [zA]) (by simp [Value.oneCell']) (zA q2 s1) (by rw [hq2];rfl) ?_;intro y5 hg hk;have HY5:Hid (ShwB w y5 x3.heap.size x1.heap.size x2.heap.size (zA p s) #[.int .i64 q.1,.int .i64 q.2.1,.int .i64 q.2.2.1,.int .i64 q.2.2.2] q2 s1 v2 qs):=HY4.out.put hg hk (by rw [hq2]) (by rw [hq2]) (by rw [hq2]) (by rw [hq2]) (by rw [hq2]) (by rw [hq2]);clear hg hk HY4 hq2))
  obtain ⟨NN,hNN⟩:∃ NN,NN=x3.heap.size:=⟨_,rfl⟩;rw [← hNN] at HY5 ⊢;clear hNN;refine xA (fun x=>Bx x NN (zA q2 s1) 35) (by kernel_rfl) ?_;show wpAnyH Tryz.prog _ _ _ _ (5+1) (Array.replicate 6 false) _ _;have hS:Bx y5.drew NN (zA q2 s1) 35:=HY5.out.out;refine yJ 0 38 v2 hS ?_;refine yJ 1 39 (.agg (zA q2 s1)) hS ?_ (hy:=fun x hx=>zM _ _ rfl NN rfl _ _ _ _ hx Tryz.underlying35 rfl (by kernel_rfl));refine yJ 2 40 (.int .i64 kk) hS ?_;refine yJ 3 6 v2 hS ?_;refine h_st 4 (w.heap.size+1) (zA q2 s1) HY5.out.zero (zJ HY5.out.own.1) ?_;intro z hg hk;have hd:Below y5.heap.size y5 y5.drew:=(br _ _).drew;have HBz:Hid (Below w.heap.size w z):=(bt HY5.out.below hd).grown hg HY5.out.below.size (fun k hk=>by cases hk;omega);have HKz:=hid hk;have HFz:Hid (zO x2.heap.size z.heap.size z q2 s1):=((HY5.out.own.below hd).boxed HY5.out.zero hg).wide hg.size (nl _);have HTz:Hid (xH z w.heap.size v2 qs):=(HY5.out.tree.below hd).boxed HY5.out.zero hg;have HSz:Hid (Bx z NN (zA q2 s1) 35):=(hg.block _ (gl HY5.out.out) (fun e=>by have:=Option.some.inj e;have:=HY5.out.far;omega)).trans HY5.out.out;clear hg hk hd hS;refine ⟨HSz.out,?_⟩;refine yJ 5 8 (.int .i64 kk) HSz.out ?_;refine h_dn ?_;go_wp2;refine bodyPost_ret (v:=.tuple #[v2,.agg (zA q2 s1),.int .i64 (kk)]) (results_tct Tryz.results180 _ _ (w.heap.size+1) 35 _ (0,0) _ _ _ rfl HKz.out Tryz.underlying35 rfl (by kernel_rfl) rfl rfl) rfl ?_;rw [HE.out.1,HE.out.2,HB0.out];exact ⟨_,_,rfl,⟨qs,_,HL3.out.2.1,HTz.out,HL3.out.1,HFz.out,HL3.out.2.2⟩,HBz.out⟩
def zDI (t:List BK) (k:Nat):Int:=(t[k]?.getD kE).1.1
theorem parAt_at {t:List BK} {k:Nat} (h:k < t.length):zDI t k=t[k].1.1:=by unfold zDI;rw [List.getElem?_eq_getElem h];rfl
def zAD (t:List BK):Nat→Nat→Option (List Nat)
 | _,0=>some []
 | 0,_+1=>none
 | n+1,k+1=>if k+1 < t.length∧0≤zDI t (k+1)∧zDI t (k+1)≤(k:Int) then (zAD t n (zDI t (k+1)).toNat).map ((k+1) :: ·) else none
def qH (t:List BK) (k:Int):Option (List Nat):=if 0≤k∧k < (t.length:Int) then zAD t t.length k.toNat else none
theorem downN_more (t:List BK):∀ (n m k:Nat),k≤n→n≤m→zAD t n k=zAD t m k
 | n,m,0,_,_=>by cases n <;> cases m <;> rfl
 | 0,_,k+1,h,_=>by omega
 | n+1,0,k+1,_,h=>by omega
 | n+1,m+1,k+1,h,h2=>by
  unfold zAD
  split
  ·rename_i hc
   rw [downN_more t n m _ (by omega) (by omega)]
  ·rfl
theorem downN_at (t:List BK) (n k:Nat) (hk:k+1≤n):zAD t n (k+1)=if k+1 < t.length∧0≤zDI t (k+1)∧zDI t (k+1)≤(k:Int) then (zAD t n (zDI t (k+1)).toNat).map ((k+1) :: ·) else none:=by
 cases n with
 | zero=>omega
 | succ n=>
  rw [zAD]
  split
  ·rename_i hc
   rw [downN_more t n (n+1) _ (by omega) (by omega)]
  ·rfl
def xZ (t:List BK) (k:Int):Int:=match qH t k with
 | some l=>(l.length:Int)
 | none=>-1
def rowT (t:List BK) (k:Int):List Nat:=match qH t k with
 | some l=>l.reverse
 | none=>[]
def yBI (t:List BK) (k under:Int):Bool:=match qH t k with
 | some l=>decide (under=0) || l.any fun x=>decide ((x:Int)=under)
 | none=>false
def okAtT (t:List BK) (k:Nat):Prop:=0 < k∧k < t.length∧0≤zDI t k∧zDI t k≤(k:Int) - 1
theorem down_zero {t:List BK} (h:0 < t.length):qH t 0=some []:=by
 unfold qH;rw [if_pos ⟨by omega,by omega⟩]
 cases t.length <;> rfl
theorem down_step {t:List BK} {k:Nat} (h:okAtT t k):qH t (k:Int)=(qH t (zDI t k)).map (k :: ·):=by
 obtain ⟨h0,h1,h2,h3⟩:=h;obtain ⟨j,rfl⟩:∃ j,k=j+1:=⟨k - 1,by omega⟩;unfold qH;rw [if_pos ⟨by omega,by omega⟩,if_pos ⟨h2,by omega⟩,show ((j+1:Nat):Int).toNat=j+1 by omega,downN_at t t.length j (by omega),if_pos ⟨h1,h2,by omega⟩]
theorem down_bad {t:List BK} {k:Nat} (h0:0 < k) (h:¬ okAtT t k):qH t (k:Int)=none:=by
 obtain ⟨j,rfl⟩:∃ j,k=j+1:=⟨k - 1,by omega⟩;unfold qH
 by_cases h1:(0:Int)≤((j+1:Nat):Int)∧((j+1:Nat):Int) < (t.length:Int)
 ·rw [if_pos h1,show ((j+1:Nat):Int).toNat=j+1 by omega,downN_at t t.length j (by omega),if_neg (fun hc=>h ⟨h0,hc.1,hc.2.1,by omega⟩)]
 ·rw [if_neg h1]
theorem down_out {t:List BK} {k:Int} (h:¬ (0≤k∧k < (t.length:Int))):qH t k=none:=if_neg h
def qU (t:List BK) (k:Int) (n:Nat):Int:=match qH t k with
 | some l=>(n:Int)+(l.length:Int)
 | none=>-1
theorem heightT_N (t:List BK) (k:Int):xZ t k=qU t k 0:=by unfold xZ qU;cases qH t k <;> simp
theorem heightN_step {t:List BK} {k n:Nat} (h:okAtT t k):qU t (k:Int) n=qU t (zDI t k) (n+1):=by
 unfold qU;rw [down_step h]
 cases qH t (zDI t k) with
 | none=>rfl
 | some l=>simp;omega
theorem heightN_bad {t:List BK} {k n:Nat} (h0:0 < k) (h:¬ okAtT t k):qU t (k:Int) n=-1:=by unfold qU;rw [down_bad h0 h]
theorem heightN_out {t:List BK} {k:Int} {n:Nat} (h:¬ (0≤k∧k < (t.length:Int))):qU t k n=-1:=by unfold qU;rw [down_out h]
theorem heightN_zero {t:List BK} {n:Nat} (h:0 < t.length):qU t 0 n=(n:Int):=by unfold qU;rw [down_zero h];simp
theorem heightN_none {t:List BK} {n:Nat} (h:t.length=0):qU t 0 n=-1:=heightN_out (by omega)
theorem down_some {t:List BK} {k:Nat} {l:List Nat} (h0:0 < k) (h:qH t (k:Int)=some l):okAtT t k∧∃ l',qH t (zDI t k)=some l'∧l=k :: l':=by
 by_cases hk:okAtT t k
 ·rw [down_step hk] at h
  cases hp:qH t (zDI t k) with
  | none=>rw [hp] at h;cases h
  | some l'=>
   rw [hp] at h;exact ⟨hk,l',rfl,(Option.some.inj h).symm⟩
 ·rw [down_bad h0 hk] at h;cases h
theorem down_range {t:List BK} {k:Int} {l:List Nat} (h:qH t k=some l):0≤k∧k < (t.length:Int):=by
 by_cases hk:0≤k∧k < (t.length:Int)
 ·exact hk
 ·rw [down_out hk] at h;cases h
theorem heightT_none {t:List BK} {k:Int} (h:qH t k=none):xZ t k=-1:=by unfold xZ;rw [h]
theorem heightT_some {t:List BK} {k:Int} {l:List Nat} (h:qH t k=some l):xZ t k=(l.length:Int):=by unfold xZ;rw [h]
def extL (l:List Nat) (under:Int):Bool:=decide (under=0) || l.any fun x=>decide ((x:Int)=under)
theorem extT_some {t:List BK} {k under:Int} {l:List Nat} (h:qH t k=some l):yBI t k under=extL l under:=by unfold yBI;rw [h];rfl
theorem extT_none {t:List BK} {k under:Int} (h:qH t k=none):yBI t k under=false:=by unfold yBI;rw [h]
theorem extL_nil (under:Int):extL [] under=decide (under=0):=by simp [extL]
theorem extL_hit {x:Nat} {l:List Nat} {under:Int} (h:(x:Int)=under):extL (x :: l) under=true:=by simp [extL,h]
theorem extL_miss {x:Nat} {l:List Nat} {under:Int} (h:¬ (x:Int)=under):extL (x :: l) under=extL l under:=by simp [extL,h]
def qG (l:List Nat):List Int:=l.map fun x:Nat=>(x:Int)
theorem intsN_len (l:List Nat):(qG l).length=l.length:=by simp [qG]
theorem intsN_cons (x:Nat) (l:List Nat):qG (x :: l)=(x:Int) :: qG l:=rfl
def rowI (t:List BK) (k:Int):List Int:=qG (rowT t k)
theorem zJE {t:List BK} {k:Int} (h:qH t k=none):rowI t k=[]:=by unfold rowI rowT;rw [h];rfl
theorem zJF {t:List BK} {k:Int} {l:List Nat} (h:qH t k=some l):rowI t k=qG l.reverse:=by unfold rowI rowT;rw [h]
theorem downN_len (t:List BK):∀ (n k:Nat) (l:List Nat),zAD t n k=some l→l.length≤n
 | n,0,l,h=>by cases n <;> (simp [zAD] at h;subst h;simp)
 | 0,_+1,_,h=>by cases h
 | n+1,k+1,l,h=>by
  rw [zAD] at h
  split at h
  ·cases hd:zAD t n (zDI t (k+1)).toNat with
   | none=>rw [hd] at h;cases h
   | some l'=>
    rw [hd] at h;obtain rfl:=(Option.some.inj h).symm;have:=downN_len t n _ l' hd;simp;omega
  ·cases h
theorem down_len {t:List BK} {k:Int} {l:List Nat} (h:qH t k=some l):l.length≤t.length:=by
 unfold qH at h
 split at h
 ·exact downN_len t _ _ l h
 ·cases h
theorem yCC {ps:TL} {j:Nat} (h:j < ps.length):zDI (bks ps) j=ps[j].1.1.1:=by rw [parAt_at (by rw [yO];exact h),bks_at h]
theorem zero_beq (u:Int):((0:Int) == u)=decide (u=0):=by
 by_cases h:u=0
 ·subst h;rfl
 ·have h2:¬ (0:Int)=u:=fun e=>h e.symm
  simp [h,h2]
theorem zero_dec (u:Int):decide ((0:Int)=u)=decide (u=0):=by
 by_cases h:u=0
 ·subst h;rfl
 ·have h2:¬ (0:Int)=u:=fun e=>h e.symm
  simp [h,h2]
theorem height_s (ps:TL) (v:Value) (k:Int) (w:World) (hT:jB w v ps) (hl:(ps.length:Int)≤1048576) :
  Calls Tryz.prog 84 #[v,.int .i64 k] w fun e w'=>e=.returned (.int .i64 (xZ (bks ps) k))∧w'=w:=by
 obtain ⟨a,cap,rfl,hr⟩:=zAI hT;have HR:=hid hr;have hbl:=yO ps;clear hr hT;go_enter Tryz.func84,Tryz.ntmps84;go_wp2
 go_loop [1,5] (fun c n=>∃ (x:Int) (m:Nat),c=.int .i64 x∧n=.int .i64 (m:Int)∧(m=0∨(0≤x∧(m:Int)+x≤(ps.length:Int)))∧Hid (xZ (bks ps) k=qU (bks ps) x m)) (fun c _=>(intOf c).toNat)
 case atStart=>exact ⟨k,0,rfl,rfl,Or.inl rfl,heightT_N _ _⟩
 case round=>
  obtain ⟨x,m,rfl,rfl,hm,HH⟩:=hrel;have HM:=hid hm
  by_cases hx:x=0
  ·subst hx;clear hm
   by_cases h0:ps.length=0
   ·have HF:Hid (xZ (bks ps) k=-1):=HH.out.trans (heightN_none (by rw [hbl];exact h0));have d0:((ps.length:Int) == 0)=true:=by simp [h0]
    clear h0;go_wp2;go_ret;exact ⟨jD HF.out.symm,rfl⟩
   ·have HF:Hid (xZ (bks ps) k=(m:Int)):=HH.out.trans (heightN_zero (by rw [hbl];omega));have d0:((ps.length:Int) == 0)=false:=by simp [h0]
    clear h0;go_wp2;go_ret;exact ⟨jD HF.out.symm,rfl⟩
  ·have d1:(x != 0)=true:=by simpa using hx
   cases hi:inB x 0 ((ps.length:Int) - 1) with
   | false=>
    have hn:=inB_not hi;have HF:Hid (xZ (bks ps) k=-1):=HH.out.trans (heightN_out (by rw [hbl];omega));clear hm hn hx;go_wp2_with (go_at_call 42;refine (yS _ _ _ _).mono ?_;rintro e w' ⟨rfl,rfl⟩;try rw [hi])
    go_ret;exact ⟨jD HF.out.symm,rfl⟩
   | true=>
    obtain ⟨p0,p1⟩:=zDF hi;obtain ⟨j,rfl⟩:=Int.eq_ofNat_of_zero_le p0;have hj:j < ps.length:=by omega
    have q1:(j:Int) < ps.length:=by omega
    obtain ⟨g,off,rfl,hg,hc⟩:=HR.out (by omega);have c0:=(hc j hj).1;have hmb:(m:Int)≤1048576:=by rcases hm with h | h <;> omega
    clear hc
    cases hp:inB ps[j].1.1.1 0 ((j:Int) - 1) with
    | false=>
     have hn:=inB_not hp;have HF:Hid (xZ (bks ps) k=-1):=HH.out.trans (heightN_bad (by omega) (fun h=>hn (by have h2:=h.2.2;rw [yCC hj] at h2;exact h2)));clear hm hn hx;go_wp2_with (go_at_call 42;refine (yS _ _ _ _).mono ?_;rintro e w' ⟨rfl,rfl⟩;first | rw [hi] | rw [hp])
     go_ret;exact ⟨jD HF.out.symm,rfl⟩
    | true=>
     obtain ⟨r0,r1⟩:=zDF hp
     have HF:Hid (xZ (bks ps) k=qU (bks ps) ps[j].1.1.1 (m+1)):=(by
      rw [HH.out,heightN_step ⟨by omega,by rw [hbl];exact hj,by rw [yCC hj];exact r0,by rw [yCC hj];exact r1⟩,yCC hj]:xZ (bks ps) k=qU (bks ps) ps[j].1.1.1 (m+1))
     clear hm hx;go_wp2_with (go_at_call 42;refine (yS _ _ _ _).mono ?_;rintro e w' ⟨rfl,rfl⟩;first | rw [hi] | rw [hp])
     go_round
     case rel=>exact ⟨ps[j].1.1.1,m+1,rfl,by go_num,Or.inr ⟨r0,by have:=HM.out;omega⟩,HF⟩
     case measure=>simp [intOf];omega
theorem extends_s (ps:TL) (v:Value) (k under:Int) (w:World) (hT:jB w v ps) (hl:(ps.length:Int)≤1048576) :
  Calls Tryz.prog 43 #[v,.int .i64 k,.int .i64 under] w fun e w'=>e=.returned (.bool (yBI (bks ps) k under))∧w'=w:=by
 have HT:=hid hT;obtain ⟨a,cap,rfl,hr⟩:=zAI hT;have HR:=hid hr;have hbl:=yO ps;clear hr hT
 cases hd:qH (bks ps) k with
 | none=>
  have hh:xZ (bks ps) k < 0:=by rw [heightT_none hd];omega
  have HF:Hid (yBI (bks ps) k under=false):=extT_none hd;clear hd;go_enter Tryz.func43,Tryz.ntmps43;go_wp2_with (go_at_call 84;refine (height_s ps _ k w HT.out hl).mono ?_;rintro e w' ⟨rfl,rfl⟩)
  go_ret;exact ⟨zL HF.out.symm,rfl⟩
 | some l=>
  have hh:¬ xZ (bks ps) k < 0:=by rw [heightT_some hd];omega
  have HE:Hid (yBI (bks ps) k under=extL l under):=extT_some hd;have HD:=hid hd;clear hd;go_enter Tryz.func43,Tryz.ntmps43;go_wp2_with (go_at_call 84;refine (height_s ps _ k w HT.out hl).mono ?_;rintro e w' ⟨rfl,rfl⟩)
  go_loop [1] (fun c=>∃ (x:Int) (lx:List Nat),c=.int .i64 x∧Hid (qH (bks ps) x=some lx)∧Hid (yBI (bks ps) k under=extL lx under)) (fun c=>(intOf c).toNat)
  case atStart=>exact ⟨k,l,rfl,HD,HE⟩
  case round=>
   obtain ⟨x,lx,rfl,HX,HL⟩:=hrel;obtain ⟨x0,x1⟩:=down_range HX.out;obtain ⟨j,rfl⟩:=Int.eq_ofNat_of_zero_le x0;have hj:j < ps.length:=by rw [hbl] at x1;omega
   by_cases hz:j=0
   ·subst hz
    have HF:Hid (yBI (bks ps) k under=decide (under=0)):=(by
     have h1:lx=[]:=by have:=HX.out;rw [show ((0:Nat):Int)=0 from rfl,down_zero (by rw [hbl];omega)] at this;exact (Option.some.inj this).symm
     rw [HL.out,h1,extL_nil]:yBI (bks ps) k under=decide (under=0))
    clear x0 x1;go_wp2;go_ret;exact ⟨zL (by rw [HF.out];first | exact zero_beq _ | exact zero_dec _),rfl⟩
   ·obtain ⟨hok,l',hl',rfl⟩:=down_some (by omega) HX.out;have p0:(0:Int) < (j:Int):=by omega
    by_cases hu:(j:Int)=under
    ·have HF:Hid (yBI (bks ps) k under=true):=HL.out.trans (extL_hit hu);have d0:((j:Int) != under)=false:=by simp [hu]
     have d1:((j:Int) == under)=true:=by simp [hu]
     clear hu hok;go_wp2;go_ret;exact ⟨zL HF.out.symm,rfl⟩
    ·have HF:Hid (yBI (bks ps) k under=extL l' under):=HL.out.trans (extL_miss hu);have d0:((j:Int) != under)=true:=by simpa using hu
     obtain ⟨g,off,rfl,hg,hc⟩:=HR.out (by omega);have c0:=(hc j hj).1;have q1:(j:Int) < ps.length:=by omega
     have HP:Hid (qH (bks ps) ps[j].1.1.1=some l'):=hid (by rw [← yCC hj];exact hl');have HM:Hid (ps[j].1.1.1≤(j:Int) - 1):=hid (by rw [← yCC hj];exact hok.2.2.2);clear hu hok hc hl' x1;go_wp2
     go_round
     case rel=>exact ⟨ps[j].1.1.1,l',rfl,HP,HF⟩
     case measure=>have:=HM.out;simp [intOf];omega
theorem infoC:(Tryz.prog.info? 108).map (fun i=>(i.zero,i.size,i.bytes))=some (some (.agg #[.string ByteArray.empty,.int .i64 0]),2,24):=by kernel_rfl
theorem run_append_none {P:Program} {t ty e:TypeId} {i:TypeInfo} (ht:P.underlying t=some (.slice e)) (hi:P.info? e=some i) (w:World) {base:Nat} {v:Value} {n:Nat} {xs:List Value} {m:Nat} (hown:w.ownsRow base e m v n xs) (c:Nat) :
  (Builtin.append_ #[t,t] ty #[v,.slice none 0 c]).run P w=.ok v w:=by
 obtain ⟨hl,⟨rfl,h0⟩ | ⟨g,cap,cur,rfl,hb,hh,hn,hc,hs,htk⟩⟩:=hown
 ·simp [Builtin.append_,run_underlying ht,sizeOf,typeInfo,hi,Builtin.lenOf,Builtin.firstCells]
 ·have:n≤cap:=by omega
  simp [Builtin.append_,run_underlying ht,sizeOf,typeInfo,hi,Builtin.lenOf,Builtin.firstCells,storeCells,this]
theorem flat_one {cs:CL}:∀ u∈kM cs,u.oneCell'=true:=by
 intro u hu;obtain ⟨c,_,hc⟩:=List.mem_flatMap.1 hu;simp at hc
 rcases hc with rfl | rfl <;> rfl
theorem yV (w:World) {ops:Array Oper} {rest:List Oper} {o:Oper} {a:Act} {Q:Exit→Act→World→Prop} (hgd:o.guard=none) (s x:Operand)
  (ho:o.op=.call { callee:=.builtin .append,args:=#[s,x],argTypes:=#[30,30] })
  (base:Nat) (v:Value) (xs:CL) (hs:a.eval s=v) (hown:w.ownsRow base 108 2 v xs.length (kM xs))
  (src:Value) (cs:CL) (hx:a.eval x=src) (hsrc:qQ w src cs) (h63:xs.length+cs.length≤4194304) (hbase:base≤w.heap.size)
  (h:∀ v' w',w'.ownsRow base 108 2 v' (xs ++ cs).length (kM (xs ++ cs))→w.grownBy w' v.ownBlock→wpList Tryz.prog ops Q rest (a.put o.dst v') w'):wpList Tryz.prog ops Q (o :: rest) a w:=by
 obtain ⟨i0,hi,hz0,hz1,hz2⟩:=info_parts infoC;obtain ⟨ad,cap,rfl,hr⟩:=hsrc
 cases ad with
 | none=>
  have h0:cs.length=0:=by
   rcases Nat.eq_zero_or_pos cs.length with h | h
   ·exact h
   ·obtain ⟨_,_,e,_⟩:=hr h;cases e
  obtain rfl:cs=[]:=List.eq_nil_of_length_eq_zero h0;refine wpList_plain hgd fun K' hK'=>?_
  have hrun:=run_append_none (ty:=o.type) Tryz.underlying30 hi w hown cap;unfold Oper.wp execOp;simp only [ho,resolve,invoke,builtin,Sem.run_bind,Sem.run_pure,Result.andThen_ok,List.map_toArray,List.map_cons,List.map_nil,hs,hx,List.length_nil,hrun];exact hK' _ _ (h v w (by simpa using hown) ⟨rfl,rfl,rfl,nl _,fun _ _ _=>rfl⟩)
 | some ad=>
  refine wpList_append_own _ hgd s x 30 ho base 108 i0 _ 2 24 Tryz.underlying30 hi hz0 hz1 hz2 rfl (by decide) v _ _ hs hown ad cs.length cap (kM cs) hx (flat_len cs) ?_ flat_one (by unfold maxLen;omega) (by omega) hbase fun v' w' h1 h2 _=>h v' w' (by rw [List.length_append,flat_append];exact h1) h2
  intro j u hj
  have hjl:j < cs.length * 2:=by
   rw [← flat_len];exact (List.getElem?_eq_some_iff.1 hj).1
  obtain ⟨g,off,rfl0,hg,hc⟩:=hr (by omega)
  cases rfl0
  have hp:(⟨g,off,none⟩:Addr).add j=⟨g,off+j,none⟩:=by unfold Addr.add;split <;> simp_all
  rw [hp];have hf:=flat_at cs (j / 2) (by omega);have hcc:=hc (j / 2) (by omega)
  by_cases hev:j % 2=0
  ·have e:j=j / 2 * 2:=by omega
   rw [← e] at hf hcc;rw [hcc.1,← hf.1,hj]
  ·have e:j=j / 2 * 2+1:=by omega
   have e':off+j=off+j / 2 * 2+1:=by omega
   rw [← e] at hf;rw [e',hcc.2,← hf.2,hj]
theorem one_cell (W:World) (c:ByteArray × Int) (t:TypeId):qQ (W.alloc (.cells #[.string c.1,.int .i64 c.2] t)) (.slice (some ⟨W.heap.size,0,none⟩) 1 1) [c]:=by
 refine ⟨_,1,rfl,fun _=>⟨W.heap.size,0,rfl,by simp,fun i hi=>?_⟩⟩;have:i=0:=by simp at hi;omega
 subst this;simp
theorem take_yes {cs:CL} {p:ByteArray × Int→Bool} {k:Nat} (h:k < cs.length) (hp:p cs[k]=true):(cs.take (k+1)).filter p=(cs.take k).filter p ++ [cs[k]]:=by
 rw [List.take_add_one,List.getElem?_eq_getElem h,List.filter_append];simp [hp]
theorem take_no {cs:CL} {p:ByteArray × Int→Bool} {k:Nat} (h:k < cs.length) (hp:p cs[k]=false):(cs.take (k+1)).filter p=(cs.take k).filter p:=by
 rw [List.take_add_one,List.getElem?_eq_getElem h,List.filter_append];simp [hp]
theorem take_len {cs:CL} {p:ByteArray × Int→Bool} {k:Nat} (h:k≤cs.length):((cs.take k).filter p).length≤k:=by
 have:=List.length_filter_le p (cs.take k);rw [List.length_take] at this;omega
theorem put_s (cs:CL) (v:Value) (x:ByteArray × Int) (w:World) (hv:qQ w v cs) (hl:(cs.length:Int)≤1048576) :
  Calls Tryz.prog 178 #[v,cellV x] w fun e w'=>∃ v',e=.returned v'∧w'.ownsRow w.heap.size 108 2 v' (putC cs x).length (kM (putC cs x))∧Below w.heap.size w w':=by
 obtain ⟨key,num⟩:=x;have hbw:Below w.heap.size w (w.alloc (Obj.cells #[Value.string key,Value.int IntKind.i64 num] 108)):=ba (br _ _) _;obtain ⟨a,cap,rfl,hr⟩:=hv;have HR:=hid hr;have HB:=hid hbw;clear hr hbw;unfold cellV;go_enter Tryz.func178,Tryz.ntmps178;go_wp2;obtain ⟨w1,hw1⟩:∃ w1,w1=w.alloc (Obj.cells #[Value.string key,Value.int IntKind.i64 num] 108):=⟨_,rfl⟩;have hw1s:w1.heap.size=w.heap.size+1:=by rw [hw1];simp
 have HW:=hid hw1;rw [← hw1];clear hw1
 go_loopw [5,6] (fun o i wr=>∃ k:Nat,k≤cs.length∧i=.int .i64 (k:Int)∧wr.ownsRow w1.heap.size 108 2 o ((cs.take k).filter fun c=>kLt c.1 key).length (kM ((cs.take k).filter fun c=>kLt c.1 key))∧Below w1.heap.size w1 wr) (fun _ i _=>cs.length - (intOf i).toNat)
 case atStart=>
  refine ⟨0,Nat.zero_le _,rfl,?_,ba (br _ _) _⟩;have:=yH w1 108 2;rw [hw1s] at this ⊢;exact this
 case round=>
  obtain ⟨k,hk,rfl,hown,hbel⟩:=hrel;have HO:=hid hown;have hfl:=take_len (p:=fun c=>kLt c.1 key) hk;clear hown
  by_cases hlt:(k:Int) < cs.length
  ·have hkn:k < cs.length:=by omega
   obtain ⟨g,off,rfl,hg,hc⟩:=HR.out (by omega);have q0:(0:Int)≤(k:Int):=by omega
   have hne:=yX wr;have B1:Below w.heap.size w w1:=by rw [HW.out];exact HB.out
   have hx0:w1.cell? ⟨w.heap.size,0,none⟩=some (.string key):=by rw [HW.out];simp
   have c0:∀ x:Bw wr,x.to.cell? ⟨g,off+k * 2,none⟩=some (.string cs[k].1):=fun x=>by rw [(bt B1 (bt hbel x.below)).cell (by exact hg)];exact (hc k hkn).1
   have c1:∀ x:Bw wr,x.to.cell? ⟨g,off+k * 2+1,none⟩=some (.int .i64 cs[k].2):=fun x=>by rw [(bt B1 (bt hbel x.below)).cell (by exact hg)];exact (hc k hkn).2
   have c2:∀ x:Bw wr,x.to.cell? ⟨w.heap.size,0,none⟩=some (.string key):=fun x=>by rw [(bt hbel x.below).cell (by simp [hw1s])];exact hx0
   clear hc hx0 B1
   cases hlb:Op.bytesLess cs[k].1.toList key.toList with
   | false=>
    have HT:Hid (((cs.take (k+1)).filter fun c=>kLt c.1 key)=_):=take_no hkn hlb;go_wp2;refine rb ?_;repeat (go_big_quiet_step (fail))
    refine wpQuiet_nil ?_;intro _ hw';obtain ⟨x,rfl⟩:=hw';go_wp2
    go_roundw
    case rel=>exact ⟨k+1,by omega,by go_num,by rw [HT.out];exact zS HO.out x.below,bt hbel x.below⟩
    case measure=>simp [intOf];omega
   | true=>
    have HT:Hid (((cs.take (k+1)).filter fun c=>kLt c.1 key)=_):=take_yes hkn hlb;go_wp2;refine rb ?_;repeat (go_big_quiet_step (fail))
    refine wpQuiet_nil ?_;intro _ hw';obtain ⟨x,rfl⟩:=hw';have hxs:=(bt hbel x.below).size;have HO1:Hid (x.to.ownsRow w1.heap.size 108 2 _ ((cs.take k).filter fun c=>kLt c.1 key).length (kM ((cs.take k).filter fun c=>kLt c.1 key))):=zS HO.out x.below;go_wp2_with (at_builtin;refine yV _ rfl _ _ rfl w1.heap.size _ ((cs.take k).filter fun c=>kLt c.1 key) rfl (World.ownsRow.alloc HO1.out _) _ [cs[k]] rfl (one_cell _ cs[k] _) (by simp;omega) (by simp;omega) ?_;intro v' w3 hown' hgrow)
    go_roundw
    case rel=>exact ⟨k+1,by omega,by go_num,by rw [HT.out];exact hown',(ba (bt hbel x.below) _).grown hgrow (by simp;omega) fun b hb=>(HO1.out.lt b hb).1⟩
    case measure=>simp [intOf];omega
  ·have hkl:k=cs.length:=by omega
   have HO1:Hid (wr.ownsRow w1.heap.size 108 2 u5 (cs.filter fun c=>kLt c.1 key).length (kM (cs.filter fun c=>kLt c.1 key))):=by have:=HO.out;rw [hkl,List.take_length] at this;exact this
   have hbs:=hbel.size;have hfl2:(cs.filter fun c=>kLt c.1 key).length≤cs.length:=List.length_filter_le _ _;have B1:Below w.heap.size w w1:=by rw [HW.out];exact HB.out
   have hx0:wr.cell? ⟨w.heap.size,0,none⟩=some (.string key):=by rw [hbel.cell (by simp [hw1s]),HW.out];simp
   have hx1:wr.cell? ⟨w.heap.size,1,none⟩=some (.int .i64 num):=by rw [hbel.cell (by simp [hw1s]),HW.out];simp
   clear hkl HO hfl;go_wp2_with (at_builtin;refine yV _ rfl _ _ rfl w1.heap.size _ (cs.filter fun c=>kLt c.1 key) rfl (World.ownsRow.alloc HO1.out _) _ [(key,num)] rfl (one_cell _ (key,num) _) (by simp;omega) (by simp;omega) ?_;intro v' w3 hown' hgrow)
   have B3:Below w1.heap.size w1 w3:=(ba hbel _).grown hgrow (by simp;omega) fun b hb=>(HO1.out.lt b hb).1
   have HO3:=hid hown';clear hown' hgrow hx0 hx1 B1 HO1 hbel hbs
   go_loopw [5,7] (fun o i wr=>∃ k:Nat,k≤cs.length∧i=.int .i64 (k:Int)∧wr.ownsRow w1.heap.size 108 2 o ((cs.filter fun c=>kLt c.1 key) ++ (key,num) :: (cs.take k).filter fun c=>kLt key c.1).length (kM ((cs.filter fun c=>kLt c.1 key) ++ (key,num) :: (cs.take k).filter fun c=>kLt key c.1))∧Below w1.heap.size w1 wr) (fun _ i _=>cs.length - (intOf i).toNat)
   case atStart=>exact ⟨0,Nat.zero_le _,rfl,HO3.out,B3⟩
   case round=>
    obtain ⟨k,hk,rfl,hown,hbel⟩:=hrel;have HO:=hid hown;have hfl:=take_len (p:=fun c=>kLt key c.1) hk;clear hown
    by_cases hlt:(k:Int) < cs.length
    ·have hkn:k < cs.length:=by omega
     obtain ⟨g,off,rfl,hg,hc⟩:=HR.out (by omega);have q0:(0:Int)≤(k:Int):=by omega
     have hne:=yX wr;have B1:Below w.heap.size w w1:=by rw [HW.out];exact HB.out
     have hx0:w1.cell? ⟨w.heap.size,0,none⟩=some (.string key):=by rw [HW.out];simp
     have c0:∀ x:Bw wr,x.to.cell? ⟨g,off+k * 2,none⟩=some (.string cs[k].1):=fun x=>by rw [(bt B1 (bt hbel x.below)).cell (by exact hg)];exact (hc k hkn).1
     have c1:∀ x:Bw wr,x.to.cell? ⟨g,off+k * 2+1,none⟩=some (.int .i64 cs[k].2):=fun x=>by rw [(bt B1 (bt hbel x.below)).cell (by exact hg)];exact (hc k hkn).2
     have c2:∀ x:Bw wr,x.to.cell? ⟨w.heap.size,0,none⟩=some (.string key):=fun x=>by rw [(bt hbel x.below).cell (by simp [hw1s])];exact hx0
     clear hc hx0 B1
     cases hgb:kLt key cs[k].1 with
     | false=>
      cases hlb:Op.bytesLess cs[k].1.toList key.toList with
      | true=>
       have HT:Hid (((cs.take (k+1)).filter fun c=>kLt key c.1)=_):=take_no hkn hgb;go_wp2;refine rb ?_;repeat (go_big_quiet_step (fail))
       refine wpQuiet_nil ?_;intro _ hw';obtain ⟨x,rfl⟩:=hw';go_wp2
       go_roundw
       case rel=>exact ⟨k+1,by omega,by go_num,by rw [HT.out];exact zS HO.out x.below,bt hbel x.below⟩
       case measure=>simp [intOf];omega
      | false=>
       have heq:(cs[k].1.toList == key.toList)=true:=ba_eq (kLt_tri hlb hgb);have HT:Hid (((cs.take (k+1)).filter fun c=>kLt key c.1)=_):=take_no hkn hgb;go_wp2;refine rb ?_;repeat (go_big_quiet_step (fail))
       refine wpQuiet_nil ?_;intro _ hw';obtain ⟨x,rfl⟩:=hw';go_wp2
       go_roundw
       case rel=>exact ⟨k+1,by omega,by go_num,by rw [HT.out];exact zS HO.out x.below,bt hbel x.below⟩
       case measure=>simp [intOf];omega
     | true=>
      have HT:Hid (((cs.take (k+1)).filter fun c=>kLt key c.1)=_):=take_yes hkn hgb;have hlb:Op.bytesLess cs[k].1.toList key.toList=false:=kLt_asym hgb;have heq:(cs[k].1.toList == key.toList)=false:=ba_ne (kLt_ne hgb).symm;go_wp2;refine rb ?_;repeat (go_big_quiet_step (fail))
      refine wpQuiet_nil ?_;intro _ hw';obtain ⟨x,rfl⟩:=hw';have hxs:=(bt hbel x.below).size;have HO1:Hid (x.to.ownsRow w1.heap.size 108 2 u5 ((cs.filter fun c=>kLt c.1 key) ++ (key,num) :: (cs.take k).filter fun c=>kLt key c.1).length (kM ((cs.filter fun c=>kLt c.1 key) ++ (key,num) :: (cs.take k).filter fun c=>kLt key c.1))):=zS HO.out x.below;have hfl3:((cs.filter fun c=>kLt c.1 key) ++ (key,num) :: (cs.take k).filter fun c=>kLt key c.1).length≤2097153:=by simp;omega
      go_wp2_with (at_builtin;refine yV _ rfl _ _ rfl w1.heap.size _ ((cs.filter fun c=>kLt c.1 key) ++ (key,num) :: (cs.take k).filter fun c=>kLt key c.1) rfl (World.ownsRow.alloc HO1.out _) _ [cs[k]] rfl (one_cell _ cs[k] _) (by simp only [List.length_singleton];omega) (by simp;omega) ?_;intro v' w3 hown' hgrow)
      go_roundw
      case rel=>exact ⟨k+1,by omega,by go_num,by rw [HT.out];simpa using hown',(ba (bt hbel x.below) _).grown hgrow (by simp;omega) fun b hb=>(HO1.out.lt b hb).1⟩
      case measure=>simp [intOf];omega
    ·have hkl:k=cs.length:=by omega
     have HK:=hid hkl;have B1:Below w.heap.size w w1:=by rw [HW.out];exact HB.out
     clear hkl;go_wp2;go_ret;refine ⟨_,rfl,zN (base:=w1.heap.size) ?_ (by omega),bt B1 hbel⟩;have:=HO.out;rw [HK.out,List.take_length] at this;exact this
theorem cellsOk_s (cs:CL) (v:Value) (w:World) (hv:qQ w v cs) (hl:(cs.length:Int)≤1048576) (hall:∀ c∈cs,(c.1.size:Int)≤1048576) :
  Calls Tryz.prog 175 #[v] w fun e w'=>e=.returned (.bool (kS cs))∧Below w.heap.size w w':=by
 obtain ⟨a,cap,rfl,hr⟩:=hv;have HR:=hid hr;have HA:=hid hall;clear hr hall;go_enter Tryz.func175,Tryz.ntmps175;go_wp2
 go_loopw [3] (fun i wr=>∃ k:Nat,k≤cs.length∧i=.int .i64 (k:Int)∧Hid (okTo cs k)∧Below w.heap.size w wr) (fun i _=>cs.length - (intOf i).toNat)
 case atStart=>exact ⟨0,Nat.zero_le _,rfl,fun i hi=>by omega,br _ _⟩
 case round=>
  obtain ⟨k,hk,rfl,HO,hbel⟩:=hrel
  by_cases hlt:(k:Int) < cs.length
  ·have hkn:k < cs.length:=by omega
   obtain ⟨g,off,rfl,hg,hc⟩:=HR.out (by omega);have hne:=yX wr;have hsz:=HA.out cs[k] (List.getElem_mem hkn);have c0:∀ x:Bw wr,x.to.cell? ⟨g,off+k * 2,none⟩=some (.string cs[k].1):=fun x=>by rw [(bt hbel x.below).cell (by exact hg)];exact (hc k hkn).1
   have c1:∀ x:Bw wr,x.to.cell? ⟨g,off+k * 2+1,none⟩=some (.int .i64 cs[k].2):=fun x=>by rw [(bt hbel x.below).cell (by exact hg)];exact (hc k hkn).2
   have q0:(0:Int)≤(k:Int):=by omega
   cases hkb:zIJ cs[k].1 with
   | false=>
    have HN:Hid (okAt cs k=false):=by
     cases k with
     | zero=>rw [yFC hkn,hkb];rfl
     | succ j=>rw [zGD hkn,hkb];rfl
    clear hc;go_wp2;refine rb ?_;repeat (go_big_quiet_step (first | refine zI (key_s _ _ hsz) | refine zI (yS _ _ _ _)))
    refine wpQuiet_nil ?_;intro _ hw';obtain ⟨x,rfl⟩:=hw';go_wp2;go_ret;exact ⟨zL (cellsB_no hkn HN.out).symm,bt hbel x.below⟩
   | true=>
    cases hnb:inB cs[k].2 0 1000000000 with
    | false=>
     have HN:Hid (okAt cs k=false):=by
      cases k with
      | zero=>rw [yFC hkn,hkb,zEH,hnb];rfl
      | succ j=>rw [zGD hkn,hkb,zEH,hnb];rfl
     clear hc;go_wp2;refine rb ?_;repeat (go_big_quiet_step (first | refine zI (key_s _ _ hsz) | refine zI (yS _ _ _ _)))
     refine wpQuiet_nil ?_;intro _ hw';obtain ⟨x,rfl⟩:=hw';go_wp2;go_ret;exact ⟨zL (cellsB_no hkn HN.out).symm,bt hbel x.below⟩
    | true=>
     cases k with
     | zero=>
      have HN:Hid (okAt cs 0=true):=by rw [yFC hkn,hkb,zEH,hnb];rfl
      have c0':∀ x:Bw wr,x.to.cell? ⟨g,off,none⟩=some (.string cs[0].1):=fun x=>by simpa using c0 x
      have c1':∀ x:Bw wr,x.to.cell? ⟨g,off+1,none⟩=some (.int .i64 cs[0].2):=fun x=>by simpa using c1 x
      have q1:(0:Int) < (cs.length:Int):=by omega
      clear hc;go_wp2;refine rb ?_;repeat (go_big_quiet_step (first | refine zI (key_s _ _ hsz) | refine zI (yS _ _ _ _)))
      refine wpQuiet_nil ?_;intro _ hw';obtain ⟨x,rfl⟩:=hw';go_wp2
      go_roundw
      case rel=>exact ⟨1,by omega,by go_num,okTo_next HO.out HN.out,bt hbel x.below⟩
      case measure=>simp [intOf];omega
     | succ j=>
      have c2:∀ x:Bw wr,x.to.cell? ⟨g,off+j * 2,none⟩=some (.string cs[j].1):=fun x=>by rw [(bt hbel x.below).cell (by exact hg)];exact (hc j (by omega)).1
      have q1:((j:Int)+1) < (cs.length:Int):=by omega
      have q2:(0:Int)≤(j:Int):=by omega
      cases hlb:Op.bytesLess cs[j].1.toList cs[j+1].1.toList with
      | false=>
       have HN:Hid (okAt cs (j+1)=false):=by rw [zGD hkn,hkb,zEH,hnb,hlb];rfl
       clear hc;go_wp2;refine rb ?_;repeat (go_big_quiet_step (first | refine zI (key_s _ _ hsz) | refine zI (yS _ _ _ _)))
       refine wpQuiet_nil ?_;intro _ hw';obtain ⟨x,rfl⟩:=hw';go_wp2;go_ret;exact ⟨zL (cellsB_no hkn HN.out).symm,bt hbel x.below⟩
      | true=>
       have HN:Hid (okAt cs (j+1)=true):=by rw [zGD hkn,hkb,zEH,hnb,hlb];rfl
       clear hc;go_wp2;refine rb ?_;repeat (go_big_quiet_step (first | refine zI (key_s _ _ hsz) | refine zI (yS _ _ _ _)))
       refine wpQuiet_nil ?_;intro _ hw';obtain ⟨x,rfl⟩:=hw';go_wp2
       go_roundw
       case rel=>exact ⟨j+1+1,by omega,by go_num,okTo_next HO.out HN.out,bt hbel x.below⟩
       case measure=>simp [intOf];omega
  ·have hkl:k=cs.length:=by omega
   have HK:=hid hkl;clear hkl;go_wp2;go_ret;have hot:=HO.out;rw [HK.out] at hot;exact ⟨zL (by rw [cellsB_all hot];simp;omega),hbel⟩
theorem undoOf_s (cs:CL) (v:Value) (key:ByteArray) (w:World) (hv:qQ w v cs) (hl:(cs.length:Int)≤1048576) :
  Calls Tryz.prog 135 #[v,.string key] w fun e w'=>e=.returned (undoV (yDB cs key))∧Below w.heap.size w w':=by
 have HV:=hid hv;obtain ⟨a,cap,rfl,hr⟩:=hv;have HR:=hid hr;clear hr;go_enter Tryz.func135,Tryz.ntmps135;go_wp2_with fail
 have B1:Below w.heap.size w (w.alloc (.cells #[.string ByteArray.empty,.bool false,.int .i64 0] 110)):=ba (br _ _) _;have HK:Hid ((w.alloc (.cells #[.string ByteArray.empty,.bool false,.int .i64 0] 110)).heap[w.heap.size]?=some (.cells #[.string ByteArray.empty,.bool false,.int .i64 0] 110 (0,0))):=heap_alloc_new w _;refine (cellAt_s cs _ key _ (HV.out.below B1) hl).mono ?_;rintro e w2 ⟨rfl,rfl⟩;have HB1:=hid B1;clear B1
 cases hh:zBB cs key with
 | false=>
  have hca:cellAt cs key=-1:=cellAt_no hh;have HE:Hid (yDB cs key=(key,false,0)):=undo_no hh;rw [hca];go_wp2;refine bodyPost_ret (v:=.agg #[.string key,.bool false,.int .i64 0]) (by simp [results,Tryz.results135,go_sem]) rfl ?_;refine ⟨?_,?_⟩
  ·rw [HE.out];rfl
  ·exact ba (br _ _) _
 | true=>
  obtain ⟨j,hj,hca,hu⟩:=undo_at hh;have HE:=hid hu;rw [hca];clear hu hca;obtain ⟨g,off,rfl,hg,hc⟩:=HR.out (by omega);have q0:(0:Int)≤(j:Int):=by omega
  have q1:(j:Int) < cs.length:=by omega
  have c1:(w.alloc (.cells #[.string ByteArray.empty,.bool false,.int .i64 0] 110)).cell? ⟨g,off+j * 2+1,none⟩=some (.int .i64 cs[j].2):=by rw [HB1.out.cell (by exact hg)];exact (hc j hj).2
  clear hc;go_wp2;refine bodyPost_ret (v:=.agg #[.string key,.bool true,.int .i64 cs[j].2]) (by simp [results,Tryz.results135,go_sem]) rfl ?_;refine ⟨?_,?_⟩
  ·rw [HE.out];rfl
  ·exact ba (br _ _) _
theorem undone_s (cs:CL) (v:Value) (u:UN) (w:World) (hv:qQ w v cs) (hok:okL cs) (hk:(u.1.size:Int)≤1048576) :
  Calls Tryz.prog 174 #[v,undoV u] w fun e w'=>∃ v',e=.returned v'∧w'.ownsRow w.heap.size 108 2 v' (jK cs u).length (kM (jK cs u))∧Below w.heap.size w w':=by
 obtain ⟨key,had,num⟩:=u;have hl:=hok.1;have HL:=hid hok;have HV:=hid hv;obtain ⟨a,cap,rfl,hr⟩:=hv;have HR:=hid hr;clear hr hok;simp only at hk;unfold undoV;go_enter Tryz.func174,Tryz.ntmps174;go_wp2_with fail
 have B1:Below w.heap.size w (w.alloc (Obj.cells #[Value.string key,Value.bool had,Value.int IntKind.i64 num] 110)):=ba (br _ _) _;refine (cellsOk_s cs _ _ (HV.out.below B1) hl HL.out.2).mono ?_;rintro e w2 ⟨rfl,hb2⟩;have HB2:Hid (Below w.heap.size w w2):=bt B1 hb2;have k0:w2.cell? ⟨w.heap.size,0,none⟩=some (.string key):=by rw [hb2.cell (by simp)];simp
 have k1:w2.cell? ⟨w.heap.size,1,none⟩=some (.bool had):=by rw [hb2.cell (by simp)];simp
 have k2:w2.cell? ⟨w.heap.size,2,none⟩=some (.int .i64 num):=by rw [hb2.cell (by simp)];simp
 have hlt2:w.heap.size < w2.heap.size:=by have:=hb2.size;simp at this;omega
 clear B1 hb2
 cases hcb:kS cs with
 | false=>
  have HE:Hid (jK cs (key,had,num)=cs):=undone_bad hcb;have HV4:Hid (qQ (w2.alloc (.cells #[] 108)) (.slice a cs.length cap) cs):=(HV.out.below HB2.out).below (ba (br _ _) _);have HO4:Hid ((w2.alloc (.cells #[] 108)).ownsRow w2.heap.size 108 2 (.slice (some ⟨w2.heap.size,0,none⟩) 0 0) ([]:CL).length (kM [])):=yH w2 108 2;go_wp2_with (at_builtin;refine yV _ rfl _ _ rfl w2.heap.size _ [] rfl HO4.out _ cs rfl HV4.out (by simp;omega) (by simp) ?_;intro v5 w5 hown5 hgrow5)
  have B5:Below w2.heap.size w2 w5:=(ba (br _ _) _).grown hgrow5 (by simp) fun b hb=>(HO4.out.lt b hb).1
  have HO5:Hid (w5.ownsRow w2.heap.size 108 2 v5 cs.length (kM cs)):=hid (by simpa using hown5);clear hown5 hgrow5
  try go_wp2
  go_ret;exact ⟨v5,rfl,by rw [HE.out];exact zN HO5.out HB2.out.size,bt HB2.out B5⟩
 | true=>
  have HCB:=hid hcb;clear hcb;go_wp2_with fail
  refine (key_s key _ hk).mono ?_;rintro e w2 ⟨rfl,rfl⟩
  cases hkb:zIJ key with
  | false=>
   have HE:Hid (jK cs (key,had,num)=cs):=undone_not (by unfold zHH;simp only;rw [hkb];rfl);have HV4:Hid (qQ (w2.alloc (.cells #[] 108)) (.slice a cs.length cap) cs):=(HV.out.below HB2.out).below (ba (br _ _) _);have HO4:Hid ((w2.alloc (.cells #[] 108)).ownsRow w2.heap.size 108 2 (.slice (some ⟨w2.heap.size,0,none⟩) 0 0) ([]:CL).length (kM [])):=yH w2 108 2;go_wp2_with (at_builtin;refine yV _ rfl _ _ rfl w2.heap.size _ [] rfl HO4.out _ cs rfl HV4.out (by simp;omega) (by simp) ?_;intro v5 w5 hown5 hgrow5)
   have B5:Below w2.heap.size w2 w5:=(ba (br _ _) _).grown hgrow5 (by simp) fun b hb=>(HO4.out.lt b hb).1
   have HO5:Hid (w5.ownsRow w2.heap.size 108 2 v5 cs.length (kM cs)):=hid (by simpa using hown5);clear hown5 hgrow5
   try go_wp2
   go_ret;exact ⟨v5,rfl,by rw [HE.out];exact zN HO5.out HB2.out.size,bt HB2.out B5⟩
  | true=>
   go_wp2_with fail
   refine (yS num 0 1000000000 _).mono ?_;rintro e w2 ⟨rfl,rfl⟩
   cases hnb:inB num 0 1000000000 with
   | false=>
    have HE:Hid (jK cs (key,had,num)=cs):=undone_not (by unfold zHH zEH;simp only;rw [hkb,hnb];rfl);have HV4:Hid (qQ (w2.alloc (.cells #[] 108)) (.slice a cs.length cap) cs):=(HV.out.below HB2.out).below (ba (br _ _) _);have HO4:Hid ((w2.alloc (.cells #[] 108)).ownsRow w2.heap.size 108 2 (.slice (some ⟨w2.heap.size,0,none⟩) 0 0) ([]:CL).length (kM [])):=yH w2 108 2;go_wp2_with (at_builtin;refine yV _ rfl _ _ rfl w2.heap.size _ [] rfl HO4.out _ cs rfl HV4.out (by simp;omega) (by simp) ?_;intro v5 w5 hown5 hgrow5)
    have B5:Below w2.heap.size w2 w5:=(ba (br _ _) _).grown hgrow5 (by simp) fun b hb=>(HO4.out.lt b hb).1
    have HO5:Hid (w5.ownsRow w2.heap.size 108 2 v5 cs.length (kM cs)):=hid (by simpa using hown5);clear hown5 hgrow5
    try go_wp2
    go_ret;exact ⟨v5,rfl,by rw [HE.out];exact zN HO5.out HB2.out.size,bt HB2.out B5⟩
   | true=>
    have HE:Hid (jK cs (key,had,num)=backC cs (key,had,num)):=undone_yes HCB.out (by unfold zHH zEH;simp only;rw [hkb,hnb];rfl);clear hkb hnb
    cases had with
    | true=>
     have HP:Hid (backC cs (key,true,num)=putC cs (key,num)):=back_true cs key num;go_wp2_with fail
     refine (put_s cs _ (key,num) _ (HV.out.below HB2.out) hl).mono ?_;rintro e w6 ⟨v6,rfl,hown6,hb6⟩;have HO6:=hid hown6;clear hown6;go_wp2;go_ret;exact ⟨v6,rfl,by rw [HE.out,HP.out];exact zN HO6.out HB2.out.size,bt HB2.out hb6⟩
    | false=>
     have HP:Hid (backC cs (key,false,num)=cs.filter fun c=>decide (c.1 ≠ key)):=back_false cs key num;have HC:Hid (∀ w',Below w2.heap.size w2 w'→w'.cell? ⟨w.heap.size,0,none⟩=some (.string key)):=fun w' hb=>by rw [hb.cell (by exact hlt2)];exact k0
     go_wp2;clear k0 k2
     go_loopw [5,6] (fun o i wr=>∃ k:Nat,k≤cs.length∧i=.int .i64 (k:Int)∧wr.ownsRow w2.heap.size 108 2 o ((cs.take k).filter fun c=>decide (c.1 ≠ key)).length (kM ((cs.take k).filter fun c=>decide (c.1 ≠ key)))∧Below w2.heap.size w2 wr) (fun _ i _=>cs.length - (intOf i).toNat)
     case atStart=>exact ⟨0,Nat.zero_le _,rfl,yH w2 108 2,ba (br _ _) _⟩
     case round=>
      obtain ⟨k,hkk,rfl,hown,hbel⟩:=hrel;have HO:=hid hown;have hfl:=take_len (p:=fun c=>decide (c.1 ≠ key)) hkk;clear hown
      by_cases hlt:(k:Int) < cs.length
      ·have hkn:k < cs.length:=by omega
       obtain ⟨g,off,rfl,hg,hc⟩:=HR.out (by omega);have q0:(0:Int)≤(k:Int):=by omega
       have hne:=yX wr;have c0:∀ x:Bw wr,x.to.cell? ⟨g,off+k * 2,none⟩=some (.string cs[k].1):=fun x=>by rw [(bt HB2.out (bt hbel x.below)).cell (by exact hg)];exact (hc k hkn).1
       have c1:∀ x:Bw wr,x.to.cell? ⟨g,off+k * 2+1,none⟩=some (.int .i64 cs[k].2):=fun x=>by rw [(bt HB2.out (bt hbel x.below)).cell (by exact hg)];exact (hc k hkn).2
       have c2:∀ x:Bw wr,x.to.cell? ⟨w.heap.size,0,none⟩=some (.string key):=fun x=>HC.out _ (bt hbel x.below)
       clear hc
       by_cases hlb:cs[k].1=key
       ·have heq:=ba_eq hlb;have HT:Hid (((cs.take (k+1)).filter fun c=>decide (c.1 ≠ key))=_):=take_no (p:=fun c=>decide (c.1 ≠ key)) hkn (by simp [hlb]);clear hlb;go_wp2;refine rb ?_;repeat (go_big_quiet_step (fail))
        refine wpQuiet_nil ?_;intro _ hw';obtain ⟨x,rfl⟩:=hw';go_wp2
        go_roundw
        case rel=>exact ⟨k+1,by omega,by go_num,by rw [HT.out];exact zS HO.out x.below,bt hbel x.below⟩
        case measure=>simp [intOf];omega
       ·have heq:=ba_ne hlb;have HT:Hid (((cs.take (k+1)).filter fun c=>decide (c.1 ≠ key))=_):=take_yes (p:=fun c=>decide (c.1 ≠ key)) hkn (by simp [hlb]);clear hlb;go_wp2;refine rb ?_;repeat (go_big_quiet_step (fail))
        refine wpQuiet_nil ?_;intro _ hw';obtain ⟨x,rfl⟩:=hw';have hxs:=(bt hbel x.below).size;have HO1:Hid (x.to.ownsRow w2.heap.size 108 2 _ ((cs.take k).filter fun c=>decide (c.1 ≠ key)).length (kM ((cs.take k).filter fun c=>decide (c.1 ≠ key)))):=zS HO.out x.below;go_wp2_with (at_builtin;refine yV _ rfl _ _ rfl w2.heap.size _ ((cs.take k).filter fun c=>decide (c.1 ≠ key)) rfl (World.ownsRow.alloc HO1.out _) _ [cs[k]] rfl (one_cell _ cs[k] _) (by simp only [List.length_singleton];omega) (by simp;omega) ?_;intro v' w3 hown' hgrow)
        go_roundw
        case rel=>exact ⟨k+1,by omega,by go_num,by rw [HT.out];exact hown',(ba (bt hbel x.below) _).grown hgrow (by simp;omega) fun b hb=>(HO1.out.lt b hb).1⟩
        case measure=>simp [intOf];omega
      ·have hkl:k=cs.length:=by omega
       have HO1:Hid (wr.ownsRow w2.heap.size 108 2 u5 (cs.filter fun c=>decide (c.1 ≠ key)).length (kM (cs.filter fun c=>decide (c.1 ≠ key)))):=by have:=HO.out;rw [hkl,List.take_length] at this;exact this
       clear hkl HO hfl;go_wp2;go_ret;exact ⟨_,rfl,by rw [HE.out,HP.out];exact zN HO1.out HB2.out.size,bt HB2.out hbel⟩
theorem undoneAll_s (cs:CL) (us:List UN) (v u:Value) (w:World) (hv:qQ w v cs) (hu:yM w u 3 kK us) (hok:okL cs) (hl:(us.length:Int)≤1048576) (hall:∀ x∈us,(x.1.size:Int)≤1048576) :
  Calls Tryz.prog 132 #[v,u] w fun e w'=>∃ v',e=.returned v'∧w'.ownsRow w.heap.size 108 2 v' (xY cs us).length (kM (xY cs us))∧Below w.heap.size w w':=by
 have HV:=hid hv;have HL:=hid hok;have HA:=hid hall;have h1:=hok.1;have HV0:Hid (qQ (w.alloc (.cells #[] 108)) v cs):=hv.below (ba (br _ _) _);have HO0:Hid ((w.alloc (.cells #[] 108)).ownsRow w.heap.size 108 2 (.slice (some ⟨w.heap.size,0,none⟩) 0 0) ([]:CL).length (kM [])):=yH w 108 2;obtain ⟨a,cap,rfl,_⟩:=hv;obtain ⟨b,bcap,rfl,hr⟩:=hu;have HR:=hid hr;clear hall hr hok;go_enter Tryz.func132,Tryz.ntmps132;go_wp2_with (at_builtin;refine yV _ rfl _ _ rfl w.heap.size _ [] rfl HO0.out _ cs rfl HV0.out (by simp;omega) (by simp) ?_;intro v0 w0 hown0 hgrow0)
 have B0:Below w.heap.size w w0:=(ba (br _ _) _).grown hgrow0 (by simp) fun b hb=>(HO0.out.lt b hb).1
 have hs0:=B0.size;have HO1:Hid (w0.ownsRow w.heap.size 108 2 v0 cs.length (kM cs)):=hid (by simpa using hown0);have HB0:=hid B0;clear hown0 hgrow0 HO0 HV0 B0
 go_loopw [5,6] (fun o i wr=>∃ k:Nat,k≤us.length∧i=.int .i64 ((k:Int) - 1)∧wr.ownsRow w.heap.size 108 2 o (xY cs (us.drop k)).length (kM (xY cs (us.drop k)))∧Below w.heap.size w wr) (fun _ i _=>(intOf i+1).toNat)
 case atStart=>exact ⟨us.length,nl _,rfl,by rw [List.drop_length];exact HO1.out,HB0.out⟩
 case round=>
  obtain ⟨k,hk,rfl,hown,hbel⟩:=hrel;have HO:=hid hown;have HB:=hid hbel;have hbs:=hbel.size;clear hown hbel
  cases k with
  | zero=>
   rw [show (((0:Nat):Int) - 1)=-1 from rfl];go_wp2;go_ret;exact ⟨_,rfl,HO.out,HB.out⟩
  | succ j=>
   rw [show (((j+1:Nat):Int) - 1)=(j:Int) by omega];have hjn:j < us.length:=by omega
   have q0:(0:Int)≤(j:Int):=by omega
   have q1:(j:Int) < us.length:=by omega
   obtain ⟨g,off,rfl,hg,hc⟩:=HR.out (by omega);have c0:wr.cell? ⟨g,off+j * 3,none⟩=some (.string us[j].1):=by rw [HB.out.cell (by exact hg)];exact hc j hjn 0 (by omega)
   have c1:wr.cell? ⟨g,off+j * 3+1,none⟩=some (.bool us[j].2.1):=by rw [HB.out.cell (by exact hg)];exact hc j hjn 1 (by omega)
   have c2:wr.cell? ⟨g,off+j * 3+2,none⟩=some (.int .i64 us[j].2.2):=by rw [HB.out.cell (by exact hg)];exact hc j hjn 2 (by omega)
   have HK2:Hid (okL (xY cs (us.drop (j+1)))):=yDJ HL.out _ fun c hc=>HA.out c (List.mem_of_mem_drop hc)
   have HS:Hid (xY cs (us.drop j)=jK (xY cs (us.drop (j+1))) us[j]):=undoneAll_step hjn;clear hc;go_wp2_with fail
   refine (undone_s (xY cs (us.drop (j+1))) _ us[j] wr (qT HO.out) HK2.out (HA.out _ (List.getElem_mem hjn))).mono ?_;rintro e w2 ⟨v2,rfl,hown2,hb2⟩;have HO2:=hid hown2;have HB2:Hid (Below w.heap.size w w2):=bt HB.out hb2;clear hown2 hb2 c0 c1 c2;go_wp2
   go_roundw
   case rel=>exact ⟨j,by omega,rfl,by rw [HS.out];exact zN HO2.out hbs,HB2.out⟩
   case measure=>simp [intOf]
def qS (l:List Int):Int:=l.getD (l.length - 1) 0
def jC (p:PE):PE:={ p with cells:=xY p.cells p.undos,early:=[],undos:=[] }
theorem okL_back {p:PE} (h:yC p):okL (jC p).cells:=yDJ ⟨h.cells,h.kcells⟩ p.undos h.kundos
theorem yG {w w':World} {r:Option Nat} (h:Below w.heap.size w w'):w.grownBy w' r:=⟨h.os,h.tape,h.output,h.size,fun k hk _=>h.block k hk⟩
theorem last_s (p:PE) (s:PV) (w:World) (hR:jS w p s) (hs:(p.row.length:Int)≤1048576) :
  Calls Tryz.prog 93 #[yZ p s] w fun e w'=>e=.returned (.int .i64 (qS p.row))∧Below w.heap.size w w':=by
 obtain ⟨a,cap,er,hr⟩:=hR.row;have HR:=hid hr;have HK:Hid ((w.alloc (.cells (zA p s) 35)).heap[w.heap.size]?=some (.cells (zA p s) 35 (0,0))):=heap_alloc_new w _;have c14:=zB HK.out 14 s.row rfl;rw [er] at c14;clear hr hR
 by_cases h0:(p.row.length:Int)=0
 ·have b0:((p.row.length:Int) == 0)=true:=by simpa using h0
  have HE:Hid (qS p.row=0):=hid (by unfold qS;rw [List.eq_nil_of_length_eq_zero (show p.row.length=0 by omega)];rfl);go_enter Tryz.func93,Tryz.ntmps93;go_wp2;go_ret;exact ⟨by rw [HE.out];rfl,ba (br _ _) _⟩
 ·have b0:((p.row.length:Int) == 0)=false:=by simpa using h0
  have hm:p.row.length - 1 < p.row.length:=by omega
  have HE:Hid (qS p.row=p.row[p.row.length - 1]):=(by unfold qS;simp [List.getD,hm]:qS p.row=_);obtain ⟨g,off,rfl,hg,hc⟩:=HR.out (by omega);have q0:(0:Int)≤(p.row.length:Int) - 1:=by omega
  have q1:(p.row.length:Int) - 1 < p.row.length:=by omega
  have hcc:(w.alloc (.cells (zA p s) 35)).cell? ⟨g,off+(p.row.length - 1),none⟩=some (.int .i64 p.row[p.row.length - 1]):=by
   rw [((Below.refl w.heap.size w).alloc (nl _) _).cell (by exact hg)];have:=hc (p.row.length - 1) hm 0 (by omega)
   simpa [xJ] using this
  have hcd:((p.row.length:Int) - 1).toNat=p.row.length - 1:=by omega
  clear hc hg HR;go_enter Tryz.func93,Tryz.ntmps93;go_wp2;go_ret;exact ⟨by rw [HE.out];rfl,ba (br _ _) _⟩
theorem back_s (p:PE) (s:PV) (N lo hi:Nat) (w:World) (hD:zO lo hi w p s) (hN:Bx w N (zA p s) 35) (hlo:lo≤w.heap.size) (hs:yC p) :
  Calls Tryz.prog 94 #[.pointer (some ⟨N,0,none⟩)] w fun e w'=>(∃ u,e=.returned u)∧w.grownBy w' (some N)∧∃ s',Bx w' N (zA (jC p) s') 35∧zO lo w'.heap.size w' (jC p) s':=by
 have HD:=hid hD;have HN:=hid hN;have HS:=hid hs;clear hD hN hs;go_enter Tryz.func94,Tryz.ntmps94;go_wp2;refine zT (fun i=>i != 12) (fun x=>Bx x N (zA p s) 35) (by kernel_rfl) ?_;show zX Tryz.prog _ _ _ _ _ (12+1) (Array.replicate 13 false) _ _;have hS:Bx w.drew N (zA p s) 35:=HN.out;refine zD 0 2 (.pointer (some ⟨N,0,none⟩)) hS ?_;refine zD 1 3 (.pointer (some ⟨N,0,none⟩)) hS ?_;refine zD 2 4 (.pointer (some ⟨N,0,none⟩)) hS ?_;refine zD 3 5 (.pointer (some ⟨N,15,none⟩)) hS ?_;refine zD 4 6 s.cells hS ?_ (hy:=by intro x hx;have c:=zB hx 15 s.cells rfl;go_simp;try with_reducible rfl);refine zD 5 7 (.pointer (some ⟨N,0,none⟩)) hS ?_;refine zD 6 8 (.pointer (some ⟨N,0,none⟩)) hS ?_;refine zD 7 9 (.pointer (some ⟨N,17,none⟩)) hS ?_;refine zD 8 10 s.undos hS ?_ (hy:=by intro x hx;have c:=zB hx 17 s.undos rfl;go_simp;try with_reducible rfl);have hlt:N < w.heap.size:=(gl HN.out);refine kJ 9 11 132 #[s.cells,s.undos] ((undoneAll_s p.cells p.undos s.cells s.undos w.drew (HD.out.reads.cells.below (br _ _).drew) (HD.out.reads.undos.below (br _ _).drew) ⟨HS.out.cells,HS.out.kcells⟩ HS.out.undos HS.out.kundos).mono ?_);rintro e x1 ⟨v1,rfl,ho,hb0⟩;have hb:Below w.heap.size w x1:=((br _ _).drew).trans hb0;have HB1:=hid hb;have HO1:=hid ho;have HD1:Hid (zO lo hi x1 p s):=HD.out.below hb;have hS1:Bx x1 N (zA p s) 35:=(hb.block _ hlt).trans HN.out;clear ho hb hb0 hS;refine ⟨_,rfl,fun _=>hS1,?_⟩;simp only [pz];refine zD 10 12 (.pointer (some ⟨N,0,none⟩)) hS1 ?_;refine zD 11 13 (.pointer (some ⟨N,15,none⟩)) hS1 ?_;refine kT (s:=12) (N:=N) (o:=15) (u:=v1) (old:=zA p s) (new:=zA { p with cells:=xY p.cells p.undos } { s with cells:=v1 }) rfl rfl rfl rfl (by kernel_rfl) rfl rfl hS1 (by kernel_rfl) (by simp [zA]) (zDH HO1.out) rfl ?_;intro x2 hg hk;have HS2:=hid hk;have HG2:Hid (w.grownBy x2 (some N)):=zP (yG HB1.out) hg;have HD2:Hid (zO lo x2.heap.size x2 { p with cells:=xY p.cells p.undos } { s with cells:=v1 }):=((HD1.out.boxed hS1 hg).setCells (Nat.le_trans HD.out.2.2 (Nat.le_trans HB1.out.size hg.size)) (nl _) (zN (World.ownsRow.kept HO1.out hg (zH HO1.out hS1 (by decide))) hlo) (fun g e=>Nat.lt_of_lt_of_le (HO1.out.lt g e).2 hg.size) (fun g e=>Or.inr (Nat.le_trans HD.out.2.2 (HO1.out.lt g e).1)));refine ⟨fun h=>(by cases h),?_⟩;refine zK (by kernel_rfl) ?_ _;clear hg hk HO1 HD1 hS1;obtain ⟨q1,hq1⟩:∃ q1:PE,q1={ p with cells:=xY p.cells p.undos }:=⟨_,rfl⟩;obtain ⟨t1,ht1⟩:∃ t1:PV,t1={ s with cells:=v1 }:=⟨_,rfl⟩;rw [← hq1,← ht1] at HS2 HD2;have HQ1:Hid (jC p={ q1 with early:=[],undos:=[] }):=(by rw [hq1];rfl:jC p=_);clear hq1 ht1
 go_wp2_with (first
  | (refine zU rfl _ _ _ rfl N 16 (.slice (some ⟨x2.heap.size,0,none⟩) 0 0) rfl rfl _ _ ((((Below.refl x2.heap.size x2).alloc (nl _) (.cells #[] 3)).block _ (gl HS2.out)).trans HS2.out) (by kernel_rfl) (by simp [zA]) rfl (zA q1 { t1 with early:=.slice (some ⟨x2.heap.size,0,none⟩) 0 0 }) rfl ?_;intro x3 hg hk;have HG3:Hid (w.grownBy x3 (some N)):=zP HG2.out (zP (yG ((Below.refl x2.heap.size x2).alloc (nl _) _)) hg);have hbx:(x2.alloc (.cells #[] 3)).heap[N]?=Option.some (.cells (zA q1 t1) 35 (0,0)):=(((Below.refl x2.heap.size x2).alloc (nl _) (.cells #[] 3)).block _ (gl HS2.out)).trans HS2.out;have HS3:=hid hk;have HD3:Hid (zO lo x3.heap.size x3 { q1 with early:=[] } { t1 with early:=.slice (some ⟨x2.heap.size,0,none⟩) 0 0 }):=zO.setEarly (l:=[]) ((HD2.out.below ((Below.refl x2.heap.size x2).alloc (nl _) _)).boxed hbx hg) (Nat.le_trans (by simp) hg.size) (nl _) (zN (World.ownsRow.kept (yH x2 3 1) hg (zH (yH x2 3 1) hbx (by decide))) (by have:=HG2.out.size;omega)) (fun g e=>by cases e;exact Nat.lt_of_lt_of_le (by simp) hg.size) (fun g e=>by cases e;exact Or.inr (nl _));clear hg hk hbx HS2 HD2 HG2)
  | (refine zU rfl _ _ _ rfl N 17 (.slice (some ⟨x3.heap.size,0,none⟩) 0 0) rfl rfl _ _ ((((Below.refl x3.heap.size x3).alloc (nl _) (.cells #[] 110)).block _ (gl HS3.out)).trans HS3.out) (by kernel_rfl) (by simp [zA]) rfl (zA { q1 with early:=[] } { t1 with early:=.slice (some ⟨x2.heap.size,0,none⟩) 0 0,undos:=.slice (some ⟨x3.heap.size,0,none⟩) 0 0 }) rfl ?_;intro x4 hg hk;have HG4:Hid (w.grownBy x4 (some N)):=zP HG3.out (zP (yG ((Below.refl x3.heap.size x3).alloc (nl _) _)) hg);have hbx:(x3.alloc (.cells #[] 110)).heap[N]?=Option.some (.cells (zA { q1 with early:=[] } { t1 with early:=.slice (some ⟨x2.heap.size,0,none⟩) 0 0 }) 35 (0,0)):=(((Below.refl x3.heap.size x3).alloc (nl _) (.cells #[] 110)).block _ (gl HS3.out)).trans HS3.out;have HS4:=hid hk;have HD4:Hid (zO lo x4.heap.size x4 { q1 with early:=[],undos:=[] } { t1 with early:=.slice (some ⟨x2.heap.size,0,none⟩) 0 0,undos:=.slice (some ⟨x3.heap.size,0,none⟩) 0 0 }):=zO.setUndos (l:=[]) ((HD3.out.below ((Below.refl x3.heap.size x3).alloc (nl _) _)).boxed hbx hg) (Nat.le_trans (by simp) hg.size) (nl _) (zN (World.ownsRow.kept (yH x3 110 3) hg (zH (yH x3 110 3) hbx (by decide))) (by have:=HG3.out.size;omega)) (fun g e=>by cases e;exact Nat.lt_of_lt_of_le (by simp) hg.size) (fun g e=>by cases e;exact Or.inr (nl _));clear hg hk hbx HS3 HD3 HG3))
 refine bodyPost_end (results_none Tryz.results94 _ _ _) rfl ?_;rw [HQ1.out];exact ⟨⟨_,rfl⟩,HG4.out,_,HS4.out,HD4.out⟩
def sameV (x v:VT):Bool:=decide (x.2.2.2=v.2.2.2) && (decide (x.1=v.1) && decide (x.2.1=v.2.1))
def hasV (l:List VT) (v:VT):Bool:=l.any fun x=>sameV x v
theorem has_snoc {l:List VT} {v:VT} {m:Nat} (h:m < l.length):hasV (l.take (m+1)) v=(hasV (l.take m) v || sameV l[m] v):=by
 unfold hasV;rw [List.take_succ_eq_append_getElem h,List.any_append];simp
theorem has_hit {l:List VT} {v:VT} {m:Nat} (h:m < l.length) (hs:sameV l[m] v=true):hasV l v=true:=by
 unfold hasV;exact List.any_eq_true.2 ⟨l[m],List.getElem_mem h,hs⟩
theorem yCH {x:World} {lo:Nat} {l:LT} (h:lo≤x.heap.size):(x.alloc (.cells (zQ l) 37)).ownsRow lo 37 13 (.slice (some ⟨x.heap.size,0,none⟩) 1 1) 1 (yE l):=by
 exact ⟨rfl,Or.inr ⟨x.heap.size,1,zQ l,rfl,h,heap_alloc_new x _,nl _,by unfold maxLen;omega,rfl,rfl⟩⟩
theorem has_s (l:List VT) (lv:Value) (v:VT) (w:World) (hR:yM w lv 4 xD l) (hl:(l.length:Int)≤1048576) :
  Calls Tryz.prog 161 #[lv,.agg #[.int .i64 v.1,.int .i64 v.2.1,.int .i64 v.2.2.1,.int .i64 v.2.2.2]] w fun e w'=>e=.returned (.bool (hasV l v))∧Below w.heap.size w w':=by
 obtain ⟨v0,v1,v2,v3⟩:=v;simp only;obtain ⟨a,cap,rfl,hr⟩:=hR;have HR:=hid hr;clear hr;obtain ⟨W,hW⟩:∃ W,W=w.alloc (.cells #[.int .i64 v0,.int .i64 v1,.int .i64 v2,.int .i64 v3] 28):=⟨_,rfl⟩;have HW:Hid (Below w.heap.size w W∧Bx W w.heap.size #[.int .i64 v0,.int .i64 v1,.int .i64 v2,.int .i64 v3] 28):=hid (by rw [hW];exact ⟨ba (br _ _) _,heap_alloc_new w _⟩);go_enter Tryz.func161,Tryz.ntmps161;go_wp2;rw [← hW];clear hW
 go_loopw [5] (fun i wr=>∃ m:Nat,m≤l.length∧i=.int .i64 (m:Int)∧Hid (hasV (l.take m) (v0,v1,v2,v3)=false)∧Hid (Below w.heap.size w wr∧Bx wr w.heap.size #[.int .i64 v0,.int .i64 v1,.int .i64 v2,.int .i64 v3] 28)) (fun i _=>l.length - (intOf i).toNat)
 case atStart=>exact ⟨0,Nat.zero_le _,rfl,rfl,HW.out⟩
 case round=>
  obtain ⟨m,hm,rfl,HF,HY⟩:=hrel
  by_cases hlt:(m:Int) < l.length
  ·have hmn:m < l.length:=by omega
   obtain ⟨g,off,rfl,hg,hc⟩:=HR.out (by omega);have q0:(0:Int)≤(m:Int):=by omega
   have hne:=yX wr;obtain ⟨x,hx⟩:∃ x:VT,x=l[m]:=⟨_,rfl⟩;have z0:∀ z:Bw wr,z.to.cell? ⟨g,off+m * 4,none⟩=some (.int .i64 x.1):=fun z=>by rw [(bt HY.out.1 z.below).cell (by exact hg),hx];exact hc m hmn 0 (by omega)
   have z1:∀ z:Bw wr,z.to.cell? ⟨g,off+m * 4+1,none⟩=some (.int .i64 x.2.1):=fun z=>by rw [(bt HY.out.1 z.below).cell (by exact hg),hx];exact hc m hmn 1 (by omega)
   have z3:∀ z:Bw wr,z.to.cell? ⟨g,off+m * 4+3,none⟩=some (.int .i64 x.2.2.2):=fun z=>by rw [(bt HY.out.1 z.below).cell (by exact hg),hx];exact hc m hmn 3 (by omega)
   have y0:∀ z:Bw wr,z.to.cell? ⟨w.heap.size,0,none⟩=some (.int .i64 v0):=fun z=>zB ((z.below.block _ (gl HY.out.2)).trans HY.out.2) 0 _ rfl
   have y1:∀ z:Bw wr,z.to.cell? ⟨w.heap.size,1,none⟩=some (.int .i64 v1):=fun z=>zB ((z.below.block _ (gl HY.out.2)).trans HY.out.2) 1 _ rfl
   have y3:∀ z:Bw wr,z.to.cell? ⟨w.heap.size,3,none⟩=some (.int .i64 v3):=fun z=>zB ((z.below.block _ (gl HY.out.2)).trans HY.out.2) 3 _ rfl
   have HIT:Hid (sameV x (v0,v1,v2,v3)=true→hasV l (v0,v1,v2,v3)=true):=fun h=>has_hit hmn (by rw [← hx];exact h)
   have MIS:Hid (sameV x (v0,v1,v2,v3)=false→hasV (l.take (m+1)) (v0,v1,v2,v3)=false):=fun h=>by rw [has_snoc hmn,HF.out,← hx,h];rfl
   clear hc hg hx
   by_cases h3:x.2.2.2=v3
   ·have b3:(x.2.2.2 == v3)=true:=by simpa using h3
    have d3:decide (x.2.2.2=v3)=true:=decide_eq_true h3
    by_cases h0:x.1=v0
    ·have b0:(x.1 == v0)=true:=by simpa using h0
     have d0:decide (x.1=v0)=true:=decide_eq_true h0
     by_cases h1:x.2.1=v1
     ·have b1:(x.2.1 == v1)=true:=by simpa using h1
      have d1:decide (x.2.1=v1)=true:=decide_eq_true h1;have HE:Hid (hasV l (v0,v1,v2,v3)=true):=HIT.out (by unfold sameV;simp only;rw [d3,d0,d1];rfl);clear h3 h0 h1;go_wp2;refine rb ?_;repeat (go_big_quiet_step (fail))
      refine wpQuiet_nil ?_;intro _ hw';obtain ⟨x,rfl⟩:=hw';go_wp2;go_ret;exact ⟨zL HE.out.symm,bt HY.out.1 x.below⟩
     ·have b1:(x.2.1 == v1)=false:=by simpa using h1
      have d1:decide (x.2.1=v1)=false:=decide_eq_false h1;have HN:Hid (hasV (l.take (m+1)) (v0,v1,v2,v3)=false):=MIS.out (by unfold sameV;simp only;rw [d3,d0,d1];rfl);clear h3 h0 h1;go_wp2;refine rb ?_;repeat (go_big_quiet_step (fail))
      refine wpQuiet_nil ?_;intro _ hw';obtain ⟨x,rfl⟩:=hw';go_wp2
      go_roundw
      case rel=>exact ⟨m+1,by omega,by go_num,HN.out,bt HY.out.1 x.below,(x.below.block _ (gl HY.out.2)).trans HY.out.2⟩
      case measure=>simp [intOf];omega
    ·have b0:(x.1 == v0)=false:=by simpa using h0
     have d0:decide (x.1=v0)=false:=decide_eq_false h0;have HN:Hid (hasV (l.take (m+1)) (v0,v1,v2,v3)=false):=MIS.out (by unfold sameV;simp only;rw [d3,d0];rfl);clear h3 h0;go_wp2;refine rb ?_;repeat (go_big_quiet_step (fail))
     refine wpQuiet_nil ?_;intro _ hw';obtain ⟨x,rfl⟩:=hw';go_wp2
     go_roundw
     case rel=>exact ⟨m+1,by omega,by go_num,HN.out,bt HY.out.1 x.below,(x.below.block _ (gl HY.out.2)).trans HY.out.2⟩
     case measure=>simp [intOf];omega
   ·have b3:(x.2.2.2 == v3)=false:=by simpa using h3
    have d3:decide (x.2.2.2=v3)=false:=decide_eq_false h3;have HN:Hid (hasV (l.take (m+1)) (v0,v1,v2,v3)=false):=MIS.out (by unfold sameV;simp only;rw [d3];rfl);clear h3;go_wp2;refine rb ?_;repeat (go_big_quiet_step (fail))
    refine wpQuiet_nil ?_;intro _ hw';obtain ⟨x,rfl⟩:=hw';go_wp2
    go_roundw
    case rel=>exact ⟨m+1,by omega,by go_num,HN.out,bt HY.out.1 x.below,(x.below.block _ (gl HY.out.2)).trans HY.out.2⟩
    case measure=>simp [intOf];omega
  ·have hml:m=l.length:=by omega
   subst hml;rw [List.take_length] at HF;go_wp2;go_ret;exact ⟨zL HF.out.symm,HY.out.1⟩
def zEJ (p:PE) (phase view block to:Int):LT:=kX (yP p phase view block) 2 to (0,0,0,0) (phase,view,block,p.id)
theorem give_s (p:PE) (s:PV) (N lo hi:Nat) (phase view block to:Int) (w:World) (hD:zO lo hi w p s) (hN:Bx w N (zA p s) 35) (hlo:lo≤w.heap.size) (hs:yC p) :
  Calls Tryz.prog 36 #[.pointer (some ⟨N,0,none⟩),.int .i64 phase,.int .i64 view,.int .i64 block,.int .i64 to] w fun e w'=>∃ v',e=.returned v'∧w.grownBy w' (some N)∧(∃ s',Bx w' N (zA (yP p phase view block) s') 35∧zO lo w'.heap.size w' (yP p phase view block) s')∧w'.ownsRow w.heap.size 37 13 v' 1 (yE (zEJ p phase view block to)):=by
 have HD:=hid hD;have HN:=hid hN;have HS:=hid hs;have hNl:N < w.heap.size:=(gl hN);clear hD hN hs;go_enter Tryz.func36,Tryz.ntmps36;go_wp2_with (refine w_ld N HN.out Tryz.underlying35 ?_)
 refine (voted_s p s phase view block w HD.out.reads HS.out).mono ?_;obtain ⟨Q,hQ⟩:∃ Q,Q=yP p phase view block:=⟨_,rfl⟩;have HE:Hid (kX Q 2 to (0,0,0,0) (phase,view,block,p.id)=zEJ p phase view block to):=(by rw [hQ];rfl:kX Q 2 to (0,0,0,0) (phase,view,block,p.id)=_);have HQV:=hid hQ.symm;rw [← hQ];clear hQ;rintro e x1 ⟨s1,rfl,ho,hb⟩;have HO1:=hid ho;have HB1:Hid (Below w.heap.size w x1∧Bx x1 N (zA p s) 35):=⟨hb,(hb.block _ hNl).trans HN.out⟩;clear ho hb
 go_wp2_with (first
  | (refine zC rfl _ _ _ rfl x1.heap.size (zA Q s1) rfl rfl 35 zF (qK x1 _ _).1 (by kernel_rfl) rfl (zJ HO1.out.1) ?_;intro y1 hg hk hz;have hb1:Below x1.heap.size x1 y1:=(((br _ _).alloc (nl _) _).alloc (by simp) _).grown hg (by simp;omega) (fun k hk=>by cases hk;exact nl _);have HY1:Hid (Bx y1 x1.heap.size (zA Q s1) 35∧Bx y1 (x1.heap.size+1) #[.int .i64 0,.int .i64 0,.int .i64 0,.int .i64 0] 28∧Below x1.heap.size x1 y1):=⟨hk,(hg.block _ (by simp) (fun e=>by have e:=Option.some.inj e;omega)).trans (qK x1 _ _).2,hb1⟩;clear hg hk hz hb1)
  | (refine w_st (x1.heap.size+1) #[.int .i64 phase,.int .i64 view,.int .i64 block,.int .i64 p.id] HY1.out.2.1 (by simp [Value.oneCell']) ?_;intro y2 hg hk hz;have hb2:Below x1.heap.size x1 y2:=HY1.out.2.2.grown hg HY1.out.2.2.size (fun k hk=>by cases hk;omega);have HY2:Hid (Bx y2 x1.heap.size (zA Q s1) 35∧Bx y2 (x1.heap.size+1) #[.int .i64 phase,.int .i64 view,.int .i64 block,.int .i64 p.id] 28∧Below x1.heap.size x1 y2):=⟨(hg.block _ (gl HY1.out.1) (fun e=>by have e:=Option.some.inj e;omega)).trans HY1.out.1,hk,hb2⟩;have HD2:Hid (zO w.heap.size x1.heap.size y2 Q s1):=HO1.out.below hb2;have HN2:Hid (Bx y2 N (zA p s) 35):=(hb2.block _ (gl HB1.out.2)).trans HB1.out.2;clear hg hk hz hb2 HY1 HO1)
  | (refine w_ld x1.heap.size HY2.out.1 Tryz.underlying35 ?_)
  | (refine w_st N (zA Q s1) HN2.out (zJ HD2.out.1) ?_;intro y3 hg hk hz;have HY3:Hid (Bx y3 N (zA Q s1) 35∧Bx y3 (x1.heap.size+1) #[.int .i64 phase,.int .i64 view,.int .i64 block,.int .i64 p.id] 28):=⟨hk,(hg.block _ (gl HY2.out.2.1) (fun e=>by have e:=Option.some.inj e;have:=HB1.out.1.size;omega)).trans HY2.out.2.1⟩;have HD3:Hid (zO w.heap.size y3.heap.size y3 Q s1):=((HD2.out.boxed HN2.out hg).wide (Nat.le_trans HY2.out.2.2.size hg.size) (nl _));have HG3:Hid (w.grownBy y3 (Option.some N)):=zP (yG (bt HB1.out.1 HY2.out.2.2)) hg;clear hg hk hz HY2 HD2 HN2 HB1))
 refine xA (fun x=>Bx x N (zA Q s1) 35∧Bx x (x1.heap.size+1) #[.int .i64 phase,.int .i64 view,.int .i64 block,.int .i64 p.id] 28) (by kernel_rfl) ?_;show wpAnyH Tryz.prog _ _ _ _ (8+1) (Array.replicate 9 false) _ _;have hS:Bx y3.drew N (zA Q s1) 35∧Bx y3.drew (x1.heap.size+1) #[.int .i64 phase,.int .i64 view,.int .i64 block,.int .i64 p.id] 28:=HY3.out;refine yJ 0 26 (.pointer (some ⟨N,0,none⟩)) hS ?_;refine yJ 1 27 (.pointer (some ⟨N,0,none⟩)) hS ?_;refine yJ 2 28 (.agg (zA Q s1)) hS ?_ (hy:=fun x hx=>zM _ _ rfl N rfl _ _ _ _ hx.1 Tryz.underlying35 rfl (by kernel_rfl));refine yJ 3 29 (.int .i64 to) hS ?_;refine yJ 4 30 (.agg #[.int .i64 0,.int .i64 0,.int .i64 0,.int .i64 0]) hS ?_;refine yJ 5 31 (.agg #[.int .i64 phase,.int .i64 view,.int .i64 block,.int .i64 p.id]) hS ?_ (hy:=fun x hx=>zM _ _ rfl (x1.heap.size+1) rfl _ _ _ _ hx.2 Tryz.underlying28 rfl (by kernel_rfl));refine h_cl 6 32 63 #[.agg (zA Q s1),.int .i64 2,.int .i64 to,.agg #[.int .i64 0,.int .i64 0,.int .i64 0,.int .i64 0],.agg #[.int .i64 phase,.int .i64 view,.int .i64 block,.int .i64 p.id]] ((answered_s Q s1 2 to (0,0,0,0) (phase,view,block,p.id) y3.drew).mono ?_);rw [HE.out];obtain ⟨LL,hLL⟩:∃ LL,LL=zEJ p phase view block to:=⟨_,rfl⟩;rw [← hLL];rintro e x4 ⟨rfl,hb0⟩;have hb:Below y3.heap.size y3 x4:=((br _ _).drew).trans hb0;have HY4:Hid (Bx x4 N (zA Q s1) 35∧Bx x4 (x1.heap.size+1) #[.int .i64 phase,.int .i64 view,.int .i64 block,.int .i64 p.id] 28):=⟨(hb.block _ (gl HY3.out.1)).trans HY3.out.1,(hb.block _ (gl HY3.out.2)).trans HY3.out.2⟩;have HD4:Hid (zO w.heap.size x4.heap.size x4 Q s1):=(HD3.out.below hb).wide hb.size (nl _);have HG4:Hid (w.grownBy x4 (some N)):=zP HG3.out (yG hb);clear hb hb0 hS HY3 HD3 HG3;refine ⟨_,rfl,HY4.out,?_⟩;simp only [pz];obtain ⟨y5,hy5⟩:∃ y5,y5=x4.alloc (.cells (zQ LL) 37):=⟨_,rfl⟩;have hb5:Below x4.heap.size x4 y5:=by rw [hy5];exact (br _ _).alloc (nl _) _
 have HY5:Hid (Bx y5 N (zA Q s1) 35∧Bx y5 (x1.heap.size+1) #[.int .i64 phase,.int .i64 view,.int .i64 block,.int .i64 p.id] 28):=⟨(hb5.block _ (gl HY4.out.1)).trans HY4.out.1,(hb5.block _ (gl HY4.out.2)).trans HY4.out.2⟩;have HD5:Hid (zO w.heap.size y5.heap.size y5 Q s1):=(HD4.out.below hb5).wide hb5.size (nl _);have HG5:Hid (w.grownBy y5 (some N)):=zP HG4.out (yG hb5);have HL5:Hid (y5.ownsRow w.heap.size 37 13 (.slice (some ⟨x4.heap.size,0,none⟩) 1 1) 1 (yE LL)):=hid (by rw [hy5];exact yCH HG4.out.size);refine h_run (s:=7) (e':=some 33) rfl rfl rfl (by kernel_rfl) (.slice (some ⟨x4.heap.size,0,none⟩) 1 1) y5 ?_ ⟨HY5.out,?_⟩
 ·rw [hy5];unfold letV zQ;go_simp
  try with_reducible rfl
 clear hy5 hb5 HY4 HD4 HG4;simp only [pz];refine yJ 8 10 (.slice (some ⟨x4.heap.size,0,none⟩) 1 1) HY5.out ?_;refine h_dn ?_;go_wp2;go_ret;rw [HQV.out,← hLL];exact ⟨_,rfl,HG5.out,⟨s1,HY5.out.1,(HD5.out.low hlo)⟩,HL5.out⟩
section
variable {P:Program} {ops:Array Oper} {Q:Exit→Act→World→Prop} {md:Region.Mode} {C:World→Prop} {pend:Nat→Bool}
def StepP (P:Program) (md:Region.Mode) (ops:Array Oper) (Q:Exit→Act→World→Prop) (C:World→Prop) (pend:Nat→Bool) (f:Nat) (L:Array Bool) (a:Act) (w:World) (s:Nat):Prop:=
 wpOp P ops Q s (fun a' w'=>(pend s=true→C w')∧zX P md ops Q C pend f (L.setIfInBounds s true) a' w') a w
theorem zFC {i j f:Nat} {L:Array Bool} {a:Act} {w:World} (hr:Region.ready md ops L=[i,j]) (h1:StepP P md ops Q C pend f L a w i) (h2:StepP P md ops Q C pend f L a w j):zX P md ops Q C pend (f+1) L a w:=by
 refine ⟨fun h0=>(by rw [hr] at h0;cases h0),fun k hk=>?_⟩;rw [hr] at hk
 rcases List.mem_cons.1 hk with rfl | hk
 ·exact h1
 ·obtain rfl:k=j:=by simpa using hk
  exact h2
theorem kG {i f:Nat} {L:Array Bool} {a:Act} {w:World} (hr:Region.ready md ops L=[i]) (h1:StepP P md ops Q C pend f L a w i):zX P md ops Q C pend (f+1) L a w:=by
 refine ⟨fun h0=>(by rw [hr] at h0;cases h0),fun k hk=>?_⟩;rw [hr] at hk;obtain rfl:k=i:=by simpa using hk
 exact h1
theorem xU {s:Nat} {os:Oper} {e':Option Tmp} {f:Nat} {L:Array Bool} {a:Act} {w:World} (ho:ops[s]?=some os) (he:os.dst=e') (hgd:os.guard=none)
  (v:Value) (w':World) (hrun:(execOp a.eval os).run P w=.ok (.value v) w') (h:(pend s=true→C w')∧zX P md ops Q C pend f (L.setIfInBounds s true) (a.put e' v) w'):StepP P md ops Q C pend f L a w s:=by
 subst he;unfold StepP wpOp;simp only [ho];rw [if_pos (by simp [Region.wanted,hgd])];refine Or.inl ?_;unfold Oper.wp;rw [hrun];exact h
theorem xS {α:Type} {g:α→List Value} {m:Nat} {s:Nat} {os:Oper} {e':Option Tmp} {f:Nat} {L:Array Bool} {a:Act} {w:World} (ho:ops[s]?=some os) (he:os.dst=e') (hgd:os.guard=none) (x y:Operand) (t:TypeId) (hop:os.op=.call { callee:=.builtin .append,args:=#[x,y],argTypes:=#[t,t] })
  (base:Nat) (e:TypeId) (i:TypeInfo) (z:Value) (bytes:Nat) (ht:P.underlying t=some (.slice e)) (hi:P.info? e=some i) (hz:i.zero=some z) (hsize:i.size=m) (hby:i.bytes=bytes) (hzs:z.cells.size=m) (hsz:0 < m)
  (hm:∀ y,(g y).length=m) (hone:∀ y,∀ u∈g y,u.oneCell'=true)
  (v:Value) (xs:List α) (hs:a.eval x=v) (hown:w.ownsRow base e m v xs.length (zE g xs))
  (src:Value) (cs:List α) (hx:a.eval y=src) (hsrc:yM w src m g cs) (h63:xs.length+cs.length≤maxLen) (hbytes:(xs.length+cs.length) * bytes≤140737488355328) (hbase:base≤w.heap.size)
  (h:∀ v' w',w'.ownsRow base e m v' (xs ++ cs).length (zE g (xs ++ cs))→w.grownBy w' v.ownBlock→(v'.ownBlock=v.ownBlock∨v'.ownBlock=some w.heap.size)→(pend s=true→C w')∧zX P md ops Q C pend f (L.setIfInBounds s true) (a.put e' v') w'):StepP P md ops Q C pend f L a w s:=by
 subst he;unfold StepP wpOp;simp only [ho];rw [if_pos (by simp [Region.wanted,hgd])];refine Or.inl ?_;obtain ⟨ad,cap,rfl,hr⟩:=hsrc
 cases ad with
 | none=>
  have h0:cs.length=0:=by
   rcases Nat.eq_zero_or_pos cs.length with h | h
   ·exact h
   ·obtain ⟨_,_,e,_⟩:=hr h;cases e
  obtain rfl:cs=[]:=List.eq_nil_of_length_eq_zero h0;have hrun:=yBC (ty:=os.type) ht hi w hown cap;unfold Oper.wp execOp;simp only [hop,resolve,invoke,builtin,Sem.run_bind,Sem.run_pure,Result.andThen_ok,List.map_toArray,List.map_cons,List.map_nil,hs,hx,List.length_nil,hrun];exact h v w (by simpa using hown) ⟨rfl,rfl,rfl,nl _,fun _ _ _=>rfl⟩ (Or.inl rfl)
 | some ad=>
  have hnews:∀ j u,(zE g cs)[j]?=some u→w.cell? (ad.add j)=some u:=by
   intro j u hj
   have hjl:j < cs.length * m:=by
    rw [← jX hm];exact (List.getElem?_eq_some_iff.1 hj).1
   have h0:0 < cs.length:=by
    rcases Nat.eq_zero_or_pos cs.length with h | h
    ·rw [h] at hjl;omega
    ·exact h
   obtain ⟨g',off,rfl0,hg,hc⟩:=hr h0
   cases rfl0
   have hp:(⟨g',off,none⟩:Addr).add j=⟨g',off+j,none⟩:=by unfold Addr.add;split <;> simp_all
   have hd:j / m < cs.length:=Nat.div_lt_of_lt_mul (by rw [Nat.mul_comm];exact hjl);have hr:j % m < m:=Nat.mod_lt _ hsz;have e:j=j / m * m+j % m:=by rw [Nat.mul_comm];exact (Nat.div_add_mod j m).symm
   have hf:=jY hm cs (j / m) hd (j % m) hr;rw [← e] at hf;rw [hp,show off+j=off+j / m * m+j % m by omega,hc (j / m) hd (j % m) hr,← hf,hj]
  have h1:∀ u∈zE g cs,u.oneCell'=true:=fun u hu=>by
   obtain ⟨y,_,hy⟩:=List.mem_flatMap.1 hu;exact hone y u hy
  obtain ⟨v',w',hrun,h2,h3,_,h5⟩:=run_append_own_at (P:=P) w base t os.type e i z m bytes ht hi hz hsize hby hzs hsz v _ _ hown ad cs.length cap (zE g cs) (jX hm cs) hnews h1 h63 hbytes hbase;unfold Oper.wp execOp;simp only [hop,resolve,invoke,builtin,Sem.run_bind,Sem.run_pure,Result.andThen_ok,List.map_toArray,List.map_cons,List.map_nil,hs,hx,hrun];exact h v' w' (by rw [List.length_append,zY];exact h2) h3 h5
end
section
variable {P:Program} {ops:Array Oper} {Q:Exit→Act→World→Prop} {md:Region.Mode} {S:World→Prop}
theorem fl_out {i:Nat} {d:Option Tmp} {oi:Oper} {obj:Obj} {base f:Nat} {T:World→Prop} {L:Array Bool} {a:Act}
  (hi:ops[i]?=some oi) (hdd:oi.dst=d) (hmk:Makes P oi obj) (hb:∀ w,T w→base≤w.heap.size) (hU:Up T) (hTS:∀ w,T w→S w) (hr0:Region.ready md ops L=[i])
  (fin:∀ N w,T w→base≤N→w.heap[N]?=some obj→wpAnyH P md ops Q S f (L.setIfInBounds i true) (a.put d (flP N)) w):Fl P md ops Q S i d obj base T f L a:=by
 subst hdd;intro al w hT hI
 cases al with
 | some N=>exact fin N w hT hI.1 hI.2
 | none=>
  show wpAnyH P md ops Q S (f+1) L a w;refine ⟨fun h=>(by rw [hr0] at h;cases h),fun j hj=>?_⟩;rw [hr0] at hj;obtain rfl:j=i:=by simpa using hj
  refine zGJ hi (by simp [Region.wanted,hmk.1]) (hmk.2 a.eval w) ⟨hTS _ (hU _ _ hT (yA w obj)),?_⟩;exact fin w.heap.size (w.alloc obj) (hU _ _ hT (yA w obj)) (hb w hT) (zBA w obj)
end
def zIF (t:List BK) (k:Int):QC:=(t[k.toNat]?.getD kE).2.2
def zHC (t:List BK) (k:Int):Int:=(zIF t k).2.2.1
def zGG (t:List BK) (k:Int):Option (Int × Int × Int):=
 if xZ t k < 1 then none else
 if inB (zHC t k) 0 (k - 1)=false then none else
 if inB (zHC t (zHC t k)) 0 ((t.length:Int) - 1)=false then none else
 if inB (zHC t (zHC t (zHC t k))) 0 ((t.length:Int) - 1)=false then none else
 some (zHC t k,zHC t (zHC t k),zHC t (zHC t (zHC t k)))
theorem height_in {t:List BK} {k:Int} (h:¬ xZ t k < 1):0≤k∧k < (t.length:Int):=by
 unfold xZ at h
 cases hd:qH t k with
 | none=>rw [hd] at h;simp at h
 | some l=>
  unfold qH at hd
  split at hd
  ·rename_i hc;exact hc
  ·cases hd
theorem threeT_in {t:List BK} {k b c d:Int} (h:zGG t k=some (b,c,d)):(0≤k∧k < (t.length:Int))∧(0≤b∧b < (t.length:Int))∧(0≤c∧c < (t.length:Int))∧(0≤d∧d < (t.length:Int)):=by
 unfold zGG at h
 split at h
 ·cases h
 ·rename_i h0
  have hk:=height_in h0
  split at h
  ·cases h
  ·rename_i h1
   split at h
   ·cases h
   ·rename_i h2
    split at h
    ·cases h
    ·rename_i h3
     injection h with h
     injection h with e1 h
     injection h with e2 e3
     subst e1 e2 e3;simp only [inB,decide_eq_false_iff_not,Decidable.not_not] at h1 h2 h3;exact ⟨hk,⟨h1.1,by omega⟩,⟨h2.1,by omega⟩,⟨h3.1,by omega⟩⟩
def zFB (t:List BK) (b c:Int):Bool:=decide (b ≠ 0) && (decide (c ≠ 0) && decide (yR t b=wrap64 (yR t c+1)))
def zCH (t:List BK) (k:Int):Option Int:=match zGG t k with
 | some (b,c,d)=>if zFB t b c=true∧yR t c=wrap64 (yR t d+1) then some d else none
 | none=>none
def rowAns:Option Int→Value
 | some d=>.tuple #[.int .i64 d,.bool true]
 | none=>.tuple #[.int .i64 0,.bool false]
theorem zDJ {fn:Func} {t u v x:Tmp} (h:fn.results=#[.tmp t,.tmp u,.tmp v,.tmp x]) (tmps:Array Value) (P:Program) (w:World) :
  (results fn tmps).run P w=.ok (.tuple #[tmps.getD t undef,tmps.getD u undef,tmps.getD v undef,tmps.getD x undef]) w:=by
 simp [results,h]
theorem tree_cell {w:World} {v:Value} {ps:TL} (h:jB w v ps) {j:Nat} (hj:j < ps.length):∃ g off cap,v=.slice (some ⟨g,off,none⟩) ps.length cap∧g < w.heap.size∧∀ i (hi:i < ps.length),w.cell? ⟨g,off+i * 7+1,none⟩=some (.int .i64 ps[i].1.1.2)∧w.cell? ⟨g,off+i * 7+5,none⟩=some (.int .i64 ps[i].1.2.2.2.2.1):=by
 obtain ⟨a,cap,rfl,hr⟩:=h.1;obtain ⟨g,off,rfl,hg,hc⟩:=hr (by omega);exact ⟨g,off,cap,rfl,hg,fun i hi=>⟨hc i hi 1 (by omega),hc i hi 5 (by omega)⟩⟩
theorem justB_at {ps:TL} {j:Nat} (h:j < ps.length):zHC (bks ps) (j:Int)=ps[j].1.2.2.2.2.1:=by unfold zHC zIF;simp [bks,h]
theorem viewAt_tl {ps:TL} {j:Nat} (h:j < ps.length):yR (bks ps) (j:Int)=ps[j].1.1.2:=by unfold yR;simp [bks,h]
theorem three_s (ps:TL) (v:Value) (k:Int) (w:World) (hT:jB w v ps) (hl:(ps.length:Int)≤1048576) :
  Calls Tryz.prog 50 #[v,.int .i64 k] w fun e w'=>e=.returned (match zGG (bks ps) k with | some (b,c,d)=>.tuple #[.int .i64 b,.int .i64 c,.int .i64 d,.bool true] | none=>.tuple #[.int .i64 0,.int .i64 0,.int .i64 0,.bool false])∧w'=w:=by
 have HT:=hid hT;have HBL:Hid ((bks ps).length=ps.length):=yO ps;obtain ⟨R,hR⟩:∃ R,R=(match zGG (bks ps) k with | some (b,c,d)=>Value.tuple #[.int .i64 b,.int .i64 c,.int .i64 d,.bool true] | none=>.tuple #[.int .i64 0,.int .i64 0,.int .i64 0,.bool false]):=⟨_,rfl⟩;have HR:=hid hR;rw [← hR];clear hR hT;obtain ⟨a,cap,rfl,-⟩:=HT.out.1;go_enter Tryz.func50,Tryz.ntmps50;go_wp2_with fail
 refine (height_s ps _ k w HT.out hl).mono ?_;rintro e w' ⟨rfl,hw⟩;obtain rfl:=hw.symm;clear hw
 by_cases h0:xZ (bks ps) k < 1
 ·have HE:Hid (R=.tuple #[.int .i64 0,.int .i64 0,.int .i64 0,.bool false]):=(by rw [HR.out];unfold zGG;rw [if_pos h0]:R=_);go_wp2;exact bodyPost_ret (zDJ Tryz.results50 _ _ _) rfl ⟨by rw [HE.out];rfl,rfl⟩
 have hk:=height_in h0;rw [HBL.out] at hk;have H0:=hid h0;obtain ⟨kn,rfl⟩:∃ kn:Nat,k=(kn:Int):=⟨k.toNat,by omega⟩;have hkn:kn < ps.length:=by omega
 obtain ⟨g,off,cap',e',hg,hc⟩:=tree_cell HT.out hkn;injection e' with e1 _ e3
 subst e1 e3;have HCC:=hid hc;clear hc hg;have k0:(0:Int)≤(kn:Int):=by omega
 have k1:(kn:Int) < ps.length:=by omega
 have c0:=(HCC.out kn hkn).2;rw [← justB_at hkn] at c0;obtain ⟨b,hb⟩:∃ b,b=zHC (bks ps) (kn:Int):=⟨_,rfl⟩;have HB:=hid hb;rw [← hb] at c0;clear hb;go_wp2_with fail
 refine (yS b 0 ((kn:Int) - 1) w).mono ?_;rintro e w' ⟨rfl,hw⟩;obtain rfl:=hw.symm;clear hw c0
 by_cases h1:0≤b∧b≤(kn:Int) - 1
 rotate_left
 ·rw [zAB h1];have HE:Hid (R=.tuple #[.int .i64 0,.int .i64 0,.int .i64 0,.bool false]):=(by rw [HR.out];unfold zGG;rw [if_neg (show ¬ xZ (bks ps) (kn:Int) < 1 by have:=H0.out;omega),if_pos (by rw [← HB.out];exact zAB h1)]:R=_);go_wp2;exact bodyPost_ret (zDJ Tryz.results50 _ _ _) rfl ⟨by rw [HE.out];rfl,rfl⟩
 have H1:=hid h1;rw [kY h1];obtain ⟨bn,hbn⟩:∃ bn:Nat,b=(bn:Int):=⟨b.toNat,by omega⟩;subst hbn;have hbl:bn < ps.length:=by omega
 have b0:(0:Int)≤(bn:Int):=by omega
 have b1:(bn:Int) < ps.length:=by omega
 have c0:=(HCC.out bn hbl).2;rw [← justB_at hbl] at c0;obtain ⟨c,hc⟩:∃ c,c=zHC (bks ps) (bn:Int):=⟨_,rfl⟩;have HC:=hid hc;rw [← hc] at c0;clear hc;go_wp2_with fail
 refine (yS c 0 ((ps.length:Int) - 1) w).mono ?_;rintro e w' ⟨rfl,hw⟩;obtain rfl:=hw.symm;clear hw c0
 by_cases h2:0≤c∧c≤(ps.length:Int) - 1
 rotate_left
 ·rw [zAB h2];have HE:Hid (R=.tuple #[.int .i64 0,.int .i64 0,.int .i64 0,.bool false]):=(by rw [HR.out];unfold zGG;rw [if_neg (show ¬ xZ (bks ps) (kn:Int) < 1 by have:=H0.out;omega),if_neg (by rw [← HB.out,kY H1.out];decide),if_pos (by rw [← HB.out,← HC.out,HBL.out];exact zAB h2)]:R=_);go_wp2;exact bodyPost_ret (zDJ Tryz.results50 _ _ _) rfl ⟨by rw [HE.out];rfl,rfl⟩
 have H2:=hid h2;rw [kY h2];obtain ⟨cn,hcn⟩:∃ cn:Nat,c=(cn:Int):=⟨c.toNat,by omega⟩;subst hcn;have hcl:cn < ps.length:=by omega
 have d0:(0:Int)≤(cn:Int):=by omega
 have d1:(cn:Int) < ps.length:=by omega
 have c0:=(HCC.out cn hcl).2;rw [← justB_at hcl] at c0;obtain ⟨d,hd⟩:∃ d,d=zHC (bks ps) (cn:Int):=⟨_,rfl⟩;have HD:=hid hd;rw [← hd] at c0;clear hd;go_wp2_with fail
 refine (yS d 0 ((ps.length:Int) - 1) w).mono ?_;rintro e w' ⟨rfl,hw⟩;obtain rfl:=hw.symm;clear hw c0
 by_cases h3:0≤d∧d≤(ps.length:Int) - 1
 rotate_left
 ·rw [zAB h3];have HE:Hid (R=.tuple #[.int .i64 0,.int .i64 0,.int .i64 0,.bool false]):=(by rw [HR.out];unfold zGG;rw [if_neg (show ¬ xZ (bks ps) (kn:Int) < 1 by have:=H0.out;omega),if_neg (by rw [← HB.out,kY H1.out];decide),if_neg (by rw [← HB.out,← HC.out,HBL.out,kY H2.out];decide),if_pos (by rw [← HB.out,← HC.out,← HD.out,HBL.out];exact zAB h3)]:R=_);go_wp2;exact bodyPost_ret (zDJ Tryz.results50 _ _ _) rfl ⟨by rw [HE.out];rfl,rfl⟩
 rw [kY h3];have HE:Hid (R=.tuple #[.int .i64 (bn:Int),.int .i64 (cn:Int),.int .i64 d,.bool true]):=(by rw [HR.out];unfold zGG;rw [if_neg (show ¬ xZ (bks ps) (kn:Int) < 1 by have:=H0.out;omega),if_neg (by rw [← HB.out,kY H1.out];decide),if_neg (by rw [← HB.out,← HC.out,HBL.out,kY H2.out];decide),if_neg (by rw [← HB.out,← HC.out,← HD.out,HBL.out,kY h3];decide),← HB.out,← HC.out,← HD.out]:R=_);go_wp2;exact bodyPost_ret (zDJ Tryz.results50 _ _ _) rfl ⟨by rw [HE.out];rfl,rfl⟩
theorem next_s (ps:TL) (v:Value) (b c:Int) (w:World) (hT:jB w v ps) (hb:0≤b∧b < (ps.length:Int)) (hc:0≤c∧c < (ps.length:Int)) :
  Calls Tryz.prog 53 #[v,.int .i64 b,.int .i64 c] w fun e w'=>e=.returned (.bool (zFB (bks ps) b c))∧Below w.heap.size w w':=by
 obtain ⟨bn,rfl⟩:∃ bn:Nat,b=(bn:Int):=⟨b.toNat,by omega⟩;obtain ⟨cn,rfl⟩:∃ cn:Nat,c=(cn:Int):=⟨c.toNat,by omega⟩;have hbn:bn < ps.length:=by omega
 have hcn:cn < ps.length:=by omega
 obtain ⟨g,off,cap,rfl,hg,hcc⟩:=tree_cell hT hbn;have b0:(0:Int)≤(bn:Int):=by omega
 have b1:(bn:Int) < ps.length:=by omega
 have c0:(0:Int)≤(cn:Int):=by omega
 have c1:(cn:Int) < ps.length:=by omega
 have hne:=yX w;have y1:∀ x:Bw w,x.to.cell? ⟨g,off+bn * 7+1,none⟩=some (.int .i64 ps[bn].1.1.2):=fun x=>by rw [x.below.cell (by exact hg)];exact (hcc bn hbn).1
 have y2:∀ x:Bw w,x.to.cell? ⟨g,off+cn * 7+1,none⟩=some (.int .i64 ps[cn].1.1.2):=fun x=>by rw [x.below.cell (by exact hg)];exact (hcc cn hcn).1
 have HV:Hid (yR (bks ps) (bn:Int)=ps[bn].1.1.2∧yR (bks ps) (cn:Int)=ps[cn].1.1.2):=⟨viewAt_tl hbn,viewAt_tl hcn⟩;obtain ⟨vb,hvb⟩:∃ vb,vb=ps[bn].1.1.2:=⟨_,rfl⟩;obtain ⟨vc,hvc⟩:∃ vc,vc=ps[cn].1.1.2:=⟨_,rfl⟩;rw [← hvb] at y1 HV;rw [← hvc] at y2 HV;clear hcc hg hT hvb hvc;have HN:Hid (zFB (bks ps) (bn:Int) (cn:Int)=(decide ((bn:Int) ≠ 0) && (decide ((cn:Int) ≠ 0) && decide (vb=wrap64 (vc+1))))):=(by unfold zFB;rw [HV.out.1,HV.out.2]:zFB (bks ps) (bn:Int) (cn:Int)=_);clear HV;obtain ⟨B,hB⟩:∃ B:Int,B=(bn:Int):=⟨_,rfl⟩
 by_cases hz:(bn:Int)=0
 ·have e1:((bn:Int) != 0)=false:=by simpa using hz
  have HE:Hid (zFB (bks ps) (bn:Int) (cn:Int)=false):=(by rw [HN.out,decide_eq_false (fun h=>h hz)];rfl:_=false);clear hz;go_enter Tryz.func53,Tryz.ntmps53;go_wp2;refine rb ?_;repeat (go_big_quiet_step (fail))
  refine wpQuiet_nil ?_;intro _ hw';obtain ⟨x,rfl⟩:=hw';go_wp2;go_ret;exact ⟨zL HE.out.symm,x.below⟩
 ·have e1:((bn:Int) != 0)=true:=by simpa using hz
  by_cases hy:(cn:Int)=0
  ·have e2:((cn:Int) != 0)=false:=by simpa using hy
   have HE:Hid (zFB (bks ps) (bn:Int) (cn:Int)=false):=(by rw [HN.out,decide_eq_false (fun h:(cn:Int) ≠ 0=>h hy)];simp:_=false);clear hz hy;go_enter Tryz.func53,Tryz.ntmps53;go_wp2;refine rb ?_;repeat (go_big_quiet_step (fail))
   refine wpQuiet_nil ?_;intro _ hw';obtain ⟨x,rfl⟩:=hw';go_wp2;go_ret;exact ⟨zL HE.out.symm,x.below⟩
  ·have e2:((cn:Int) != 0)=true:=by simpa using hy
   by_cases he:vb=wrap64 (vc+1)
   ·have e3:(vb == wrap64 (vc+1))=true:=by simpa using he
    have HE:Hid (zFB (bks ps) (bn:Int) (cn:Int)=true):=(by rw [HN.out,decide_eq_true hz,decide_eq_true hy,decide_eq_true he];rfl:_=true);clear hz hy he;go_enter Tryz.func53,Tryz.ntmps53;go_wp2;refine rb ?_;repeat (go_big_quiet_step (fail))
    refine wpQuiet_nil ?_;intro _ hw';obtain ⟨x,rfl⟩:=hw';go_wp2;go_ret;exact ⟨zL HE.out.symm,x.below⟩
   ·have e3:(vb == wrap64 (vc+1))=false:=by simpa using he
    have HE:Hid (zFB (bks ps) (bn:Int) (cn:Int)=false):=(by rw [HN.out,decide_eq_false he];simp:_=false);clear hz hy he;go_enter Tryz.func53,Tryz.ntmps53;go_wp2;refine rb ?_;repeat (go_big_quiet_step (fail))
    refine wpQuiet_nil ?_;intro _ hw';obtain ⟨x,rfl⟩:=hw';go_wp2;go_ret;exact ⟨zL HE.out.symm,x.below⟩
theorem next_is {ps:TL} {v:Value} {b c:Int} {r:Bool} (h:zFB (bks ps) b c=r) (w:World) (hT:jB w v ps) (hb:0≤b∧b < (ps.length:Int)) (hc:0≤c∧c < (ps.length:Int)) :
  Calls Tryz.prog 53 #[v,.int .i64 b,.int .i64 c] w fun e w'=>e=.returned (.bool r)∧Below w.heap.size w w':=by rw [← h];exact next_s ps v b c w hT hb hc
theorem threeRow_s (ps:TL) (v:Value) (k:Int) (w:World) (hT:jB w v ps) (hl:(ps.length:Int)≤1048576) :
  Calls Tryz.prog 51 #[v,.int .i64 k] w fun e w'=>e=.returned (rowAns (zCH (bks ps) k))∧Below w.heap.size w w':=by
 have HT:=hid hT;have HBL:Hid ((bks ps).length=ps.length):=yO ps;obtain ⟨a,cap,rfl,-⟩:=HT.out.1;clear hT;have hne:=yX w
 cases h3:zGG (bks ps) k with
 | none=>
  have HT3:=hid h3;have HR:Hid (zCH (bks ps) k=none):=hid (by unfold zCH;rw [h3]);rw [HR.out];clear h3 HR;unfold rowAns;simp only;go_enter Tryz.func51,Tryz.ntmps51;go_wp2_with fail
  have h3:=three_s ps _ k w HT.out hl;rw [HT3.out] at h3;refine h3.mono ?_;clear h3;rintro e w' ⟨rfl,hw⟩;obtain rfl:=hw.symm;clear hw;go_wp2;refine rb ?_;repeat (go_big_quiet_step (fail))
  refine wpQuiet_nil ?_;intro _ hw';obtain ⟨x,rfl⟩:=hw';go_wp2
  go_ret2
  exact ⟨rfl,x.below⟩
 | some q=>
  obtain ⟨b,c,d⟩:=q;have HT3:=hid h3;have hin:=threeT_in h3;rw [HBL.out] at hin;obtain ⟨_,⟨b0,b1⟩,⟨c0,c1⟩,⟨d0,d1⟩⟩:=hin;have HR:Hid (zCH (bks ps) k=if zFB (bks ps) b c=true∧yR (bks ps) c=wrap64 (yR (bks ps) d+1) then some d else none):=(by unfold zCH;rw [h3]:zCH (bks ps) k=_);clear h3;obtain ⟨cn,rfl⟩:∃ cn:Nat,c=(cn:Int):=⟨c.toNat,by omega⟩;obtain ⟨dn,rfl⟩:∃ dn:Nat,d=(dn:Int):=⟨d.toNat,by omega⟩;have hcn:cn < ps.length:=by omega
  have hdn:dn < ps.length:=by omega
  obtain ⟨g,off,cap',e',hg,hcc⟩:=tree_cell HT.out hcn;injection e' with e1 _ e3
  subst e1 e3;have HTW:Hid (∀ x:Bw w,jB x.to (.slice (some ⟨g,off,none⟩) ps.length cap) ps):=fun x=>HT.out.below x.below
  have y1:∀ x:Bw w,x.to.cell? ⟨g,off+cn * 7+1,none⟩=some (.int .i64 ps[cn].1.1.2):=fun x=>by rw [x.below.cell (by exact hg)];exact (hcc cn hcn).1
  have y2:∀ x:Bw w,x.to.cell? ⟨g,off+dn * 7+1,none⟩=some (.int .i64 ps[dn].1.1.2):=fun x=>by rw [x.below.cell (by exact hg)];exact (hcc dn hdn).1
  rw [viewAt_tl hcn,viewAt_tl hdn] at HR;obtain ⟨vb,hvb⟩:∃ vb,vb=ps[cn].1.1.2:=⟨_,rfl⟩;obtain ⟨vc,hvc⟩:∃ vc,vc=ps[dn].1.1.2:=⟨_,rfl⟩;rw [← hvb] at y1 HR;rw [← hvc] at y2 HR;clear hcc hg hvb hvc
  by_cases hx:zFB (bks ps) b (cn:Int)=true
  ·by_cases he:vb=wrap64 (vc+1)
   ·have e3:(vb != wrap64 (vc+1))=false:=by simpa using he
    rw [HR.out,if_pos ⟨hx,he⟩];clear he HR;unfold rowAns;simp only;go_enter Tryz.func51,Tryz.ntmps51;go_wp2_with fail
    have h3:=three_s ps _ k w HT.out hl;rw [HT3.out] at h3;refine h3.mono ?_;clear h3;rintro e w' ⟨rfl,hw⟩;obtain rfl:=hw.symm;clear hw;go_wp2;refine rb ?_;repeat (go_big_quiet_step (first | (refine xX (next_is hx _ (HTW.out _) ⟨b0,b1⟩ ⟨c0,c1⟩))))
    refine wpQuiet_nil ?_;intro _ hw';obtain ⟨x,rfl⟩:=hw';go_wp2
    go_ret2
    exact ⟨rfl,x.below⟩
   ·have e3:(vb != wrap64 (vc+1))=true:=by simpa using he
    rw [HR.out,if_neg (fun h=>he h.2)];clear he HR;unfold rowAns;simp only;go_enter Tryz.func51,Tryz.ntmps51;go_wp2_with fail
    have h3:=three_s ps _ k w HT.out hl;rw [HT3.out] at h3;refine h3.mono ?_;clear h3;rintro e w' ⟨rfl,hw⟩;obtain rfl:=hw.symm;clear hw;go_wp2;refine rb ?_;repeat (go_big_quiet_step (first | (refine xX (next_is hx _ (HTW.out _) ⟨b0,b1⟩ ⟨c0,c1⟩))))
    refine wpQuiet_nil ?_;intro _ hw';obtain ⟨x,rfl⟩:=hw';go_wp2
    go_ret2
    exact ⟨rfl,x.below⟩
  ·rw [HR.out,if_neg (fun h=>hx h.1)];have hx:zFB (bks ps) b (cn:Int)=false:=by simpa using hx
   clear HR;unfold rowAns;simp only;go_enter Tryz.func51,Tryz.ntmps51;go_wp2_with fail
   have h3:=three_s ps _ k w HT.out hl;rw [HT3.out] at h3;refine h3.mono ?_;clear h3;rintro e w' ⟨rfl,hw⟩;obtain rfl:=hw.symm;clear hw;go_wp2;refine rb ?_;repeat (go_big_quiet_step (first | (refine xX (next_is hx _ (HTW.out _) ⟨b0,b1⟩ ⟨c0,c1⟩))))
   refine wpQuiet_nil ?_;intro _ hw';obtain ⟨x,rfl⟩:=hw';go_wp2
   go_ret2
   exact ⟨rfl,x.below⟩
theorem intF_one (n:Int):∀ u∈xJ n,u.oneCell'=true:=by intro u hu;simp [xJ] at hu;subst hu;rfl
theorem infoInt1:(Tryz.prog.info? 3).map (fun i=>(i.zero,i.size,i.bytes))=some (some (.int .i64 0),1,8):=by kernel_rfl
theorem own_int1 (w:World) (x:Int):(w.alloc (.cells #[.int .i64 x] 3)).ownsRow w.heap.size 3 1 (.slice (some ⟨w.heap.size,0,none⟩) 1 1) 1 (zE xJ [x]):=
 ⟨rfl,Or.inr ⟨w.heap.size,1,#[.int .i64 x],rfl,nl _,heap_alloc_new w _,nl _,by unfold maxLen;omega,rfl,rfl⟩⟩
theorem rev_snoc (pre:List Nat) (j:Nat):[(j:Int)] ++ qG pre.reverse=qG (pre ++ [j]).reverse:=by simp [qG]
theorem rowTo_s (ps:TL) (v:Value) (k:Int) (w:World) (hT:jB w v ps) (hl:(ps.length:Int)≤1048576) :
  Calls Tryz.prog 133 #[v,.int .i64 k] w fun e w'=>∃ v',e=.returned v'∧w'.ownsRow w.heap.size 3 1 v' (rowI (bks ps) k).length (zE xJ (rowI (bks ps) k))∧Below w.heap.size w w':=by
 have HT:=hid hT;obtain ⟨a,cap,rfl,hr⟩:=zAI hT;have HR:=hid hr;have hbl:=yO ps;have HB0:Hid (Below w.heap.size w (w.alloc (.cells #[] 3))):=ba (br _ _) _;have HO0:Hid ((w.alloc (.cells #[] 3)).ownsRow w.heap.size 3 1 (.slice (some ⟨w.heap.size,0,none⟩) 0 0) 0 []):=yH w 3 1;obtain ⟨i0,hi,hz0,hz1,hz2⟩:=info_parts infoInt1;clear hr hT
 cases hd:qH (bks ps) k with
 | none=>
  have hh:xZ (bks ps) k < 0:=by rw [heightT_none hd];omega
  have HF:Hid (rowI (bks ps) k=[]):=zJE hd;clear hd;go_enter Tryz.func133,Tryz.ntmps133;go_wp2_with (go_at_call 84;refine (height_s ps _ k _ (HT.out.below HB0.out) hl).mono ?_;rintro e w' ⟨rfl,rfl⟩)
  go_ret;exact ⟨_,rfl,by rw [HF.out];exact HO0.out,HB0.out⟩
 | some l=>
  have hh:¬ xZ (bks ps) k < 0:=by rw [heightT_some hd];omega
  have HE:Hid (rowI (bks ps) k=qG l.reverse):=zJF hd;have HD:=hid hd;have hll:l.length≤ps.length:=by have:=down_len hd;rw [hbl] at this;exact this
  clear hd;go_enter Tryz.func133,Tryz.ntmps133;go_wp2_with (go_at_call 84;refine (height_s ps _ k _ (HT.out.below HB0.out) hl).mono ?_;rintro e w' ⟨rfl,rfl⟩)
  go_loopw [1,5] (fun c o wr=>∃ (x:Int) (pre lx:List Nat),c=.int .i64 x∧Hid (qH (bks ps) x=some lx)∧Hid (l=pre ++ lx)∧wr.ownsRow w.heap.size 3 1 o (qG pre.reverse).length (zE xJ (qG pre.reverse))∧Below w.heap.size w wr) (fun c _ _=>(intOf c).toNat)
  case atStart=>exact ⟨k,[],l,rfl,HD,rfl,HO0.out,HB0.out⟩
  case round=>
   obtain ⟨x,pre,lx,rfl,HX,HL,hown,hbel⟩:=hrel;have HO:=hid hown;have HB:=hid hbel;have hbs:=hbel.size;have hpl:pre.length≤ps.length:=by have:=congrArg List.length HL.out;rw [List.length_append] at this;omega
   obtain ⟨ao,co,ho4,_⟩:=yL hown;subst ho4;clear hown hbel;obtain ⟨x0,x1⟩:=down_range HX.out;obtain ⟨j,rfl⟩:=Int.eq_ofNat_of_zero_le x0;have hj:j < ps.length:=by rw [hbl] at x1;omega
   by_cases hz:j=0
   ·subst hz
    have HF:Hid (rowI (bks ps) k=qG pre.reverse):=(by
     have h1:lx=[]:=by have:=HX.out;rw [show ((0:Nat):Int)=0 from rfl,down_zero (by rw [hbl];omega)] at this;exact (Option.some.inj this).symm
     rw [HE.out,HL.out,h1,List.append_nil]:rowI (bks ps) k=qG pre.reverse)
    clear x0 x1;go_wp2;go_ret;exact ⟨_,rfl,by rw [HF.out];exact HO.out,HB.out⟩
   ·obtain ⟨hok,l',hl',rfl⟩:=down_some (by omega) HX.out;have p0:(0:Int) < (j:Int):=by omega
    obtain ⟨g,off,rfl,hg,hc⟩:=HR.out (by omega);have q1:(j:Int) < ps.length:=by omega
    have HK:Hid (∀ w',Below w.heap.size w w'→w'.cell? ⟨g,off+j * 7,none⟩=some (.int .i64 ps[j].1.1.1)):=fun w' hb=>by rw [hb.cell (by exact hg)];exact (hc j hj).1
    have HP:Hid (qH (bks ps) ps[j].1.1.1=some l'):=hid (by rw [← yCC hj];exact hl');have HM:Hid (ps[j].1.1.1≤(j:Int) - 1):=hid (by rw [← yCC hj];exact hok.2.2.2);have HL2:Hid (l=(pre ++ [j]) ++ l'):=hid (by rw [HL.out];simp);have HR1:Hid (yM (wr.alloc (.cells #[.int .i64 (j:Int)] 3)) (.slice ao (qG pre.reverse).length co) 1 xJ (qG pre.reverse)):=(zW jG HO.out).below (ba (br _ _) _);have hin:(qG pre.reverse).length=pre.length:=by rw [intsN_len,List.length_reverse]
    have HIN:=hid hin;clear hok hc hl' x1 hin;go_wp2_with (at_builtin;refine yBG _ rfl _ _ 29 rfl wr.heap.size 3 i0 _ 8 Tryz.underlying29 hi hz0 hz1 hz2 rfl (by decide) jG intF_one _ [(j:Int)] rfl (own_int1 wr (j:Int)) _ (qG pre.reverse) rfl HR1.out (by have:=HIN.out;simp;unfold maxLen;omega) (by have:=HIN.out;simp;omega) (by simp) ?_;intro v5 w5 hown5 hgrow5;have HB5:Hid (Below w.heap.size w w5):=(ba HB.out _).grown hgrow5 (by simp;omega) (fun y hy=>by have:=Option.some.inj (show some wr.heap.size=some y from hy);omega);have HO5:Hid (w5.ownsRow w.heap.size 3 1 v5 (qG (pre ++ [j]).reverse).length (zE xJ (qG (pre ++ [j]).reverse))):=(rev_snoc pre j ▸ zN hown5 hbs);have c0:=HK.out _ HB5.out;clear hown5 hgrow5)
    go_roundw
    case rel=>exact ⟨ps[j].1.1.1,pre ++ [j],l',rfl,HP,HL2,HO5.out,HB5.out⟩
    case measure=>have:=HM.out;simp [intOf];omega
def kB (t:List BK) (k under:Int):List Int:=if yBI t k under=true then (rowI t k).filter fun x=>decide (under < x) else []
theorem filt_hit {l:List Int} {i:Nat} {u:Int} (h:i < l.length) (hu:u < l[i]):(l.take (i+1)).filter (fun x=>decide (u < x))=(l.take i).filter (fun x=>decide (u < x)) ++ [l[i]]:=by
 rw [List.take_succ_eq_append_getElem h,List.filter_append];simp [hu]
theorem filt_miss {l:List Int} {i:Nat} {u:Int} (h:i < l.length) (hu:¬ u < l[i]):(l.take (i+1)).filter (fun x=>decide (u < x))=(l.take i).filter (fun x=>decide (u < x)):=by
 rw [List.take_succ_eq_append_getElem h,List.filter_append];simp [hu]
theorem filt_le (l:List Int) (i:Nat) (u:Int):((l.take i).filter (fun x=>decide (u < x))).length≤l.length:=by
 refine Nat.le_trans (List.length_filter_le _ _) ?_;rw [List.length_take];omega
theorem rowAfter_s (ps:TL) (v:Value) (k under:Int) (w:World) (hT:jB w v ps) (hl:(ps.length:Int)≤1048576) :
  Calls Tryz.prog 95 #[v,.int .i64 k,.int .i64 under] w fun e w'=>∃ v',e=.returned v'∧w'.ownsRow w.heap.size 3 1 v' (kB (bks ps) k under).length (zE xJ (kB (bks ps) k under))∧Below w.heap.size w w':=by
 have HT:=hid hT;have hbl:=yO ps;obtain ⟨i0,hi,hz0,hz1,hz2⟩:=info_parts infoInt1;clear hT
 cases he:yBI (bks ps) k under with
 | false=>
  have HF:Hid (kB (bks ps) k under=[]):=hid (by unfold kB;rw [he];rfl);go_enter Tryz.func95,Tryz.ntmps95;go_wp2_with fail
  refine (extends_s ps _ _ _ w HT.out hl).mono ?_;rintro e w' ⟨rfl,hw⟩;obtain rfl:=hw.symm;clear hw;rw [he];clear he;go_wp2;go_ret;exact ⟨_,rfl,by rw [HF.out];exact yH w 3 1,ba (br _ _) _⟩
 | true=>
  obtain ⟨row,hrow⟩:∃ row,row=rowI (bks ps) k:=⟨_,rfl⟩;have HF:Hid (kB (bks ps) k under=row.filter fun x=>decide (under < x)):=hid (by unfold kB;rw [he,hrow];rfl)
  have hrl:row.length≤ps.length:=by
   rw [hrow]
   cases hd:qH (bks ps) k with
   | none=>rw [zJE hd];simp
   | some l=>rw [zJF hd,intsN_len,List.length_reverse];have:=down_len hd;rw [hbl] at this;exact this
  have HC:Hid (Calls Tryz.prog 133 #[v,.int .i64 k] w fun e w'=>∃ v',e=.returned v'∧w'.ownsRow w.heap.size 3 1 v' row.length (zE xJ row)∧Below w.heap.size w w'):=(by rw [hrow];exact rowTo_s ps v k w HT.out hl);clear hrow;go_enter Tryz.func95,Tryz.ntmps95;go_wp2_with fail
  refine (extends_s ps _ _ _ w HT.out hl).mono ?_;rintro e w' ⟨rfl,hw⟩;obtain rfl:=hw.symm;clear hw;rw [he];clear he;go_wp2_with fail
  refine HC.out.mono ?_;rintro e w1 ⟨v1,rfl,hown1,hb1⟩;obtain ⟨a1,c1,h4,hz⟩:=yL hown1;subst h4;have HR1:Hid (yM w1 (.slice a1 row.length c1) 1 xJ row):=zW jG hown1;have HB1:=hid hb1;have HB2:Hid (Below w1.heap.size w1 (w1.alloc (.cells #[] 3))):=ba (br _ _) _;have HO2:Hid ((w1.alloc (.cells #[] 3)).ownsRow w1.heap.size 3 1 (.slice (some ⟨w1.heap.size,0,none⟩) 0 0) 0 []):=yH w1 3 1;have hs1:=hb1.size;clear hown1 hb1 hz;go_wp2
  go_loopw [8,9] (fun o c wr=>∃ i:Nat,i≤row.length∧c=.int .i64 (i:Int)∧wr.ownsRow w1.heap.size 3 1 o ((row.take i).filter fun x=>decide (under < x)).length (zE xJ ((row.take i).filter fun x=>decide (under < x)))∧Below w1.heap.size w1 wr) (fun _ c _=>row.length - (intOf c).toNat)
  case atStart=>exact ⟨0,Nat.zero_le _,rfl,HO2.out,HB2.out⟩
  case round=>
   obtain ⟨i,hir,rfl,hown,hbel⟩:=hrel;have HO:=hid hown;have HB:=hid hbel;have hbs:=hbel.size;have hfl:=filt_le row i under;clear hown hbel
   by_cases hlt:(i:Int) < row.length
   ·have hin:i < row.length:=by omega
    have q0:(0:Int)≤(i:Int):=by omega
    obtain ⟨a,c,e4,hr⟩:=HR1.out;injection e4 with e41 e42 e43
    subst e41;obtain ⟨g,off,rfl,hg,hc⟩:=hr (by omega);have c0:wr.cell? ⟨g,off+i,none⟩=some (.int .i64 row[i]):=by rw [HB.out.cell (by exact hg)];have:=hc i hin 0 (by omega);rw [Nat.mul_one,Nat.add_zero] at this;exact this
    clear hr hc e42 e43
    by_cases hu:under < row[i]
    ·have HN:Hid (((row.take (i+1)).filter fun x=>decide (under < x))=((row.take i).filter fun x=>decide (under < x)) ++ [row[i]]):=filt_hit hin hu;go_wp2_with (at_builtin;refine wpList_append_own _ rfl _ _ 29 rfl w1.heap.size 3 i0 _ 1 8 Tryz.underlying29 hi hz0 hz1 hz2 rfl (by decide) _ _ _ rfl (World.ownsRow.alloc HO.out _) ⟨World.heap _ |>.size,0,none⟩ 1 1 [.int .i64 row[i]] rfl rfl (news1 _ _ _) (ones1 _ _) (by unfold maxLen;omega) (by omega) (by simp;omega) ?_;intro v5 w5 hown5 hgrow5 _;have HB5:Hid (Below w1.heap.size w1 w5):=(ba HB.out _).grown hgrow5 (by simp;omega) (fun y hy=>(HO.out.lt y hy).1);have HO5:=hid hown5;clear hown5 hgrow5)
     go_roundw
     case rel=>exact ⟨i+1,by omega,by go_num,by rw [HN.out,zY,List.length_append];exact HO5.out,HB5.out⟩
     case measure=>simp [intOf];omega
    ·have HN:Hid (((row.take (i+1)).filter fun x=>decide (under < x))=((row.take i).filter fun x=>decide (under < x))):=filt_miss hin hu;go_wp2
     go_roundw
     case rel=>exact ⟨i+1,by omega,by go_num,by rw [HN.out];exact HO.out,HB.out⟩
     case measure=>simp [intOf];omega
   ·have hil:i=row.length:=by omega
    have HIL:=hid hil;clear hil;go_wp2;go_ret;have ho:=HO.out;rw [HIL.out,List.take_length] at ho;exact ⟨_,rfl,by rw [HF.out];exact zN ho hs1,bt HB1.out HB.out⟩
theorem yEA {v:Value} {a b:Int} (h:a=b):Ending.returned (.tuple #[v,.int .i64 a])=.returned (.tuple #[v,.int .i64 b]):=by rw [h]
theorem done_s (cs:CL) (v:Value) (c:CM) (w:World) (hv:qQ w v cs) (hl:(cs.length:Int)≤1048576) (hall:∀ c∈cs,(c.1.size:Int)≤1048576) (hk:(c.2.1.size:Int)≤1048576) :
  Calls Tryz.prog 134 #[v,cmdV c] w fun e w'=>∃ v',e=.returned (.tuple #[v',.int .i64 (jL cs c)])∧w'.ownsRow w.heap.size 108 2 v' (yAA cs c).length (kM (yAA cs c))∧Below w.heap.size w w':=by
 obtain ⟨kd,key,num⟩:=c;have HA:=hid hall;have HV:=hid hv;have B0:Below w.heap.size w (w.alloc (Obj.cells #[Value.int IntKind.i64 kd,Value.string key,Value.int IntKind.i64 num] 130)):=ba (br _ _) _;have HV0:Hid (qQ ((w.alloc (Obj.cells #[Value.int IntKind.i64 kd,Value.string key,Value.int IntKind.i64 num] 130)).alloc (.cells #[] 108)) v cs):=hv.below (ba B0 _)
 have O0:((w.alloc (Obj.cells #[Value.int IntKind.i64 kd,Value.string key,Value.int IntKind.i64 num] 130)).alloc (.cells #[] 108)).ownsRow (w.heap.size+1) 108 2 (.slice (some ⟨w.heap.size+1,0,none⟩) 0 0) ([]:CL).length (kM []):=by
  have:=yH (w.alloc (Obj.cells #[Value.int IntKind.i64 kd,Value.string key,Value.int IntKind.i64 num] 130)) 108 2;rw [show (w.alloc (Obj.cells #[Value.int IntKind.i64 kd,Value.string key,Value.int IntKind.i64 num] 130)).heap.size=w.heap.size+1 by simp] at this;exact this
 have HO0:=hid O0;have HB0:=hid B0;obtain ⟨a,cap,rfl,hr⟩:=hv;have HR:=hid hr;clear hall B0 O0 hr;unfold cmdV;go_enter Tryz.func134,Tryz.ntmps134;go_wp2_with (at_builtin;refine yV _ rfl _ _ rfl (w.heap.size+1) _ [] rfl HO0.out _ cs rfl HV0.out (by simp;omega) (by simp) ?_;intro v0 w0 hown0 hgrow0)
 have hx1:(w.alloc (Obj.cells #[Value.int IntKind.i64 kd,Value.string key,Value.int IntKind.i64 num] 130)).heap.size=w.heap.size+1:=by simp
 have B1:Below (w.alloc (Obj.cells #[Value.int IntKind.i64 kd,Value.string key,Value.int IntKind.i64 num] 130)).heap.size (w.alloc (Obj.cells #[Value.int IntKind.i64 kd,Value.string key,Value.int IntKind.i64 num] 130)) w0:=(ba (br _ _) _).grown hgrow0 (by simp) fun b hb=>by have:=(HO0.out.lt b hb).1;rw [hx1];exact this
 have hs0:w.heap.size < w0.heap.size:=by have:=B1.size;omega
 have hcell:∀ w',Below w0.heap.size w0 w'→w'.cell? ⟨w.heap.size,0,none⟩=some (.int .i64 kd)∧w'.cell? ⟨w.heap.size,1,none⟩=some (.string key)∧w'.cell? ⟨w.heap.size,2,none⟩=some (.int .i64 num):=fun w' hb=>by
  have lt1:w.heap.size < (w.alloc (Obj.cells #[Value.int IntKind.i64 kd,Value.string key,Value.int IntKind.i64 num] 130)).heap.size:=by omega
  refine ⟨?_,?_,?_⟩ <;> rw [(bt B1 hb).cell (by exact lt1)] <;> simp
 have HC:=hid hcell;have HB1:Hid (Below w.heap.size w w0):=bt HB0.out B1;have HV1:Hid (qQ w0 (.slice a cs.length cap) cs):=HV.out.below HB1.out;have HO1:Hid (w0.ownsRow w.heap.size 108 2 v0 cs.length (kM cs)):=zN (by simpa using hown0) (Nat.le_succ _);clear hcell B1 hown0 hgrow0 HO0 HV0 hx1;clear HV;refine (cellsOk_s cs _ w0 HV1.out hl HA.out).mono ?_;rintro e w2 ⟨rfl,hb2⟩;obtain ⟨k0,k1,k2⟩:=HC.out w2 hb2
 cases hcb:kS cs with
 | false=>
  have HE:Hid (jL cs (kd,key,num)=2):=code_bad hcb;go_wp2
  go_ret2
  exact ⟨v0,yEA HE.out.symm,by rw [zFI (by rw [HE.out];decide)];exact zS HO1.out hb2,bt HB1.out hb2⟩
 | true=>
  go_wp2_with fail
  refine (cmd_s (kd,key,num) w2 hk).mono ?_;rintro e w3 ⟨rfl,hb3⟩;have hb23:=bt hb2 hb3;clear k0 k1 k2;obtain ⟨k0,k1,k2⟩:=HC.out w3 hb23
  cases hmb:zAF (kd,key,num) with
  | false=>
   have HE:Hid (jL cs (kd,key,num)=2):=code_cmd hmb;go_wp2
   go_ret2
   exact ⟨v0,yEA HE.out.symm,by rw [zFI (by rw [HE.out];decide)];exact zS HO1.out hb23,bt HB1.out hb23⟩
  | true=>
   go_wp2_with fail
   refine (cellAt_s cs _ key w3 (HV1.out.below hb23) hl).mono ?_;rintro e w4 ⟨rfl,rfl⟩;have HB23:=hid hb23;obtain ⟨hkd,hkey,hnum⟩:=cmdB_bd hmb;obtain ⟨hn0,hn1⟩:=numB_bd hnum;obtain ⟨hall2,hA,hl12⟩:=zFG.1 hcb;have HAS:=hid hA;have HL2:=hid hall2;simp only at hkd hkey hnum hn0 hn1;have HCB:=hid hcb;have HMB:=hid hmb;clear hb23 hcb hmb hA hall2 hb3
   cases hh:zBB cs key with
   | false=>
    have hat:cellAt cs key=-1:=cellAt_no hh;rw [hat]
    by_cases h1:kd=1
    ·subst h1;have hnb:inB num 0 1000000000=true:=hnum;have HN:Hid (zEI cs (1,key,num)=num):=comes_set rfl
     by_cases h12:12≤(cs.length:Int)
     ·have HE:Hid (jL cs (1,key,num)=2):=code_over HCB.out HMB.out (by simp) (Or.inr ⟨hh,by omega⟩);go_wp2_with fail
      refine (yS _ _ _ _).mono ?_;rintro e w5 ⟨rfl,rfl⟩;rw [hnb];go_wp2
      go_ret2
      exact ⟨v0,yEA HE.out.symm,by rw [zFI (by rw [HE.out];decide)];exact zS HO1.out HB23.out,bt HB1.out HB23.out⟩
     ·have HE:Hid (jL cs (1,key,num)=0):=code_done HCB.out HMB.out (by simp) (fun h=>by
       rcases h with h | h
       ·rw [HN.out,hnum] at h;cases h
       ·omega)
      go_wp2_with fail
      refine (yS _ _ _ _).mono ?_;rintro e w5 ⟨rfl,rfl⟩;rw [hnb];go_wp2_with fail
      refine (put_s cs _ (key,num) _ (HV1.out.below HB23.out) hl).mono ?_;rintro e w6 ⟨v6,rfl,hown6,hb6⟩;have HO6:=hid hown6;clear hown6;go_wp2
      go_ret2
      exact ⟨v6,yEA HE.out.symm,by rw [yEF HE.out,HN.out];exact zN HO6.out (bt HB1.out HB23.out).size,bt HB1.out (bt HB23.out hb6)⟩
    ·have HE:Hid (jL cs (kd,key,num)=1):=code_none HCB.out HMB.out h1 hh;have h1':(kd != 1)=true:=by simpa using h1
     go_wp2
     go_ret2
     exact ⟨v0,yEA HE.out.symm,by rw [zFI (by rw [HE.out];decide)];exact zS HO1.out HB23.out,bt HB1.out HB23.out⟩
   | true=>
    obtain ⟨j,hj,hat,hjk⟩:=cellAt_yes hh;rw [hat];subst hjk;obtain ⟨hj0,hj1⟩:=numB_bd (HL2.out cs[j] (List.getElem_mem hj)).2
    by_cases h1:kd=1
    ·subst h1;have hnb:inB num 0 1000000000=true:=hnum;have HN:Hid (zEI cs (1,cs[j].1,num)=num):=comes_set rfl
     have HE:Hid (jL cs (1,cs[j].1,num)=0):=code_done HCB.out HMB.out (by simp) (fun h=>by
      rcases h with h | h
      ·rw [HN.out,hnum] at h;cases h
      ·rw [hh] at h;cases h.1)
     go_wp2_with fail
     refine (yS _ _ _ _).mono ?_;rintro e w5 ⟨rfl,rfl⟩;rw [hnb];go_wp2_with fail
     refine (put_s cs _ (cs[j].1,num) _ (HV1.out.below HB23.out) hl).mono ?_;rintro e w6 ⟨v6,rfl,hown6,hb6⟩;have HO6:=hid hown6;clear hown6;go_wp2
     go_ret2
     exact ⟨v6,yEA HE.out.symm,by rw [yEF HE.out,HN.out];exact zN HO6.out (bt HB1.out HB23.out).size,bt HB1.out (bt HB23.out hb6)⟩
    ·have h1':(kd != 1)=true:=by simpa using h1
     by_cases h3:kd=3
     ·subst h3;obtain ⟨g,off,rfl,hg,hc⟩:=HR.out (by omega);have hne:=yX w4;have q0:(0:Int)≤(j:Int):=by omega
      have q1:(j:Int) < cs.length:=by omega
      have c1:∀ x:Bw w4,x.to.cell? ⟨g,off+j * 2+1,none⟩=some (.int .i64 cs[j].2):=fun x=>by rw [(bt HB1.out (bt HB23.out x.below)).cell (by exact hg)];exact (hc j hj).2
      have cc:∀ x:Bw w4,x.to.cell? ⟨w.heap.size,0,none⟩=some (.int .i64 3)∧x.to.cell? ⟨w.heap.size,1,none⟩=some (.string cs[j].1)∧x.to.cell? ⟨w.heap.size,2,none⟩=some (.int .i64 num):=fun x=>HC.out _ (bt HB23.out x.below)
      have cc0:∀ x:Bw w4,x.to.cell? ⟨w.heap.size,0,none⟩=some (.int .i64 3):=fun x=>(cc x).1
      have cc1:∀ x:Bw w4,x.to.cell? ⟨w.heap.size,1,none⟩=some (.string cs[j].1):=fun x=>(cc x).2.1
      have cc2:∀ x:Bw w4,x.to.cell? ⟨w.heap.size,2,none⟩=some (.int .i64 num):=fun x=>(cc x).2.2
      have HN:Hid (zEI cs (3,cs[j].1,num)=cs[j].2 - num):=comes_take HAS.out hj;clear hc cc
      cases hnb:inB (cs[j].2 - num) 0 1000000000 with
      | false=>
       have HE:Hid (jL cs (3,cs[j].1,num)=2):=code_over HCB.out HMB.out (fun h=>by rw [hh] at h;cases h.2) (Or.inl (by rw [HN.out];exact hnb));go_wp2;refine rb ?_;repeat (go_big_quiet_step (fail))
       refine wpQuiet_nil ?_;intro _ hw';obtain ⟨x,rfl⟩:=hw';have hne2:=yX x.to;have BX:Hid (Below w0.heap.size w0 x.to):=bt HB23.out x.below;have d1:∀ y:Bw x.to,y.to.cell? ⟨g,off+j * 2+1,none⟩=some (.int .i64 cs[j].2):=fun y=>c1 ⟨y.to,bt x.below y.below⟩
       have d2:∀ y:Bw x.to,y.to.cell? ⟨w.heap.size,2,none⟩=some (.int .i64 num):=fun y=>cc2 ⟨y.to,bt x.below y.below⟩
       go_wp2;refine rb ?_;repeat (go_big_quiet_step (fail))
       refine wpQuiet_nil ?_;intro _ hw';obtain ⟨y,rfl⟩:=hw';go_wp2_with fail
       refine (yS _ _ _ _).mono ?_;rintro e w5 ⟨rfl,rfl⟩;rw [hnb];go_wp2
       go_ret2
       exact ⟨v0,yEA HE.out.symm,by rw [zFI (by rw [HE.out];decide)];exact zS HO1.out (bt BX.out y.below),bt HB1.out (bt BX.out y.below)⟩
      | true=>
       have HE:Hid (jL cs (3,cs[j].1,num)=0):=code_done HCB.out HMB.out (fun h=>by rw [hh] at h;cases h.2) (fun h=>by
        rcases h with h | h
        ·rw [HN.out,zEH,hnb] at h;cases h
        ·rw [hh] at h;cases h.1)
       go_wp2;refine rb ?_;repeat (go_big_quiet_step (fail))
       refine wpQuiet_nil ?_;intro _ hw';obtain ⟨x,rfl⟩:=hw';have hne2:=yX x.to;have BX:Hid (Below w0.heap.size w0 x.to):=bt HB23.out x.below;have d1:∀ y:Bw x.to,y.to.cell? ⟨g,off+j * 2+1,none⟩=some (.int .i64 cs[j].2):=fun y=>c1 ⟨y.to,bt x.below y.below⟩
       have d2:∀ y:Bw x.to,y.to.cell? ⟨w.heap.size,2,none⟩=some (.int .i64 num):=fun y=>cc2 ⟨y.to,bt x.below y.below⟩
       have d3:∀ y:Bw x.to,y.to.cell? ⟨w.heap.size,1,none⟩=some (.string cs[j].1):=fun y=>cc1 ⟨y.to,bt x.below y.below⟩
       go_wp2;refine rb ?_;repeat (go_big_quiet_step (fail))
       refine wpQuiet_nil ?_;intro _ hw';obtain ⟨y,rfl⟩:=hw';go_wp2_with fail
       refine (yS _ _ _ _).mono ?_;rintro e w5 ⟨rfl,rfl⟩;rw [hnb];go_wp2_with fail
       refine (put_s cs _ (cs[j].1,cs[j].2 - num) _ (HV1.out.below (bt BX.out y.below)) hl).mono ?_;rintro e w6 ⟨v6,rfl,hown6,hb6⟩;have HO6:=hid hown6;clear hown6;go_wp2
       go_ret2
       exact ⟨v6,yEA HE.out.symm,by rw [yEF HE.out,HN.out];exact zN HO6.out (bt HB1.out (bt BX.out y.below)).size,bt HB1.out (bt (bt BX.out y.below) hb6)⟩
     ·obtain rfl:kd=2:=by omega
      obtain ⟨g,off,rfl,hg,hc⟩:=HR.out (by omega);have hne:=yX w4;have q0:(0:Int)≤(j:Int):=by omega
      have q1:(j:Int) < cs.length:=by omega
      have c1:∀ x:Bw w4,x.to.cell? ⟨g,off+j * 2+1,none⟩=some (.int .i64 cs[j].2):=fun x=>by rw [(bt HB1.out (bt HB23.out x.below)).cell (by exact hg)];exact (hc j hj).2
      have cc:∀ x:Bw w4,x.to.cell? ⟨w.heap.size,0,none⟩=some (.int .i64 2)∧x.to.cell? ⟨w.heap.size,1,none⟩=some (.string cs[j].1)∧x.to.cell? ⟨w.heap.size,2,none⟩=some (.int .i64 num):=fun x=>HC.out _ (bt HB23.out x.below)
      have cc0:∀ x:Bw w4,x.to.cell? ⟨w.heap.size,0,none⟩=some (.int .i64 2):=fun x=>(cc x).1
      have cc1:∀ x:Bw w4,x.to.cell? ⟨w.heap.size,1,none⟩=some (.string cs[j].1):=fun x=>(cc x).2.1
      have cc2:∀ x:Bw w4,x.to.cell? ⟨w.heap.size,2,none⟩=some (.int .i64 num):=fun x=>(cc x).2.2
      have HN:Hid (zEI cs (2,cs[j].1,num)=cs[j].2+num):=comes_add HAS.out hj (by decide) (by decide);clear hc cc
      cases hnb:inB (cs[j].2+num) 0 1000000000 with
      | false=>
       have HE:Hid (jL cs (2,cs[j].1,num)=2):=code_over HCB.out HMB.out (fun h=>by rw [hh] at h;cases h.2) (Or.inl (by rw [HN.out];exact hnb));go_wp2;refine rb ?_;repeat (go_big_quiet_step (fail))
       refine wpQuiet_nil ?_;intro _ hw';obtain ⟨x,rfl⟩:=hw';go_wp2_with fail
       refine (yS _ _ _ _).mono ?_;rintro e w5 ⟨rfl,rfl⟩;rw [hnb];go_wp2
       go_ret2
       exact ⟨v0,yEA HE.out.symm,by rw [zFI (by rw [HE.out];decide)];exact zS HO1.out (bt HB23.out x.below),bt HB1.out (bt HB23.out x.below)⟩
      | true=>
       have HE:Hid (jL cs (2,cs[j].1,num)=0):=code_done HCB.out HMB.out (fun h=>by rw [hh] at h;cases h.2) (fun h=>by
        rcases h with h | h
        ·rw [HN.out,zEH,hnb] at h;cases h
        ·rw [hh] at h;cases h.1)
       go_wp2;refine rb ?_;repeat (go_big_quiet_step (fail))
       refine wpQuiet_nil ?_;intro _ hw';obtain ⟨x,rfl⟩:=hw';go_wp2_with fail
       refine (yS _ _ _ _).mono ?_;rintro e w5 ⟨rfl,rfl⟩;rw [hnb];go_wp2_with fail
       refine (put_s cs _ (cs[j].1,cs[j].2+num) _ (HV1.out.below (bt HB23.out x.below)) hl).mono ?_;rintro e w6 ⟨v6,rfl,hown6,hb6⟩;have HO6:=hid hown6;clear hown6;go_wp2
       go_ret2
       exact ⟨v6,yEA HE.out.symm,by rw [yEF HE.out,HN.out];exact zN HO6.out (bt HB1.out (bt HB23.out x.below)).size,bt HB1.out (bt (bt HB23.out x.below) hb6)⟩
theorem infoInt:(Tryz.prog.info? 3).map (fun i=>(i.zero,i.size,i.bytes))=some (some (.int .i64 0),1,8):=by kernel_rfl
theorem doneAll_s (cs:CL) (l:List CM) (v u:Value) (w:World) (hv:qQ w v cs) (hu:yM w u 3 kL l) (hok:okL cs) (hl:(l.length:Int)≤1048576) (hall:∀ c∈l,(c.2.1.size:Int)≤1048576) :
  Calls Tryz.prog 96 #[v,u] w fun e w'=>∃ v1 v2,e=.returned (.tuple #[v1,v2])∧w'.ownsRow w.heap.size 108 2 v1 (yD cs l).length (kM (yD cs l))∧w'.ownsRow w.heap.size 3 1 v2 (zHI cs l).length ((zHI cs l).map (Value.int .i64))∧Below w.heap.size w w':=by
 have HV:=hid hv;have HL:=hid hok;have HA:=hid hall;have h1:=hok.1;have HV0:Hid (qQ (w.alloc (.cells #[] 108)) v cs):=hv.below (ba (br _ _) _);have HO0:Hid ((w.alloc (.cells #[] 108)).ownsRow w.heap.size 108 2 (.slice (some ⟨w.heap.size,0,none⟩) 0 0) ([]:CL).length (kM [])):=yH w 108 2;obtain ⟨a,cap,rfl,_⟩:=hv;obtain ⟨b,bcap,rfl,hr⟩:=hu;have HR:=hid hr;clear hall hr hok;go_enter Tryz.func96,Tryz.ntmps96;go_wp2_with (at_builtin;refine yV _ rfl _ _ rfl w.heap.size _ [] rfl HO0.out _ cs rfl HV0.out (by simp;omega) (by simp) ?_;intro v0 w0 hown0 hgrow0)
 have B0:Below w.heap.size w w0:=(ba (br _ _) _).grown hgrow0 (by simp) fun b hb=>(HO0.out.lt b hb).1
 have hs0:=B0.size;have HO1:Hid (w0.ownsRow w.heap.size 108 2 v0 cs.length (kM cs)):=hid (by simpa using hown0);have HB0:=hid B0;clear hown0 hgrow0 HO0 HV0 B0;obtain ⟨i0,hi,hz0,hz1,hz2⟩:=info_parts infoInt
 go_loopw [6,7,8] (fun o q i wr=>∃ k:Nat,k≤l.length∧i=.int .i64 (k:Int)∧wr.ownsRow w.heap.size 108 2 o (yD cs (l.take k)).length (kM (yD cs (l.take k)))∧wr.ownsRow w.heap.size 3 1 q k ((zHI cs (l.take k)).map (Value.int .i64))∧Below w.heap.size w wr) (fun _ _ i _=>l.length - (intOf i).toNat)
 case atStart=>
  exact ⟨0,Nat.zero_le _,rfl,zS HO1.out (ba (br _ _) _),zN (yH w0 3 1) hs0,ba HB0.out _⟩
 case round=>
  obtain ⟨k,hk,rfl,hown,hcod,hbel⟩:=hrel;have HO:=hid hown;have HQ:=hid hcod;have HB:=hid hbel;have hbs:=hbel.size;clear hown hcod hbel
  by_cases hlt:(k:Int) < l.length
  ·have hkn:k < l.length:=by omega
   obtain ⟨g,off,rfl,hg,hc⟩:=HR.out (by omega);have q0:(0:Int)≤(k:Int):=by omega
   have c0:wr.cell? ⟨g,off+k * 3,none⟩=some (.int .i64 l[k].1):=by rw [HB.out.cell (by exact hg)];exact hc k hkn 0 (by omega)
   have c1:wr.cell? ⟨g,off+k * 3+1,none⟩=some (.string l[k].2.1):=by rw [HB.out.cell (by exact hg)];exact hc k hkn 1 (by omega)
   have c2:wr.cell? ⟨g,off+k * 3+2,none⟩=some (.int .i64 l[k].2.2):=by rw [HB.out.cell (by exact hg)];exact hc k hkn 2 (by omega)
   have hok2:okL (yD cs (l.take k)):=okL_all _ HL.out fun c hc=>HA.out c (List.mem_of_mem_take hc)
   have HK2:=hid hok2;have HS:Hid (l.take (k+1)=l.take k ++ [l[k]]):=take_snoc hkn;clear hc hok2;go_wp2_with fail
   refine (done_s (yD cs (l.take k)) _ l[k] wr (qT HO.out) HK2.out.1 HK2.out.2 (HA.out _ (List.getElem_mem hkn))).mono ?_;rintro e w2 ⟨v2,rfl,hown2,hb2⟩;have HO2:=hid hown2;have HQ2:Hid (w2.ownsRow w.heap.size 3 1 u7 k ((zHI cs (l.take k)).map (Value.int .i64))):=zS HQ.out hb2;have HB2:Hid (Below w.heap.size w w2):=bt HB.out hb2;have hbs2:=hb2.size;clear hown2 hb2 c0 c1 c2;go_wp2_with (at_builtin;refine wpList_append_own _ rfl _ _ 29 rfl w.heap.size 3 i0 (.int .i64 0) 1 8 Tryz.underlying29 hi hz0 hz1 hz2 rfl (by decide) _ _ _ rfl (World.ownsRow.alloc HQ2.out _) ⟨World.heap _ |>.size,0,none⟩ 1 1 [.int .i64 (jL (yD cs (l.take k)) l[k])] rfl rfl (news1 _ _ _) (one_int _) (by unfold maxLen;omega) (by omega) (by simp;omega) ?_;intro v3 w3 hown3 hgrow3 _)
   have HO3:Hid (w3.ownsRow w.heap.size 108 2 v2 _ _):=zN (World.ownsRow.kept (World.ownsRow.alloc HO2.out _) hgrow3 (own_ne HQ.out HO2.out (nl _))) hbs;have HQ3:=hid hown3;have HB3:Hid (Below w.heap.size w w3):=(ba HB2.out _).grown hgrow3 (by simp;omega) fun b hb=>(HQ2.out.lt b hb).1
   clear hown3 hgrow3
   go_roundw
   case rel=>exact ⟨k+1,by omega,by go_num,by rw [HS.out,doneAll_snoc];exact HO3.out,by rw [HS.out,codes_snoc,List.map_append];exact HQ3.out,HB3.out⟩
   case measure=>simp [intOf];omega
  ·have hkl:k=l.length:=by omega
   have HK:=hid hkl;clear hkl;go_wp2
   go_ret2
   have e1:=HO.out;have e2:=HQ.out;rw [HK.out,List.take_length] at e1 e2;exact ⟨u6,u7,rfl,e1,by rw [codesC_len];exact e2,HB.out⟩
def kN (t:List BK) (k:Int):List CM:=if 0≤k∧k≤(t.length:Int) - 1 then (t[k.toNat]?.getD kE).2.1 else []
def zGF (t:List BK):CL→List Int→CL
 | cs,[]=>cs
 | cs,k :: row=>zGF t (yD cs (kN t k)) row
theorem rowC_take (t:List BK) (row:List Int):∀ (cs:CL) (m:Nat) (h:m < row.length),zGF t cs (row.take (m+1))=yD (zGF t cs (row.take m)) (kN t row[m]):=by
 induction row with
 | nil=>intro cs m h;simp at h
 | cons k row ih=>
  intro cs m h
  cases m with
  | zero=>rfl
  | succ m=>
   have:=ih (yD cs (kN t k)) m (by simpa using h)
   simpa [zGF] using this
theorem cmdsAt_ok {t:List BK} (h:okT t) (k:Int):(∀ c∈kN t k,(c.2.1.size:Int)≤1048576)∧((kN t k).length:Int)≤1048576:=by
 unfold kN
 split
 ·rename_i hk
  have hlt:k.toNat < t.length:=by omega
  rw [List.getElem?_eq_getElem hlt];have:=h.2 _ (List.getElem_mem hlt);exact ⟨this.2,this.1⟩
 ·exact ⟨fun c hc=>(by cases hc),by simp⟩
theorem rowC_ok {t:List BK} (ht:okT t) (row:List Int):∀ cs,okL cs→okL (zGF t cs row):=by
 induction row with
 | nil=>intro cs h;exact h
 | cons k row ih=>intro cs h;exact ih _ (okL_all _ h (cmdsAt_ok ht k).1)
theorem rowCells_s (ps:TL) (v:Value) (row:List Int) (u:Value) (w:World) (hT:jB w v ps) (hu:yM w u 1 xJ row) (hk:okT (bks ps)) (hl:(row.length:Int)≤1048576) :
  Calls Tryz.prog 187 #[v,u] w fun e w'=>∃ v',e=.returned v'∧w'.ownsRow w.heap.size 108 2 v' (zGF (bks ps) [] row).length (kM (zGF (bks ps) [] row))∧Below w.heap.size w w':=by
 have HT:=hid hT;have HU:=hid hu;have HK:=hid hk;have hpl:(ps.length:Int)≤1048576:=by have:=hk.1;rw [yO] at this;exact this
 have HP:Hid ((bks ps).length=ps.length):=yO ps;obtain ⟨a,cap,rfl,-⟩:=hT.1;obtain ⟨b,cb,rfl,hr⟩:=hu;have HR:=hid hr;clear hT hk hr;go_enter Tryz.func187,Tryz.ntmps187;go_wp2
 go_loopw [5,6] (fun o i wr=>∃ m:Nat,m≤row.length∧i=.int .i64 (m:Int)∧Hid (wr.ownsRow w.heap.size 108 2 o (zGF (bks ps) [] (row.take m)).length (kM (zGF (bks ps) [] (row.take m))))∧Hid (Below w.heap.size w wr)) (fun _ i _=>row.length - (intOf i).toNat)
 case atStart=>exact ⟨0,Nat.zero_le _,rfl,yH w _ _,ba (br _ _) _⟩
 case round=>
  obtain ⟨m,hm,rfl,HO,HB⟩:=hrel
  by_cases hlt:(m:Int) < row.length
  ·have hmn:m < row.length:=by omega
   obtain ⟨g,off,rfl,hg,hc⟩:=HR.out (by omega);have q0:(0:Int)≤(m:Int):=by omega
   obtain ⟨k,hk⟩:∃ k,k=row[m]:=⟨_,rfl⟩;have c0:wr.cell? ⟨g,off+m,none⟩=some (.int .i64 k):=by rw [HB.out.cell (by exact hg),hk];have:=hc m hmn 0 (by omega);simpa [xJ] using this
   have HS:Hid (zGF (bks ps) [] (row.take (m+1))=yD (zGF (bks ps) [] (row.take m)) (kN (bks ps) k)):=(by rw [rowC_take _ _ _ _ hmn,hk]:zGF (bks ps) [] (row.take (m+1))=_);clear hc hk hg;go_wp2_with fail
   refine (yS k 0 ((ps.length:Int) - 1) wr).mono ?_;rintro e w1 ⟨rfl,hw⟩;obtain rfl:=hw.symm;clear hw
   by_cases hin:0≤k∧k≤(ps.length:Int) - 1
   ·rw [kY hin];obtain ⟨j,rfl⟩:∃ j:Nat,k=(j:Int):=⟨k.toNat,by omega⟩;have hjn:j < ps.length:=by omega
    have hjl:(j:Int) < ps.length:=by omega
    have HC:Hid (kN (bks ps) (j:Int)=ps[j].1.2.1):=hid (by unfold kN;rw [if_pos (by rw [HP.out];exact hin)];simp [bks,hjn]);obtain ⟨at',ct,et,ht⟩:=HT.out.1;injection et with et1 _ et3
    subst et1 et3;obtain ⟨gt,ot,rfl,hgt,hct⟩:=ht (by omega);have hcm:=HT.out.2 ps[j] (List.getElem_mem hjn);have HCM:Hid (yM wr ps[j].2 3 kL ps[j].1.2.1):=hcm.below HB.out;have HOK:Hid (okB ps[j].1):=okT_at HK.out hjn;have c1:wr.cell? ⟨gt,ot+j * 7+2,none⟩=some ps[j].2:=by rw [HB.out.cell (by exact hgt)];exact hct j hjn 2 (by omega)
    obtain ⟨cv,hcv⟩:∃ cv,cv=ps[j].2:=⟨_,rfl⟩;obtain ⟨l,hl'⟩:∃ l,l=ps[j].1.2.1:=⟨_,rfl⟩;rw [← hcv] at c1;have HCM:Hid (yM wr cv 3 kL l∧(l.length:Int)≤1048576∧∀ c∈l,(c.2.1.size:Int)≤1048576):=(by rw [hcv,hl'];exact ⟨HCM.out,HOK.out⟩:yM wr cv 3 kL l∧_∧_);have HC:Hid (kN (bks ps) (j:Int)=l):=hid (by rw [HC.out,hl']);obtain ⟨ac,cc,ec,-⟩:=HCM.out.1;subst ec;clear hcv hl' hct hcm ht hgt;go_wp2_with fail
    refine (doneAll_s _ l _ _ wr (qT HO.out) HCM.out.1 (rowC_ok HK.out _ _ ⟨by simp,fun c hc=>by cases hc⟩) HCM.out.2.1 HCM.out.2.2).mono ?_;rintro e w2 ⟨v1,v2,rfl,ho1,-,hb⟩;have HO2:Hid (w2.ownsRow w.heap.size 108 2 v1 (zGF (bks ps) [] (row.take (m+1))).length (kM (zGF (bks ps) [] (row.take (m+1))))):=(by rw [HS.out,HC.out];exact zN ho1 HB.out.size:w2.ownsRow _ _ _ _ _ _);have HB2:Hid (Below w.heap.size w w2):=bt HB.out hb;clear ho1 hb c0 c1;go_wp2
    go_roundw
    case rel=>exact ⟨m+1,by omega,by go_num,HO2.out,HB2.out⟩
    case measure=>simp [intOf];omega
   ·rw [zAB hin];have HC:Hid (kN (bks ps) k=[]):=hid (by unfold kN;rw [if_neg (by rw [HP.out];exact hin)]);have HO2:Hid (wr.ownsRow w.heap.size 108 2 u5 (zGF (bks ps) [] (row.take (m+1))).length (kM (zGF (bks ps) [] (row.take (m+1))))):=(by rw [HS.out,HC.out];exact HO.out:wr.ownsRow _ _ _ _ _ _);clear hin c0;go_wp2
    go_roundw
    case rel=>exact ⟨m+1,by omega,by go_num,HO2.out,HB.out⟩
    case measure=>simp [intOf];omega
  ·have hml:m=row.length:=by omega
   subst hml;rw [List.take_length] at HO;go_wp2;go_ret;exact ⟨_,rfl,HO.out,HB.out⟩
end Go.Proofs.YtdopefimjabigadGreat
