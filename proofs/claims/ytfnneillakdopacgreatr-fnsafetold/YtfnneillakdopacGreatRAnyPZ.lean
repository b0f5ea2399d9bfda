/-
  A text of ours: AnyP.
-/
import Derived.Test.YtfnneillakdopacGreatRK1
import Derived.Test.YtfnneillakdopacGreatRSomeDZ
import Derived.Test.YtfnneillakdopacGreatRQcDZ
import Derived.Test.YtfnneillakdopacGreatRPeerCZ
import Derived.Test.YtfnneillakdopacGreatRThrSZ
import Derived.Test.YtfnneillakdopacGreatREarSZ
set_option maxRecDepth 100000
set_option maxHeartbeats 32000000
namespace Go.Proofs.YtfnneillakdopacGreatR
open _root_.Go.Proofs.Tryz
open Go.Value renaming int->I,oneCell'->Af
open Go.IntKind renaming i64->U
open Option renaming none->Aa,some->Ab
open Nat renaming le_trans->Ac
open Go.World.ownsRow renaming kept->Ad
open _root_.Array renaming replicate->Ae
open Go.RowKit Num
variable {x:Int} {p:PE}
structure smW (p:PE):Prop where
 small:yC p
 good:yDG p
 len:jZ p<=600
 high0:0<=p.high.2.1
 lock0:0<=p.lock.2.1
theorem infoJ1:(prog.info? 3).map (fun i=>(i.zero,i.size,i.bytes))=Ab (Ab (I U 0),1,8):=by kernel_rfl
theorem smP.w (h:smP 30 p):smW p/\jZ p<=500:=⟨⟨h.small (by decide),h.good (by decide),by have:=h.len;omega,h.high.2.1.1,h.lock.2.1.1⟩,by have:=h.len;omega⟩
theorem smW.id (h:smW p) (hx:(Lit.int U x).wf=true):smW { p with id:=x }:=⟨⟨h.small.row,h.small.cells,h.small.early,h.small.undos,h.small.votes,h.small.news,h.small.kcells,h.small.kundos⟩,{ h.good with gid:=hx },h.len,h.high0,h.lock0⟩
theorem smW.view (h:smW p) (hx:(Lit.int U x).wf=true):smW { p with view:=x }:=⟨⟨h.small.row,h.small.cells,h.small.early,h.small.undos,h.small.votes,h.small.news,h.small.kcells,h.small.kundos⟩,{ h.good with gview:=hx },h.len,h.high0,h.lock0⟩
theorem smW.high (h:smW p) {x:QC} (hx:wfQ x/\0<=x.2.1):smW { p with high:=x }:=⟨⟨h.small.row,h.small.cells,h.small.early,h.small.undos,h.small.votes,h.small.news,h.small.kcells,h.small.kundos⟩,{ h.good with ghigh:=hx.1 },h.len,hx.2,h.lock0⟩
theorem smW.lock (h:smW p) {x:QC} (hx:wfQ x/\0<=x.2.1):smW { p with lock:=x }:=⟨⟨h.small.row,h.small.cells,h.small.early,h.small.undos,h.small.votes,h.small.news,h.small.kcells,h.small.kundos⟩,{ h.good with glock:=hx.1 },h.len,h.high0,hx.2⟩
theorem smW.last (h:smW p) {x:VT} (hx:wfQ x):smW { p with last:=x }:=⟨⟨h.small.row,h.small.cells,h.small.early,h.small.undos,h.small.votes,h.small.news,h.small.kcells,h.small.kundos⟩,{ h.good with glast:=hx },h.len,h.high0,h.lock0⟩
theorem smW.row (h:smW p) (hl:jZ p<=500) (hx:(Lit.int U x).wf=true):smW { p with row:=p.row ++ [x] }:=by
 have a:maxLen=9223372036854775807:=rfl;have hr:p.row.length<=500:=by unfold jZ at hl;omega
 refine ⟨⟨by simp;omega,h.small.cells,h.small.early,h.small.undos,h.small.votes,h.small.news,h.small.kcells,h.small.kundos⟩,{ h.good with lrow:=by simp;omega,grow:=fun y hy=>?_ },by unfold jZ at hl ⊢;simp;omega,h.high0,h.lock0⟩
 rcases List.mem_append.1 hy with hy | hy
 ·exact h.good.grow y hy
 ·rw [List.mem_singleton.1 hy];exact hx
theorem smW.early (h:smW p) (hl:jZ p<=500) (hx:(Lit.int U x).wf=true):smW { p with early:=p.early ++ [x] }:=by
 have a:maxLen=9223372036854775807:=rfl;have hr:p.early.length<=500:=by unfold jZ at hl;omega
 refine ⟨⟨h.small.row,h.small.cells,by simp;omega,h.small.undos,h.small.votes,h.small.news,h.small.kcells,h.small.kundos⟩,{ h.good with learly:=by simp;omega,gearly:=fun y hy=>?_ },by unfold jZ at hl ⊢;simp;omega,h.high0,h.lock0⟩
 rcases List.mem_append.1 hy with hy | hy
 ·exact h.good.gearly y hy
 ·rw [List.mem_singleton.1 hy];exact hx
theorem smT.bt {t:List BK} (h:smT t):BT t 60:=⟨h.one,h.many,fun b hb=>by
 have hs:=h.each b hb;have h1:=hs.many;have h2:=hs.view;refine ⟨by omega,fun c hc=>?_,h2.1,by omega⟩;have:=hs.cmds c hc;unfold zAF at this;simp only [Bool.and_eq_true] at this;have:=yFA this.2.1
 omega⟩
theorem zO.st {lo hi B:Nat} {w w':World} {s:PV} (h:zO lo hi w p s) (hg:w.grownBy w' (some B)) (hB:B < lo):zO lo hi w' p s:=by
 have k:∀ {e:TypeId} {m n:Nat} {v:Value} {xs:List Value},w.ownsRow lo e m v n xs->v.ownBlock=none∨v.ownBlock ≠ some B:=fun ho=>Or.inr fun e=>by have:=(ho.lt _ e).1;omega
 exact ⟨⟨Ad h.1.row hg (k h.1.row),Ad h.1.cells hg (k h.1.cells),Ad h.1.early hg (k h.1.early),Ad h.1.undos hg (k h.1.undos),Ad h.1.votes hg (k h.1.votes),Ad h.1.news hg (k h.1.news)⟩,h.2.1,Ac h.2.2 hg.size⟩
structure AnB (w y:World) (B N lo:Nat) (ao:Option Addr) (len cap b off:Nat) (p:PE) (t:PV) (v:Value) (ps:TL):Prop where
 st:St y B ao len cap b off
 grown:w.grownBy y (some B)
 zero:Bx y w.heap.size zF 35
 box:Bx y N (zA p t) 35
 own:zO lo y.heap.size y p t
 tree:xH y w.heap.size v ps
 lim:yDC lo v ps
 lt:B < w.heap.size/\w.heap.size < N/\w.heap.size < lo/\(0 < len->b < w.heap.size)
 top:lo<=y.heap.size
structure AnB0 (w y:World) (B lo:Nat) (ao:Option Addr) (len cap b off:Nat) (p:PE) (t:PV) (v:Value) (ps:TL):Prop where
 st:St y B ao len cap b off
 grown:w.grownBy y (some B)
 zero:Bx y w.heap.size zF 35
 own:zO lo y.heap.size y p t
 tree:xH y w.heap.size v ps
 lim:yDC lo v ps
 lt:B < w.heap.size/\w.heap.size < lo/\(0 < len->b < w.heap.size)
 top:lo<=y.heap.size
section
variable {w y x:World} {B N lo:Nat} {ao:Option Addr} {len cap b off:Nat} {p p':PE} {t t':PV} {v:Value} {ps:TL}
theorem AnB.put (h:AnB w y B N lo ao len cap b off p t v ps) (hg:y.grownBy x (some N)) (hk:Bx x N (zA p' t) 35) (e0:p'.row=p.row) (e1:p'.cells=p.cells) (e2:p'.early=p.early) (e3:p'.undos=p.undos) (e4:p'.votes=p.votes) (e5:p'.news=p.news):AnB w x B N lo ao len cap b off p' t v ps:=by
 have:=h.lt;exact ⟨h.st.other hg (by omega) (fun hl e=>by have:=h.lt.2.2.2 hl;omega),yT h.grown (by omega) hg,gk hg h.zero (qsn (by omega)),hk,((h.own.boxed h.box hg).wide hg.size (nl _)).other e0 e1 e2 e3 e4 e5,h.tree.boxed h.box hg,h.lim,h.lt,Ac h.top hg.size⟩
theorem AnB.call (h:AnB w y B N lo ao len cap b off p t v ps) (hs:St x B ao len cap b off) (hg:y.grownBy x (some B)):AnB w x B N lo ao len cap b off p t v ps:=by
 have:=h.lt;exact ⟨hs,zP h.grown hg,gk hg h.zero (qsn (by omega)),gk hg h.box (qsn (by omega)),(h.own.st hg (by omega)).wide hg.size (nl _),h.tree.st hg h.lt.1,h.lim,h.lt,Ac h.top hg.size⟩
theorem AnB.more (h:AnB w y B N lo ao len cap b off p t v ps) (hb:Be y x):AnB w x B N lo ao len cap b off p t v ps:=
 ⟨h.st.below hb,zP h.grown (yG hb),bk hb h.zero,bk hb h.box,(h.own.below hb).wide hb.size (nl _),h.tree.below hb,h.lim,h.lt,Ac h.top hb.size⟩
theorem AnB0.box {A:Array Value} (h:AnB0 w y B lo ao len cap b off p t v ps) (hk0:Bx y N A 35) (hg:y.grownBy x (some N)) (hk:Bx x N (zA p t) 35) (hN:w.heap.size < N):AnB w x B N lo ao len cap b off p t v ps:=by
 have:=h.lt;exact ⟨h.st.other hg (by omega) (fun hl e=>by have:=h.lt.2.2 hl;omega),yT h.grown (by omega) hg,gk hg h.zero (qsn (by omega)),hk,(h.own.boxed hk0 hg).wide hg.size (nl _),h.tree.boxed hk0 hg,h.lim,⟨h.lt.1,hN,h.lt.2⟩,Ac h.top hg.size⟩
theorem any_add {r:Option Nat} (h:AnB w y B N lo ao len cap b off p t v ps) (hg:y.grownBy x r) (hr:∀ g,r=some g->lo<=g) (hb:r ≠ some N) (ho:zO lo x.heap.size x p' t'):Bx x N (zA p t) 35/\AnB0 w x B lo ao len cap b off p' t' v ps:=by
 have:=h.lt
 have k:∀ {e:TypeId} {m n:Nat} {u:Value} {xs:List Value},y.ownsRow w.heap.size e m u n xs->(∀ g,u.ownBlock=some g->g < lo)->u.ownBlock=none∨u.ownBlock ≠ r:=fun {e m n u xs} ho a=>by
  cases hu:u.ownBlock with
  | none=>exact Or.inl rfl
  | some g=>exact Or.inr fun e=>by have:=a g hu;have:=hr g e.symm;omega
 exact ⟨gk hg h.box (fun e=>hb e.symm),h.st.row hg (fun g e=>by have:=hr g e;omega) (fun hl g e=>by have:=hr g e;have:=h.lt.2.2.2 hl;omega),grown_row h.grown (br _ _) hg (fun g e=>by have:=hr g e;omega),gk hg h.zero (fun e=>by have:=hr _ e.symm;omega),ho,⟨Ad h.tree.row hg (k h.tree.row h.lim.1),fun q hq=>Ad (h.tree.cmds q hq) hg (k (h.tree.cmds q hq) (h.lim.2 q hq)),h.tree.apart⟩,h.lim,⟨h.lt.1,h.lt.2.2.1,h.lt.2.2.2⟩,Ac h.top hg.size⟩
theorem any_addRow {j:Int} {g c:Nat} (h:AnB w y B N lo ao len cap b off p t v ps) (hg:y.grownBy x t.row.ownBlock) (ho:x.ownsRow lo 3 1 (.slice (Ab ⟨g,0,Aa⟩) (p.row.length+1) c) (p.row.length+1) (zE xJ p.row ++ [I U j])) (hw:t.row.ownBlock=some g∨y.heap.size<=g) (hl:g < x.heap.size):Bx x N (zA p t) 35/\AnB0 w x B lo ao len cap b off { p with row:=p.row ++ [j] } { t with row:=.slice (Ab ⟨g,0,Aa⟩) (p.row.length+1) c } v ps:=
 any_add h hg (fun k e=>(h.own.1.row.lt k e).1) (fun e=>(zH h.own.1.row h.box (by decide)).elim (fun k=>by rw [k] at e;cases e) (fun k=>k e)) (h.own.addRow hg ho hw hl)
theorem any_addEarly {j:Int} {g c:Nat} (h:AnB w y B N lo ao len cap b off p t v ps) (hg:y.grownBy x t.early.ownBlock) (ho:x.ownsRow lo 3 1 (.slice (Ab ⟨g,0,Aa⟩) (p.early.length+1) c) (p.early.length+1) (zE xJ p.early ++ [I U j])) (hw:t.early.ownBlock=some g∨y.heap.size<=g) (hl:g < x.heap.size):Bx x N (zA p t) 35/\AnB0 w x B lo ao len cap b off { p with early:=p.early ++ [j] } { t with early:=.slice (Ab ⟨g,0,Aa⟩) (p.early.length+1) c } v ps:=
 any_add h hg (fun k e=>(h.own.1.early.lt k e).1) (fun e=>(zH h.own.1.early h.box (by decide)).elim (fun k=>by rw [k] at e;cases e) (fun k=>k e)) (h.own.addEarly hg ho hw hl)
theorem yCB (h:AnB w y B N lo ao len cap b off p t v ps) (hg:y.drew.grownBy x (some w.heap.size)) (hk:Bx x w.heap.size (zA p t) 35):Bx x w.heap.size (zA p t) 35/\xH x w.heap.size v ps/\zO w.heap.size x.heap.size x p t/\St x B ao len cap b off/\w.grownBy x (some B)/\Bx x N (zA p t) 35:=by
 have:=h.lt;have hd:=bw y;have h':=h.more hd;exact ⟨hk,h'.tree.boxed h'.zero hg,((h'.own.boxed h'.zero hg).wide hg.size (nl _)).low (by omega),h'.st.other hg (by omega) (fun hl e=>by have:=h.lt.2.2.2 hl;omega),yT h'.grown (nl _) hg,gk hg h'.box (qsn (by omega))⟩
end
theorem any9_st {w:World} {B:Nat} {ao:Option Addr} {len cap b off:Nat} (h:St w B ao len cap b off) :
  Calls prog 46 #[.pointer (Ab ⟨B,0,Aa⟩)] w fun r w'=>∃ ps v p t,r=.returned (.tuple #[v,yZ p t])/\smT (bks ps)/\smW p/\xH w' w.heap.size v ps/\zO w.heap.size w'.heap.size w' p t/\St w' B ao len cap b off/\w.grownBy w' (some B):=by
 obtain ⟨ii,a0,al,am,an⟩:=info_parts infoJ1;obtain ⟨W,hW⟩:=nw (w.alloc (.cells zF 35))
 have HW:Hid (St W B ao len cap b off/\Bx W w.heap.size zF 35/\w.grownBy W (some B)/\B < w.heap.size/\(0 < len->b < w.heap.size)):=(by
  have hb:Be w W:=by rw [hW];exact yA _ _
  exact ⟨h.below hb,by rw [hW];exact heap_alloc_new _ _,yG hb,h.cur.lt,h.code.lt⟩:_/\_)
 clear h;unfold zF at hW;go_enter func46,ntmps46;go_wp2_with (rw [<- hW];clear hW)
 refine (xO 14 (by omega) (by omega) HW.1).mono ?_;rintro r y1 ⟨kk,rfl,a8,a6,k,hg⟩;have ab:Hid (St y1 B ao len cap b off/\Bx y1 w.heap.size zF 35/\w.grownBy y1 (some B)/\B < w.heap.size/\(0 < len->b < w.heap.size)):=⟨k,gk hg HW.2.1 (qsn (by have:=HW.2.2.2.1;omega)),zP HW.2.2.1 hg,HW.2.2.2⟩;clear k hg HW;go_wp2_with fail
 refine (xO 60 (by omega) (by omega) ab.1).mono ?_;rintro r y2 ⟨nx,rfl,a5,a7,k,hg⟩;have y:Hid (St y2 B ao len cap b off/\Bx y2 w.heap.size zF 35/\w.grownBy y2 (some B)/\B < w.heap.size/\(0 < len->b < w.heap.size)):=⟨k,gk hg ab.2.1 (qsn (by have:=ab.2.2.2.1;omega)),zP ab.2.2.1 hg,ab.2.2.2⟩;clear k hg ab;go_wp2_with fail
 refine (some_st y.1).mono ?_;rintro r y3 ⟨ps,v,p,t0,rfl,ax,av,hT,hD,k,hg⟩;have HT:=hid ax;have HP:=hid av.1;have aq:Hid (zO y2.heap.size y3.heap.size y3 p t0):=hD;have aa:Hid (St y3 B ao len cap b off/\Bx y3 w.heap.size zF 35/\w.grownBy y3 (some B)/\B < w.heap.size/\(0 < len->b < w.heap.size)):=⟨k,gk hg y.2.1 (qsn (by have:=y.2.2.2.1;omega)),zP y.2.2.1 hg,y.2.2.2⟩;have aj:=hid (qad2 (hT.base y.2.2.1.size) hT.lim);clear ax av hT hD k hg y;obtain ⟨gt,ct,a2⟩:∃ gt ct,v=.slice gt ps.length ct:=(by obtain ⟨a,c,e,-⟩:=aj.1.read.q.1;exact ⟨a,c,e⟩:∃ gt ct,v=.slice gt ps.length ct);subst a2
 go_wp2_with (first
  | (refine w_st y3.heap.size (zA p t0) (heap_alloc_new y3 _) (zJ aq.1) ?_;intro y4 hg hk hz;have s:Be y3 y4:=yB hg;have af:Hid (St y4 B ao len cap b off/\Bx y4 w.heap.size zF 35/\w.grownBy y4 (some B)/\B < w.heap.size/\(0 < len->b < w.heap.size)):=⟨aa.1.below s,bk s aa.2.1,zP aa.2.2.1 (yG s),aa.2.2.2⟩;have ag:=hid (qad2 (aj.1.below s) ((aj.1.below s).lim));have az:Hid (jS y4 p t0):=(aq.below s).reads;have au:Hid (Bx y4 y3.heap.size (zA p t0) 35):=hk;have ay:=hid (qad2 (gl aa.2.1) (gl hk));clear hg hk hz s aa aj aq)
  | (refine w_ld y3.heap.size au underlying35 ?_))
 refine (zHJ p t0 y4 az HP.w.1.small).mono ?_;rintro r y5 ⟨t,rfl,ho,hb⟩;have ar:Hid (zO y4.heap.size y5.heap.size y5 p t):=ho.toD;have l:Hid (St y5 B ao len cap b off/\Bx y5 w.heap.size zF 35/\w.grownBy y5 (some B)/\B < w.heap.size/\(0 < len->b < w.heap.size)):=⟨af.1.below hb,bk hb af.2.1,zP af.2.2.1 (yG hb),af.2.2.2⟩;have aw:Hid (xH y5 w.heap.size (.slice gt ps.length ct) ps):=ag.1.below hb;have j:Hid (Bx y5 y3.heap.size (zA p t0) 35):=bk hb au;have a1:Hid (y4.heap.size<=y5.heap.size):=hb.size;clear ho hb af az au;obtain ⟨M,hM⟩:=nw y3.heap.size;rw [<- hM] at ay j ⊢;clear hM
 have ac:∀ y6:World,y5.grownBy y6 (some M)->Bx y6 M (zA p t) 35->AnB w y6 B M y4.heap.size ao len cap b off p t (.slice gt ps.length ct) ps:=fun y6 hg hk=>by
  have:=ay.out;have:=l.2.2.2.1;exact ⟨l.1.other hg (by omega) (fun hl e=>by have:=l.2.2.2.2 hl;omega),yT l.2.2.1 (by omega) hg,gk hg l.2.1 (qsn (by omega)),hk,(ar.boxed j hg).wide hg.size (nl _),aw.boxed j hg,ag.2,⟨l.2.2.2.1,by omega,by omega,l.2.2.2.2⟩,Ac a1 hg.size⟩
 have g:=hid ac;have f:Hid ((zA p t).all (·.oneCell')=true):=zJ ar.1;clear ac l ag aw ar;have ak:=HP.w.2
 by_cases h0:kk=0
 ·subst h0;have hv:(Lit.int U (nx % 6 - 1)).wf=true:=zIH (by omega) (by omega);have HV:=hid hv;clear hv
  go_upto_region 20 with (first | (refine w_st M (zA p t) j f ?_;intro y6 hg hk hz;have HA:Hid (AnB w y6 B M y4.heap.size ao len cap b off p t (.slice gt ps.length ct) ps):=g y6 hg hk;clear hg hk hz j g f) | (refine w_sc M 0 (I U (nx % 6 - 1)) HA.box (by simp [zA]) rfl (zA { p with id:=nx % 6 - 1 } t) rfl ?_;intro y7 hg hk;have HE:Hid (AnB w y7 B M y4.heap.size ao len cap b off { p with id:=nx % 6 - 1 } t (.slice gt ps.length ct) ps):=HA.put hg hk rfl rfl rfl rfl rfl rfl;clear hg hk HA))
  refine xA (fun x=>Bx x M (zA ({ p with id:=nx % 6 - 1 }:PE) t) 35) (by kernel_rfl) ?_;show wpAnyH prog _ _ _ _ (3+1) (Ae 4 false) _ _;have hS:Bx y7.drew M (zA ({ p with id:=nx % 6 - 1 }:PE) t) 35:=HE.box;refine yJ 0 67 (.slice gt ps.length ct) hS ?_;refine yJ 1 68 (.agg (zA ({ p with id:=nx % 6 - 1 }:PE) t)) hS ?_ (hy:=fun x hx=>ldb M hx underlying35);refine yJ 2 2 (.slice gt ps.length ct) hS ?_;refine h_st 3 w.heap.size (zA ({ p with id:=nx % 6 - 1 }:PE) t) HE.zero (zJ HE.own.1) ?_;intro z hg hk;have HZ:Hid (Bx z w.heap.size (zA ({ p with id:=nx % 6 - 1 }:PE) t) 35/\xH z w.heap.size (.slice gt ps.length ct) ps/\zO w.heap.size z.heap.size z ({ p with id:=nx % 6 - 1 }:PE) t/\St z B ao len cap b off/\w.grownBy z (some B)/\Bx z M (zA ({ p with id:=nx % 6 - 1 }:PE) t) 35):=yCB HE hg hk;clear hg hk hS;refine ⟨HZ.2.2.2.2.2,?_⟩;refine h_dn ?_;go_wp2;refine b_tc (.tuple #[.slice gt ps.length ct,.agg (zA ({ p with id:=nx % 6 - 1 }:PE) t)]) results46 HZ.1 underlying35 ?_;exact ⟨ps,_,({ p with id:=nx % 6 - 1 }:PE),t,rfl,HT,HP.w.1.id HV,HZ.2.1,HZ.2.2.1,HZ.2.2.2.1,HZ.2.2.2.2.1⟩
 by_cases h1:kk=1
 ·subst h1;have hv:(Lit.int U nx).wf=true:=zIH (by omega) (by omega);have HV:=hid hv;clear hv
  go_upto_region 20 with (first | (refine w_st M (zA p t) j f ?_;intro y6 hg hk hz;have HA:Hid (AnB w y6 B M y4.heap.size ao len cap b off p t (.slice gt ps.length ct) ps):=g y6 hg hk;clear hg hk hz j g f) | (refine w_sc M 1 (I U nx) HA.box (by simp [zA]) rfl (zA { p with view:=nx } t) rfl ?_;intro y7 hg hk;have HE:Hid (AnB w y7 B M y4.heap.size ao len cap b off { p with view:=nx } t (.slice gt ps.length ct) ps):=HA.put hg hk rfl rfl rfl rfl rfl rfl;clear hg hk HA))
  refine xA (fun x=>Bx x M (zA ({ p with view:=nx }:PE) t) 35) (by kernel_rfl) ?_;show wpAnyH prog _ _ _ _ (3+1) (Ae 4 false) _ _;have hS:Bx y7.drew M (zA ({ p with view:=nx }:PE) t) 35:=HE.box;refine yJ 0 67 (.slice gt ps.length ct) hS ?_;refine yJ 1 68 (.agg (zA ({ p with view:=nx }:PE) t)) hS ?_ (hy:=fun x hx=>ldb M hx underlying35);refine yJ 2 2 (.slice gt ps.length ct) hS ?_;refine h_st 3 w.heap.size (zA ({ p with view:=nx }:PE) t) HE.zero (zJ HE.own.1) ?_;intro z hg hk;have HZ:Hid (Bx z w.heap.size (zA ({ p with view:=nx }:PE) t) 35/\xH z w.heap.size (.slice gt ps.length ct) ps/\zO w.heap.size z.heap.size z ({ p with view:=nx }:PE) t/\St z B ao len cap b off/\w.grownBy z (some B)/\Bx z M (zA ({ p with view:=nx }:PE) t) 35):=yCB HE hg hk;clear hg hk hS;refine ⟨HZ.2.2.2.2.2,?_⟩;refine h_dn ?_;go_wp2;refine b_tc (.tuple #[.slice gt ps.length ct,.agg (zA ({ p with view:=nx }:PE) t)]) results46 HZ.1 underlying35 ?_;exact ⟨ps,_,({ p with view:=nx }:PE),t,rfl,HT,HP.w.1.view HV,HZ.2.1,HZ.2.2.1,HZ.2.2.2.1,HZ.2.2.2.2.1⟩
 by_cases h2:kk=2
 ·subst h2;go_wp2_with (first | (refine w_st M (zA p t) j f ?_;intro y6 hg hk hz;have HA:Hid (AnB w y6 B M y4.heap.size ao len cap b off p t (.slice gt ps.length ct) ps):=g y6 hg hk;clear hg hk hz j g f) | fail)
  refine (qc7n_st HA.st HA.tree.u HA.lt.1 HT.bt (by decide)).mono ?_;rintro r y7 ⟨q,rfl,m,k,hg⟩;unfold zBF;have ae:=hid m;have i:Hid (AnB w y7 B M y4.heap.size ao len cap b off p t (.slice gt ps.length ct) ps):=HA.call k hg;clear m k hg HA
  go_upto_region 20 with (refine yY rfl _ _ _ rfl M 2 #[I U q.1,I U q.2.1,I U q.2.2.1,I U q.2.2.2] rfl rfl _ _ i.box (by kernel_rfl) (by simp [zA]) (by simp [Af]) (zA ({ p with high:=q }:PE) t) rfl ?_;intro y8 hg hk;have HE:Hid (AnB w y8 B M y4.heap.size ao len cap b off ({ p with high:=q }:PE) t (.slice gt ps.length ct) ps):=i.put hg hk rfl rfl rfl rfl rfl rfl;clear hg hk i)
  refine xA (fun x=>Bx x M (zA ({ p with high:=q }:PE) t) 35) (by kernel_rfl) ?_;show wpAnyH prog _ _ _ _ (3+1) (Ae 4 false) _ _;have hS:Bx y8.drew M (zA ({ p with high:=q }:PE) t) 35:=HE.box;refine yJ 0 67 (.slice gt ps.length ct) hS ?_;refine yJ 1 68 (.agg (zA ({ p with high:=q }:PE) t)) hS ?_ (hy:=fun x hx=>ldb M hx underlying35);refine yJ 2 2 (.slice gt ps.length ct) hS ?_;refine h_st 3 w.heap.size (zA ({ p with high:=q }:PE) t) HE.zero (zJ HE.own.1) ?_;intro z hg hk;have HZ:Hid (Bx z w.heap.size (zA ({ p with high:=q }:PE) t) 35/\xH z w.heap.size (.slice gt ps.length ct) ps/\zO w.heap.size z.heap.size z ({ p with high:=q }:PE) t/\St z B ao len cap b off/\w.grownBy z (some B)/\Bx z M (zA ({ p with high:=q }:PE) t) 35):=yCB HE hg hk;clear hg hk hS;refine ⟨HZ.2.2.2.2.2,?_⟩;refine h_dn ?_;go_wp2;refine b_tc (.tuple #[.slice gt ps.length ct,.agg (zA ({ p with high:=q }:PE) t)]) results46 HZ.1 underlying35 ?_;exact ⟨ps,_,({ p with high:=q }:PE),t,rfl,HT,HP.w.1.high ae,HZ.2.1,HZ.2.2.1,HZ.2.2.2.1,HZ.2.2.2.2.1⟩
 by_cases h3:kk=3
 ·subst h3;go_wp2_with (first | (refine w_st M (zA p t) j f ?_;intro y6 hg hk hz;have HA:Hid (AnB w y6 B M y4.heap.size ao len cap b off p t (.slice gt ps.length ct) ps):=g y6 hg hk;clear hg hk hz j g f) | fail)
  refine (qc7n_st HA.st HA.tree.u HA.lt.1 HT.bt (by decide)).mono ?_;rintro r y7 ⟨q,rfl,m,k,hg⟩;unfold zBF;have ae:=hid m;have i:Hid (AnB w y7 B M y4.heap.size ao len cap b off p t (.slice gt ps.length ct) ps):=HA.call k hg;clear m k hg HA
  go_upto_region 20 with (refine yY rfl _ _ _ rfl M 6 #[I U q.1,I U q.2.1,I U q.2.2.1,I U q.2.2.2] rfl rfl _ _ i.box (by kernel_rfl) (by simp [zA]) (by simp [Af]) (zA ({ p with lock:=q }:PE) t) rfl ?_;intro y8 hg hk;have HE:Hid (AnB w y8 B M y4.heap.size ao len cap b off ({ p with lock:=q }:PE) t (.slice gt ps.length ct) ps):=i.put hg hk rfl rfl rfl rfl rfl rfl;clear hg hk i)
  refine xA (fun x=>Bx x M (zA ({ p with lock:=q }:PE) t) 35) (by kernel_rfl) ?_;show wpAnyH prog _ _ _ _ (3+1) (Ae 4 false) _ _;have hS:Bx y8.drew M (zA ({ p with lock:=q }:PE) t) 35:=HE.box;refine yJ 0 67 (.slice gt ps.length ct) hS ?_;refine yJ 1 68 (.agg (zA ({ p with lock:=q }:PE) t)) hS ?_ (hy:=fun x hx=>ldb M hx underlying35);refine yJ 2 2 (.slice gt ps.length ct) hS ?_;refine h_st 3 w.heap.size (zA ({ p with lock:=q }:PE) t) HE.zero (zJ HE.own.1) ?_;intro z hg hk;have HZ:Hid (Bx z w.heap.size (zA ({ p with lock:=q }:PE) t) 35/\xH z w.heap.size (.slice gt ps.length ct) ps/\zO w.heap.size z.heap.size z ({ p with lock:=q }:PE) t/\St z B ao len cap b off/\w.grownBy z (some B)/\Bx z M (zA ({ p with lock:=q }:PE) t) 35):=yCB HE hg hk;clear hg hk hS;refine ⟨HZ.2.2.2.2.2,?_⟩;refine h_dn ?_;go_wp2;refine b_tc (.tuple #[.slice gt ps.length ct,.agg (zA ({ p with lock:=q }:PE) t)]) results46 HZ.1 underlying35 ?_;exact ⟨ps,_,({ p with lock:=q }:PE),t,rfl,HT,HP.w.1.lock ae,HZ.2.1,HZ.2.2.1,HZ.2.2.2.1,HZ.2.2.2.2.1⟩
 by_cases h4:kk=4
 ·subst h4;go_wp2_with (first | (refine w_st M (zA p t) j f ?_;intro y6 hg hk hz;have HA:Hid (AnB w y6 B M y4.heap.size ao len cap b off p t (.slice gt ps.length ct) ps):=g y6 hg hk;clear hg hk hz j g f) | fail)
  refine (any7_st HA.st HA.tree.u HA.lt.1 HT.bt (by decide)).mono ?_;rintro r y7 ⟨q,rfl,m,k,hg⟩;unfold voteV;have ae:=hid m;have i:Hid (AnB w y7 B M y4.heap.size ao len cap b off p t (.slice gt ps.length ct) ps):=HA.call k hg;clear m k hg HA
  go_upto_region 20 with (refine yY rfl _ _ _ rfl M 10 #[I U q.1,I U q.2.1,I U q.2.2.1,I U q.2.2.2] rfl rfl _ _ i.box (by kernel_rfl) (by simp [zA]) (by simp [Af]) (zA ({ p with last:=q }:PE) t) rfl ?_;intro y8 hg hk;have HE:Hid (AnB w y8 B M y4.heap.size ao len cap b off ({ p with last:=q }:PE) t (.slice gt ps.length ct) ps):=i.put hg hk rfl rfl rfl rfl rfl rfl;clear hg hk i)
  refine xA (fun x=>Bx x M (zA ({ p with last:=q }:PE) t) 35) (by kernel_rfl) ?_;show wpAnyH prog _ _ _ _ (3+1) (Ae 4 false) _ _;have hS:Bx y8.drew M (zA ({ p with last:=q }:PE) t) 35:=HE.box;refine yJ 0 67 (.slice gt ps.length ct) hS ?_;refine yJ 1 68 (.agg (zA ({ p with last:=q }:PE) t)) hS ?_ (hy:=fun x hx=>ldb M hx underlying35);refine yJ 2 2 (.slice gt ps.length ct) hS ?_;refine h_st 3 w.heap.size (zA ({ p with last:=q }:PE) t) HE.zero (zJ HE.own.1) ?_;intro z hg hk;have HZ:Hid (Bx z w.heap.size (zA ({ p with last:=q }:PE) t) 35/\xH z w.heap.size (.slice gt ps.length ct) ps/\zO w.heap.size z.heap.size z ({ p with last:=q }:PE) t/\St z B ao len cap b off/\w.grownBy z (some B)/\Bx z M (zA ({ p with last:=q }:PE) t) 35):=yCB HE hg hk;clear hg hk hS;refine ⟨HZ.2.2.2.2.2,?_⟩;refine h_dn ?_;go_wp2;refine b_tc (.tuple #[.slice gt ps.length ct,.agg (zA ({ p with last:=q }:PE) t)]) results46 HZ.1 underlying35 ?_;exact ⟨ps,_,({ p with last:=q }:PE),t,rfl,HT,HP.w.1.last ae,HZ.2.1,HZ.2.2.1,HZ.2.2.2.1,HZ.2.2.2.2.1⟩
 by_cases h5:kk=5
 ·subst h5;have hv:(Lit.int U (nx % 9)).wf=true:=zIH (by omega) (by omega);have HV:=hid hv;have a3:p.row.length<=500:=by unfold jZ at ak;omega
  clear hv
  go_upto_region 20 with (first
   | (refine w_st M (zA p t) j f ?_;intro y6 hg hk hz;have HA:Hid (AnB w y6 B M y4.heap.size ao len cap b off p t (.slice gt ps.length ct) ps):=g y6 hg hk;clear hg hk hz j g f;have o:Hid (Be y6 (y6.alloc (.cells #[I U (nx % 9)] 3))):=yA _ _;have a4:=HA.grown.size;have ap:=HA.lt;have cr:=zB HA.box 14 t.row rfl)
   | (at_builtin;refine wpList_append_lies _ rfl (.tmp 51) (.tmp 54) 29 rfl y4.heap.size 3 ii _ 1 8 underlying29 a0 al am an rfl (by decide) t.row _ _ rfl (HA.more o).own.1.row ⟨y6.heap.size,0,Aa⟩ 1 1 [I U (nx % 9)] rfl rfl (World.news_of_block (heap_alloc_new y6 _)) (by intro x hx;simp at hx;subst hx;rfl) (by decide) (by unfold maxLen;omega) (by omega) (by have:=HA.top;simp;omega) _ rfl ?_;intro g2 d y7 ad ai ah n;have i:Hid (Bx y7 M (zA p t) 35/\AnB0 w y7 B y4.heap.size ao len cap b off ({ p with row:=p.row ++ [nx % 9] }:PE) ({ t with row:=.slice (Ab ⟨g2,0,Aa⟩) (p.row.length+1) d }:PV) (.slice gt ps.length ct) ps):=any_addRow (HA.more o) ai ad (ah.imp id (fun e=>by rw [e];simp)) n;clear ad ai ah n cr HA o)
   | (refine w_sc M 14 (.slice (Ab ⟨g2,0,Aa⟩) (p.row.length+1) d) i.1 (by simp [zA]) rfl (zA ({ p with row:=p.row ++ [nx % 9] }:PE) ({ t with row:=.slice (Ab ⟨g2,0,Aa⟩) (p.row.length+1) d }:PV)) rfl ?_;intro y8 hg hk;have HE:Hid (AnB w y8 B M y4.heap.size ao len cap b off ({ p with row:=p.row ++ [nx % 9] }:PE) ({ t with row:=.slice (Ab ⟨g2,0,Aa⟩) (p.row.length+1) d }:PV) (.slice gt ps.length ct) ps):=i.2.box i.1 hg hk ap.2.1;clear hg hk i))
  refine xA (fun x=>Bx x M (zA ({ p with row:=p.row ++ [nx % 9] }:PE) ({ t with row:=.slice (Ab ⟨g2,0,Aa⟩) (p.row.length+1) d }:PV)) 35) (by kernel_rfl) ?_;show wpAnyH prog _ _ _ _ (3+1) (Ae 4 false) _ _;have hS:Bx y8.drew M (zA ({ p with row:=p.row ++ [nx % 9] }:PE) ({ t with row:=.slice (Ab ⟨g2,0,Aa⟩) (p.row.length+1) d }:PV)) 35:=HE.box;refine yJ 0 67 (.slice gt ps.length ct) hS ?_;refine yJ 1 68 (.agg (zA ({ p with row:=p.row ++ [nx % 9] }:PE) ({ t with row:=.slice (Ab ⟨g2,0,Aa⟩) (p.row.length+1) d }:PV))) hS ?_ (hy:=fun x hx=>ldb M hx underlying35);refine yJ 2 2 (.slice gt ps.length ct) hS ?_;refine h_st 3 w.heap.size (zA ({ p with row:=p.row ++ [nx % 9] }:PE) ({ t with row:=.slice (Ab ⟨g2,0,Aa⟩) (p.row.length+1) d }:PV)) HE.zero (zJ HE.own.1) ?_;intro z hg hk;have HZ:Hid (Bx z w.heap.size (zA ({ p with row:=p.row ++ [nx % 9] }:PE) ({ t with row:=.slice (Ab ⟨g2,0,Aa⟩) (p.row.length+1) d }:PV)) 35/\xH z w.heap.size (.slice gt ps.length ct) ps/\zO w.heap.size z.heap.size z ({ p with row:=p.row ++ [nx % 9] }:PE) ({ t with row:=.slice (Ab ⟨g2,0,Aa⟩) (p.row.length+1) d }:PV)/\St z B ao len cap b off/\w.grownBy z (some B)/\Bx z M (zA ({ p with row:=p.row ++ [nx % 9] }:PE) ({ t with row:=.slice (Ab ⟨g2,0,Aa⟩) (p.row.length+1) d }:PV)) 35):=yCB HE hg hk;clear hg hk hS;refine ⟨HZ.2.2.2.2.2,?_⟩;refine h_dn ?_;go_wp2;refine b_tc (.tuple #[.slice gt ps.length ct,.agg (zA ({ p with row:=p.row ++ [nx % 9] }:PE) ({ t with row:=.slice (Ab ⟨g2,0,Aa⟩) (p.row.length+1) d }:PV))]) results46 HZ.1 underlying35 ?_;exact ⟨ps,_,({ p with row:=p.row ++ [nx % 9] }:PE),({ t with row:=.slice (Ab ⟨g2,0,Aa⟩) (p.row.length+1) d }:PV),rfl,HT,HP.w.1.row ak HV,HZ.2.1,HZ.2.2.1,HZ.2.2.2.1,HZ.2.2.2.2.1⟩
 by_cases h6:kk=6
 ·subst h6;have hv:(Lit.int U (nx % 9 - 1)).wf=true:=zIH (by omega) (by omega);have HV:=hid hv;have a3:p.early.length<=500:=by unfold jZ at ak;omega
  clear hv
  go_upto_region 20 with (first
   | (refine w_st M (zA p t) j f ?_;intro y6 hg hk hz;have HA:Hid (AnB w y6 B M y4.heap.size ao len cap b off p t (.slice gt ps.length ct) ps):=g y6 hg hk;clear hg hk hz j g f;have o:Hid (Be y6 (y6.alloc (.cells #[I U (nx % 9 - 1)] 3))):=yA _ _;have a4:=HA.grown.size;have ap:=HA.lt;have cr:=zB HA.box 16 t.early rfl)
   | (at_builtin;refine wpList_append_lies _ rfl (.tmp 60) (.tmp 64) 29 rfl y4.heap.size 3 ii _ 1 8 underlying29 a0 al am an rfl (by decide) t.early _ _ rfl (HA.more o).own.1.early ⟨y6.heap.size,0,Aa⟩ 1 1 [I U (nx % 9 - 1)] rfl rfl (World.news_of_block (heap_alloc_new y6 _)) (by intro x hx;simp at hx;subst hx;rfl) (by decide) (by unfold maxLen;omega) (by omega) (by have:=HA.top;simp;omega) _ rfl ?_;intro g2 d y7 ad ai ah n;have i:Hid (Bx y7 M (zA p t) 35/\AnB0 w y7 B y4.heap.size ao len cap b off ({ p with early:=p.early ++ [nx % 9 - 1] }:PE) ({ t with early:=.slice (Ab ⟨g2,0,Aa⟩) (p.early.length+1) d }:PV) (.slice gt ps.length ct) ps):=any_addEarly (HA.more o) ai ad (ah.imp id (fun e=>by rw [e];simp)) n;clear ad ai ah n cr HA o)
   | (refine w_sc M 16 (.slice (Ab ⟨g2,0,Aa⟩) (p.early.length+1) d) i.1 (by simp [zA]) rfl (zA ({ p with early:=p.early ++ [nx % 9 - 1] }:PE) ({ t with early:=.slice (Ab ⟨g2,0,Aa⟩) (p.early.length+1) d }:PV)) rfl ?_;intro y8 hg hk;have HE:Hid (AnB w y8 B M y4.heap.size ao len cap b off ({ p with early:=p.early ++ [nx % 9 - 1] }:PE) ({ t with early:=.slice (Ab ⟨g2,0,Aa⟩) (p.early.length+1) d }:PV) (.slice gt ps.length ct) ps):=i.2.box i.1 hg hk ap.2.1;clear hg hk i))
  refine xA (fun x=>Bx x M (zA ({ p with early:=p.early ++ [nx % 9 - 1] }:PE) ({ t with early:=.slice (Ab ⟨g2,0,Aa⟩) (p.early.length+1) d }:PV)) 35) (by kernel_rfl) ?_;show wpAnyH prog _ _ _ _ (3+1) (Ae 4 false) _ _;have hS:Bx y8.drew M (zA ({ p with early:=p.early ++ [nx % 9 - 1] }:PE) ({ t with early:=.slice (Ab ⟨g2,0,Aa⟩) (p.early.length+1) d }:PV)) 35:=HE.box;refine yJ 0 67 (.slice gt ps.length ct) hS ?_;refine yJ 1 68 (.agg (zA ({ p with early:=p.early ++ [nx % 9 - 1] }:PE) ({ t with early:=.slice (Ab ⟨g2,0,Aa⟩) (p.early.length+1) d }:PV))) hS ?_ (hy:=fun x hx=>ldb M hx underlying35);refine yJ 2 2 (.slice gt ps.length ct) hS ?_;refine h_st 3 w.heap.size (zA ({ p with early:=p.early ++ [nx % 9 - 1] }:PE) ({ t with early:=.slice (Ab ⟨g2,0,Aa⟩) (p.early.length+1) d }:PV)) HE.zero (zJ HE.own.1) ?_;intro z hg hk;have HZ:Hid (Bx z w.heap.size (zA ({ p with early:=p.early ++ [nx % 9 - 1] }:PE) ({ t with early:=.slice (Ab ⟨g2,0,Aa⟩) (p.early.length+1) d }:PV)) 35/\xH z w.heap.size (.slice gt ps.length ct) ps/\zO w.heap.size z.heap.size z ({ p with early:=p.early ++ [nx % 9 - 1] }:PE) ({ t with early:=.slice (Ab ⟨g2,0,Aa⟩) (p.early.length+1) d }:PV)/\St z B ao len cap b off/\w.grownBy z (some B)/\Bx z M (zA ({ p with early:=p.early ++ [nx % 9 - 1] }:PE) ({ t with early:=.slice (Ab ⟨g2,0,Aa⟩) (p.early.length+1) d }:PV)) 35):=yCB HE hg hk;clear hg hk hS;refine ⟨HZ.2.2.2.2.2,?_⟩;refine h_dn ?_;go_wp2;refine b_tc (.tuple #[.slice gt ps.length ct,.agg (zA ({ p with early:=p.early ++ [nx % 9 - 1] }:PE) ({ t with early:=.slice (Ab ⟨g2,0,Aa⟩) (p.early.length+1) d }:PV))]) results46 HZ.1 underlying35 ?_;exact ⟨ps,_,({ p with early:=p.early ++ [nx % 9 - 1] }:PE),({ t with early:=.slice (Ab ⟨g2,0,Aa⟩) (p.early.length+1) d }:PV),rfl,HT,HP.w.1.early ak HV,HZ.2.1,HZ.2.2.1,HZ.2.2.2.1,HZ.2.2.2.2.1⟩
 go_upto_region 20 with (first | (refine w_st M (zA p t) j f ?_;intro y6 hg hk hz;have HA:Hid (AnB w y6 B M y4.heap.size ao len cap b off p t (.slice gt ps.length ct) ps):=g y6 hg hk;clear hg hk hz j g f))
 refine xA (fun x=>Bx x M (zA p t) 35) (by kernel_rfl) ?_;show wpAnyH prog _ _ _ _ (3+1) (Ae 4 false) _ _;have hS:Bx y6.drew M (zA p t) 35:=HA.box;refine yJ 0 67 (.slice gt ps.length ct) hS ?_;refine yJ 1 68 (.agg (zA p t)) hS ?_ (hy:=fun x hx=>ldb M hx underlying35);refine yJ 2 2 (.slice gt ps.length ct) hS ?_;refine h_st 3 w.heap.size (zA p t) HA.zero (zJ HA.own.1) ?_;intro z hg hk;have HZ:Hid (Bx z w.heap.size (zA p t) 35/\xH z w.heap.size (.slice gt ps.length ct) ps/\zO w.heap.size z.heap.size z p t/\St z B ao len cap b off/\w.grownBy z (some B)/\Bx z M (zA p t) 35):=yCB HA hg hk;clear hg hk hS;refine ⟨HZ.2.2.2.2.2,?_⟩;refine h_dn ?_;go_wp2;refine b_tc (.tuple #[.slice gt ps.length ct,.agg (zA p t)]) results46 HZ.1 underlying35 ?_;exact ⟨ps,_,p,t,rfl,HT,HP.w.1,HZ.2.1,HZ.2.2.1,HZ.2.2.2.1,HZ.2.2.2.2.1⟩
end Go.Proofs.YtfnneillakdopacGreatR
