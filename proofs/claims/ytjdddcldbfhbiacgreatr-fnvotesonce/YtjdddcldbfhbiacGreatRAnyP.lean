/-
  A text of ours: AnyP.
-/
import Derived.Test.YtjdddcldbfhbiacGreatRK1
import Derived.Test.YtjdddcldbfhbiacGreatRSomeD
import Derived.Test.YtjdddcldbfhbiacGreatRQcD
import Derived.Test.YtjdddcldbfhbiacGreatRPeerC
import Derived.Test.YtjdddcldbfhbiacGreatRThrS
import Derived.Test.YtjdddcldbfhbiacGreatREarS
set_option maxRecDepth 100000
set_option maxHeartbeats 32000000
namespace Go.Proofs.YtjdddcldbfhbiacGreatR
open Go.RowKit Num
structure smW (p:PE):Prop where
 small:yC p
 good:yDG p
 len:jZ p<=600
theorem smP.w {p:PE} (h:smP 30 p):smW p/\jZ p<=500:=⟨⟨h.small (by decide),h.good (by decide),by have:=h.len;omega⟩,by have:=h.len;omega⟩
theorem smW.id {p:PE} (h:smW p) {x:Int} (hx:(Lit.int .i64 x).wf=true):smW { p with id:=x }:=⟨⟨h.small.row,h.small.cells,h.small.early,h.small.undos,h.small.votes,h.small.news,h.small.kcells,h.small.kundos⟩,{ h.good with gid:=hx },h.len⟩
theorem smW.view {p:PE} (h:smW p) {x:Int} (hx:(Lit.int .i64 x).wf=true):smW { p with view:=x }:=⟨⟨h.small.row,h.small.cells,h.small.early,h.small.undos,h.small.votes,h.small.news,h.small.kcells,h.small.kundos⟩,{ h.good with gview:=hx },h.len⟩
theorem smW.high {p:PE} (h:smW p) {x:QC} (hx:wfQ x):smW { p with high:=x }:=⟨⟨h.small.row,h.small.cells,h.small.early,h.small.undos,h.small.votes,h.small.news,h.small.kcells,h.small.kundos⟩,{ h.good with ghigh:=hx },h.len⟩
theorem smW.lock {p:PE} (h:smW p) {x:QC} (hx:wfQ x):smW { p with lock:=x }:=⟨⟨h.small.row,h.small.cells,h.small.early,h.small.undos,h.small.votes,h.small.news,h.small.kcells,h.small.kundos⟩,{ h.good with glock:=hx },h.len⟩
theorem smW.last {p:PE} (h:smW p) {x:VT} (hx:wfQ x):smW { p with last:=x }:=⟨⟨h.small.row,h.small.cells,h.small.early,h.small.undos,h.small.votes,h.small.news,h.small.kcells,h.small.kundos⟩,{ h.good with glast:=hx },h.len⟩
theorem smW.row {p:PE} (h:smW p) (hl:jZ p<=500) {x:Int} (hx:(Lit.int .i64 x).wf=true):smW { p with row:=p.row ++ [x] }:=by
 have hmx:maxLen=9223372036854775807:=rfl
 have hr:p.row.length<=500:=by unfold jZ at hl;omega
 refine ⟨⟨by simp;omega,h.small.cells,h.small.early,h.small.undos,h.small.votes,h.small.news,h.small.kcells,h.small.kundos⟩,{ h.good with lrow:=by simp;omega,grow:=fun y hy=>?_ },by unfold jZ at hl ⊢;simp;omega⟩
 rcases List.mem_append.1 hy with hy | hy
 ·exact h.good.grow y hy
 ·rw [List.mem_singleton.1 hy];exact hx
theorem smW.early {p:PE} (h:smW p) (hl:jZ p<=500) {x:Int} (hx:(Lit.int .i64 x).wf=true):smW { p with early:=p.early ++ [x] }:=by
 have hmx:maxLen=9223372036854775807:=rfl
 have hr:p.early.length<=500:=by unfold jZ at hl;omega
 refine ⟨⟨h.small.row,h.small.cells,by simp;omega,h.small.undos,h.small.votes,h.small.news,h.small.kcells,h.small.kundos⟩,{ h.good with learly:=by simp;omega,gearly:=fun y hy=>?_ },by unfold jZ at hl ⊢;simp;omega⟩
 rcases List.mem_append.1 hy with hy | hy
 ·exact h.good.gearly y hy
 ·rw [List.mem_singleton.1 hy];exact hx
theorem smT.bt {t:List BK} (h:smT t):BT t 60:=⟨h.one,h.many,fun b hb=>by
 have hs:=h.each b hb
 have h1:=hs.many
 have h2:=hs.view
 refine ⟨by omega,fun c hc=>?_,h2.1,by omega⟩
 have:=hs.cmds c hc
 unfold zAF at this
 simp only [Bool.and_eq_true] at this
 have:=yFA this.2.1
 omega⟩
theorem zO.st {lo hi B:Nat} {w w':World} {p:PE} {s:PV} (h:zO lo hi w p s) (hg:w.grownBy w' (some B)) (hB:B < lo):zO lo hi w' p s:=by
 have k:∀ {e:TypeId} {m n:Nat} {v:Value} {xs:List Value},w.ownsRow lo e m v n xs->v.ownBlock=none∨v.ownBlock ≠ some B:=fun ho=>Or.inr fun e=>by have:=(ho.lt _ e).1;omega
 exact ⟨⟨World.ownsRow.kept h.1.row hg (k h.1.row),World.ownsRow.kept h.1.cells hg (k h.1.cells),World.ownsRow.kept h.1.early hg (k h.1.early),World.ownsRow.kept h.1.undos hg (k h.1.undos),World.ownsRow.kept h.1.votes hg (k h.1.votes),World.ownsRow.kept h.1.news hg (k h.1.news)⟩,h.2.1,Nat.le_trans h.2.2 hg.size⟩
structure AnB (w y:World) (B N lo:Nat) (ao:Option Addr) (len cap b off:Nat) (p:PE) (t:PV) (v:Value) (ps:TL):Prop where
 st:St y B ao len cap b off
 grown:w.grownBy y (some B)
 zero:Bx y w.heap.size zF 35
 box:Bx y N (zA p t) 35
 own:zO lo y.heap.size y p t
 tree:xH y w.heap.size v ps
 lim:yDC lo v ps
 lt:B < w.heap.size/\w.heap.size < N/\w.heap.size < lo/\(0 < len->b < w.heap.size)
 top:lo<=y.heap.size
structure AnB0 (w y:World) (B lo:Nat) (ao:Option Addr) (len cap b off:Nat) (p:PE) (t:PV) (v:Value) (ps:TL):Prop where
 st:St y B ao len cap b off
 grown:w.grownBy y (some B)
 zero:Bx y w.heap.size zF 35
 own:zO lo y.heap.size y p t
 tree:xH y w.heap.size v ps
 lim:yDC lo v ps
 lt:B < w.heap.size/\w.heap.size < lo/\(0 < len->b < w.heap.size)
 top:lo<=y.heap.size
section
variable {w y x:World} {B N lo:Nat} {ao:Option Addr} {len cap b off:Nat} {p p':PE} {t t':PV} {v:Value} {ps:TL}
theorem AnB.put (h:AnB w y B N lo ao len cap b off p t v ps) (hg:y.grownBy x (some N)) (hk:Bx x N (zA p' t) 35) (e0:p'.row=p.row) (e1:p'.cells=p.cells) (e2:p'.early=p.early) (e3:p'.undos=p.undos) (e4:p'.votes=p.votes) (e5:p'.news=p.news):AnB w x B N lo ao len cap b off p' t v ps:=by
 have:=h.lt
 exact ⟨h.st.other hg (by omega) (fun hl e=>by have:=h.lt.2.2.2 hl;omega),yT h.grown (by omega) hg,(hg.block _ (gl h.zero) (fun e=>by have:=Option.some.inj e;omega)).trans h.zero,hk,((h.own.boxed h.box hg).wide hg.size (nl _)).other e0 e1 e2 e3 e4 e5,h.tree.boxed h.box hg,h.lim,h.lt,Nat.le_trans h.top hg.size⟩
theorem AnB.call (h:AnB w y B N lo ao len cap b off p t v ps) (hs:St x B ao len cap b off) (hg:y.grownBy x (some B)):AnB w x B N lo ao len cap b off p t v ps:=by
 have:=h.lt
 exact ⟨hs,zP h.grown hg,(hg.block _ (gl h.zero) (fun e=>by have:=Option.some.inj e;omega)).trans h.zero,(hg.block _ (gl h.box) (fun e=>by have:=Option.some.inj e;omega)).trans h.box,(h.own.st hg (by omega)).wide hg.size (nl _),h.tree.st hg h.lt.1,h.lim,h.lt,Nat.le_trans h.top hg.size⟩
theorem AnB.more (h:AnB w y B N lo ao len cap b off p t v ps) (hb:Below y.heap.size y x):AnB w x B N lo ao len cap b off p t v ps:=
 ⟨h.st.below hb,zP h.grown (yG hb),(hb.block _ (gl h.zero)).trans h.zero,(hb.block _ (gl h.box)).trans h.box,(h.own.below hb).wide hb.size (nl _),h.tree.below hb,h.lim,h.lt,Nat.le_trans h.top hb.size⟩
theorem AnB0.box {A:Array Value} (h:AnB0 w y B lo ao len cap b off p t v ps) (hk0:Bx y N A 35) (hg:y.grownBy x (some N)) (hk:Bx x N (zA p t) 35) (hN:w.heap.size < N):AnB w x B N lo ao len cap b off p t v ps:=by
 have:=h.lt
 exact ⟨h.st.other hg (by omega) (fun hl e=>by have:=h.lt.2.2 hl;omega),yT h.grown (by omega) hg,(hg.block _ (gl h.zero) (fun e=>by have:=Option.some.inj e;omega)).trans h.zero,hk,(h.own.boxed hk0 hg).wide hg.size (nl _),h.tree.boxed hk0 hg,h.lim,⟨h.lt.1,hN,h.lt.2⟩,Nat.le_trans h.top hg.size⟩
theorem any_add {r:Option Nat} (h:AnB w y B N lo ao len cap b off p t v ps) (hg:y.grownBy x r) (hr:∀ g,r=some g->lo<=g) (hb:r ≠ some N) (ho:zO lo x.heap.size x p' t'):Bx x N (zA p t) 35/\AnB0 w x B lo ao len cap b off p' t' v ps:=by
 have:=h.lt
 have k:∀ {e:TypeId} {m n:Nat} {u:Value} {xs:List Value},y.ownsRow w.heap.size e m u n xs->(∀ g,u.ownBlock=some g->g < lo)->u.ownBlock=none∨u.ownBlock ≠ r:=fun {e m n u xs} ho hlt=>by
  cases hu:u.ownBlock with
  | none=>exact Or.inl rfl
  | some g=>exact Or.inr fun e=>by have:=hlt g hu;have:=hr g e.symm;omega
 exact ⟨(hg.block _ (gl h.box) (fun e=>hb e.symm)).trans h.box,h.st.row hg (fun g e=>by have:=hr g e;omega) (fun hl g e=>by have:=hr g e;have:=h.lt.2.2.2 hl;omega),grown_row h.grown (br _ _) hg (fun g e=>by have:=hr g e;omega),(hg.block _ (gl h.zero) (fun e=>by have:=hr _ e.symm;omega)).trans h.zero,ho,⟨World.ownsRow.kept h.tree.row hg (k h.tree.row h.lim.1),fun q hq=>World.ownsRow.kept (h.tree.cmds q hq) hg (k (h.tree.cmds q hq) (h.lim.2 q hq)),h.tree.apart⟩,h.lim,⟨h.lt.1,h.lt.2.2.1,h.lt.2.2.2⟩,Nat.le_trans h.top hg.size⟩
theorem any_addRow {j:Int} {g c:Nat} (h:AnB w y B N lo ao len cap b off p t v ps) (hg:y.grownBy x t.row.ownBlock) (ho:x.ownsRow lo 3 1 (.slice (some ⟨g,0,none⟩) (p.row.length+1) c) (p.row.length+1) (zE xJ p.row ++ [.int .i64 j])) (hw:t.row.ownBlock=some g∨y.heap.size<=g) (hl:g < x.heap.size):Bx x N (zA p t) 35/\AnB0 w x B lo ao len cap b off { p with row:=p.row ++ [j] } { t with row:=.slice (some ⟨g,0,none⟩) (p.row.length+1) c } v ps:=
 any_add h hg (fun k e=>(h.own.1.row.lt k e).1) (fun e=>(zH h.own.1.row h.box (by decide)).elim (fun k=>by rw [k] at e;cases e) (fun k=>k e)) (h.own.addRow hg ho hw hl)
theorem any_addEarly {j:Int} {g c:Nat} (h:AnB w y B N lo ao len cap b off p t v ps) (hg:y.grownBy x t.early.ownBlock) (ho:x.ownsRow lo 3 1 (.slice (some ⟨g,0,none⟩) (p.early.length+1) c) (p.early.length+1) (zE xJ p.early ++ [.int .i64 j])) (hw:t.early.ownBlock=some g∨y.heap.size<=g) (hl:g < x.heap.size):Bx x N (zA p t) 35/\AnB0 w x B lo ao len cap b off { p with early:=p.early ++ [j] } { t with early:=.slice (some ⟨g,0,none⟩) (p.early.length+1) c } v ps:=
 any_add h hg (fun k e=>(h.own.1.early.lt k e).1) (fun e=>(zH h.own.1.early h.box (by decide)).elim (fun k=>by rw [k] at e;cases e) (fun k=>k e)) (h.own.addEarly hg ho hw hl)
theorem yCB (h:AnB w y B N lo ao len cap b off p t v ps) (hg:y.drew.grownBy x (some w.heap.size)) (hk:Bx x w.heap.size (zA p t) 35):Bx x w.heap.size (zA p t) 35/\xH x w.heap.size v ps/\zO w.heap.size x.heap.size x p t/\St x B ao len cap b off/\w.grownBy x (some B)/\Bx x N (zA p t) 35:=by
 have:=h.lt
 have hd:Below y.heap.size y y.drew:=(br _ _).drew
 have h':=h.more hd
 exact ⟨hk,h'.tree.boxed h'.zero hg,((h'.own.boxed h'.zero hg).wide hg.size (nl _)).low (by omega),h'.st.other hg (by omega) (fun hl e=>by have:=h.lt.2.2.2 hl;omega),yT h'.grown (nl _) hg,(hg.block _ (gl h'.box) (fun e=>by have:=Option.some.inj e;omega)).trans h'.box⟩
end
theorem any9_st {w:World} {B:Nat} {ao:Option Addr} {len cap b off:Nat} (h:St w B ao len cap b off) :
  Calls Tryz.prog 46 #[.pointer (some ⟨B,0,none⟩)] w fun r w'=>∃ ps v p t,r=.returned (.tuple #[v,yZ p t])/\smT (bks ps)/\smW p/\xH w' w.heap.size v ps/\zO w.heap.size w'.heap.size w' p t/\St w' B ao len cap b off/\w.grownBy w' (some B):=by
 obtain ⟨ii,ihi,ihz0,ihz1,ihz2⟩:=info_parts infoI1
 obtain ⟨W,hW⟩:∃ W,W=w.alloc (.cells zF 35):=⟨_,rfl⟩
 have HW:Hid (St W B ao len cap b off/\Bx W w.heap.size zF 35/\w.grownBy W (some B)/\B < w.heap.size/\(0 < len->b < w.heap.size)):=(by
  have hb:Below w.heap.size w W:=by rw [hW];exact yA _ _
  exact ⟨h.below hb,by rw [hW];exact heap_alloc_new _ _,yG hb,h.cur.lt,h.code.lt⟩:_/\_)
 clear h
 unfold zF at hW
 go_enter Tryz.func46,Tryz.ntmps46
 go_wp2_with (rw [<- hW];clear hW)
 refine (xO 14 (by omega) (by omega) HW.out.1).mono ?_
 rintro r y1 ⟨kk,rfl,kk0,kk1,hst,hg⟩
 have HW1:Hid (St y1 B ao len cap b off/\Bx y1 w.heap.size zF 35/\w.grownBy y1 (some B)/\B < w.heap.size/\(0 < len->b < w.heap.size)):=⟨hst,(hg.block _ (gl HW.out.2.1) (fun e=>by have:=Option.some.inj e;have:=HW.out.2.2.2.1;omega)).trans HW.out.2.1,zP HW.out.2.2.1 hg,HW.out.2.2.2⟩
 clear hst hg HW
 go_wp2_with fail
 refine (xO 60 (by omega) (by omega) HW1.out.1).mono ?_
 rintro r y2 ⟨nx,rfl,nx0,nx1,hst,hg⟩
 have HW2:Hid (St y2 B ao len cap b off/\Bx y2 w.heap.size zF 35/\w.grownBy y2 (some B)/\B < w.heap.size/\(0 < len->b < w.heap.size)):=⟨hst,(hg.block _ (gl HW1.out.2.1) (fun e=>by have:=Option.some.inj e;have:=HW1.out.2.2.2.1;omega)).trans HW1.out.2.1,zP HW1.out.2.2.1 hg,HW1.out.2.2.2⟩
 clear hst hg HW1
 go_wp2_with fail
 refine (some_st HW2.out.1).mono ?_
 rintro r y3 ⟨ps,v,p,t0,rfl,hsm,hpp,hT,hD,hst,hg⟩
 have HT:=hid hsm
 have HP:=hid hpp
 have HD0:Hid (zO y2.heap.size y3.heap.size y3 p t0):=hD
 have HW3:Hid (St y3 B ao len cap b off/\Bx y3 w.heap.size zF 35/\w.grownBy y3 (some B)/\B < w.heap.size/\(0 < len->b < w.heap.size)):=⟨hst,(hg.block _ (gl HW2.out.2.1) (fun e=>by have:=Option.some.inj e;have:=HW2.out.2.2.2.1;omega)).trans HW2.out.2.1,zP HW2.out.2.2.1 hg,HW2.out.2.2.2⟩
 have HTR:Hid (xH y3 w.heap.size v ps/\yDC y3.heap.size v ps):=⟨hT.base HW2.out.2.2.1.size,hT.lim⟩
 clear hsm hpp hT hD hst hg HW2
 obtain ⟨gt,ct,hvt⟩:∃ gt ct,v=.slice gt ps.length ct:=(by obtain ⟨a,c,e,-⟩:=HTR.out.1.read.q.1;exact ⟨a,c,e⟩:∃ gt ct,v=.slice gt ps.length ct)
 subst hvt
 go_wp2_with (first
  | (refine zC rfl _ _ _ rfl y3.heap.size (zA p t0) rfl rfl 35 zF (heap_alloc_new y3 _) (by kernel_rfl) rfl (zJ HD0.out.1) ?_;intro y4 hg hk hz;have hb4:Below y3.heap.size y3 y4:=yB hg;have HW4:Hid (St y4 B ao len cap b off/\Bx y4 w.heap.size zF 35/\w.grownBy y4 (some B)/\B < w.heap.size/\(0 < len->b < w.heap.size)):=⟨HW3.out.1.below hb4,(hb4.block _ (gl HW3.out.2.1)).trans HW3.out.2.1,zP HW3.out.2.2.1 (yG hb4),HW3.out.2.2.2⟩;have HTR4:Hid (xH y4 w.heap.size (.slice gt ps.length ct) ps/\yDC y4.heap.size (.slice gt ps.length ct) ps):=⟨HTR.out.1.below hb4,(HTR.out.1.below hb4).lim⟩;have HR4:Hid (jS y4 p t0):=(HD0.out.below hb4).reads;have HK4:Hid (Bx y4 y3.heap.size (zA p t0) 35):=hk;have HLT:Hid (w.heap.size < y3.heap.size/\y3.heap.size < y4.heap.size):=⟨(gl HW3.out.2.1),(gl hk)⟩;clear hg hk hz hb4 HW3 HTR HD0)
  | (refine wpList_load_row rfl _ _ rfl y3.heap.size rfl 35 _ (0,0) _ HK4.out Tryz.underlying35 rfl (by kernel_rfl) ?_))
 refine (zHJ p t0 y4 HR4.out HP.out.w.1.small).mono ?_
 rintro r y5 ⟨t,rfl,ho,hb⟩
 have HD5:Hid (zO y4.heap.size y5.heap.size y5 p t):=ho.toD
 have HW5:Hid (St y5 B ao len cap b off/\Bx y5 w.heap.size zF 35/\w.grownBy y5 (some B)/\B < w.heap.size/\(0 < len->b < w.heap.size)):=⟨HW4.out.1.below hb,(hb.block _ (gl HW4.out.2.1)).trans HW4.out.2.1,zP HW4.out.2.2.1 (yG hb),HW4.out.2.2.2⟩
 have HT5:Hid (xH y5 w.heap.size (.slice gt ps.length ct) ps):=HTR4.out.1.below hb
 have HK5:Hid (Bx y5 y3.heap.size (zA p t0) 35):=(hb.block _ (gl HK4.out)).trans HK4.out
 have HSZ:Hid (y4.heap.size<=y5.heap.size):=hb.size
 clear ho hb HW4 HR4 HK4
 obtain ⟨M,hM⟩:∃ M,M=y3.heap.size:=⟨_,rfl⟩
 rw [<- hM] at HLT HK5 ⊢
 clear hM
 have STORE:∀ y6:World,y5.grownBy y6 (some M)->Bx y6 M (zA p t) 35->AnB w y6 B M y4.heap.size ao len cap b off p t (.slice gt ps.length ct) ps:=fun y6 hg hk=>by
  have:=HLT.out
  have:=HW5.out.2.2.2.1
  exact ⟨HW5.out.1.other hg (by omega) (fun hl e=>by have:=HW5.out.2.2.2.2 hl;omega),yT HW5.out.2.2.1 (by omega) hg,(hg.block _ (gl HW5.out.2.1) (fun e=>by have:=Option.some.inj e;omega)).trans HW5.out.2.1,hk,(HD5.out.boxed HK5.out hg).wide hg.size (nl _),HT5.out.boxed HK5.out hg,HTR4.out.2,⟨HW5.out.2.2.2.1,by omega,by omega,HW5.out.2.2.2.2⟩,Nat.le_trans HSZ.out hg.size⟩
 have HSTO:=hid STORE
 have HONE:Hid ((zA p t).all (·.oneCell')=true):=zJ HD5.out.1
 clear STORE HW5 HTR4 HT5 HD5
 have hl5:=HP.out.w.2
 by_cases h0:kk=0
 ·subst h0
  have hv:(Lit.int .i64 (nx % 6 - 1)).wf=true:=zIH (by omega) (by omega)
  have HV:=hid hv
  clear hv
  go_upto_region 20 with (first | (refine zC rfl _ _ _ rfl M (zA p t) rfl rfl 35 _ HK5.out (by kernel_rfl) rfl HONE.out ?_;intro y6 hg hk hz;have HA:Hid (AnB w y6 B M y4.heap.size ao len cap b off p t (.slice gt ps.length ct) ps):=HSTO.out y6 hg hk;clear hg hk hz HK5 HSTO HONE) | (refine zU rfl _ _ _ rfl M 0 (.int .i64 (nx % 6 - 1)) rfl rfl _ _ HA.out.box (by kernel_rfl) (by simp [zA]) rfl (zA { p with id:=nx % 6 - 1 } t) rfl ?_;intro y7 hg hk;have HE:Hid (AnB w y7 B M y4.heap.size ao len cap b off { p with id:=nx % 6 - 1 } t (.slice gt ps.length ct) ps):=HA.out.put hg hk rfl rfl rfl rfl rfl rfl;clear hg hk HA))
  refine xA (fun x=>Bx x M (zA ({ p with id:=nx % 6 - 1 }:PE) t) 35) (by kernel_rfl) ?_
  show wpAnyH Tryz.prog _ _ _ _ (3+1) (Array.replicate 4 false) _ _
  have hS:Bx y7.drew M (zA ({ p with id:=nx % 6 - 1 }:PE) t) 35:=HE.out.box
  refine yJ 0 67 (.slice gt ps.length ct) hS ?_
  refine yJ 1 68 (.agg (zA ({ p with id:=nx % 6 - 1 }:PE) t)) hS ?_ (hy:=fun x hx=>zM _ _ rfl M rfl _ _ _ _ hx Tryz.underlying35 rfl (by kernel_rfl))
  refine yJ 2 2 (.slice gt ps.length ct) hS ?_
  refine jR (s:=3) (N:=w.heap.size) (old:=zF) (cells:=zA ({ p with id:=nx % 6 - 1 }:PE) t) rfl rfl rfl rfl (by kernel_rfl) rfl rfl HE.out.zero (by kernel_rfl) rfl (zJ HE.out.own.1) ?_
  intro z hg hk
  have HZ:Hid (Bx z w.heap.size (zA ({ p with id:=nx % 6 - 1 }:PE) t) 35/\xH z w.heap.size (.slice gt ps.length ct) ps/\zO w.heap.size z.heap.size z ({ p with id:=nx % 6 - 1 }:PE) t/\St z B ao len cap b off/\w.grownBy z (some B)/\Bx z M (zA ({ p with id:=nx % 6 - 1 }:PE) t) 35):=yCB HE.out hg hk
  clear hg hk hS
  refine ⟨HZ.out.2.2.2.2.2,?_⟩
  refine wpAnyH_done (by kernel_rfl) ?_ _
  go_wp2
  refine bodyPost_ret (v:=.tuple #[.slice gt ps.length ct,.agg (zA ({ p with id:=nx % 6 - 1 }:PE) t)]) (qF Tryz.results46 _ _ w.heap.size 35 _ (0,0) _ _ rfl rfl HZ.out.1 Tryz.underlying35 rfl (by kernel_rfl)) rfl ?_
  exact ⟨ps,_,({ p with id:=nx % 6 - 1 }:PE),t,rfl,HT.out,HP.out.w.1.id HV.out,HZ.out.2.1,HZ.out.2.2.1,HZ.out.2.2.2.1,HZ.out.2.2.2.2.1⟩
 by_cases h1:kk=1
 ·subst h1
  have hv:(Lit.int .i64 nx).wf=true:=zIH (by omega) (by omega)
  have HV:=hid hv
  clear hv
  go_upto_region 20 with (first | (refine zC rfl _ _ _ rfl M (zA p t) rfl rfl 35 _ HK5.out (by kernel_rfl) rfl HONE.out ?_;intro y6 hg hk hz;have HA:Hid (AnB w y6 B M y4.heap.size ao len cap b off p t (.slice gt ps.length ct) ps):=HSTO.out y6 hg hk;clear hg hk hz HK5 HSTO HONE) | (refine zU rfl _ _ _ rfl M 1 (.int .i64 nx) rfl rfl _ _ HA.out.box (by kernel_rfl) (by simp [zA]) rfl (zA { p with view:=nx } t) rfl ?_;intro y7 hg hk;have HE:Hid (AnB w y7 B M y4.heap.size ao len cap b off { p with view:=nx } t (.slice gt ps.length ct) ps):=HA.out.put hg hk rfl rfl rfl rfl rfl rfl;clear hg hk HA))
  refine xA (fun x=>Bx x M (zA ({ p with view:=nx }:PE) t) 35) (by kernel_rfl) ?_
  show wpAnyH Tryz.prog _ _ _ _ (3+1) (Array.replicate 4 false) _ _
  have hS:Bx y7.drew M (zA ({ p with view:=nx }:PE) t) 35:=HE.out.box
  refine yJ 0 67 (.slice gt ps.length ct) hS ?_
  refine yJ 1 68 (.agg (zA ({ p with view:=nx }:PE) t)) hS ?_ (hy:=fun x hx=>zM _ _ rfl M rfl _ _ _ _ hx Tryz.underlying35 rfl (by kernel_rfl))
  refine yJ 2 2 (.slice gt ps.length ct) hS ?_
  refine jR (s:=3) (N:=w.heap.size) (old:=zF) (cells:=zA ({ p with view:=nx }:PE) t) rfl rfl rfl rfl (by kernel_rfl) rfl rfl HE.out.zero (by kernel_rfl) rfl (zJ HE.out.own.1) ?_
  intro z hg hk
  have HZ:Hid (Bx z w.heap.size (zA ({ p with view:=nx }:PE) t) 35/\xH z w.heap.size (.slice gt ps.length ct) ps/\zO w.heap.size z.heap.size z ({ p with view:=nx }:PE) t/\St z B ao len cap b off/\w.grownBy z (some B)/\Bx z M (zA ({ p with view:=nx }:PE) t) 35):=yCB HE.out hg hk
  clear hg hk hS
  refine ⟨HZ.out.2.2.2.2.2,?_⟩
  refine wpAnyH_done (by kernel_rfl) ?_ _
  go_wp2
  refine bodyPost_ret (v:=.tuple #[.slice gt ps.length ct,.agg (zA ({ p with view:=nx }:PE) t)]) (qF Tryz.results46 _ _ w.heap.size 35 _ (0,0) _ _ rfl rfl HZ.out.1 Tryz.underlying35 rfl (by kernel_rfl)) rfl ?_
  exact ⟨ps,_,({ p with view:=nx }:PE),t,rfl,HT.out,HP.out.w.1.view HV.out,HZ.out.2.1,HZ.out.2.2.1,HZ.out.2.2.2.1,HZ.out.2.2.2.2.1⟩
 by_cases h2:kk=2
 ·subst h2
  go_wp2_with (first | (refine zC rfl _ _ _ rfl M (zA p t) rfl rfl 35 _ HK5.out (by kernel_rfl) rfl HONE.out ?_;intro y6 hg hk hz;have HA:Hid (AnB w y6 B M y4.heap.size ao len cap b off p t (.slice gt ps.length ct) ps):=HSTO.out y6 hg hk;clear hg hk hz HK5 HSTO HONE) | fail)
  refine (qc7_st HA.out.st HA.out.tree.u HA.out.lt.1 HT.out.bt (by decide)).mono ?_
  rintro r y7 ⟨q,rfl,hwf,hst,hg⟩
  unfold zBF
  have HWF:=hid hwf
  have HE7:Hid (AnB w y7 B M y4.heap.size ao len cap b off p t (.slice gt ps.length ct) ps):=HA.out.call hst hg
  clear hwf hst hg HA
  go_upto_region 20 with (refine yY rfl _ _ _ rfl M 2 #[.int .i64 q.1,.int .i64 q.2.1,.int .i64 q.2.2.1,.int .i64 q.2.2.2] rfl rfl _ _ HE7.out.box (by kernel_rfl) (by simp [zA]) (by simp [Value.oneCell']) (zA ({ p with high:=q }:PE) t) rfl ?_;intro y8 hg hk;have HE:Hid (AnB w y8 B M y4.heap.size ao len cap b off ({ p with high:=q }:PE) t (.slice gt ps.length ct) ps):=HE7.out.put hg hk rfl rfl rfl rfl rfl rfl;clear hg hk HE7)
  refine xA (fun x=>Bx x M (zA ({ p with high:=q }:PE) t) 35) (by kernel_rfl) ?_
  show wpAnyH Tryz.prog _ _ _ _ (3+1) (Array.replicate 4 false) _ _
  have hS:Bx y8.drew M (zA ({ p with high:=q }:PE) t) 35:=HE.out.box
  refine yJ 0 67 (.slice gt ps.length ct) hS ?_
  refine yJ 1 68 (.agg (zA ({ p with high:=q }:PE) t)) hS ?_ (hy:=fun x hx=>zM _ _ rfl M rfl _ _ _ _ hx Tryz.underlying35 rfl (by kernel_rfl))
  refine yJ 2 2 (.slice gt ps.length ct) hS ?_
  refine jR (s:=3) (N:=w.heap.size) (old:=zF) (cells:=zA ({ p with high:=q }:PE) t) rfl rfl rfl rfl (by kernel_rfl) rfl rfl HE.out.zero (by kernel_rfl) rfl (zJ HE.out.own.1) ?_
  intro z hg hk
  have HZ:Hid (Bx z w.heap.size (zA ({ p with high:=q }:PE) t) 35/\xH z w.heap.size (.slice gt ps.length ct) ps/\zO w.heap.size z.heap.size z ({ p with high:=q }:PE) t/\St z B ao len cap b off/\w.grownBy z (some B)/\Bx z M (zA ({ p with high:=q }:PE) t) 35):=yCB HE.out hg hk
  clear hg hk hS
  refine ⟨HZ.out.2.2.2.2.2,?_⟩
  refine wpAnyH_done (by kernel_rfl) ?_ _
  go_wp2
  refine bodyPost_ret (v:=.tuple #[.slice gt ps.length ct,.agg (zA ({ p with high:=q }:PE) t)]) (qF Tryz.results46 _ _ w.heap.size 35 _ (0,0) _ _ rfl rfl HZ.out.1 Tryz.underlying35 rfl (by kernel_rfl)) rfl ?_
  exact ⟨ps,_,({ p with high:=q }:PE),t,rfl,HT.out,HP.out.w.1.high HWF.out,HZ.out.2.1,HZ.out.2.2.1,HZ.out.2.2.2.1,HZ.out.2.2.2.2.1⟩
 by_cases h3:kk=3
 ·subst h3
  go_wp2_with (first | (refine zC rfl _ _ _ rfl M (zA p t) rfl rfl 35 _ HK5.out (by kernel_rfl) rfl HONE.out ?_;intro y6 hg hk hz;have HA:Hid (AnB w y6 B M y4.heap.size ao len cap b off p t (.slice gt ps.length ct) ps):=HSTO.out y6 hg hk;clear hg hk hz HK5 HSTO HONE) | fail)
  refine (qc7_st HA.out.st HA.out.tree.u HA.out.lt.1 HT.out.bt (by decide)).mono ?_
  rintro r y7 ⟨q,rfl,hwf,hst,hg⟩
  unfold zBF
  have HWF:=hid hwf
  have HE7:Hid (AnB w y7 B M y4.heap.size ao len cap b off p t (.slice gt ps.length ct) ps):=HA.out.call hst hg
  clear hwf hst hg HA
  go_upto_region 20 with (refine yY rfl _ _ _ rfl M 6 #[.int .i64 q.1,.int .i64 q.2.1,.int .i64 q.2.2.1,.int .i64 q.2.2.2] rfl rfl _ _ HE7.out.box (by kernel_rfl) (by simp [zA]) (by simp [Value.oneCell']) (zA ({ p with lock:=q }:PE) t) rfl ?_;intro y8 hg hk;have HE:Hid (AnB w y8 B M y4.heap.size ao len cap b off ({ p with lock:=q }:PE) t (.slice gt ps.length ct) ps):=HE7.out.put hg hk rfl rfl rfl rfl rfl rfl;clear hg hk HE7)
  refine xA (fun x=>Bx x M (zA ({ p with lock:=q }:PE) t) 35) (by kernel_rfl) ?_
  show wpAnyH Tryz.prog _ _ _ _ (3+1) (Array.replicate 4 false) _ _
  have hS:Bx y8.drew M (zA ({ p with lock:=q }:PE) t) 35:=HE.out.box
  refine yJ 0 67 (.slice gt ps.length ct) hS ?_
  refine yJ 1 68 (.agg (zA ({ p with lock:=q }:PE) t)) hS ?_ (hy:=fun x hx=>zM _ _ rfl M rfl _ _ _ _ hx Tryz.underlying35 rfl (by kernel_rfl))
  refine yJ 2 2 (.slice gt ps.length ct) hS ?_
  refine jR (s:=3) (N:=w.heap.size) (old:=zF) (cells:=zA ({ p with lock:=q }:PE) t) rfl rfl rfl rfl (by kernel_rfl) rfl rfl HE.out.zero (by kernel_rfl) rfl (zJ HE.out.own.1) ?_
  intro z hg hk
  have HZ:Hid (Bx z w.heap.size (zA ({ p with lock:=q }:PE) t) 35/\xH z w.heap.size (.slice gt ps.length ct) ps/\zO w.heap.size z.heap.size z ({ p with lock:=q }:PE) t/\St z B ao len cap b off/\w.grownBy z (some B)/\Bx z M (zA ({ p with lock:=q }:PE) t) 35):=yCB HE.out hg hk
  clear hg hk hS
  refine ⟨HZ.out.2.2.2.2.2,?_⟩
  refine wpAnyH_done (by kernel_rfl) ?_ _
  go_wp2
  refine bodyPost_ret (v:=.tuple #[.slice gt ps.length ct,.agg (zA ({ p with lock:=q }:PE) t)]) (qF Tryz.results46 _ _ w.heap.size 35 _ (0,0) _ _ rfl rfl HZ.out.1 Tryz.underlying35 rfl (by kernel_rfl)) rfl ?_
  exact ⟨ps,_,({ p with lock:=q }:PE),t,rfl,HT.out,HP.out.w.1.lock HWF.out,HZ.out.2.1,HZ.out.2.2.1,HZ.out.2.2.2.1,HZ.out.2.2.2.2.1⟩
 by_cases h4:kk=4
 ·subst h4
  go_wp2_with (first | (refine zC rfl _ _ _ rfl M (zA p t) rfl rfl 35 _ HK5.out (by kernel_rfl) rfl HONE.out ?_;intro y6 hg hk hz;have HA:Hid (AnB w y6 B M y4.heap.size ao len cap b off p t (.slice gt ps.length ct) ps):=HSTO.out y6 hg hk;clear hg hk hz HK5 HSTO HONE) | fail)
  refine (any7_st HA.out.st HA.out.tree.u HA.out.lt.1 HT.out.bt (by decide)).mono ?_
  rintro r y7 ⟨q,rfl,hwf,hst,hg⟩
  unfold voteV
  have HWF:=hid hwf
  have HE7:Hid (AnB w y7 B M y4.heap.size ao len cap b off p t (.slice gt ps.length ct) ps):=HA.out.call hst hg
  clear hwf hst hg HA
  go_upto_region 20 with (refine yY rfl _ _ _ rfl M 10 #[.int .i64 q.1,.int .i64 q.2.1,.int .i64 q.2.2.1,.int .i64 q.2.2.2] rfl rfl _ _ HE7.out.box (by kernel_rfl) (by simp [zA]) (by simp [Value.oneCell']) (zA ({ p with last:=q }:PE) t) rfl ?_;intro y8 hg hk;have HE:Hid (AnB w y8 B M y4.heap.size ao len cap b off ({ p with last:=q }:PE) t (.slice gt ps.length ct) ps):=HE7.out.put hg hk rfl rfl rfl rfl rfl rfl;clear hg hk HE7)
  refine xA (fun x=>Bx x M (zA ({ p with last:=q }:PE) t) 35) (by kernel_rfl) ?_
  show wpAnyH Tryz.prog _ _ _ _ (3+1) (Array.replicate 4 false) _ _
  have hS:Bx y8.drew M (zA ({ p with last:=q }:PE) t) 35:=HE.out.box
  refine yJ 0 67 (.slice gt ps.length ct) hS ?_
  refine yJ 1 68 (.agg (zA ({ p with last:=q }:PE) t)) hS ?_ (hy:=fun x hx=>zM _ _ rfl M rfl _ _ _ _ hx Tryz.underlying35 rfl (by kernel_rfl))
  refine yJ 2 2 (.slice gt ps.length ct) hS ?_
  refine jR (s:=3) (N:=w.heap.size) (old:=zF) (cells:=zA ({ p with last:=q }:PE) t) rfl rfl rfl rfl (by kernel_rfl) rfl rfl HE.out.zero (by kernel_rfl) rfl (zJ HE.out.own.1) ?_
  intro z hg hk
  have HZ:Hid (Bx z w.heap.size (zA ({ p with last:=q }:PE) t) 35/\xH z w.heap.size (.slice gt ps.length ct) ps/\zO w.heap.size z.heap.size z ({ p with last:=q }:PE) t/\St z B ao len cap b off/\w.grownBy z (some B)/\Bx z M (zA ({ p with last:=q }:PE) t) 35):=yCB HE.out hg hk
  clear hg hk hS
  refine ⟨HZ.out.2.2.2.2.2,?_⟩
  refine wpAnyH_done (by kernel_rfl) ?_ _
  go_wp2
  refine bodyPost_ret (v:=.tuple #[.slice gt ps.length ct,.agg (zA ({ p with last:=q }:PE) t)]) (qF Tryz.results46 _ _ w.heap.size 35 _ (0,0) _ _ rfl rfl HZ.out.1 Tryz.underlying35 rfl (by kernel_rfl)) rfl ?_
  exact ⟨ps,_,({ p with last:=q }:PE),t,rfl,HT.out,HP.out.w.1.last HWF.out,HZ.out.2.1,HZ.out.2.2.1,HZ.out.2.2.2.1,HZ.out.2.2.2.2.1⟩
 by_cases h5:kk=5
 ·subst h5
  have hv:(Lit.int .i64 (nx % 9)).wf=true:=zIH (by omega) (by omega)
  have HV:=hid hv
  have hrl:p.row.length<=500:=by unfold jZ at hl5;omega
  clear hv
  go_upto_region 20 with (first
   | (refine zC rfl _ _ _ rfl M (zA p t) rfl rfl 35 _ HK5.out (by kernel_rfl) rfl HONE.out ?_;intro y6 hg hk hz;have HA:Hid (AnB w y6 B M y4.heap.size ao len cap b off p t (.slice gt ps.length ct) ps):=HSTO.out y6 hg hk;clear hg hk hz HK5 HSTO HONE;have HAL:Hid (Below y6.heap.size y6 (y6.alloc (.cells #[.int .i64 (nx % 9)] 3))):=yA _ _;have hgt:=HA.out.grown.size;have hlt:=HA.out.lt;have cr:=zB HA.out.box 14 t.row rfl)
   | (at_builtin;refine wpList_append_lies _ rfl (.tmp 51) (.tmp 54) 29 rfl y4.heap.size 3 ii _ 1 8 Tryz.underlying29 ihi ihz0 ihz1 ihz2 rfl (by decide) t.row _ _ rfl (HA.out.more HAL.out).own.1.row ⟨y6.heap.size,0,none⟩ 1 1 [.int .i64 (nx % 9)] rfl rfl (World.news_of_block (heap_alloc_new y6 _)) (by intro x hx;simp at hx;subst hx;rfl) (by decide) (by unfold maxLen;omega) (by omega) (by have:=HA.out.top;simp;omega) _ rfl ?_;intro g2 cap2 y7 ho2 hg2 hwh hlt2;have HE7:Hid (Bx y7 M (zA p t) 35/\AnB0 w y7 B y4.heap.size ao len cap b off ({ p with row:=p.row ++ [nx % 9] }:PE) ({ t with row:=.slice (some ⟨g2,0,none⟩) (p.row.length+1) cap2 }:PV) (.slice gt ps.length ct) ps):=any_addRow (HA.out.more HAL.out) hg2 ho2 (hwh.imp id (fun e=>by rw [e];simp)) hlt2;clear ho2 hg2 hwh hlt2 cr HA HAL)
   | (refine zU rfl _ _ _ rfl M 14 (.slice (some ⟨g2,0,none⟩) (p.row.length+1) cap2) rfl rfl _ _ HE7.out.1 (by kernel_rfl) (by simp [zA]) rfl (zA ({ p with row:=p.row ++ [nx % 9] }:PE) ({ t with row:=.slice (some ⟨g2,0,none⟩) (p.row.length+1) cap2 }:PV)) rfl ?_;intro y8 hg hk;have HE:Hid (AnB w y8 B M y4.heap.size ao len cap b off ({ p with row:=p.row ++ [nx % 9] }:PE) ({ t with row:=.slice (some ⟨g2,0,none⟩) (p.row.length+1) cap2 }:PV) (.slice gt ps.length ct) ps):=HE7.out.2.box HE7.out.1 hg hk hlt.2.1;clear hg hk HE7))
  refine xA (fun x=>Bx x M (zA ({ p with row:=p.row ++ [nx % 9] }:PE) ({ t with row:=.slice (some ⟨g2,0,none⟩) (p.row.length+1) cap2 }:PV)) 35) (by kernel_rfl) ?_
  show wpAnyH Tryz.prog _ _ _ _ (3+1) (Array.replicate 4 false) _ _
  have hS:Bx y8.drew M (zA ({ p with row:=p.row ++ [nx % 9] }:PE) ({ t with row:=.slice (some ⟨g2,0,none⟩) (p.row.length+1) cap2 }:PV)) 35:=HE.out.box
  refine yJ 0 67 (.slice gt ps.length ct) hS ?_
  refine yJ 1 68 (.agg (zA ({ p with row:=p.row ++ [nx % 9] }:PE) ({ t with row:=.slice (some ⟨g2,0,none⟩) (p.row.length+1) cap2 }:PV))) hS ?_ (hy:=fun x hx=>zM _ _ rfl M rfl _ _ _ _ hx Tryz.underlying35 rfl (by kernel_rfl))
  refine yJ 2 2 (.slice gt ps.length ct) hS ?_
  refine jR (s:=3) (N:=w.heap.size) (old:=zF) (cells:=zA ({ p with row:=p.row ++ [nx % 9] }:PE) ({ t with row:=.slice (some ⟨g2,0,none⟩) (p.row.length+1) cap2 }:PV)) rfl rfl rfl rfl (by kernel_rfl) rfl rfl HE.out.zero (by kernel_rfl) rfl (zJ HE.out.own.1) ?_
  intro z hg hk
  have HZ:Hid (Bx z w.heap.size (zA ({ p with row:=p.row ++ [nx % 9] }:PE) ({ t with row:=.slice (some ⟨g2,0,none⟩) (p.row.length+1) cap2 }:PV)) 35/\xH z w.heap.size (.slice gt ps.length ct) ps/\zO w.heap.size z.heap.size z ({ p with row:=p.row ++ [nx % 9] }:PE) ({ t with row:=.slice (some ⟨g2,0,none⟩) (p.row.length+1) cap2 }:PV)/\St z B ao len cap b off/\w.grownBy z (some B)/\Bx z M (zA ({ p with row:=p.row ++ [nx % 9] }:PE) ({ t with row:=.slice (some ⟨g2,0,none⟩) (p.row.length+1) cap2 }:PV)) 35):=yCB HE.out hg hk
  clear hg hk hS
  refine ⟨HZ.out.2.2.2.2.2,?_⟩
  refine wpAnyH_done (by kernel_rfl) ?_ _
  go_wp2
  refine bodyPost_ret (v:=.tuple #[.slice gt ps.length ct,.agg (zA ({ p with row:=p.row ++ [nx % 9] }:PE) ({ t with row:=.slice (some ⟨g2,0,none⟩) (p.row.length+1) cap2 }:PV))]) (qF Tryz.results46 _ _ w.heap.size 35 _ (0,0) _ _ rfl rfl HZ.out.1 Tryz.underlying35 rfl (by kernel_rfl)) rfl ?_
  exact ⟨ps,_,({ p with row:=p.row ++ [nx % 9] }:PE),({ t with row:=.slice (some ⟨g2,0,none⟩) (p.row.length+1) cap2 }:PV),rfl,HT.out,HP.out.w.1.row hl5 HV.out,HZ.out.2.1,HZ.out.2.2.1,HZ.out.2.2.2.1,HZ.out.2.2.2.2.1⟩
 by_cases h6:kk=6
 ·subst h6
  have hv:(Lit.int .i64 (nx % 9 - 1)).wf=true:=zIH (by omega) (by omega)
  have HV:=hid hv
  have hrl:p.early.length<=500:=by unfold jZ at hl5;omega
  clear hv
  go_upto_region 20 with (first
   | (refine zC rfl _ _ _ rfl M (zA p t) rfl rfl 35 _ HK5.out (by kernel_rfl) rfl HONE.out ?_;intro y6 hg hk hz;have HA:Hid (AnB w y6 B M y4.heap.size ao len cap b off p t (.slice gt ps.length ct) ps):=HSTO.out y6 hg hk;clear hg hk hz HK5 HSTO HONE;have HAL:Hid (Below y6.heap.size y6 (y6.alloc (.cells #[.int .i64 (nx % 9 - 1)] 3))):=yA _ _;have hgt:=HA.out.grown.size;have hlt:=HA.out.lt;have cr:=zB HA.out.box 16 t.early rfl)
   | (at_builtin;refine wpList_append_lies _ rfl (.tmp 60) (.tmp 64) 29 rfl y4.heap.size 3 ii _ 1 8 Tryz.underlying29 ihi ihz0 ihz1 ihz2 rfl (by decide) t.early _ _ rfl (HA.out.more HAL.out).own.1.early ⟨y6.heap.size,0,none⟩ 1 1 [.int .i64 (nx % 9 - 1)] rfl rfl (World.news_of_block (heap_alloc_new y6 _)) (by intro x hx;simp at hx;subst hx;rfl) (by decide) (by unfold maxLen;omega) (by omega) (by have:=HA.out.top;simp;omega) _ rfl ?_;intro g2 cap2 y7 ho2 hg2 hwh hlt2;have HE7:Hid (Bx y7 M (zA p t) 35/\AnB0 w y7 B y4.heap.size ao len cap b off ({ p with early:=p.early ++ [nx % 9 - 1] }:PE) ({ t with early:=.slice (some ⟨g2,0,none⟩) (p.early.length+1) cap2 }:PV) (.slice gt ps.length ct) ps):=any_addEarly (HA.out.more HAL.out) hg2 ho2 (hwh.imp id (fun e=>by rw [e];simp)) hlt2;clear ho2 hg2 hwh hlt2 cr HA HAL)
   | (refine zU rfl _ _ _ rfl M 16 (.slice (some ⟨g2,0,none⟩) (p.early.length+1) cap2) rfl rfl _ _ HE7.out.1 (by kernel_rfl) (by simp [zA]) rfl (zA ({ p with early:=p.early ++ [nx % 9 - 1] }:PE) ({ t with early:=.slice (some ⟨g2,0,none⟩) (p.early.length+1) cap2 }:PV)) rfl ?_;intro y8 hg hk;have HE:Hid (AnB w y8 B M y4.heap.size ao len cap b off ({ p with early:=p.early ++ [nx % 9 - 1] }:PE) ({ t with early:=.slice (some ⟨g2,0,none⟩) (p.early.length+1) cap2 }:PV) (.slice gt ps.length ct) ps):=HE7.out.2.box HE7.out.1 hg hk hlt.2.1;clear hg hk HE7))
  refine xA (fun x=>Bx x M (zA ({ p with early:=p.early ++ [nx % 9 - 1] }:PE) ({ t with early:=.slice (some ⟨g2,0,none⟩) (p.early.length+1) cap2 }:PV)) 35) (by kernel_rfl) ?_
  show wpAnyH Tryz.prog _ _ _ _ (3+1) (Array.replicate 4 false) _ _
  have hS:Bx y8.drew M (zA ({ p with early:=p.early ++ [nx % 9 - 1] }:PE) ({ t with early:=.slice (some ⟨g2,0,none⟩) (p.early.length+1) cap2 }:PV)) 35:=HE.out.box
  refine yJ 0 67 (.slice gt ps.length ct) hS ?_
  refine yJ 1 68 (.agg (zA ({ p with early:=p.early ++ [nx % 9 - 1] }:PE) ({ t with early:=.slice (some ⟨g2,0,none⟩) (p.early.length+1) cap2 }:PV))) hS ?_ (hy:=fun x hx=>zM _ _ rfl M rfl _ _ _ _ hx Tryz.underlying35 rfl (by kernel_rfl))
  refine yJ 2 2 (.slice gt ps.length ct) hS ?_
  refine jR (s:=3) (N:=w.heap.size) (old:=zF) (cells:=zA ({ p with early:=p.early ++ [nx % 9 - 1] }:PE) ({ t with early:=.slice (some ⟨g2,0,none⟩) (p.early.length+1) cap2 }:PV)) rfl rfl rfl rfl (by kernel_rfl) rfl rfl HE.out.zero (by kernel_rfl) rfl (zJ HE.out.own.1) ?_
  intro z hg hk
  have HZ:Hid (Bx z w.heap.size (zA ({ p with early:=p.early ++ [nx % 9 - 1] }:PE) ({ t with early:=.slice (some ⟨g2,0,none⟩) (p.early.length+1) cap2 }:PV)) 35/\xH z w.heap.size (.slice gt ps.length ct) ps/\zO w.heap.size z.heap.size z ({ p with early:=p.early ++ [nx % 9 - 1] }:PE) ({ t with early:=.slice (some ⟨g2,0,none⟩) (p.early.length+1) cap2 }:PV)/\St z B ao len cap b off/\w.grownBy z (some B)/\Bx z M (zA ({ p with early:=p.early ++ [nx % 9 - 1] }:PE) ({ t with early:=.slice (some ⟨g2,0,none⟩) (p.early.length+1) cap2 }:PV)) 35):=yCB HE.out hg hk
  clear hg hk hS
  refine ⟨HZ.out.2.2.2.2.2,?_⟩
  refine wpAnyH_done (by kernel_rfl) ?_ _
  go_wp2
  refine bodyPost_ret (v:=.tuple #[.slice gt ps.length ct,.agg (zA ({ p with early:=p.early ++ [nx % 9 - 1] }:PE) ({ t with early:=.slice (some ⟨g2,0,none⟩) (p.early.length+1) cap2 }:PV))]) (qF Tryz.results46 _ _ w.heap.size 35 _ (0,0) _ _ rfl rfl HZ.out.1 Tryz.underlying35 rfl (by kernel_rfl)) rfl ?_
  exact ⟨ps,_,({ p with early:=p.early ++ [nx % 9 - 1] }:PE),({ t with early:=.slice (some ⟨g2,0,none⟩) (p.early.length+1) cap2 }:PV),rfl,HT.out,HP.out.w.1.early hl5 HV.out,HZ.out.2.1,HZ.out.2.2.1,HZ.out.2.2.2.1,HZ.out.2.2.2.2.1⟩
 go_upto_region 20 with (first | (refine zC rfl _ _ _ rfl M (zA p t) rfl rfl 35 _ HK5.out (by kernel_rfl) rfl HONE.out ?_;intro y6 hg hk hz;have HA:Hid (AnB w y6 B M y4.heap.size ao len cap b off p t (.slice gt ps.length ct) ps):=HSTO.out y6 hg hk;clear hg hk hz HK5 HSTO HONE))
 refine xA (fun x=>Bx x M (zA p t) 35) (by kernel_rfl) ?_
 show wpAnyH Tryz.prog _ _ _ _ (3+1) (Array.replicate 4 false) _ _
 have hS:Bx y6.drew M (zA p t) 35:=HA.out.box
 refine yJ 0 67 (.slice gt ps.length ct) hS ?_
 refine yJ 1 68 (.agg (zA p t)) hS ?_ (hy:=fun x hx=>zM _ _ rfl M rfl _ _ _ _ hx Tryz.underlying35 rfl (by kernel_rfl))
 refine yJ 2 2 (.slice gt ps.length ct) hS ?_
 refine jR (s:=3) (N:=w.heap.size) (old:=zF) (cells:=zA p t) rfl rfl rfl rfl (by kernel_rfl) rfl rfl HA.out.zero (by kernel_rfl) rfl (zJ HA.out.own.1) ?_
 intro z hg hk
 have HZ:Hid (Bx z w.heap.size (zA p t) 35/\xH z w.heap.size (.slice gt ps.length ct) ps/\zO w.heap.size z.heap.size z p t/\St z B ao len cap b off/\w.grownBy z (some B)/\Bx z M (zA p t) 35):=yCB HA.out hg hk
 clear hg hk hS
 refine ⟨HZ.out.2.2.2.2.2,?_⟩
 refine wpAnyH_done (by kernel_rfl) ?_ _
 go_wp2
 refine bodyPost_ret (v:=.tuple #[.slice gt ps.length ct,.agg (zA p t)]) (qF Tryz.results46 _ _ w.heap.size 35 _ (0,0) _ _ rfl rfl HZ.out.1 Tryz.underlying35 rfl (by kernel_rfl)) rfl ?_
 exact ⟨ps,_,p,t,rfl,HT.out,HP.out.w.1,HZ.out.2.1,HZ.out.2.2.1,HZ.out.2.2.2.1,HZ.out.2.2.2.2.1⟩
end Go.Proofs.YtjdddcldbfhbiacGreatR
