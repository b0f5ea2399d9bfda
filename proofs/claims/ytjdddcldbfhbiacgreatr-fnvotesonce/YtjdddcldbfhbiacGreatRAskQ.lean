/-
  A text of ours: AskQ.
-/
import Derived.Test.YtjdddcldbfhbiacGreatRK1
import Derived.Test.YtjdddcldbfhbiacGreatRLeadH
import Derived.Test.YtjdddcldbfhbiacGreatRK5
set_option maxRecDepth 100000
set_option maxHeartbeats 32000000
namespace Go.Proofs.YtjdddcldbfhbiacGreatR
open Go.RowKit Num
def zIG (p:PE) (ph vw blk tw:Int):PE × List LT:=if zEG p ph vw=true then (yP p ph vw blk,[zEJ p ph vw blk tw]) else (p,[])
def doneV (t:List BK) (p:PE) (vw blk:Int):PE:=yI (kO t p blk) (vw+1)
def qcH (t:List BK) (n:Int) (p:PE) (l:LT):PE × List LT:=
 if l.2.1.1=1 then zIG { yI p l.1.2.2.2.1 with high:=yF (yI p l.1.2.2.2.1).high l.2.1 } 2 l.1.2.2.2.1 l.2.1.2.2.1 l.1.2.1
 else if l.2.1.1=2 then zIG { yI p l.1.2.2.2.1 with lock:=yF (yI p l.1.2.2.2.1).lock l.2.1 } 3 l.1.2.2.2.1 l.2.1.2.2.1 l.1.2.1
 else if l.2.1.1=3 then (doneV t (yI p l.1.2.2.2.1) l.1.2.2.2.1 l.2.1.2.2.1,[kX (doneV t (yI p l.1.2.2.2.1) l.1.2.2.2.1 l.2.1.2.2.1) 4 (xQ (doneV t (yI p l.1.2.2.2.1) l.1.2.2.2.1 l.2.1.2.2.1).view n) (doneV t (yI p l.1.2.2.2.1) l.1.2.2.2.1 l.2.1.2.2.1).high (0,0,0,0)])
 else (yI p l.1.2.2.2.1,[])
theorem enter_view {p:PE} {v:Int} (h0:-9223372036854775808≤p.view) (h1:p.view≤9223372036854775807) (k0:0≤v) (k1:v≤1000):-9223372036854775808≤(yI p v).view∧(yI p v).view≤9223372036854775807:=by
 unfold yI
 split
 ·exact ⟨by show _≤v;omega,by show v≤_;omega⟩
 ·exact ⟨h0,h1⟩
theorem through_view (t:List BK) (p:PE) (k:Int):(kO t p k).view=p.view:=by
 unfold kO
 split
 ·rfl
 ·rfl
structure PtA (w y:World) (N Nq lo:Nat) (p:PE) (s:PV) (l:LT) (q:QC):Prop where
 ptr:Bx y N (zA p s) 35
 box:Bx y w.heap.size (zQ l) 61
 qc:Bx y Nq #[.int .i64 q.1,.int .i64 q.2.1,.int .i64 q.2.2.1,.int .i64 q.2.2.2] 26
 own:zO lo y.heap.size y p s
 grown:w.grownBy y (some N)
theorem PtA.more {w y x:World} {N Nq lo:Nat} {p:PE} {s:PV} {l:LT} {q:QC} (h:PtA w y N Nq lo p s l q) (hb:Below y.heap.size y x):PtA w x N Nq lo p s l q:=
 ⟨(hb.block _ (gl h.ptr)).trans h.ptr,(hb.block _ (gl h.box)).trans h.box,(hb.block _ (gl h.qc)).trans h.qc,(h.own.below hb).wide hb.size (nl _),zP h.grown (yG hb)⟩
theorem PtA.put {w y x:World} {N Nq lo:Nat} {p p':PE} {s s':PV} {l:LT} {q:QC} (h:PtA w y N Nq lo p s l q) (hN:N < w.heap.size) (hq:w.heap.size≤Nq) (hg:y.grownBy x (some N)) (hk:Bx x N (zA p' s') 35) (ho:zO lo x.heap.size x p' s'):PtA w x N Nq lo p' s' l q:=
 ⟨hk,(hg.block _ (gl h.box) (fun e=>by have:=Option.some.inj e;omega)).trans h.box,(hg.block _ (gl h.qc) (fun e=>by have:=Option.some.inj e;omega)).trans h.qc,ho,zP h.grown hg⟩
theorem qc_p (ps:TL) (va:Value) (p:PE) (s:PV) (N lo hi:Nat) (n:Int) (l:LT) (w:World) (hk:okT (bks ps)) (hD:zO lo hi w p s) (hN:Bx w N (zA p s) 35) (hlo:lo≤w.heap.size) (hs:yC p) (hln:jZ p+wtB (bks ps)≤1048576)
  (hfar:∀ x:World,w.grownBy x (some N)→jB x va ps) (hn0:0≤n) (hn1:n≤7) (hv0:0≤l.1.2.2.2.1) (hv1:l.1.2.2.2.1≤900) (hp0:-9223372036854775808≤p.view) (hp1:p.view≤9223372036854775807) :
  Calls Tryz.prog 214 #[va,.int .i64 n,.pointer (some ⟨N,0,none⟩),.agg (zQ l)] w fun e w'=>∃ v',e=.returned v'∧w.grownBy w' (some N)∧(∃ s',Bx w' N (zA (qcH (bks ps) n p l).1 s') 35∧zO lo w'.heap.size w' (qcH (bks ps) n p l).1 s')∧w'.ownsRow w.heap.size 61 13 v' (qcH (bks ps) n p l).2.length (zE yE (qcH (bks ps) n p l).2):=by
 obtain ⟨⟨k,fr,tw,vw,blk⟩,⟨q0,q1,q2,q3⟩,vt⟩:=l
 simp only at hv0 hv1
 have HK:=hid hk
 have HS:=hid hs
 have HFA:=hid hfar
 have hNl:N < w.heap.size:=(gl hN)
 obtain ⟨W,hW⟩:∃ W,W=w.alloc (.cells (zQ ((k,fr,tw,vw,blk),(q0,q1,q2,q3),vt)) 61):=⟨_,rfl⟩
 have HW:Hid (PtL w W N lo p s ((k,fr,tw,vw,blk),(q0,q1,q2,q3),vt)):=(by
  have hb:Below w.heap.size w W:=by rw [hW];exact (br _ _).alloc (nl _) _
  exact ⟨(hb.block _ hNl).trans hN,by rw [hW];exact heap_alloc_new w _,((hD.below hb).wide (Nat.le_trans hD.2.2 hb.size) (nl _)),yG hb⟩:PtL w W N lo p s ((k,fr,tw,vw,blk),(q0,q1,q2,q3),vt))
 obtain ⟨p1,hp1'⟩:∃ p1,p1=yI p vw:=⟨_,rfl⟩
 have HS1:Hid (yC p1∧jZ p1+wtB (bks ps)≤1048576):=hid (by rw [hp1'];exact ⟨zHA hs _,by have:=enter_len p vw;omega⟩)
 have HPV:Hid (-9223372036854775808≤p1.view∧p1.view≤9223372036854775807):=hid (by rw [hp1'];exact enter_view hp0 hp1 hv0 (by omega))
 obtain ⟨R,hR⟩:∃ R,R=qcH (bks ps) n p ((k,fr,tw,vw,blk),(q0,q1,q2,q3),vt):=⟨_,rfl⟩
 have HR:Hid (R=if q0=1 then zIG { p1 with high:=yF p1.high (q0,q1,q2,q3) } 2 vw q2 fr else if q0=2 then zIG { p1 with lock:=yF p1.lock (q0,q1,q2,q3) } 3 vw q2 fr else if q0=3 then (doneV (bks ps) p1 vw q2,[kX (doneV (bks ps) p1 vw q2) 4 (xQ (doneV (bks ps) p1 vw q2).view n) (doneV (bks ps) p1 vw q2).high (0,0,0,0)]) else (p1,[])):=(by rw [hR,hp1'];rfl:R=_)
 rw [← hR]
 clear hR hD hN hs hk hfar hln
 go_enter Tryz.func214,Tryz.ntmps214
 go_wp2
 rw [← hW]
 clear hW
 refine zT (fun i=>decide (i < 8)) (fun x=>Bx x N (zA p s) 35∧Bx x w.heap.size (zQ ((k,fr,tw,vw,blk),(q0,q1,q2,q3),vt)) 61) (by kernel_rfl) ?_
 show zX Tryz.prog _ _ _ _ _ (8+1) (Array.replicate 9 false) _ _
 have hS:Bx W.drew N (zA p s) 35∧Bx W.drew w.heap.size (zQ ((k,fr,tw,vw,blk),(q0,q1,q2,q3),vt)) 61:=⟨HW.out.ptr,HW.out.box⟩
 refine zD 0 10 (.pointer (some ⟨N,0,none⟩)) hS ?_
 refine zD 1 11 (.pointer (some ⟨N,0,none⟩)) hS ?_
 refine zD 2 12 (.pointer (some ⟨N,0,none⟩)) hS ?_
 refine zD 3 13 (.agg (zA p s)) hS ?_ (hy:=fun x hx=>zM _ _ rfl N rfl _ _ _ _ hx.1 Tryz.underlying35 rfl (by kernel_rfl))
 refine zD 4 14 (.pointer (some ⟨w.heap.size,3,none⟩)) hS ?_
 refine zD 5 15 (.int .i64 vw) hS ?_ (hy:=by intro x hx;have c:=zB hx.2 3 (.int .i64 vw) rfl;go_simp;try with_reducible rfl)
 refine kJ 6 16 30 #[.agg (zA p s),.int .i64 vw] ((zCB p s vw W.drew (HW.out.own.reads.below (br _ _).drew) HS.out).mono ?_)
 rw [← hp1']
 rintro e x2 ⟨s1,rfl,ho,hb0⟩
 have hb:Below W.heap.size W x2:=((br _ _).drew).trans hb0
 have HX2:Hid (PtL w x2 N lo p s ((k,fr,tw,vw,blk),(q0,q1,q2,q3),vt)):=HW.out.more hb
 have HO2:Hid (zO lo x2.heap.size x2 p1 s1):=ho.low (Nat.le_trans hlo HW.out.grown.size)
 have hS1:Bx x2 N (zA p s) 35∧Bx x2 w.heap.size (zQ ((k,fr,tw,vw,blk),(q0,q1,q2,q3),vt)) 61:=⟨HX2.out.ptr,HX2.out.box⟩
 clear ho hb hb0 hS HW
 refine ⟨_,rfl,fun _=>hS1,?_⟩
 simp only [pz]
 refine zD 7 17 (.pointer (some ⟨N,0,none⟩)) hS1 ?_
 refine xW (s:=8) (N:=N) (o:=0) (cells:=zA p1 s1) (old:=zA p s) (new:=zA p1 s1) rfl rfl rfl rfl (by kernel_rfl) rfl rfl hS1.1 (by kernel_rfl) (by simp [zA]) (zJ HO2.out.1) rfl ?_
 intro y2 hg hk
 have HY2:Hid (PtL w y2 N lo p1 s1 ((k,fr,tw,vw,blk),(q0,q1,q2,q3),vt)):=⟨hk,(hg.block _ (gl hS1.2) (fun e=>by have:=Option.some.inj e;omega)).trans hS1.2,(HO2.out.boxed hS1.1 hg).wide hg.size (nl _),zP HX2.out.grown hg⟩
 clear hg hk hS1 HX2 HO2 hp1'
 refine ⟨fun h=>absurd h (by decide),?_⟩
 refine zK (by kernel_rfl) ?_ _
 have c5:=zB HY2.out.box 5 (.int .i64 q0) rfl
 have c6:=zB HY2.out.box 6 (.int .i64 q1) rfl
 have c7:=zB HY2.out.box 7 (.int .i64 q2) rfl
 have c8:=zB HY2.out.box 8 (.int .i64 q3) rfl
 obtain ⟨Nq,hNq⟩:∃ Nq,Nq=y2.heap.size:=⟨_,rfl⟩
 have hQN:w.heap.size≤Nq:=by rw [hNq];exact HY2.out.grown.size
 go_upto_region 3 with (refine zC rfl _ _ _ rfl y2.heap.size #[.int .i64 q0,.int .i64 q1,.int .i64 q2,.int .i64 q3] rfl rfl 26 #[.int .i64 0,.int .i64 0,.int .i64 0,.int .i64 0] (heap_alloc_new y2 _) (by kernel_rfl) rfl (by simp [Value.oneCell']) ?_;intro y3 hg hk hz;have hb3:Below y2.heap.size y2 y3:=yB hg;have HY3:Hid (PtA w y3 N Nq lo p1 s1 ((k,fr,tw,vw,blk),(q0,q1,q2,q3),vt) (q0,q1,q2,q3)):=⟨(HY2.out.more hb3).ptr,(HY2.out.more hb3).box,(by rw [hNq];exact hk),(HY2.out.more hb3).own,(HY2.out.more hb3).grown⟩;clear hg hk hz hb3 HY2)
 rw [← hNq]
 clear hNq c5 c6 c7 c8
 have c0:=zB HY3.out.qc 0 (.int .i64 q0) rfl
 by_cases h1:q0=1
 ·subst h1
  obtain ⟨p2,hp2⟩:∃ p2:PE,p2={ p1 with high:=yF p1.high (1,q1,q2,q3) }:=⟨_,rfl⟩
  have HR2:Hid (R=zIG p2 2 vw q2 fr):=hid (by rw [HR.out,hp2];simp)
  go_wp2
  clear c0
  refine zT (fun i=>decide (i < 9)) (fun x=>Bx x N (zA p1 s1) 35∧Bx x w.heap.size (zQ ((k,fr,tw,vw,blk),(1,q1,q2,q3),vt)) 61∧Bx x Nq #[.int .i64 1,.int .i64 q1,.int .i64 q2,.int .i64 q3] 26) (by kernel_rfl) ?_
  show zX Tryz.prog _ _ _ _ _ (9+1) (Array.replicate 10 false) _ _
  have hS:Bx y3.drew N (zA p1 s1) 35∧Bx y3.drew w.heap.size (zQ ((k,fr,tw,vw,blk),(1,q1,q2,q3),vt)) 61∧Bx y3.drew Nq #[.int .i64 1,.int .i64 q1,.int .i64 q2,.int .i64 q3] 26:=⟨HY3.out.ptr,HY3.out.box,HY3.out.qc⟩
  refine zD 0 25 (.pointer (some ⟨N,0,none⟩)) hS ?_
  refine zD 1 26 (.pointer (some ⟨N,0,none⟩)) hS ?_
  refine zD 2 27 (.pointer (some ⟨N,0,none⟩)) hS ?_
  refine zD 3 28 (.pointer (some ⟨N,2,none⟩)) hS ?_
  refine zD 4 29 (.agg #[.int .i64 p1.high.1,.int .i64 p1.high.2.1,.int .i64 p1.high.2.2.1,.int .i64 p1.high.2.2.2]) hS ?_ (hy:=by intro x hx;have d0:=zB hx.1 2 (.int .i64 p1.high.1) rfl;have d1:=zB hx.1 3 (.int .i64 p1.high.2.1) rfl;have d2:=zB hx.1 4 (.int .i64 p1.high.2.2.1) rfl;have d3:=zB hx.1 5 (.int .i64 p1.high.2.2.2) rfl;go_simp;try with_reducible rfl)
  refine zD 5 30 (.agg #[.int .i64 1,.int .i64 q1,.int .i64 q2,.int .i64 q3]) hS ?_ (hy:=fun x hx=>zM _ _ rfl Nq rfl _ _ _ _ hx.2.2 Tryz.underlying26 rfl (by kernel_rfl))
  refine kJ 6 31 159 #[.agg #[.int .i64 p1.high.1,.int .i64 p1.high.2.1,.int .i64 p1.high.2.2.1,.int .i64 p1.high.2.2.2],.agg #[.int .i64 1,.int .i64 q1,.int .i64 q2,.int .i64 q3]] ((yAF p1.high (1,q1,q2,q3) y3.drew).mono ?_)
  rintro e x4 ⟨rfl,hb0⟩
  have hb:Below y3.heap.size y3 x4:=((br _ _).drew).trans hb0
  have HX4:Hid (PtA w x4 N Nq lo p1 s1 ((k,fr,tw,vw,blk),(1,q1,q2,q3),vt) (1,q1,q2,q3)):=HY3.out.more hb
  have hS1:Bx x4 N (zA p1 s1) 35∧Bx x4 w.heap.size (zQ ((k,fr,tw,vw,blk),(1,q1,q2,q3),vt)) 61∧Bx x4 Nq #[.int .i64 1,.int .i64 q1,.int .i64 q2,.int .i64 q3] 26:=⟨HX4.out.ptr,HX4.out.box,HX4.out.qc⟩
  clear hb hb0 hS HY3
  refine ⟨_,rfl,fun _=>hS1,?_⟩
  simp only [pz]
  refine zD 7 32 (.pointer (some ⟨N,0,none⟩)) hS1 ?_
  refine zD 8 33 (.pointer (some ⟨N,2,none⟩)) hS1 ?_
  refine xW (s:=9) (N:=N) (o:=2) (cells:=#[.int .i64 (yF p1.high (1,q1,q2,q3)).1,.int .i64 (yF p1.high (1,q1,q2,q3)).2.1,.int .i64 (yF p1.high (1,q1,q2,q3)).2.2.1,.int .i64 (yF p1.high (1,q1,q2,q3)).2.2.2]) (old:=zA p1 s1) (new:=zA p2 s1) rfl rfl rfl rfl (by kernel_rfl) rfl rfl hS1.1 (by kernel_rfl) (by simp [zA]) (by simp [Value.oneCell']) (by rw [hp2];rfl) ?_
  intro y5 hg hk
  have HY5:Hid (PtA w y5 N Nq lo p2 s1 ((k,fr,tw,vw,blk),(1,q1,q2,q3),vt) (1,q1,q2,q3)):=HX4.out.put hNl hQN hg hk (by rw [hp2];exact ((HX4.out.own.boxed hS1.1 hg).wide hg.size (nl _)).other rfl rfl rfl rfl rfl rfl)
  have HS2:Hid (yC p2):=hid (by rw [hp2];exact ⟨HS1.out.1.row,HS1.out.1.cells,HS1.out.1.early,HS1.out.1.undos,HS1.out.1.votes,HS1.out.1.news,HS1.out.1.kcells,HS1.out.1.kundos⟩)
  clear hg hk hS1 HX4 hp2
  refine ⟨fun h=>absurd h (by decide),?_⟩
  refine zK (by kernel_rfl) ?_ _
  go_wp2
  refine zT (fun _=>true) (fun x=>Bx x N (zA p2 s1) 35∧Bx x w.heap.size (zQ ((k,fr,tw,vw,blk),(1,q1,q2,q3),vt)) 61∧Bx x Nq #[.int .i64 1,.int .i64 q1,.int .i64 q2,.int .i64 q3] 26) (by kernel_rfl) ?_
  show zX Tryz.prog _ _ _ _ _ (9+1) (Array.replicate 10 false) _ _
  have hS:Bx y5.drew N (zA p2 s1) 35∧Bx y5.drew w.heap.size (zQ ((k,fr,tw,vw,blk),(1,q1,q2,q3),vt)) 61∧Bx y5.drew Nq #[.int .i64 1,.int .i64 q1,.int .i64 q2,.int .i64 q3] 26:=⟨HY5.out.ptr,HY5.out.box,HY5.out.qc⟩
  refine zD 0 76 (.pointer (some ⟨N,0,none⟩)) hS ?_
  refine zD 1 77 (.pointer (some ⟨N,0,none⟩)) hS ?_
  refine zD 2 78 (.agg (zA p2 s1)) hS ?_ (hy:=fun x hx=>zM _ _ rfl N rfl _ _ _ _ hx.1 Tryz.underlying35 rfl (by kernel_rfl))
  refine zD 3 79 (.pointer (some ⟨Nq,0,none⟩)) hS ?_
  refine zD 4 80 (.int .i64 1) hS ?_ (hy:=by intro x hx;have c:=zB hx.2.2 0 (.int .i64 1) rfl;go_simp;try with_reducible rfl)
  refine zD 5 81 (.int .i64 2) hS ?_ (hy:=by intro x hx;go_simp;rfl;try with_reducible rfl)
  refine zD 6 82 (.pointer (some ⟨w.heap.size,3,none⟩)) hS ?_
  refine zD 7 83 (.int .i64 vw) hS ?_ (hy:=by intro x hx;have c:=zB hx.2.1 3 (.int .i64 vw) rfl;go_simp;try with_reducible rfl)
  obtain ⟨mb,hmb⟩:∃ mb,mb=zEG p2 2 vw:=⟨_,rfl⟩
  refine kJ 8 84 13 #[.agg (zA p2 s1),.int .i64 2,.int .i64 vw] ((yFB p2 s1 2 vw y5.drew).mono ?_)
  rw [← hmb]
  rintro e x6 ⟨rfl,hb0⟩
  have hb:Below y5.heap.size y5 x6:=((br _ _).drew).trans hb0
  have HX6:Hid (PtA w x6 N Nq lo p2 s1 ((k,fr,tw,vw,blk),(1,q1,q2,q3),vt) (1,q1,q2,q3)):=HY5.out.more hb
  have hS1:Bx x6 N (zA p2 s1) 35∧Bx x6 w.heap.size (zQ ((k,fr,tw,vw,blk),(1,q1,q2,q3),vt)) 61∧Bx x6 Nq #[.int .i64 1,.int .i64 q1,.int .i64 q2,.int .i64 q3] 26:=⟨HX6.out.ptr,HX6.out.box,HX6.out.qc⟩
  clear hb hb0 hS HY5
  refine ⟨_,rfl,fun _=>hS1,?_⟩
  simp only [pz]
  refine zD 9 85 (.bool (!mb)) hS1 ?_
  refine zK (by kernel_rfl) ?_ _
  clear hS1
  cases mb with
  | false=>
   have HE:Hid (R=(p2,[])):=(by rw [HR2.out];unfold zIG;rw [← hmb];rfl:R=_)
   clear hmb
   go_wp2
   go_ret
   rw [HE.out]
   have hb7:Below x6.heap.size x6 (x6.alloc (.cells #[] 61)):=(br _ _).alloc (nl _) _
   exact ⟨_,rfl,(HX6.out.more hb7).grown,⟨s1,(HX6.out.more hb7).ptr,(HX6.out.more hb7).own⟩,zN (yH x6 61 13) HX6.out.grown.size⟩
  | true=>
   have HE:Hid (R=(yP p2 2 vw q2,[zEJ p2 2 vw q2 fr])):=(by rw [HR2.out];unfold zIG;rw [← hmb];rfl:R=_)
   clear hmb
   have g0:=zB HX6.out.qc 0 (.int .i64 1) rfl
   have g2:=zB HX6.out.qc 2 (.int .i64 q2) rfl
   have g3:=zB HX6.out.box 3 (.int .i64 vw) rfl
   have g1:=zB HX6.out.box 1 (.int .i64 fr) rfl
   go_wp2_with fail
   refine (give_s p2 s1 N lo x6.heap.size 2 vw q2 fr x6 HX6.out.own HX6.out.ptr (Nat.le_trans hlo HX6.out.grown.size) HS2.out).mono ?_
   rintro e x7 ⟨v7,rfl,hg7,⟨s7,hk7,ho7⟩,hl7⟩
   have HX7:Hid (w.grownBy x7 (some N)∧Bx x7 N (zA (yP p2 2 vw q2) s7) 35∧zO lo x7.heap.size x7 (yP p2 2 vw q2) s7∧x7.ownsRow w.heap.size 61 13 v7 1 (yE (zEJ p2 2 vw q2 fr))):=⟨zP HX6.out.grown hg7,hk7,ho7,zN hl7 HX6.out.grown.size⟩
   clear hg7 hk7 ho7 hl7 HX6 g0 g1 g2 g3
   go_wp2
   go_ret
   rw [HE.out]
   exact ⟨_,rfl,HX7.out.1,⟨s7,HX7.out.2.1,HX7.out.2.2.1⟩,by simpa [zE] using HX7.out.2.2.2⟩
 ·have b1:(q0 == 1)=false:=by simpa using h1
  by_cases h2:q0=2
  ·subst h2
   clear b1
   obtain ⟨p2,hp2⟩:∃ p2:PE,p2={ p1 with lock:=yF p1.lock (2,q1,q2,q3) }:=⟨_,rfl⟩
   have HR2:Hid (R=zIG p2 3 vw q2 fr):=hid (by rw [HR.out,hp2];simp)
   go_wp2
   clear c0
   refine zT (fun i=>decide (i < 9)) (fun x=>Bx x N (zA p1 s1) 35∧Bx x w.heap.size (zQ ((k,fr,tw,vw,blk),(2,q1,q2,q3),vt)) 61∧Bx x Nq #[.int .i64 2,.int .i64 q1,.int .i64 q2,.int .i64 q3] 26) (by kernel_rfl) ?_
   show zX Tryz.prog _ _ _ _ _ (9+1) (Array.replicate 10 false) _ _
   have hS:Bx y3.drew N (zA p1 s1) 35∧Bx y3.drew w.heap.size (zQ ((k,fr,tw,vw,blk),(2,q1,q2,q3),vt)) 61∧Bx y3.drew Nq #[.int .i64 2,.int .i64 q1,.int .i64 q2,.int .i64 q3] 26:=⟨HY3.out.ptr,HY3.out.box,HY3.out.qc⟩
   refine zD 0 36 (.pointer (some ⟨N,0,none⟩)) hS ?_
   refine zD 1 37 (.pointer (some ⟨N,0,none⟩)) hS ?_
   refine zD 2 38 (.pointer (some ⟨N,0,none⟩)) hS ?_
   refine zD 3 39 (.pointer (some ⟨N,6,none⟩)) hS ?_
   refine zD 4 40 (.agg #[.int .i64 p1.lock.1,.int .i64 p1.lock.2.1,.int .i64 p1.lock.2.2.1,.int .i64 p1.lock.2.2.2]) hS ?_ (hy:=by intro x hx;have d0:=zB hx.1 6 (.int .i64 p1.lock.1) rfl;have d1:=zB hx.1 7 (.int .i64 p1.lock.2.1) rfl;have d2:=zB hx.1 8 (.int .i64 p1.lock.2.2.1) rfl;have d3:=zB hx.1 9 (.int .i64 p1.lock.2.2.2) rfl;go_simp;try with_reducible rfl)
   refine zD 5 41 (.agg #[.int .i64 2,.int .i64 q1,.int .i64 q2,.int .i64 q3]) hS ?_ (hy:=fun x hx=>zM _ _ rfl Nq rfl _ _ _ _ hx.2.2 Tryz.underlying26 rfl (by kernel_rfl))
   refine kJ 6 42 159 #[.agg #[.int .i64 p1.lock.1,.int .i64 p1.lock.2.1,.int .i64 p1.lock.2.2.1,.int .i64 p1.lock.2.2.2],.agg #[.int .i64 2,.int .i64 q1,.int .i64 q2,.int .i64 q3]] ((yAF p1.lock (2,q1,q2,q3) y3.drew).mono ?_)
   rintro e x4 ⟨rfl,hb0⟩
   have hb:Below y3.heap.size y3 x4:=((br _ _).drew).trans hb0
   have HX4:Hid (PtA w x4 N Nq lo p1 s1 ((k,fr,tw,vw,blk),(2,q1,q2,q3),vt) (2,q1,q2,q3)):=HY3.out.more hb
   have hS1:Bx x4 N (zA p1 s1) 35∧Bx x4 w.heap.size (zQ ((k,fr,tw,vw,blk),(2,q1,q2,q3),vt)) 61∧Bx x4 Nq #[.int .i64 2,.int .i64 q1,.int .i64 q2,.int .i64 q3] 26:=⟨HX4.out.ptr,HX4.out.box,HX4.out.qc⟩
   clear hb hb0 hS HY3
   refine ⟨_,rfl,fun _=>hS1,?_⟩
   simp only [pz]
   refine zD 7 43 (.pointer (some ⟨N,0,none⟩)) hS1 ?_
   refine zD 8 44 (.pointer (some ⟨N,6,none⟩)) hS1 ?_
   refine xW (s:=9) (N:=N) (o:=6) (cells:=#[.int .i64 (yF p1.lock (2,q1,q2,q3)).1,.int .i64 (yF p1.lock (2,q1,q2,q3)).2.1,.int .i64 (yF p1.lock (2,q1,q2,q3)).2.2.1,.int .i64 (yF p1.lock (2,q1,q2,q3)).2.2.2]) (old:=zA p1 s1) (new:=zA p2 s1) rfl rfl rfl rfl (by kernel_rfl) rfl rfl hS1.1 (by kernel_rfl) (by simp [zA]) (by simp [Value.oneCell']) (by rw [hp2];rfl) ?_
   intro y5 hg hk
   have HY5:Hid (PtA w y5 N Nq lo p2 s1 ((k,fr,tw,vw,blk),(2,q1,q2,q3),vt) (2,q1,q2,q3)):=HX4.out.put hNl hQN hg hk (by rw [hp2];exact ((HX4.out.own.boxed hS1.1 hg).wide hg.size (nl _)).other rfl rfl rfl rfl rfl rfl)
   have HS2:Hid (yC p2):=hid (by rw [hp2];exact ⟨HS1.out.1.row,HS1.out.1.cells,HS1.out.1.early,HS1.out.1.undos,HS1.out.1.votes,HS1.out.1.news,HS1.out.1.kcells,HS1.out.1.kundos⟩)
   clear hg hk hS1 HX4 hp2
   refine ⟨fun h=>absurd h (by decide),?_⟩
   refine zK (by kernel_rfl) ?_ _
   go_wp2
   refine zT (fun _=>true) (fun x=>Bx x N (zA p2 s1) 35∧Bx x w.heap.size (zQ ((k,fr,tw,vw,blk),(2,q1,q2,q3),vt)) 61∧Bx x Nq #[.int .i64 2,.int .i64 q1,.int .i64 q2,.int .i64 q3] 26) (by kernel_rfl) ?_
   show zX Tryz.prog _ _ _ _ _ (9+1) (Array.replicate 10 false) _ _
   have hS:Bx y5.drew N (zA p2 s1) 35∧Bx y5.drew w.heap.size (zQ ((k,fr,tw,vw,blk),(2,q1,q2,q3),vt)) 61∧Bx y5.drew Nq #[.int .i64 2,.int .i64 q1,.int .i64 q2,.int .i64 q3] 26:=⟨HY5.out.ptr,HY5.out.box,HY5.out.qc⟩
   refine zD 0 76 (.pointer (some ⟨N,0,none⟩)) hS ?_
   refine zD 1 77 (.pointer (some ⟨N,0,none⟩)) hS ?_
   refine zD 2 78 (.agg (zA p2 s1)) hS ?_ (hy:=fun x hx=>zM _ _ rfl N rfl _ _ _ _ hx.1 Tryz.underlying35 rfl (by kernel_rfl))
   refine zD 3 79 (.pointer (some ⟨Nq,0,none⟩)) hS ?_
   refine zD 4 80 (.int .i64 2) hS ?_ (hy:=by intro x hx;have c:=zB hx.2.2 0 (.int .i64 2) rfl;go_simp;try with_reducible rfl)
   refine zD 5 81 (.int .i64 3) hS ?_ (hy:=by intro x hx;go_simp;rfl;try with_reducible rfl)
   refine zD 6 82 (.pointer (some ⟨w.heap.size,3,none⟩)) hS ?_
   refine zD 7 83 (.int .i64 vw) hS ?_ (hy:=by intro x hx;have c:=zB hx.2.1 3 (.int .i64 vw) rfl;go_simp;try with_reducible rfl)
   obtain ⟨mb,hmb⟩:∃ mb,mb=zEG p2 3 vw:=⟨_,rfl⟩
   refine kJ 8 84 13 #[.agg (zA p2 s1),.int .i64 3,.int .i64 vw] ((yFB p2 s1 3 vw y5.drew).mono ?_)
   rw [← hmb]
   rintro e x6 ⟨rfl,hb0⟩
   have hb:Below y5.heap.size y5 x6:=((br _ _).drew).trans hb0
   have HX6:Hid (PtA w x6 N Nq lo p2 s1 ((k,fr,tw,vw,blk),(2,q1,q2,q3),vt) (2,q1,q2,q3)):=HY5.out.more hb
   have hS1:Bx x6 N (zA p2 s1) 35∧Bx x6 w.heap.size (zQ ((k,fr,tw,vw,blk),(2,q1,q2,q3),vt)) 61∧Bx x6 Nq #[.int .i64 2,.int .i64 q1,.int .i64 q2,.int .i64 q3] 26:=⟨HX6.out.ptr,HX6.out.box,HX6.out.qc⟩
   clear hb hb0 hS HY5
   refine ⟨_,rfl,fun _=>hS1,?_⟩
   simp only [pz]
   refine zD 9 85 (.bool (!mb)) hS1 ?_
   refine zK (by kernel_rfl) ?_ _
   clear hS1
   cases mb with
   | false=>
    have HE:Hid (R=(p2,[])):=(by rw [HR2.out];unfold zIG;rw [← hmb];rfl:R=_)
    clear hmb
    go_wp2
    go_ret
    rw [HE.out]
    have hb7:Below x6.heap.size x6 (x6.alloc (.cells #[] 61)):=(br _ _).alloc (nl _) _
    exact ⟨_,rfl,(HX6.out.more hb7).grown,⟨s1,(HX6.out.more hb7).ptr,(HX6.out.more hb7).own⟩,zN (yH x6 61 13) HX6.out.grown.size⟩
   | true=>
    have HE:Hid (R=(yP p2 3 vw q2,[zEJ p2 3 vw q2 fr])):=(by rw [HR2.out];unfold zIG;rw [← hmb];rfl:R=_)
    clear hmb
    have g0:=zB HX6.out.qc 0 (.int .i64 2) rfl
    have g2:=zB HX6.out.qc 2 (.int .i64 q2) rfl
    have g3:=zB HX6.out.box 3 (.int .i64 vw) rfl
    have g1:=zB HX6.out.box 1 (.int .i64 fr) rfl
    go_wp2_with fail
    refine (give_s p2 s1 N lo x6.heap.size 3 vw q2 fr x6 HX6.out.own HX6.out.ptr (Nat.le_trans hlo HX6.out.grown.size) HS2.out).mono ?_
    rintro e x7 ⟨v7,rfl,hg7,⟨s7,hk7,ho7⟩,hl7⟩
    have HX7:Hid (w.grownBy x7 (some N)∧Bx x7 N (zA (yP p2 3 vw q2) s7) 35∧zO lo x7.heap.size x7 (yP p2 3 vw q2) s7∧x7.ownsRow w.heap.size 61 13 v7 1 (yE (zEJ p2 3 vw q2 fr))):=⟨zP HX6.out.grown hg7,hk7,ho7,zN hl7 HX6.out.grown.size⟩
    clear hg7 hk7 ho7 hl7 HX6 g0 g1 g2 g3
    go_wp2
    go_ret
    rw [HE.out]
    exact ⟨_,rfl,HX7.out.1,⟨s7,HX7.out.2.1,HX7.out.2.2.1⟩,by simpa [zE] using HX7.out.2.2.2⟩
  ·have b2:(q0 == 2)=false:=by simpa using h2
   by_cases h3:q0=3
   ·subst h3
    clear b1 b2
    obtain ⟨p2,hp2⟩:∃ p2:PE,p2=kO (bks ps) p1 q2:=⟨_,rfl⟩
    obtain ⟨p3,hp3⟩:∃ p3:PE,p3=yI p2 (vw+1):=⟨_,rfl⟩
    have HR2:Hid (R=(p3,[kX p3 4 (xQ p3.view n) p3.high (0,0,0,0)])):=(by rw [HR.out,hp3,hp2];rfl:R=_)
    have HS2:Hid (yC p2):=hid (by rw [hp2];exact through_small HS1.out.1 HK.out HS1.out.2)
    have HS3:Hid (-9223372036854775808≤p3.view∧p3.view≤9223372036854775807):=hid (by rw [hp3];exact (fun e:p2.view=p1.view=>enter_view (by rw [e];exact HPV.out.1) (by rw [e];exact HPV.out.2) (by omega) (by omega)) (by rw [hp2];exact through_view _ _ _))
    have hadd:IntKind.i64.wrap (vw+1)=vw+1:=(by rw [IntKind.wrap_i64];omega)
    go_wp2
    clear c0
    refine zT (fun i=>decide (i < 13)) (fun x=>Bx x N (zA p1 s1) 35∧Bx x w.heap.size (zQ ((k,fr,tw,vw,blk),(3,q1,q2,q3),vt)) 61∧Bx x Nq #[.int .i64 3,.int .i64 q1,.int .i64 q2,.int .i64 q3] 26) (by kernel_rfl) ?_
    show zX Tryz.prog _ _ _ _ _ (13+1) (Array.replicate 14 false) _ _
    have hS:Bx y3.drew N (zA p1 s1) 35∧Bx y3.drew w.heap.size (zQ ((k,fr,tw,vw,blk),(3,q1,q2,q3),vt)) 61∧Bx y3.drew Nq #[.int .i64 3,.int .i64 q1,.int .i64 q2,.int .i64 q3] 26:=⟨HY3.out.ptr,HY3.out.box,HY3.out.qc⟩
    refine zD 0 47 (.pointer (some ⟨N,0,none⟩)) hS ?_
    refine zD 1 48 va hS ?_
    refine zD 2 49 (.pointer (some ⟨N,0,none⟩)) hS ?_
    refine zD 3 50 (.pointer (some ⟨N,0,none⟩)) hS ?_
    refine zD 4 51 (.agg (zA p1 s1)) hS ?_ (hy:=fun x hx=>zM _ _ rfl N rfl _ _ _ _ hx.1 Tryz.underlying35 rfl (by kernel_rfl))
    refine zD 5 52 (.pointer (some ⟨Nq,2,none⟩)) hS ?_
    refine zD 6 53 (.int .i64 q2) hS ?_ (hy:=by intro x hx;have c:=zB hx.2.2 2 (.int .i64 q2) rfl;go_simp;try with_reducible rfl)
    refine zD 8 55 (.pointer (some ⟨w.heap.size,3,none⟩)) hS ?_
    refine zD 9 56 (.int .i64 vw) hS ?_ (hy:=by intro x hx;have c:=zB hx.2.1 3 (.int .i64 vw) rfl;go_simp;try with_reducible rfl)
    refine zD 10 57 (.int .i64 (vw+1)) hS ?_
    refine kJ 7 54 31 #[va,.agg (zA p1 s1),.int .i64 q2] ((through_s ps va p1 s1 q2 y3.drew (HFA.out y3.drew (zP HY3.out.grown (yG (br _ _).drew))) HK.out (HY3.out.own.reads.below (br _ _).drew) HS1.out.1).mono ?_)
    rw [← hp2]
    rintro e x4 ⟨s2,rfl,ho,hb0⟩
    have hb:Below y3.heap.size y3 x4:=((br _ _).drew).trans hb0
    have HX4:Hid (PtA w x4 N Nq lo p1 s1 ((k,fr,tw,vw,blk),(3,q1,q2,q3),vt) (3,q1,q2,q3)):=HY3.out.more hb
    have HO4:Hid (zO w.heap.size x4.heap.size x4 p2 s2):=ho.low HY3.out.grown.size
    have hS1:Bx x4 N (zA p1 s1) 35∧Bx x4 w.heap.size (zQ ((k,fr,tw,vw,blk),(3,q1,q2,q3),vt)) 61∧Bx x4 Nq #[.int .i64 3,.int .i64 q1,.int .i64 q2,.int .i64 q3] 26:=⟨HX4.out.ptr,HX4.out.box,HX4.out.qc⟩
    clear ho hb hb0 hS HY3
    refine ⟨_,rfl,fun _=>hS1,?_⟩
    simp only [pz]
    refine kJ 11 58 30 #[.agg (zA p2 s2),.int .i64 (vw+1)] ((zCB p2 s2 (vw+1) x4 HO4.out.reads HS2.out).mono ?_)
    rw [← hp3]
    rintro e x5 ⟨s3,rfl,ho,hb⟩
    have HX5:Hid (PtA w x5 N Nq lo p1 s1 ((k,fr,tw,vw,blk),(3,q1,q2,q3),vt) (3,q1,q2,q3)):=HX4.out.more hb
    have HO5:Hid (zO lo x5.heap.size x5 p3 s3):=ho.low (Nat.le_trans hlo HX4.out.grown.size)
    have hS2:Bx x5 N (zA p1 s1) 35∧Bx x5 w.heap.size (zQ ((k,fr,tw,vw,blk),(3,q1,q2,q3),vt)) 61∧Bx x5 Nq #[.int .i64 3,.int .i64 q1,.int .i64 q2,.int .i64 q3] 26:=⟨HX5.out.ptr,HX5.out.box,HX5.out.qc⟩
    clear ho hb hS1 HX4 HO4 hp2 hp3
    refine ⟨_,rfl,fun _=>hS2,?_⟩
    simp only [pz]
    refine zD 12 59 (.pointer (some ⟨N,0,none⟩)) hS2 ?_
    refine xW (s:=13) (N:=N) (o:=0) (cells:=zA p3 s3) (old:=zA p1 s1) (new:=zA p3 s3) rfl rfl rfl rfl (by kernel_rfl) rfl rfl hS2.1 (by kernel_rfl) (by simp [zA]) (zJ HO5.out.1) rfl ?_
    intro y6 hg hk
    have HY6:Hid (PtA w y6 N Nq lo p3 s3 ((k,fr,tw,vw,blk),(3,q1,q2,q3),vt) (3,q1,q2,q3)):=HX5.out.put hNl hQN hg hk ((HO5.out.boxed hS2.1 hg).wide hg.size (nl _))
    clear hg hk hS2 HX5 HO5
    refine ⟨fun h=>absurd h (by decide),?_⟩
    refine zK (by kernel_rfl) ?_ _
    go_wp2
    refine zT (fun _=>true) (fun x=>Bx x N (zA p3 s3) 35) (by kernel_rfl) ?_
    show zX Tryz.prog _ _ _ _ _ (16+1) (Array.replicate 17 false) _ _
    have hS:Bx y6.drew N (zA p3 s3) 35:=HY6.out.ptr
    refine zD 0 60 (.pointer (some ⟨N,0,none⟩)) hS ?_
    refine zD 1 61 (.pointer (some ⟨N,0,none⟩)) hS ?_
    refine zD 2 62 (.agg (zA p3 s3)) hS ?_ (hy:=fun x hx=>zM _ _ rfl N rfl _ _ _ _ hx Tryz.underlying35 rfl (by kernel_rfl))
    refine zD 3 63 (.pointer (some ⟨N,0,none⟩)) hS ?_
    refine zD 4 64 (.pointer (some ⟨N,0,none⟩)) hS ?_
    refine zD 5 65 (.pointer (some ⟨N,1,none⟩)) hS ?_
    refine zD 6 66 (.int .i64 p3.view) hS ?_ (hy:=by intro x hx;have c:=zB hx 1 (.int .i64 p3.view) rfl;go_simp;try with_reducible rfl)
    refine zD 7 67 (.int .i64 n) hS ?_
    refine zD 9 69 (.pointer (some ⟨N,0,none⟩)) hS ?_
    refine zD 10 70 (.pointer (some ⟨N,0,none⟩)) hS ?_
    refine zD 11 71 (.pointer (some ⟨N,2,none⟩)) hS ?_
    refine zD 12 72 (.agg #[.int .i64 p3.high.1,.int .i64 p3.high.2.1,.int .i64 p3.high.2.2.1,.int .i64 p3.high.2.2.2]) hS ?_ (hy:=by intro x hx;have d0:=zB hx 2 (.int .i64 p3.high.1) rfl;have d1:=zB hx 3 (.int .i64 p3.high.2.1) rfl;have d2:=zB hx 4 (.int .i64 p3.high.2.2.1) rfl;have d3:=zB hx 5 (.int .i64 p3.high.2.2.2) rfl;go_simp;try with_reducible rfl)
    refine zD 13 73 (.agg #[.int .i64 0,.int .i64 0,.int .i64 0,.int .i64 0]) hS ?_
    refine kJ 8 68 121 #[.int .i64 p3.view,.int .i64 n] ((leader_s p3.view n y6.drew (by omega) (by omega) HS3.out.1 HS3.out.2).mono ?_)
    obtain ⟨ld,hld⟩:∃ ld,ld=xQ p3.view n:=⟨_,rfl⟩
    rw [← hld] at HR2 ⊢
    clear hld
    rintro e x7 ⟨rfl,hw⟩
    obtain rfl:=hw.symm
    clear hw
    refine ⟨_,rfl,fun _=>hS,?_⟩
    simp only [pz]
    refine kJ 14 74 40 #[.agg (zA p3 s3),.int .i64 4,.int .i64 ld,.agg #[.int .i64 p3.high.1,.int .i64 p3.high.2.1,.int .i64 p3.high.2.2.1,.int .i64 p3.high.2.2.2],.agg #[.int .i64 0,.int .i64 0,.int .i64 0,.int .i64 0]] ((answered_s p3 s3 4 ld p3.high (0,0,0,0) y6.drew).mono ?_)
    obtain ⟨LL,hLL⟩:∃ LL,LL=kX p3 4 ld p3.high (0,0,0,0):=⟨_,rfl⟩
    rw [← hLL] at HR2 ⊢
    clear hLL
    rintro e x8 ⟨rfl,hb0⟩
    have hb:Below y6.heap.size y6 x8:=((br _ _).drew).trans hb0
    have HX8:Hid (PtA w x8 N Nq lo p3 s3 ((k,fr,tw,vw,blk),(3,q1,q2,q3),vt) (3,q1,q2,q3)):=HY6.out.more hb
    clear hb hb0 hS HY6
    refine ⟨_,rfl,fun _=>HX8.out.ptr,?_⟩
    simp only [pz]
    obtain ⟨y9,hy9⟩:∃ y9,y9=x8.alloc (.cells (zQ LL) 61):=⟨_,rfl⟩
    have hb9:Below x8.heap.size x8 y9:=by rw [hy9];exact (br _ _).alloc (nl _) _
    have HY9:Hid (PtA w y9 N Nq lo p3 s3 ((k,fr,tw,vw,blk),(3,q1,q2,q3),vt) (3,q1,q2,q3)):=HX8.out.more hb9
    have HL9:Hid (y9.ownsRow w.heap.size 61 13 (.slice (some ⟨x8.heap.size,0,none⟩) 1 1) 1 (yE LL)):=hid (by rw [hy9];exact yCH HX8.out.grown.size)
    refine p_run (s:=15) (e':=some 75) rfl rfl rfl (by kernel_rfl) (.slice (some ⟨x8.heap.size,0,none⟩) 1 1) y9 ?_ ⟨fun _=>HY9.out.ptr,?_⟩
    ·rw [hy9]
     unfold letV zQ
     go_simp
     try with_reducible rfl
    clear hy9 hb9 HX8
    simp only [pz]
    refine zD 16 8 (.slice (some ⟨x8.heap.size,0,none⟩) 1 1) HY9.out.ptr ?_
    refine zK (by kernel_rfl) ?_ _
    go_wp2
    go_ret
    rw [HR2.out]
    exact ⟨_,rfl,HY9.out.grown,⟨s3,HY9.out.ptr,HY9.out.own⟩,by simpa [zE] using HL9.out⟩
   ·have b3:(q0 == 3)=false:=by simpa using h3
    have HE:Hid (R=(p1,[])):=(by rw [HR.out,if_neg h1,if_neg h2,if_neg h3]:R=_)
    clear h1 h2 h3
    go_wp2
    go_ret
    rw [HE.out]
    have hb7:Below y3.heap.size y3 (y3.alloc (.cells #[] 61)):=(br _ _).alloc (nl _) _
    exact ⟨_,rfl,(HY3.out.more hb7).grown,⟨s1,(HY3.out.more hb7).ptr,(HY3.out.more hb7).own⟩,zN (yH y3 61 13) HY3.out.grown.size⟩
end Go.Proofs.YtjdddcldbfhbiacGreatR
