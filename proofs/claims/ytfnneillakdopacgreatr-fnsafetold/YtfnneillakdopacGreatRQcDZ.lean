/-
  A text of ours: QcD.
-/
import Derived.Test.YtfnneillakdopacGreatRK1
import Derived.Test.YtfnneillakdopacGreatRK10
set_option maxRecDepth 100000
set_option maxHeartbeats 32000000
namespace Go.Proofs.YtfnneillakdopacGreatR
open _root_.Go.Proofs.Tryz
open Go.Value renaming int->I
open Go.IntKind renaming i64->U
open Option renaming none->Aa,some->Ab
open Go.RowKit Num
variable {B b cap len off:Nat} {ao:Option Addr}
theorem wfQ_of {a b c d:Int} (h0:-9223372036854775808<=a/\a<=9223372036854775807) (h1:-9223372036854775808<=b/\b<=9223372036854775807) (h2:-9223372036854775808<=c/\c<=9223372036854775807) (h3:-9223372036854775808<=d/\d<=9223372036854775807):wfQ (a,b,c,d):=⟨zIH h0.1 h0.2,zIH h1.1 h1.2,zIH h2.1 h2.2,zIH h3.1 h3.2⟩
def Dr (W:World) (B:Nat) (ao:Option Addr) (len cap b off:Nat) (x:World):Prop:=St x B ao len cap b off/\W.grownBy x (Option.some B)
theorem Dr.up {W:World} :Up (Dr W B ao len cap b off):=fun _ _ h hb=>⟨h.1.below hb,xC h.2 (kV hb)⟩
def DrL (W:World) (B:Nat) (ao:Option Addr) (len cap b off:Nat) (xs:List Int) (g:Nat) (x:World):Prop:=Dr W B ao len cap b off x/\W.heap.size<=g/\Bx x g (intsA xs) 3
theorem DrL.up {W:World} {xs:List Int} {g:Nat}:Up (DrL W B ao len cap b off xs g):=fun _ _ h hb=>⟨Dr.up _ _ h.1 hb,h.2.1,bk hb h.2.2⟩
theorem qc7n_st {w:World} {base:Nat} {v:Value} {qs:TL} {n:Nat} (h:St w B ao len cap b off) (ho:OwnU w base v qs) (hB:B < base) (hbt:BT (bks qs) n) (hn:n<=1000) :
  Calls prog 64 #[.pointer (Option.some ⟨B,0,Aa⟩),v] w fun e w'=>∃ q:QC,e=.returned (zBF q)/\(wfQ q/\0<=q.2.1)/\St w' B ao len cap b off/\w.grownBy w' (Option.some B):=by
 have H:=hid h;have b5:=h.cur.lt;have aa:Hid (0 < len->b < w.heap.size):=h.code.lt;have HO:=hid ho;have bg:=hid hbt;have b1:=hbt.2.1;clear h ho hbt;obtain ⟨W0,al⟩:=nw (w.alloc (.cells #[I U 0,I U 0,I U 0,I U 0] 26));have ax:Hid (Be w W0):=hid (by rw [al];exact (br _ _).alloc (nl _) _);have a9:Hid (Bx W0 w.heap.size #[I U 0,I U 0,I U 0,I U 0] 26):=(by rw [al];exact heap_alloc_new w _:W0.heap[w.heap.size]?=_);go_enter func64,ntmps64;go_wp2_with fail
 rw [<- al];clear al;refine (xO 10 (by omega) (by omega) (H.below ax)).mono ?_;rintro e w1 ⟨kk,rfl,bu,bv,hS,hg⟩;have be:=hid hS;have bf:Hid (Bx w1 w.heap.size #[I U 0,I U 0,I U 0,I U 0] 26):=gk hg a9 (qsn (by omega));have bb:Hid (w.grownBy w1 (Option.some B)):=xC (kV ax) hg;clear hS hg a9 ax;go_wp2_with fail
 refine (xO 60 (by omega) (by omega) be).mono ?_;rintro e w2 ⟨x,rfl,b4,b0,hS,hg⟩;have bk:=hid hS;have bi:Hid (Bx w2 w.heap.size #[I U 0,I U 0,I U 0,I U 0] 26):=gk hg bf (qsn (by omega));have a4:Hid (w.grownBy w2 (Option.some B)):=xC bb hg;clear hS hg be bf bb;go_wp2_with fail
 refine (vote7_st bk (HO.st a4 hB) hB bg hn).mono ?_;rintro e w3 ⟨⟨t0,t1,t2,t3⟩,rfl,bn,hS,hg⟩;unfold voteV;simp only;obtain ⟨d0,d1,d2,d3⟩:=bn;simp only at d0 d1 d2 d3;have HD:Hid ((1<=t0/\t0<=4)/\(0<=t1/\t1<=1000)/\(0<=t2/\t2 < 1000)/\(0<=t3/\t3<=7)):=⟨d0,d1,⟨d2.1,by omega⟩,d3⟩;have bc:=hid hS;have a5:Hid (Bx w3 w.heap.size #[I U 0,I U 0,I U 0,I U 0] 26):=gk hg bi (qsn (by omega));have bh:Hid (w.grownBy w3 (Option.some B)):=xC a4 hg;clear hS hg bk bi a4 d0 d1 d2 d3;obtain ⟨W4,an⟩:=nw (w3.alloc (.cells #[I U t0,I U t1,I U t2,I U t3] 28));have ap:Hid (Be w3 W4):=hid (by rw [an];exact (br _ _).alloc (nl _) _);have aw:Hid (Bx W4 w3.heap.size #[I U t0,I U t1,I U t2,I U t3] 28):=(by rw [an];exact heap_alloc_new w3 _:W4.heap[w3.heap.size]?=_);have lE:w.heap.size < w3.heap.size:=(gl a5);have bq:Hid (Bx W4 w.heap.size #[I U 0,I U 0,I U 0,I U 0] 26):=(ap.block _ lE).trans a5;have bm:Hid (St W4 B ao len cap b off):=bc.below ap;have am:Hid (w.grownBy W4 (Option.some B)):=xC bh (kV ap);have lV:w3.heap.size < W4.heap.size:=(gl aw);have bp:B < W4.heap.size:=by omega
 obtain ⟨Y,hY⟩:=nw w3.heap.size;rw [<- hY] at aw lE lV;have ay:Hid (∀ x,Dr W4 B ao len cap b off x->x.cell? ⟨Y,0,Aa⟩=Ab (I U t0)/\x.cell? ⟨Y,1,Aa⟩=Ab (I U t1)/\x.cell? ⟨Y,2,Aa⟩=Ab (I U t2)/\x.cell? ⟨Y,3,Aa⟩=Ab (I U t3)):=fun x hx=>zZ ((hx.2.block Y lV (qsn (by omega))).trans aw)
 clear bc a5 bh ap bg HO;go_wp2;rw [<- an,<- hY];clear an hY;refine xA (Dr W4 B ao len cap b off) (by kernel_rfl) ?_;show wpAnyH prog _ _ _ _ (11+1) (Array.replicate 12 false) _ _;refine fl_in (i:=10) (d:=some 8) (obj:=.cells #[I U 0,I U 0,I U 0,I U 0] 26 (0,0)) (base:=W4.heap.size) (T:=Dr W4 B ao len cap b off) (f:=11) ?_ ⟨bm.below (br _ _).drew,kV (br _ _).drew⟩;refine f_tk 0 16 (.pointer (Ab ⟨Y,0,Aa⟩)) ?_ ?_
 ·intro x hx;go_simp
  try rfl
 simp only [pz];refine f_tk 1 17 (I U t0) ?_ ?_
 ·intro x hx;obtain ⟨c0,c1,c2,c3⟩:=ay x hx;go_simp
  try rfl
 simp only [pz];refine f_tk 2 18 (.pointer (Ab ⟨Y,1,Aa⟩)) ?_ ?_
 ·intro x hx;go_simp
  try rfl
 simp only [pz];refine f_tk 3 19 (I U t1) ?_ ?_
 ·intro x hx;obtain ⟨c0,c1,c2,c3⟩:=ay x hx;go_simp
  try rfl
 simp only [pz];refine f_tk 4 20 (.pointer (Ab ⟨Y,2,Aa⟩)) ?_ ?_
 ·intro x hx;go_simp
  try rfl
 simp only [pz];refine f_tk 5 21 (I U t2) ?_ ?_
 ·intro x hx;obtain ⟨c0,c1,c2,c3⟩:=ay x hx;go_simp
  try rfl
 simp only [pz];refine f_tk 6 22 (.pointer (Ab ⟨B,0,Aa⟩)) ?_ ?_
 ·intro x hx;go_simp
  try rfl
 simp only [pz];refine fl_make (c:=7) (e':=some 23) (T':=fun v' y=>∃ g,v'=.slice (Ab ⟨g,0,Aa⟩) 4 4/\DrL W4 B ao len cap b off [7,15,11,14] g y) rfl rfl ⟨rfl,fun ρ x=>?_⟩ (fun _ h=>h.2.size) Dr.up (fun _ h=>h) rfl rfl (by kernel_rfl) (Or.inl (by kernel_rfl)) (by kernel_rfl) (by decide) (by kernel_rfl) (by rfl) (fun x hx=>⟨.slice (Ab ⟨x.heap.size,0,Aa⟩) 4 4,x.alloc (.cells (intsA [7,15,11,14]) 3),?_,KpF.below ((br _ _).alloc (nl _) _),x.heap.size,rfl,Dr.up _ _ hx ((br _ _).alloc (nl _) _),hx.2.size,heap_alloc_new x _⟩) (fun _ _ ⟨_,_,h⟩=>h.1) (fun v'=>fl_ex fun g=>fl_and fun av=>?_)
 ·unfold flP;go_simp
  try rfl
 ·unfold intsA;go_simp
  try rfl
 subst av;simp only [pz];refine fl_call (c:=8) (e':=some 24) (fn:=65) (args:=#[.pointer (Ab ⟨B,0,Aa⟩),.slice (Ab ⟨g,0,Aa⟩) 4 4]) (T':=fun v' y=>∃ z,v'=I U z/\z∈[7,15,11,14]/\Dr W4 B ao len cap b off y) rfl rfl ⟨rfl,fun ρ x=>?_⟩ (fun _ h=>h.1.2.size) DrL.up (fun _ h=>h.1) rfl rfl (by kernel_rfl) (Or.inl (by kernel_rfl)) (by kernel_rfl) (by decide) (by kernel_rfl) (by rfl) (fun x=>?_) (fun x hx=>(pickL_st [7,15,11,14] (by simp) (by simp) hx.1.1 (by have:=hx.2.1;omega) hx.2.2).mono fun _ y ⟨z,hz,he,hS,hg⟩=>⟨_,he,KpF.grown hg bp,z,rfl,hz,hS,xC hx.1.2 hg⟩) (fun _ _ ⟨_,_,_,h⟩=>h) (fun v'=>fl_ex fun z=>fl_and fun av=>fl_and fun hz=>?_)
 ·unfold flP;go_simp
  try rfl
 ·go_simp
  try rfl
 subst av;simp only [pz];refine f_tk 9 25 (.agg #[I U t0,I U t1,I U t2,I U z]) ?_ ?_
 ·intro x hx;go_simp
  try rfl
 simp only [pz];refine fl_end (s:=11) (cells:=#[I U t0,I U t1,I U t2,I U z]) (f:=0) rfl rfl ⟨rfl,fun ρ x=>?_⟩ (fun _ h=>h.2.size) Dr.up (fun _ h=>h) rfl rfl rfl rfl (by kernel_rfl) (by kernel_rfl) (by kernel_rfl) (fun N=>rfl) (fun N=>rfl) rfl (by kernel_rfl) rfl (zEE _ _ _ _) ?_
 ·unfold flP;go_simp
  try rfl
 intro X x5 W5 hT hN hg hk aq;have ag:Hid (St W5 B ao len cap b off):=hT.1.other hg (by omega) (fun hl e=>by have:=aa hl;have:=am.size;omega);have ak:Hid (w.grownBy W5 (Option.some B)):=yT (xC am hT.2) (by have:=am.size;omega) hg;have bx:=am.size;have aj:Hid (Bx W5 w.heap.size #[I U 0,I U 0,I U 0,I U 0] 26):=(hg.block _ (by have:=hT.2.size;omega) (qsn (by omega))).trans ((hT.2.block _ (by omega) (qsn (by omega))).trans bq);have ae:=hid hk;have HZ:Hid (7<=z/\z<=15):=hid (by simp at hz;omega);have bj:Dr W4 B ao len cap b off W5:=⟨ag,yT hT.2 hN hg⟩;clear hT hg hk hz;refine ⟨bj,?_⟩;clear bj;simp only [pz];unfold flP;have lX:w.heap.size < X:=by omega
 by_cases h0:kk=0
 ·have e0:(kk == 0)=true:=by simpa using h0
  clear h0;obtain ⟨wd,a⟩:=nw W5;obtain ⟨k0,k1,k2,k3⟩:=zZ ae;have ab:Hid (St wd B ao len cap b off):=hid (by rw [a];exact ag.out);have t:Hid (w.grownBy wd (Option.some B)):=hid (by rw [a];exact ak.out);have r:Hid (Bx W5 w.heap.size #[I U 0,I U 0,I U 0,I U 0] 26):=aj;obtain ⟨⟨p0,p1⟩,⟨p2,p3⟩,⟨p4,p5⟩,p6,p7⟩:=HD.out;obtain ⟨p8,p9⟩:=HZ.out;go_wp2_with (refine w_st w.heap.size #[I U 0,I U 0,I U 0,I U 0] r (zEE _ _ _ _) ?_;intro wg m l ad;clear ad;have k:Hid (wd.grownBy wg (Option.some w.heap.size)):=hid (by rw [a];exact m);obtain ⟨m0,m1,m2,m3⟩:=zZ l;clear m l)
  refine bodyPost_ret (v:=.agg #[I U 0,I U 0,I U 0,I U 0]) (by simp [results,results64,go_sem,m0,m1,m2,m3]) rfl ?_;exact ⟨(0,0,0,0),rfl,⟨wfQ_of (by omega) (by omega) (by omega) (by omega),by simp only;omega⟩,ab.other k (by omega) (fun hl e=>by have:=aa hl;omega),yT t (nl _) k⟩
 have e0:(kk == 0)=false:=by simpa using h0
 clear h0
 by_cases h1:kk=1
 ·have e1:(kk == 1)=true:=by simpa using h1
  clear h1;obtain ⟨j,hj⟩:=Int.eq_ofNat_of_zero_le (show 0<=x % 5 by omega);have bz:j < 5:=by omega
  obtain ⟨y,hy⟩:=nw (([3,-1,127,128,0]:List Int).getD j 0);have bo:Hid (-1<=y/\y<=128):=hid (by rw [hy];rcases (by omega:j=0∨j=1∨j=2∨j=3∨j=4) with rfl | rfl | rfl | rfl | rfl <;> decide)
  have cj:(W5.alloc (.cells #[I U 3,I U (-1),I U 127,I U 128,I U 0] 3)).cell? ⟨W5.heap.size,j,Aa⟩=Ab (I U y):=by
   rw [cell_of_row _ W5.heap.size j _ _ (0,0) (heap_alloc_new W5 _),hy]
   rcases (by omega:j=0∨j=1∨j=2∨j=3∨j=4) with rfl | rfl | rfl | rfl | rfl <;> rfl
  have b3:x % 5=(j:Int):=hj;have bw:(0:Int)<=(j:Int):=by omega
  have b2:(j:Int) < 5:=by omega
  obtain ⟨y0,y1⟩:=bo.out;clear hy hj;obtain ⟨wd,a⟩:=nw ((W5.setCell ⟨X,3,Aa⟩ (I U y)).alloc (.cells #[I U 3,I U (-1),I U 127,I U 128,I U 0] 3));have a6:Be W5 (W5.alloc (.cells #[I U 3,I U (-1),I U 127,I U 128,I U 0] 3)):=(br _ _).alloc (nl _) _;obtain ⟨a0,a1,a2,a3⟩:=zZ ((a6.block _ aq).trans ae);have f0:(W5.alloc (.cells #[I U 3,I U (-1),I U 127,I U 128,I U 0] 3)).frozen? ⟨X,3,Aa⟩=false:=frozen_of_row _ X 3 _ _ ((a6.block _ aq).trans ae);have ar:W5.grownBy (W5.setCell ⟨X,3,Aa⟩ (I U y)) (Option.some X):=yK _ X 3 _;have a7:(W5.setCell ⟨X,3,Aa⟩ (I U y)).heap[X]?=Ab (.cells #[I U t0,I U t1,I U t2,I U y] 26 (0,0)):=heap_setCell_same W5 X 3 _ _ _ ae;have ai:Below (W5.setCell ⟨X,3,Aa⟩ (I U y)).heap.size (W5.setCell ⟨X,3,Aa⟩ (I U y)) wd:=by rw [a];exact (br _ _).alloc (nl _) _
  have bd:=(gl a7);obtain ⟨k0,k1,k2,k3⟩:=zZ ((ai.block _ bd).trans a7);have ab:Hid (St wd B ao len cap b off):=(ag.other ar (by omega) (fun hl e=>by have:=aa hl;omega)).below ai;have t:Hid (w.grownBy wd (Option.some B)):=xC (yT ak (by omega) ar) (kV ai);have p:Bx wd w.heap.size #[I U 0,I U 0,I U 0,I U 0] 26:=(ai.block _ (by omega)).trans ((ar.block _ (by omega) (qsn (by omega))).trans aj);have r:Hid (((W5.setCell ⟨X,3,Aa⟩ (I U y)).alloc (.cells #[I U 3,I U (-1),I U 127,I U 128,I U 0] 3)).heap[w.heap.size]?=Ab (.cells #[I U 0,I U 0,I U 0,I U 0] 26 (0,0))):=(by rw [<- a];exact p:((W5.setCell ⟨X,3,Aa⟩ (I U y)).alloc (.cells #[I U 3,I U (-1),I U 127,I U 128,I U 0] 3)).heap[w.heap.size]?=_);rw [a] at k0 k1 k2 k3;obtain ⟨⟨p0,p1⟩,⟨p2,p3⟩,⟨p4,p5⟩,p6,p7⟩:=HD.out;obtain ⟨p8,p9⟩:=HZ.out;clear ar a7 ai p a6;go_wp2_with (refine w_st w.heap.size #[I U t0,I U t1,I U t2,I U y] r (zEE _ _ _ _) ?_;intro wg m l ad;clear ad;have k:Hid (wd.grownBy wg (Option.some w.heap.size)):=hid (by rw [a];exact m);obtain ⟨m0,m1,m2,m3⟩:=zZ l;clear m l)
  refine bodyPost_ret (v:=.agg #[I U t0,I U t1,I U t2,I U y]) (by simp [results,results64,go_sem,m0,m1,m2,m3]) rfl ?_;exact ⟨(t0,t1,t2,y),rfl,⟨wfQ_of (by omega) (by omega) (by omega) (by omega),by simp only;omega⟩,ab.other k (by omega) (fun hl e=>by have:=aa hl;omega),yT t (nl _) k⟩
 have e1:(kk == 1)=false:=by simpa using h1
 clear h1
 by_cases h2:kk=2
 ·have e2:(kk == 2)=true:=by simpa using h2
  clear h2;obtain ⟨W6,o⟩:=nw W5;have af:Hid (Bx W6 X #[I U t0,I U t1,I U t2,I U z] 26):=(by rw [o];exact ae.out:W6.heap[X]?=_);have au:Hid (St W6 B ao len cap b off):=hid (by rw [o];exact ag.out);have az:Hid (w.grownBy W6 (Option.some B)):=hid (by rw [o];exact ak.out);have a8:Hid (Bx W6 w.heap.size #[I U 0,I U 0,I U 0,I U 0] 26):=(by rw [o];exact aj.out:W6.heap[w.heap.size]?=_);have bl:X < W6.heap.size:=by rw [o];exact aq
  obtain ⟨wd,a⟩:=nw (W6.setCell ⟨X,1,Aa⟩ (I U x));obtain ⟨a0,a1,a2,a3⟩:=zZ af;have f0:W6.frozen? ⟨X,1,Aa⟩=false:=frozen_of_row _ X 1 _ _ af;have ac:W6.grownBy wd (Option.some X):=by rw [a];exact yK _ X 1 _
  have ah:Bx wd X #[I U t0,I U x,I U t2,I U z] 26:=by rw [a];exact heap_setCell_same W6 X 1 _ _ _ af
  obtain ⟨k0,k1,k2,k3⟩:=zZ ah;have ab:Hid (St wd B ao len cap b off):=au.other ac (by omega) (fun hl e=>by have:=aa hl;omega);have t:Hid (w.grownBy wd (Option.some B)):=yT az (by omega) ac;have p:Bx wd w.heap.size #[I U 0,I U 0,I U 0,I U 0] 26:=(ac.block _ (by omega) (qsn (by omega))).trans a8;have r:Hid ((W6.setCell ⟨X,1,Aa⟩ (I U x)).heap[w.heap.size]?=Ab (.cells #[I U 0,I U 0,I U 0,I U 0] 26 (0,0))):=(by rw [<- a];exact p:(W6.setCell ⟨X,1,Aa⟩ (I U x)).heap[w.heap.size]?=_);rw [a] at k0 k1 k2 k3;obtain ⟨⟨p0,p1⟩,⟨p2,p3⟩,⟨p4,p5⟩,p6,p7⟩:=HD.out;obtain ⟨p8,p9⟩:=HZ.out;clear ac ah p;rw [o] at a0 a1 a2 a3 f0 k0 k1 k2 k3 r a;go_wp2_with (refine w_st w.heap.size #[I U t0,I U x,I U t2,I U z] r (zEE _ _ _ _) ?_;intro wg m l ad;clear ad;have k:Hid (wd.grownBy wg (Option.some w.heap.size)):=hid (by rw [a];exact m);obtain ⟨m0,m1,m2,m3⟩:=zZ l;clear m l)
  refine bodyPost_ret (v:=.agg #[I U t0,I U x,I U t2,I U z]) (by simp [results,results64,go_sem,m0,m1,m2,m3]) rfl ?_;exact ⟨(t0,x,t2,z),rfl,⟨wfQ_of (by omega) (by omega) (by omega) (by omega),by simp only;omega⟩,ab.other k (by omega) (fun hl e=>by have:=aa hl;omega),yT t (nl _) k⟩
 have e2:(kk == 2)=false:=by simpa using h2
 clear h2
 by_cases h3:kk=3
 ·have e3:(kk == 3)=true:=by simpa using h3
  clear h3;obtain ⟨W6,o⟩:=nw W5;have af:Hid (Bx W6 X #[I U t0,I U t1,I U t2,I U z] 26):=(by rw [o];exact ae.out:W6.heap[X]?=_);have au:Hid (St W6 B ao len cap b off):=hid (by rw [o];exact ag.out);have az:Hid (w.grownBy W6 (Option.some B)):=hid (by rw [o];exact ak.out);have a8:Hid (Bx W6 w.heap.size #[I U 0,I U 0,I U 0,I U 0] 26):=(by rw [o];exact aj.out:W6.heap[w.heap.size]?=_);have bl:X < W6.heap.size:=by rw [o];exact aq
  obtain ⟨wd,a⟩:=nw (W6.setCell ⟨X,2,Aa⟩ (I U (x % 70 - 1)));obtain ⟨a0,a1,a2,a3⟩:=zZ af;have f0:W6.frozen? ⟨X,2,Aa⟩=false:=frozen_of_row _ X 2 _ _ af;have ac:W6.grownBy wd (Option.some X):=by rw [a];exact yK _ X 2 _
  have ah:Bx wd X #[I U t0,I U t1,I U (x % 70 - 1),I U z] 26:=by rw [a];exact heap_setCell_same W6 X 2 _ _ _ af
  obtain ⟨k0,k1,k2,k3⟩:=zZ ah;have ab:Hid (St wd B ao len cap b off):=au.other ac (by omega) (fun hl e=>by have:=aa hl;omega);have t:Hid (w.grownBy wd (Option.some B)):=yT az (by omega) ac;have p:Bx wd w.heap.size #[I U 0,I U 0,I U 0,I U 0] 26:=(ac.block _ (by omega) (qsn (by omega))).trans a8;have r:Hid ((W6.setCell ⟨X,2,Aa⟩ (I U (x % 70 - 1))).heap[w.heap.size]?=Ab (.cells #[I U 0,I U 0,I U 0,I U 0] 26 (0,0))):=(by rw [<- a];exact p:(W6.setCell ⟨X,2,Aa⟩ (I U (x % 70 - 1))).heap[w.heap.size]?=_);rw [a] at k0 k1 k2 k3;obtain ⟨⟨p0,p1⟩,⟨p2,p3⟩,⟨p4,p5⟩,p6,p7⟩:=HD.out;obtain ⟨p8,p9⟩:=HZ.out;clear ac ah p;rw [o] at a0 a1 a2 a3 f0 k0 k1 k2 k3 r a;go_wp2_with (refine w_st w.heap.size #[I U t0,I U t1,I U (x % 70 - 1),I U z] r (zEE _ _ _ _) ?_;intro wg m l ad;clear ad;have k:Hid (wd.grownBy wg (Option.some w.heap.size)):=hid (by rw [a];exact m);obtain ⟨m0,m1,m2,m3⟩:=zZ l;clear m l)
  refine bodyPost_ret (v:=.agg #[I U t0,I U t1,I U (x % 70 - 1),I U z]) (by simp [results,results64,go_sem,m0,m1,m2,m3]) rfl ?_;exact ⟨(t0,t1,x % 70 - 1,z),rfl,⟨wfQ_of (by omega) (by omega) (by omega) (by omega),by simp only;omega⟩,ab.other k (by omega) (fun hl e=>by have:=aa hl;omega),yT t (nl _) k⟩
 have e3:(kk == 3)=false:=by simpa using h3
 clear h3;obtain ⟨wd,a⟩:=nw W5;obtain ⟨k0,k1,k2,k3⟩:=zZ ae;have ab:Hid (St wd B ao len cap b off):=hid (by rw [a];exact ag.out);have t:Hid (w.grownBy wd (Option.some B)):=hid (by rw [a];exact ak.out);have r:Hid (Bx W5 w.heap.size #[I U 0,I U 0,I U 0,I U 0] 26):=aj;obtain ⟨⟨p0,p1⟩,⟨p2,p3⟩,⟨p4,p5⟩,p6,p7⟩:=HD.out;obtain ⟨p8,p9⟩:=HZ.out;go_wp2_with (refine w_st w.heap.size #[I U t0,I U t1,I U t2,I U z] r (zEE _ _ _ _) ?_;intro wg m l ad;clear ad;have k:Hid (wd.grownBy wg (Option.some w.heap.size)):=hid (by rw [a];exact m);obtain ⟨m0,m1,m2,m3⟩:=zZ l;clear m l)
 refine bodyPost_ret (v:=.agg #[I U t0,I U t1,I U t2,I U z]) (by simp [results,results64,go_sem,m0,m1,m2,m3]) rfl ?_;exact ⟨(t0,t1,t2,z),rfl,⟨wfQ_of (by omega) (by omega) (by omega) (by omega),by simp only;omega⟩,ab.other k (by omega) (fun hl e=>by have:=aa hl;omega),yT t (nl _) k⟩
theorem qc7_st {w:World} {base:Nat} {v:Value} {qs:TL} {n:Nat} (h:St w B ao len cap b off) (ho:OwnU w base v qs) (hB:B < base) (hbt:BT (bks qs) n) (hn:n<=1000) :
  Calls prog 64 #[.pointer (Option.some ⟨B,0,Aa⟩),v] w fun e w'=>∃ q:QC,e=.returned (zBF q)/\wfQ q/\St w' B ao len cap b off/\w.grownBy w' (Option.some B):=
 (qc7n_st h ho hB hbt hn).mono fun _ _ ⟨q,h1,h2,h3⟩=>⟨q,h1,h2.1,h3⟩
end Go.Proofs.YtfnneillakdopacGreatR
