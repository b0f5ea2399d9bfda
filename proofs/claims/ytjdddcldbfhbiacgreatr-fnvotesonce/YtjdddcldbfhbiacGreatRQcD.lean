/-
  A text of ours: QcD.
-/
import Derived.Test.YtjdddcldbfhbiacGreatRK10
set_option maxRecDepth 100000
set_option maxHeartbeats 32000000
namespace Go.Proofs.YtjdddcldbfhbiacGreatR
open Go.RowKit Num
theorem wfQ_of {a b c d:Int} (h0:-9223372036854775808<=a/\a<=9223372036854775807) (h1:-9223372036854775808<=b/\b<=9223372036854775807) (h2:-9223372036854775808<=c/\c<=9223372036854775807) (h3:-9223372036854775808<=d/\d<=9223372036854775807):wfQ (a,b,c,d):=⟨zIH h0.1 h0.2,zIH h1.1 h1.2,zIH h2.1 h2.2,zIH h3.1 h3.2⟩
def Dr (W:World) (B:Nat) (ao:Option Addr) (len cap b off:Nat) (x:World):Prop:=St x B ao len cap b off/\W.grownBy x (Option.some B)
theorem Dr.up {W:World} {B:Nat} {ao:Option Addr} {len cap b off:Nat}:Up (Dr W B ao len cap b off):=fun _ _ h hb=>⟨h.1.below hb,xC h.2 (kV hb)⟩
def DrL (W:World) (B:Nat) (ao:Option Addr) (len cap b off:Nat) (xs:List Int) (g:Nat) (x:World):Prop:=Dr W B ao len cap b off x/\W.heap.size<=g/\Bx x g (intsA xs) 3
theorem DrL.up {W:World} {B:Nat} {ao:Option Addr} {len cap b off:Nat} {xs:List Int} {g:Nat}:Up (DrL W B ao len cap b off xs g):=fun _ _ h hb=>⟨Dr.up _ _ h.1 hb,h.2.1,(hb.block _ (gl h.2.2)).trans h.2.2⟩
theorem qc7_st {w:World} {B base:Nat} {ao:Option Addr} {len cap b off:Nat} {v:Value} {qs:TL} {n:Nat} (h:St w B ao len cap b off) (ho:OwnU w base v qs) (hB:B < base) (hbt:BT (bks qs) n) (hn:n<=1000) :
  Calls Tryz.prog 64 #[.pointer (Option.some ⟨B,0,none⟩),v] w fun e w'=>∃ q:QC,e=.returned (zBF q)/\wfQ q/\St w' B ao len cap b off/\w.grownBy w' (Option.some B):=by
 have H:=hid h
 have hBw:=h.cur.lt
 have HCL:Hid (0 < len->b < w.heap.size):=h.code.lt
 have HO:=hid ho
 have HBT:=hid hbt
 have hbn:=hbt.2.1
 clear h ho hbt
 obtain ⟨W0,hW0⟩:∃ W0,W0=w.alloc (.cells #[.int .i64 0,.int .i64 0,.int .i64 0,.int .i64 0] 26):=⟨_,rfl⟩
 have HB0:Hid (Below w.heap.size w W0):=hid (by rw [hW0];exact (br _ _).alloc (nl _) _)
 have HE0:Hid (Bx W0 w.heap.size #[.int .i64 0,.int .i64 0,.int .i64 0,.int .i64 0] 26):=(by rw [hW0];exact heap_alloc_new w _:W0.heap[w.heap.size]?=_)
 go_enter Tryz.func64,Tryz.ntmps64
 go_wp2_with fail
 rw [<- hW0]
 clear hW0
 refine (xO 10 (by omega) (by omega) (H.out.below HB0.out)).mono ?_
 rintro e w1 ⟨kk,rfl,hk0,hk1,hS,hg⟩
 have HS1:=hid hS
 have HE1:Hid (Bx w1 w.heap.size #[.int .i64 0,.int .i64 0,.int .i64 0,.int .i64 0] 26):=(hg.block _ (gl HE0.out) (fun e=>by have:=Option.some.inj e;omega)).trans HE0.out
 have HG1:Hid (w.grownBy w1 (Option.some B)):=xC (kV HB0.out) hg
 clear hS hg HE0 HB0
 go_wp2_with fail
 refine (xO 60 (by omega) (by omega) HS1.out).mono ?_
 rintro e w2 ⟨x,rfl,hx0,hx1,hS,hg⟩
 have HS2:=hid hS
 have HE2:Hid (Bx w2 w.heap.size #[.int .i64 0,.int .i64 0,.int .i64 0,.int .i64 0] 26):=(hg.block _ (gl HE1.out) (fun e=>by have:=Option.some.inj e;omega)).trans HE1.out
 have HG2:Hid (w.grownBy w2 (Option.some B)):=xC HG1.out hg
 clear hS hg HS1 HE1 HG1
 go_wp2_with fail
 refine (vote7_st HS2.out (HO.out.st HG2.out hB) hB HBT.out hn).mono ?_
 rintro e w3 ⟨⟨t0,t1,t2,t3⟩,rfl,hvd,hS,hg⟩
 unfold voteV
 simp only
 obtain ⟨d0,d1,d2,d3⟩:=hvd
 simp only at d0 d1 d2 d3
 have HD:Hid ((1<=t0/\t0<=4)/\(0<=t1/\t1<=1000)/\(0<=t2/\t2 < 1000)/\(0<=t3/\t3<=7)):=⟨d0,d1,⟨d2.1,by omega⟩,d3⟩
 have HS3:=hid hS
 have HE3:Hid (Bx w3 w.heap.size #[.int .i64 0,.int .i64 0,.int .i64 0,.int .i64 0] 26):=(hg.block _ (gl HE2.out) (fun e=>by have:=Option.some.inj e;omega)).trans HE2.out
 have HG3:Hid (w.grownBy w3 (Option.some B)):=xC HG2.out hg
 clear hS hg HS2 HE2 HG2 d0 d1 d2 d3
 obtain ⟨W4,hW4⟩:∃ W4,W4=w3.alloc (.cells #[.int .i64 t0,.int .i64 t1,.int .i64 t2,.int .i64 t3] 28):=⟨_,rfl⟩
 have HB4:Hid (Below w3.heap.size w3 W4):=hid (by rw [hW4];exact (br _ _).alloc (nl _) _)
 have HV4:Hid (Bx W4 w3.heap.size #[.int .i64 t0,.int .i64 t1,.int .i64 t2,.int .i64 t3] 28):=(by rw [hW4];exact heap_alloc_new w3 _:W4.heap[w3.heap.size]?=_)
 have lE:w.heap.size < w3.heap.size:=(gl HE3.out)
 have HE4:Hid (Bx W4 w.heap.size #[.int .i64 0,.int .i64 0,.int .i64 0,.int .i64 0] 26):=(HB4.out.block _ lE).trans HE3.out
 have HS4:Hid (St W4 B ao len cap b off):=HS3.out.below HB4.out
 have HG4:Hid (w.grownBy W4 (Option.some B)):=xC HG3.out (kV HB4.out)
 have lV:w3.heap.size < W4.heap.size:=(gl HV4.out)
 have hBW:B < W4.heap.size:=by omega
 obtain ⟨Y,hY⟩:∃ Y,Y=w3.heap.size:=⟨_,rfl⟩
 rw [<- hY] at HV4 lE lV
 have HLd:Hid (∀ x,Dr W4 B ao len cap b off x->x.cell? ⟨Y,0,none⟩=some (.int .i64 t0)/\x.cell? ⟨Y,1,none⟩=some (.int .i64 t1)/\x.cell? ⟨Y,2,none⟩=some (.int .i64 t2)/\x.cell? ⟨Y,3,none⟩=some (.int .i64 t3)):=fun x hx=>zZ ((hx.2.block Y lV (fun e=>by have:=Option.some.inj e;omega)).trans HV4.out)
 clear HS3 HE3 HG3 HB4 HBT HO
 go_wp2
 rw [<- hW4,<- hY]
 clear hW4 hY
 refine xA (Dr W4 B ao len cap b off) (by kernel_rfl) ?_
 show wpAnyH Tryz.prog _ _ _ _ (11+1) (Array.replicate 12 false) _ _
 refine fl_in (i:=10) (d:=some 8) (obj:=.cells #[.int .i64 0,.int .i64 0,.int .i64 0,.int .i64 0] 26 (0,0)) (base:=W4.heap.size) (T:=Dr W4 B ao len cap b off) (f:=11) ?_ ⟨HS4.out.below (br _ _).drew,kV (br _ _).drew⟩
 refine kU (j:=0) (e':=some 16) (v:=.pointer (some ⟨Y,0,none⟩)) rfl rfl rfl rfl (by kernel_rfl) (by kernel_rfl) (by kernel_rfl) (by kernel_rfl) (by kernel_rfl) (by decide) (by kernel_rfl) (fun _ _ _ h=>h) (fun _ h=>h) (Or.inl ⟨by rfl,?_⟩) ?_
 ·intro x hx
  go_simp
  try with_reducible rfl
 simp only [pz]
 refine kU (j:=1) (e':=some 17) (v:=.int .i64 t0) rfl rfl rfl rfl (by kernel_rfl) (by kernel_rfl) (by kernel_rfl) (by kernel_rfl) (by kernel_rfl) (by decide) (by kernel_rfl) (fun _ _ _ h=>h) (fun _ h=>h) (Or.inl ⟨by rfl,?_⟩) ?_
 ·intro x hx
  obtain ⟨c0,c1,c2,c3⟩:=HLd.out x hx
  go_simp
  try with_reducible rfl
 simp only [pz]
 refine kU (j:=2) (e':=some 18) (v:=.pointer (some ⟨Y,1,none⟩)) rfl rfl rfl rfl (by kernel_rfl) (by kernel_rfl) (by kernel_rfl) (by kernel_rfl) (by kernel_rfl) (by decide) (by kernel_rfl) (fun _ _ _ h=>h) (fun _ h=>h) (Or.inl ⟨by rfl,?_⟩) ?_
 ·intro x hx
  go_simp
  try with_reducible rfl
 simp only [pz]
 refine kU (j:=3) (e':=some 19) (v:=.int .i64 t1) rfl rfl rfl rfl (by kernel_rfl) (by kernel_rfl) (by kernel_rfl) (by kernel_rfl) (by kernel_rfl) (by decide) (by kernel_rfl) (fun _ _ _ h=>h) (fun _ h=>h) (Or.inl ⟨by rfl,?_⟩) ?_
 ·intro x hx
  obtain ⟨c0,c1,c2,c3⟩:=HLd.out x hx
  go_simp
  try with_reducible rfl
 simp only [pz]
 refine kU (j:=4) (e':=some 20) (v:=.pointer (some ⟨Y,2,none⟩)) rfl rfl rfl rfl (by kernel_rfl) (by kernel_rfl) (by kernel_rfl) (by kernel_rfl) (by kernel_rfl) (by decide) (by kernel_rfl) (fun _ _ _ h=>h) (fun _ h=>h) (Or.inl ⟨by rfl,?_⟩) ?_
 ·intro x hx
  go_simp
  try with_reducible rfl
 simp only [pz]
 refine kU (j:=5) (e':=some 21) (v:=.int .i64 t2) rfl rfl rfl rfl (by kernel_rfl) (by kernel_rfl) (by kernel_rfl) (by kernel_rfl) (by kernel_rfl) (by decide) (by kernel_rfl) (fun _ _ _ h=>h) (fun _ h=>h) (Or.inl ⟨by rfl,?_⟩) ?_
 ·intro x hx
  obtain ⟨c0,c1,c2,c3⟩:=HLd.out x hx
  go_simp
  try with_reducible rfl
 simp only [pz]
 refine kU (j:=6) (e':=some 22) (v:=.pointer (some ⟨B,0,none⟩)) rfl rfl rfl rfl (by kernel_rfl) (by kernel_rfl) (by kernel_rfl) (by kernel_rfl) (by kernel_rfl) (by decide) (by kernel_rfl) (fun _ _ _ h=>h) (fun _ h=>h) (Or.inl ⟨by rfl,?_⟩) ?_
 ·intro x hx
  go_simp
  try with_reducible rfl
 simp only [pz]
 refine fl_make (c:=7) (e':=some 23) (T':=fun v' y=>∃ g,v'=.slice (some ⟨g,0,none⟩) 4 4/\DrL W4 B ao len cap b off [7,15,11,14] g y) rfl rfl ⟨rfl,fun ρ x=>?_⟩ (fun _ h=>h.2.size) Dr.up (fun _ h=>h) rfl rfl (by kernel_rfl) (Or.inl (by kernel_rfl)) (by kernel_rfl) (by decide) (by kernel_rfl) (by rfl) (fun x hx=>⟨.slice (some ⟨x.heap.size,0,none⟩) 4 4,x.alloc (.cells (intsA [7,15,11,14]) 3),?_,KpF.below ((br _ _).alloc (nl _) _),x.heap.size,rfl,Dr.up _ _ hx ((br _ _).alloc (nl _) _),hx.2.size,heap_alloc_new x _⟩) (fun _ _ ⟨_,_,h⟩=>h.1) (fun v'=>fl_ex fun g=>fl_and fun hv'=>?_)
 ·unfold flP
  go_simp
  try with_reducible rfl
 ·unfold intsA
  go_simp
  try with_reducible rfl
 subst hv'
 simp only [pz]
 refine fl_call (c:=8) (e':=some 24) (fn:=65) (args:=#[.pointer (some ⟨B,0,none⟩),.slice (some ⟨g,0,none⟩) 4 4]) (T':=fun v' y=>∃ z,v'=.int .i64 z/\z∈[7,15,11,14]/\Dr W4 B ao len cap b off y) rfl rfl ⟨rfl,fun ρ x=>?_⟩ (fun _ h=>h.1.2.size) DrL.up (fun _ h=>h.1) rfl rfl (by kernel_rfl) (Or.inl (by kernel_rfl)) (by kernel_rfl) (by decide) (by kernel_rfl) (by rfl) (fun x=>?_) (fun x hx=>(pickL_st [7,15,11,14] (by simp) (by simp) hx.1.1 (by have:=hx.2.1;omega) hx.2.2).mono fun _ y ⟨z,hz,he,hS,hg⟩=>⟨_,he,KpF.grown hg hBW,z,rfl,hz,hS,xC hx.1.2 hg⟩) (fun _ _ ⟨_,_,_,h⟩=>h) (fun v'=>fl_ex fun z=>fl_and fun hv'=>fl_and fun hz=>?_)
 ·unfold flP
  go_simp
  try with_reducible rfl
 ·go_simp
  try with_reducible rfl
 subst hv'
 simp only [pz]
 refine kU (j:=9) (e':=some 25) (v:=.agg #[.int .i64 t0,.int .i64 t1,.int .i64 t2,.int .i64 z]) rfl rfl rfl rfl (by kernel_rfl) (by kernel_rfl) (by kernel_rfl) (by kernel_rfl) (by kernel_rfl) (by decide) (by kernel_rfl) (fun _ _ _ h=>h) (fun _ h=>h) (Or.inl ⟨by rfl,?_⟩) ?_
 ·intro x hx
  go_simp
  try with_reducible rfl
 simp only [pz]
 refine fl_end (s:=11) (cells:=#[.int .i64 t0,.int .i64 t1,.int .i64 t2,.int .i64 z]) (f:=0) rfl rfl ⟨rfl,fun ρ x=>?_⟩ (fun _ h=>h.2.size) Dr.up (fun _ h=>h) rfl rfl rfl rfl (by kernel_rfl) (by kernel_rfl) (by kernel_rfl) (fun N=>rfl) (fun N=>rfl) rfl (by kernel_rfl) rfl (zEE _ _ _ _) ?_
 ·unfold flP
  go_simp
  try with_reducible rfl
 intro X x5 W5 hT hN hg hk hlX
 have HS5:Hid (St W5 B ao len cap b off):=hT.1.other hg (by omega) (fun hl e=>by have:=HCL.out hl;have:=HG4.out.size;omega)
 have HG5:Hid (w.grownBy W5 (Option.some B)):=yT (xC HG4.out hT.2) (by have:=HG4.out.size;omega) hg
 have hws:=HG4.out.size
 have HE5:Hid (Bx W5 w.heap.size #[.int .i64 0,.int .i64 0,.int .i64 0,.int .i64 0] 26):=(hg.block _ (by have:=hT.2.size;omega) (fun e=>by have:=Option.some.inj e;omega)).trans ((hT.2.block _ (by omega) (fun e=>by have:=Option.some.inj e;omega)).trans HE4.out)
 have HX5:=hid hk
 have HZ:Hid (7<=z/\z<=15):=hid (by simp at hz;omega)
 have hDr:Dr W4 B ao len cap b off W5:=⟨HS5.out,yT hT.2 hN hg⟩
 clear hT hg hk hz
 refine ⟨hDr,?_⟩
 clear hDr
 simp only [pz]
 unfold flP
 have lX:w.heap.size < X:=by omega
 by_cases h0:kk=0
 ·have e0:(kk == 0)=true:=by simpa using h0
  clear h0
  obtain ⟨wd,hwd⟩:∃ wd,wd=W5:=⟨_,rfl⟩
  obtain ⟨k0,k1,k2,k3⟩:=zZ HX5.out
  have HSd:Hid (St wd B ao len cap b off):=hid (by rw [hwd];exact HS5.out)
  have HGd:Hid (w.grownBy wd (Option.some B)):=hid (by rw [hwd];exact HG5.out)
  have HEd:Hid (Bx W5 w.heap.size #[.int .i64 0,.int .i64 0,.int .i64 0,.int .i64 0] 26):=HE5.out
  obtain ⟨⟨p0,p1⟩,⟨p2,p3⟩,⟨p4,p5⟩,p6,p7⟩:=HD.out
  obtain ⟨p8,p9⟩:=HZ.out
  go_wp2_with (refine zC rfl _ _ _ rfl w.heap.size #[.int .i64 0,.int .i64 0,.int .i64 0,.int .i64 0] rfl rfl 26 #[.int .i64 0,.int .i64 0,.int .i64 0,.int .i64 0] HEd.out (by kernel_rfl) rfl (zEE _ _ _ _) ?_;intro wg hgg hkg hsg;clear hsg;have HGG:Hid (wd.grownBy wg (Option.some w.heap.size)):=hid (by rw [hwd];exact hgg);obtain ⟨m0,m1,m2,m3⟩:=zZ hkg;clear hgg hkg)
  refine bodyPost_ret (v:=.agg #[.int .i64 0,.int .i64 0,.int .i64 0,.int .i64 0]) (by simp [results,Tryz.results64,go_sem,m0,m1,m2,m3]) rfl ?_
  exact ⟨(0,0,0,0),rfl,wfQ_of (by omega) (by omega) (by omega) (by omega),HSd.out.other HGG.out (by omega) (fun hl e=>by have:=HCL.out hl;omega),yT HGd.out (nl _) HGG.out⟩
 have e0:(kk == 0)=false:=by simpa using h0
 clear h0
 by_cases h1:kk=1
 ·have e1:(kk == 1)=true:=by simpa using h1
  clear h1
  obtain ⟨j,hj⟩:=Int.eq_ofNat_of_zero_le (show 0<=x % 5 by omega)
  have hj5:j < 5:=by omega
  obtain ⟨y,hy⟩:∃ y,y=([3,-1,127,128,0]:List Int).getD j 0:=⟨_,rfl⟩
  have HYB:Hid (-1<=y/\y<=128):=hid (by rw [hy];rcases (by omega:j=0∨j=1∨j=2∨j=3∨j=4) with rfl | rfl | rfl | rfl | rfl <;> decide)
  have cj:(W5.alloc (.cells #[.int .i64 3,.int .i64 (-1),.int .i64 127,.int .i64 128,.int .i64 0] 3)).cell? ⟨W5.heap.size,j,none⟩=some (.int .i64 y):=by
   rw [cell_of_row _ W5.heap.size j _ _ (0,0) (heap_alloc_new W5 _),hy]
   rcases (by omega:j=0∨j=1∨j=2∨j=3∨j=4) with rfl | rfl | rfl | rfl | rfl <;> rfl
  have hxj:x % 5=(j:Int):=hj
  have jq0:(0:Int)<=(j:Int):=by omega
  have jq1:(j:Int) < 5:=by omega
  obtain ⟨y0,y1⟩:=HYB.out
  clear hy hj
  obtain ⟨wd,hwd⟩:∃ wd,wd=(W5.setCell ⟨X,3,none⟩ (.int .i64 y)).alloc (.cells #[.int .i64 3,.int .i64 (-1),.int .i64 127,.int .i64 128,.int .i64 0] 3):=⟨_,rfl⟩
  have hbA:Below W5.heap.size W5 (W5.alloc (.cells #[.int .i64 3,.int .i64 (-1),.int .i64 127,.int .i64 128,.int .i64 0] 3)):=(br _ _).alloc (nl _) _
  obtain ⟨a0,a1,a2,a3⟩:=zZ ((hbA.block _ hlX).trans HX5.out)
  have f0:(W5.alloc (.cells #[.int .i64 3,.int .i64 (-1),.int .i64 127,.int .i64 128,.int .i64 0] 3)).frozen? ⟨X,3,none⟩=false:=frozen_of_row _ X 3 _ _ ((hbA.block _ hlX).trans HX5.out)
  have hg5:W5.grownBy (W5.setCell ⟨X,3,none⟩ (.int .i64 y)) (Option.some X):=yK _ X 3 _
  have hk5:(W5.setCell ⟨X,3,none⟩ (.int .i64 y)).heap[X]?=some (.cells #[.int .i64 t0,.int .i64 t1,.int .i64 t2,.int .i64 y] 26 (0,0)):=heap_setCell_same W5 X 3 _ _ _ HX5.out
  have hb5:Below (W5.setCell ⟨X,3,none⟩ (.int .i64 y)).heap.size (W5.setCell ⟨X,3,none⟩ (.int .i64 y)) wd:=by rw [hwd];exact (br _ _).alloc (nl _) _
  have hlX5:=(gl hk5)
  obtain ⟨k0,k1,k2,k3⟩:=zZ ((hb5.block _ hlX5).trans hk5)
  have HSd:Hid (St wd B ao len cap b off):=(HS5.out.other hg5 (by omega) (fun hl e=>by have:=HCL.out hl;omega)).below hb5
  have HGd:Hid (w.grownBy wd (Option.some B)):=xC (yT HG5.out (by omega) hg5) (kV hb5)
  have HEd0:Bx wd w.heap.size #[.int .i64 0,.int .i64 0,.int .i64 0,.int .i64 0] 26:=(hb5.block _ (by omega)).trans ((hg5.block _ (by omega) (fun e=>by have:=Option.some.inj e;omega)).trans HE5.out)
  have HEd:Hid (((W5.setCell ⟨X,3,none⟩ (.int .i64 y)).alloc (.cells #[.int .i64 3,.int .i64 (-1),.int .i64 127,.int .i64 128,.int .i64 0] 3)).heap[w.heap.size]?=some (.cells #[.int .i64 0,.int .i64 0,.int .i64 0,.int .i64 0] 26 (0,0))):=(by rw [<- hwd];exact HEd0:((W5.setCell ⟨X,3,none⟩ (.int .i64 y)).alloc (.cells #[.int .i64 3,.int .i64 (-1),.int .i64 127,.int .i64 128,.int .i64 0] 3)).heap[w.heap.size]?=_)
  rw [hwd] at k0 k1 k2 k3
  obtain ⟨⟨p0,p1⟩,⟨p2,p3⟩,⟨p4,p5⟩,p6,p7⟩:=HD.out
  obtain ⟨p8,p9⟩:=HZ.out
  clear hg5 hk5 hb5 HEd0 hbA
  go_wp2_with (refine zC rfl _ _ _ rfl w.heap.size #[.int .i64 t0,.int .i64 t1,.int .i64 t2,.int .i64 y] rfl rfl 26 #[.int .i64 0,.int .i64 0,.int .i64 0,.int .i64 0] HEd.out (by kernel_rfl) rfl (zEE _ _ _ _) ?_;intro wg hgg hkg hsg;clear hsg;have HGG:Hid (wd.grownBy wg (Option.some w.heap.size)):=hid (by rw [hwd];exact hgg);obtain ⟨m0,m1,m2,m3⟩:=zZ hkg;clear hgg hkg)
  refine bodyPost_ret (v:=.agg #[.int .i64 t0,.int .i64 t1,.int .i64 t2,.int .i64 y]) (by simp [results,Tryz.results64,go_sem,m0,m1,m2,m3]) rfl ?_
  exact ⟨(t0,t1,t2,y),rfl,wfQ_of (by omega) (by omega) (by omega) (by omega),HSd.out.other HGG.out (by omega) (fun hl e=>by have:=HCL.out hl;omega),yT HGd.out (nl _) HGG.out⟩
 have e1:(kk == 1)=false:=by simpa using h1
 clear h1
 by_cases h2:kk=2
 ·have e2:(kk == 2)=true:=by simpa using h2
  clear h2
  obtain ⟨W6,hW6⟩:∃ W6,W6=W5:=⟨_,rfl⟩
  have HX6:Hid (Bx W6 X #[.int .i64 t0,.int .i64 t1,.int .i64 t2,.int .i64 z] 26):=(by rw [hW6];exact HX5.out:W6.heap[X]?=_)
  have HS6:Hid (St W6 B ao len cap b off):=hid (by rw [hW6];exact HS5.out)
  have HG6:Hid (w.grownBy W6 (Option.some B)):=hid (by rw [hW6];exact HG5.out)
  have HE6:Hid (Bx W6 w.heap.size #[.int .i64 0,.int .i64 0,.int .i64 0,.int .i64 0] 26):=(by rw [hW6];exact HE5.out:W6.heap[w.heap.size]?=_)
  have hl6:X < W6.heap.size:=by rw [hW6];exact hlX
  obtain ⟨wd,hwd⟩:∃ wd,wd=W6.setCell ⟨X,1,none⟩ (.int .i64 x):=⟨_,rfl⟩
  obtain ⟨a0,a1,a2,a3⟩:=zZ HX6.out
  have f0:W6.frozen? ⟨X,1,none⟩=false:=frozen_of_row _ X 1 _ _ HX6.out
  have hgd:W6.grownBy wd (Option.some X):=by rw [hwd];exact yK _ X 1 _
  have hkd:Bx wd X #[.int .i64 t0,.int .i64 x,.int .i64 t2,.int .i64 z] 26:=by rw [hwd];exact heap_setCell_same W6 X 1 _ _ _ HX6.out
  obtain ⟨k0,k1,k2,k3⟩:=zZ hkd
  have HSd:Hid (St wd B ao len cap b off):=HS6.out.other hgd (by omega) (fun hl e=>by have:=HCL.out hl;omega)
  have HGd:Hid (w.grownBy wd (Option.some B)):=yT HG6.out (by omega) hgd
  have HEd0:Bx wd w.heap.size #[.int .i64 0,.int .i64 0,.int .i64 0,.int .i64 0] 26:=(hgd.block _ (by omega) (fun e=>by have:=Option.some.inj e;omega)).trans HE6.out
  have HEd:Hid ((W6.setCell ⟨X,1,none⟩ (.int .i64 x)).heap[w.heap.size]?=some (.cells #[.int .i64 0,.int .i64 0,.int .i64 0,.int .i64 0] 26 (0,0))):=(by rw [<- hwd];exact HEd0:(W6.setCell ⟨X,1,none⟩ (.int .i64 x)).heap[w.heap.size]?=_)
  rw [hwd] at k0 k1 k2 k3
  obtain ⟨⟨p0,p1⟩,⟨p2,p3⟩,⟨p4,p5⟩,p6,p7⟩:=HD.out
  obtain ⟨p8,p9⟩:=HZ.out
  clear hgd hkd HEd0
  rw [hW6] at a0 a1 a2 a3 f0 k0 k1 k2 k3 HEd hwd
  go_wp2_with (refine zC rfl _ _ _ rfl w.heap.size #[.int .i64 t0,.int .i64 x,.int .i64 t2,.int .i64 z] rfl rfl 26 #[.int .i64 0,.int .i64 0,.int .i64 0,.int .i64 0] HEd.out (by kernel_rfl) rfl (zEE _ _ _ _) ?_;intro wg hgg hkg hsg;clear hsg;have HGG:Hid (wd.grownBy wg (Option.some w.heap.size)):=hid (by rw [hwd];exact hgg);obtain ⟨m0,m1,m2,m3⟩:=zZ hkg;clear hgg hkg)
  refine bodyPost_ret (v:=.agg #[.int .i64 t0,.int .i64 x,.int .i64 t2,.int .i64 z]) (by simp [results,Tryz.results64,go_sem,m0,m1,m2,m3]) rfl ?_
  exact ⟨(t0,x,t2,z),rfl,wfQ_of (by omega) (by omega) (by omega) (by omega),HSd.out.other HGG.out (by omega) (fun hl e=>by have:=HCL.out hl;omega),yT HGd.out (nl _) HGG.out⟩
 have e2:(kk == 2)=false:=by simpa using h2
 clear h2
 by_cases h3:kk=3
 ·have e3:(kk == 3)=true:=by simpa using h3
  clear h3
  obtain ⟨W6,hW6⟩:∃ W6,W6=W5:=⟨_,rfl⟩
  have HX6:Hid (Bx W6 X #[.int .i64 t0,.int .i64 t1,.int .i64 t2,.int .i64 z] 26):=(by rw [hW6];exact HX5.out:W6.heap[X]?=_)
  have HS6:Hid (St W6 B ao len cap b off):=hid (by rw [hW6];exact HS5.out)
  have HG6:Hid (w.grownBy W6 (Option.some B)):=hid (by rw [hW6];exact HG5.out)
  have HE6:Hid (Bx W6 w.heap.size #[.int .i64 0,.int .i64 0,.int .i64 0,.int .i64 0] 26):=(by rw [hW6];exact HE5.out:W6.heap[w.heap.size]?=_)
  have hl6:X < W6.heap.size:=by rw [hW6];exact hlX
  obtain ⟨wd,hwd⟩:∃ wd,wd=W6.setCell ⟨X,2,none⟩ (.int .i64 (x % 70 - 1)):=⟨_,rfl⟩
  obtain ⟨a0,a1,a2,a3⟩:=zZ HX6.out
  have f0:W6.frozen? ⟨X,2,none⟩=false:=frozen_of_row _ X 2 _ _ HX6.out
  have hgd:W6.grownBy wd (Option.some X):=by rw [hwd];exact yK _ X 2 _
  have hkd:Bx wd X #[.int .i64 t0,.int .i64 t1,.int .i64 (x % 70 - 1),.int .i64 z] 26:=by rw [hwd];exact heap_setCell_same W6 X 2 _ _ _ HX6.out
  obtain ⟨k0,k1,k2,k3⟩:=zZ hkd
  have HSd:Hid (St wd B ao len cap b off):=HS6.out.other hgd (by omega) (fun hl e=>by have:=HCL.out hl;omega)
  have HGd:Hid (w.grownBy wd (Option.some B)):=yT HG6.out (by omega) hgd
  have HEd0:Bx wd w.heap.size #[.int .i64 0,.int .i64 0,.int .i64 0,.int .i64 0] 26:=(hgd.block _ (by omega) (fun e=>by have:=Option.some.inj e;omega)).trans HE6.out
  have HEd:Hid ((W6.setCell ⟨X,2,none⟩ (.int .i64 (x % 70 - 1))).heap[w.heap.size]?=some (.cells #[.int .i64 0,.int .i64 0,.int .i64 0,.int .i64 0] 26 (0,0))):=(by rw [<- hwd];exact HEd0:(W6.setCell ⟨X,2,none⟩ (.int .i64 (x % 70 - 1))).heap[w.heap.size]?=_)
  rw [hwd] at k0 k1 k2 k3
  obtain ⟨⟨p0,p1⟩,⟨p2,p3⟩,⟨p4,p5⟩,p6,p7⟩:=HD.out
  obtain ⟨p8,p9⟩:=HZ.out
  clear hgd hkd HEd0
  rw [hW6] at a0 a1 a2 a3 f0 k0 k1 k2 k3 HEd hwd
  go_wp2_with (refine zC rfl _ _ _ rfl w.heap.size #[.int .i64 t0,.int .i64 t1,.int .i64 (x % 70 - 1),.int .i64 z] rfl rfl 26 #[.int .i64 0,.int .i64 0,.int .i64 0,.int .i64 0] HEd.out (by kernel_rfl) rfl (zEE _ _ _ _) ?_;intro wg hgg hkg hsg;clear hsg;have HGG:Hid (wd.grownBy wg (Option.some w.heap.size)):=hid (by rw [hwd];exact hgg);obtain ⟨m0,m1,m2,m3⟩:=zZ hkg;clear hgg hkg)
  refine bodyPost_ret (v:=.agg #[.int .i64 t0,.int .i64 t1,.int .i64 (x % 70 - 1),.int .i64 z]) (by simp [results,Tryz.results64,go_sem,m0,m1,m2,m3]) rfl ?_
  exact ⟨(t0,t1,x % 70 - 1,z),rfl,wfQ_of (by omega) (by omega) (by omega) (by omega),HSd.out.other HGG.out (by omega) (fun hl e=>by have:=HCL.out hl;omega),yT HGd.out (nl _) HGG.out⟩
 have e3:(kk == 3)=false:=by simpa using h3
 clear h3
 obtain ⟨wd,hwd⟩:∃ wd,wd=W5:=⟨_,rfl⟩
 obtain ⟨k0,k1,k2,k3⟩:=zZ HX5.out
 have HSd:Hid (St wd B ao len cap b off):=hid (by rw [hwd];exact HS5.out)
 have HGd:Hid (w.grownBy wd (Option.some B)):=hid (by rw [hwd];exact HG5.out)
 have HEd:Hid (Bx W5 w.heap.size #[.int .i64 0,.int .i64 0,.int .i64 0,.int .i64 0] 26):=HE5.out
 obtain ⟨⟨p0,p1⟩,⟨p2,p3⟩,⟨p4,p5⟩,p6,p7⟩:=HD.out
 obtain ⟨p8,p9⟩:=HZ.out
 go_wp2_with (refine zC rfl _ _ _ rfl w.heap.size #[.int .i64 t0,.int .i64 t1,.int .i64 t2,.int .i64 z] rfl rfl 26 #[.int .i64 0,.int .i64 0,.int .i64 0,.int .i64 0] HEd.out (by kernel_rfl) rfl (zEE _ _ _ _) ?_;intro wg hgg hkg hsg;clear hsg;have HGG:Hid (wd.grownBy wg (Option.some w.heap.size)):=hid (by rw [hwd];exact hgg);obtain ⟨m0,m1,m2,m3⟩:=zZ hkg;clear hgg hkg)
 refine bodyPost_ret (v:=.agg #[.int .i64 t0,.int .i64 t1,.int .i64 t2,.int .i64 z]) (by simp [results,Tryz.results64,go_sem,m0,m1,m2,m3]) rfl ?_
 exact ⟨(t0,t1,t2,z),rfl,wfQ_of (by omega) (by omega) (by omega) (by omega),HSd.out.other HGG.out (by omega) (fun hl e=>by have:=HCL.out hl;omega),yT HGd.out (nl _) HGG.out⟩
end Go.Proofs.YtjdddcldbfhbiacGreatR
