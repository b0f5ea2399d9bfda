/-
  The walk of the law.
-/
import Derived.Test.YtfnneillakdopacGreatRK1
import Derived.Test.YtfnneillakdopacGreatRK11
import Derived.Test.YtfnneillakdopacGreatRK5
import Derived.Test.YtfnneillakdopacGreatRK12
import Derived.Test.YtfnneillakdopacGreatRK2
import Derived.Test.YtfnneillakdopacGreatRK13
import Derived.Test.YtfnneillakdopacGreatRThrSZ
import Derived.Test.YtfnneillakdopacGreatREarSZ
set_option maxRecDepth 100000
set_option maxHeartbeats 32000000
namespace Go.Proofs.YtfnneillakdopacGreatR.WFnSafeTold
open _root_.Go.Proofs.Tryz
open Go.Value renaming int->I
open Go.IntKind renaming i64->U
open Go.RowKit Num
theorem walk_big (w:World) (ao:Option Addr) (len cap:Nat) (h:(1048576:Int) < len) :
  Calls prog 5 #[.slice ao len cap] w fun e w'=>e=.returned (.bool true)/\Be w w':=by
 go_enter func5,ntmps5;go_wp2;go_ret;exact ⟨rfl,br _ _⟩
theorem big_no (w:World) (ao:Option Addr) (len cap:Nat) (h:(len:Int)<=1048576) :
  Calls prog 7 #[.slice ao len cap] w fun e w'=>e=.returned (.bool false)/\w'=w:=by
 go_enter func7,ntmps7;go_wp2;go_ret;exact ⟨by simp;omega,rfl⟩
def Pk (y:World) (L:List (Nat × Array Value × TypeId)):Prop:=∀ e∈L,y.heap[e.1]?=some (.cells e.2.1 e.2.2 (0,0))
theorem Pk.more {y x:World} {L:List (Nat × Array Value × TypeId)} (h:Pk y L) (hb:Be y x):Pk x L:=fun e he=>(hb.block _ (Array.getElem?_eq_some_iff.1 (h e he)).1).trans (h e he)
theorem Pk.cons {y:World} {L:List (Nat × Array Value × TypeId)} {N:Nat} {A:Array Value} {T:TypeId} (h:Pk y L) (hk:y.heap[N]?=some (.cells A T (0,0))):Pk y ((N,A,T) :: L):=fun e he=>by
 rcases List.mem_cons.1 he with rfl | he
 ·exact hk
 ·exact h e he
theorem Pk.at {y:World} {L:List (Nat × Array Value × TypeId)} (h:Pk y L) (k:Nat) {N:Nat} {A:Array Value} {T:TypeId} (he:L[k]?=some (N,A,T)):y.heap[N]?=some (.cells A T (0,0)):=h _ (List.mem_of_getElem? he)
theorem enter_up (p:PE) (v:Int):p.view<=(yI p v).view:=by
 unfold yI
 split
 ·rename_i h
  exact Int.le_of_lt h.1
 ·exact Int.le_refl _
theorem walk (w:World) (ao:Option Addr) (len cap b off:Nat) (hc:Code w ao len b off) :
  Calls prog 5 #[.slice ao len cap] w fun e w'=>e=.returned (.bool true)/\Be w w':=by
 have HC:=hid hc;have bl:(len:Int)<=1048576:=by have:=hc.le;omega
 clear hc;go_enter func5,ntmps5;go_wp2_with fail
 refine (big_no w ao len cap bl).mono ?_;rintro e w0 ⟨rfl,hw⟩;obtain rfl:=hw.symm;clear hw;go_wp2_with fail
 refine (drawSafe_any HC).mono ?_;rintro e x1 ⟨va,qs,k,⟨q0,q1,q2,q3⟩,rfl,bj,bh,bo,hb⟩;unfold zBF;simp only;have a8:(qs.length:Int)<=1048576:=by have:=bj.2.1;rw [yO] at this;omega
 have ae:Hid (Be w x1/\Pk x1 []/\jB x1 va qs):=⟨hb,fun e he=>by simp at he,bh.read.q⟩;clear bj bh bo hb
 go_wp2_with (first
  | (refine w_st x1.heap.size #[I U q0,I U q1,I U q2,I U q3] (heap_alloc_new x1 _) (zEE _ _ _ _) ?_;intro y1 hg hk hz;have a:Be x1 y1:=yB hg;have y:=hid (qad3 (bt ae.1 a) ((ae.2.1.more a).cons hk) (ae.2.2.below a));clear hg hk hz a ae)
  | fail)
 obtain ⟨N1,aw⟩:=nw x1.heap.size;rw [<- aw] at y;rw [<- aw];clear aw;refine (drawEntered_any (HC.below y.1)).mono ?_;rintro e x2 ⟨p,t,n,rfl,o,hn,hD,hb⟩;have HP:=hid o;have bb:Hid ((zA p t).all (·.oneCell')=true):=zJ hD.1;have z:=hid (qad4 (bt y.1 hb) (y.2.1.more hb) (y.2.2.below hb) hD.reads);clear o hD hb y
 go_wp2_with (first
  | (refine w_st x2.heap.size (zA p t) (heap_alloc_new x2 _) bb ?_;intro y2 hg hk hz;have a:Be x2 y2:=yB hg;have v:=hid (qad4 (bt z.1 a) ((z.2.1.more a).cons hk) (z.2.2.1.below a) (z.2.2.2.below a));clear hg hk hz a z)
  | fail)
 obtain ⟨N2,au⟩:=nw x2.heap.size;rw [<- au] at v;rw [<- au];clear au;clear bb;refine (drawThrough_any (HC.below v.1)).mono ?_;rintro e x3 ⟨bs,vb,pb,tb,kb,rfl,aa,o,hT,hD,hb⟩;have r:=hid (qad2 aa o);have bd:Hid ((zA pb tb).all (·.oneCell')=true):=zJ hD.1;have s:=hid (qad6 (bt v.1 hb) (v.2.1.more hb) (v.2.2.1.below hb) (v.2.2.2.below hb) hT.read.q hD.reads);clear aa o hT hD hb v
 go_wp2_with (first
  | (refine w_st x3.heap.size (zA pb tb) (heap_alloc_new x3 _) bd ?_;intro y3 hg hk hz;have a:Be x3 y3:=yB hg;have j:=hid (qad6 (bt s.1 a) ((s.2.1.more a).cons hk) (s.2.2.1.below a) (s.2.2.2.1.below a) (s.2.2.2.2.1.below a) (s.2.2.2.2.2.below a));clear hg hk hz a s)
  | fail)
 obtain ⟨N3,ax⟩:=nw x3.heap.size;rw [<- ax] at j;rw [<- ax];clear ax;clear bd;refine (drawEarly_any (HC.below j.1)).mono ?_;rintro e x4 ⟨cs,vc,pc,tc,kc,rfl,aa,o,hT,hD,hb⟩;have l:=hid (qad2 aa o);have a9:Hid ((zA pc tc).all (·.oneCell')=true):=zJ hD.1;have i:Hid (Be w x4/\Pk x4 [(N3,zA pb tb,35),(N2,zA p t,35),(N1,#[I U q0,I U q1,I U q2,I U q3],26)]/\jB x4 va qs/\jS x4 p t/\jB x4 vb bs/\jS x4 pb tb/\jB x4 vc cs/\jS x4 pc tc):=⟨bt j.1 hb,j.2.1.more hb,j.2.2.1.below hb,j.2.2.2.1.below hb,j.2.2.2.2.1.below hb,j.2.2.2.2.2.below hb,hT.read.q,hD.reads⟩;clear aa o hT hD hb j
 go_wp2_with (first
  | (refine w_st x4.heap.size (zA pc tc) (heap_alloc_new x4 _) a9 ?_;intro y4 hg hk hz;have a:Be x4 y4:=yB hg;have f:Hid (Be w y4/\Pk y4 [(x4.heap.size,zA pc tc,35),(N3,zA pb tb,35),(N2,zA p t,35),(N1,#[I U q0,I U q1,I U q2,I U q3],26)]/\jB y4 va qs/\jS y4 p t/\jB y4 vb bs/\jS y4 pb tb/\jB y4 vc cs/\jS y4 pc tc):=⟨bt i.1 a,(i.2.1.more a).cons hk,i.2.2.1.below a,i.2.2.2.1.below a,i.2.2.2.2.1.below a,i.2.2.2.2.2.1.below a,i.2.2.2.2.2.2.1.below a,i.2.2.2.2.2.2.2.below a⟩;clear hg hk hz a i)
  | (refine w_ld N2 (f.2.1.at 2 rfl) underlying35 ?_))
 obtain ⟨N4,a3⟩:=nw x4.heap.size;rw [<- a3] at f;rw [<- a3];clear a3;clear a9;obtain ⟨R,hR⟩:=nw (yI p n);have HI:=enteredR_i p t n y4 f.2.2.2.1 HP.small;rw [<- hR] at HI;have aq:Hid (yC R/\p.view<=R.view/\yI p n=R):=hid (by rw [hR];exact ⟨zHA HP.small n,enter_up p n,rfl⟩);clear hR;refine HI.mono ?_;clear HI;rintro e x5 ⟨s5,rfl,ho,hb⟩;have bi:Hid ((zA R s5).all (·.oneCell')=true):=zJ ho.1;have h:Hid (Be w x5/\Pk x5 [(N4,zA pc tc,35),(N3,zA pb tb,35),(N2,zA p t,35),(N1,#[I U q0,I U q1,I U q2,I U q3],26)]/\jB x5 va qs/\jS x5 p t/\jB x5 vb bs/\jS x5 pb tb/\jB x5 vc cs/\jS x5 pc tc/\jS x5 R s5):=⟨bt f.1 hb,f.2.1.more hb,f.2.2.1.below hb,f.2.2.2.1.below hb,f.2.2.2.2.1.below hb,f.2.2.2.2.2.1.below hb,f.2.2.2.2.2.2.1.below hb,f.2.2.2.2.2.2.2.below hb,ho.reads⟩;clear ho hb f
 go_wp2_with (first
  | (refine w_st x5.heap.size (zA R s5) (heap_alloc_new x5 _) bi ?_;intro y5 hg hk hz;have a:Be x5 y5:=yB hg;have d:Hid (Be w y5/\Pk y5 [(x5.heap.size,zA R s5,35),(N4,zA pc tc,35),(N3,zA pb tb,35),(N2,zA p t,35),(N1,#[I U q0,I U q1,I U q2,I U q3],26)]/\jB y5 va qs/\jS y5 p t/\jB y5 vb bs/\jS y5 pb tb/\jB y5 vc cs/\jS y5 pc tc/\jS y5 R s5):=⟨bt h.1 a,(h.2.1.more a).cons hk,h.2.2.1.below a,h.2.2.2.1.below a,h.2.2.2.2.1.below a,h.2.2.2.2.2.1.below a,h.2.2.2.2.2.2.1.below a,h.2.2.2.2.2.2.2.1.below a,h.2.2.2.2.2.2.2.2.below a⟩;clear hg hk hz a h)
  | fail)
 obtain ⟨N5,an⟩:=nw x5.heap.size;rw [<- an] at d;rw [<- an];clear an;clear bi;have bp:=aq.2.1;obtain ⟨sb,a6⟩:=nw (yDA (bks qs) (q0,q1,q2,q3) k);have be:Hid (yDA (bks qs) (q0,q1,q2,q3) k=sb):=a6.symm;clear a6;refine xA (fun x=>Pk x [(N5,zA R s5,35),(N4,zA pc tc,35),(N3,zA pb tb,35),(N2,zA p t,35),(N1,#[I U q0,I U q1,I U q2,I U q3],26)]) (by kernel_rfl) ?_;show wpAnyH prog _ _ _ _ (45+1) (Array.replicate 46 false) _ _;have hS:Pk y5.drew [(N5,zA R s5,35),(N4,zA pc tc,35),(N3,zA pb tb,35),(N2,zA p t,35),(N1,#[I U q0,I U q1,I U q2,I U q3],26)]:=d.2.1.more (br _ _).drew;have az:Hid (Be y5 y5.drew):=(br _ _).drew;refine yJ 0 43 va hS ?_;refine yJ 1 44 (.agg #[I U q0,I U q1,I U q2,I U q3]) hS ?_ (hy:=fun x hx=>ldb N1 (hx.at 4 rfl) underlying26);refine yJ 2 45 (I U k) hS ?_;refine yJ 4 47 va hS ?_;refine yJ 5 48 (.agg #[I U q0,I U q1,I U q2,I U q3]) hS ?_ (hy:=fun x hx=>ldb N1 (hx.at 4 rfl) underlying26);refine yJ 6 49 (I U k) hS ?_;refine h_cl 3 46 28 #[va,.agg #[I U q0,I U q1,I U q2,I U q3],I U k] (((be.out ▸ safeBlockQ_i qs va (q0,q1,q2,q3) k y5.drew (d.2.2.1.below az) a8:Calls prog 28 #[va,.agg #[I U q0,I U q1,I U q2,I U q3],I U k] y5.drew fun e w'=>e=.returned (.bool sb)/\Below y5.drew.heap.size y5.drew w')).mono ?_);rintro e u1 ⟨rfl,hb⟩;have ar:Hid (Be y5 u1):=bt az hb;have a5:=hS.more hb;clear hb hS az;refine ⟨_,rfl,a5,?_⟩;simp only [pz];refine h_cl 7 50 29 #[va,.agg #[I U q0,I U q1,I U q2,I U q3],I U k] (((be.out ▸ safeBlock_s qs va (q0,q1,q2,q3) k u1 (d.2.2.1.below ar) a8:Calls prog 29 #[va,.agg #[I U q0,I U q1,I U q2,I U q3],I U k] u1 fun e w'=>e=.returned (.bool sb)/\Be u1 w')).mono ?_);rintro e u2 ⟨rfl,hb⟩;have a0:Hid (Be y5 u2):=bt ar hb;have m:=a5.more hb;clear hb a5 ar;refine ⟨_,rfl,m,?_⟩;simp only [pz];refine yJ 8 51 (.bool true) m ?_ (hy:=by intro x hx;go_simp;try simp);refine yJ 9 52 (.bool true) m ?_;refine yJ 10 53 (.agg (zA R s5)) m ?_ (hy:=fun x hx=>ldb N5 (hx.at 0 rfl) underlying35);refine yJ 11 54 (.agg (zA p t)) m ?_ (hy:=fun x hx=>ldb N2 (hx.at 3 rfl) underlying35);refine yJ 12 55 (I U n) m ?_;refine h_cl 13 56 30 #[yZ p t,I U n] (((aq.2.2 ▸ zCB p t n u2 (d.2.2.2.1.below a0) HP.out.small:Calls prog 30 #[yZ p t,I U n] u2 fun e w'=>∃ s',e=.returned (yZ R s')/\zO u2.heap.size w'.heap.size w' R s'/\Be u2 w')).mono ?_);rintro e u3 ⟨s6,rfl,ho,hb⟩;have a2:Hid (Be y5 u3):=bt a0 hb;have a1:=m.more hb;have bn:Hid (jS u3 R s6):=ho.reads;clear ho;clear hb m a0;refine ⟨_,rfl,a1,?_⟩;simp only [pz];refine h_cl 14 57 22 #[yZ R s5,yZ R s6] ((samePeer_yes R s5 s6 u3 (d.2.2.2.2.2.2.2.2.below a2) bn aq.1).mono ?_);rintro e u4 ⟨rfl,hb⟩;have af:Hid (Be y5 u4):=bt a2 hb;have c:=a1.more hb;clear hb a1 a2;refine ⟨_,rfl,c,?_⟩;simp only [pz];refine yJ 15 58 (.bool true) c ?_;refine yJ 16 59 (.bool true) c ?_;refine yJ 17 60 (.pointer (some ⟨N5,1,none⟩)) c ?_;refine yJ 18 61 (I U R.view) c ?_ (hy:=by intro x hx;have c1:=zB (hx.at 0 rfl) 1 (I U R.view) (rfl);go_simp;try rfl);refine yJ 19 62 (.pointer (some ⟨N2,1,none⟩)) c ?_;refine yJ 20 63 (I U p.view) c ?_ (hy:=by intro x hx;have c1:=zB (hx.at 3 rfl) 1 (I U p.view) (rfl);go_simp;try rfl);refine yJ 21 64 (.bool true) c ?_ (hy:=by intro x hx;go_simp;try simp;try omega);refine yJ 22 65 (.bool true) c ?_;refine yJ 23 66 (.bool true) c ?_;refine yJ 24 67 vb c ?_;refine yJ 25 68 (.agg (zA pb tb)) c ?_ (hy:=fun x hx=>ldb N3 (hx.at 2 rfl) underlying35);refine yJ 26 69 (I U kb) c ?_;refine yJ 28 71 vb c ?_;refine yJ 29 72 (.agg (zA pb tb)) c ?_ (hy:=fun x hx=>ldb N3 (hx.at 2 rfl) underlying35);refine yJ 30 73 (I U kb) c ?_;refine h_cl 27 70 15 #[vb,yZ pb tb,I U kb] ((throughR_i bs vb pb tb kb u4 (d.2.2.2.2.1.below af) r.1.ok (d.2.2.2.2.2.1.below af) r.2.small).mono ?_);rintro e u5 ⟨am,rfl,ho,hb⟩;have ac:Hid (Be y5 u5):=bt af hb;have a4:=c.more hb;have aj:Hid (jS u5 (kO (bks bs) pb kb) am):=ho.reads;clear ho;clear hb c af;refine ⟨_,rfl,a4,?_⟩;simp only [pz];refine h_cl 31 74 31 #[vb,yZ pb tb,I U kb] ((through_s bs vb pb tb kb u5 (d.2.2.2.2.1.below ac) r.1.ok (d.2.2.2.2.2.1.below ac) r.2.small).mono ?_);rintro e u6 ⟨bc,rfl,ho,hb⟩;have bg:Hid (Be y5 u6):=bt ac hb;have av:=a4.more hb;have ah:=hid (qad2 (aj.below hb) ho.reads);clear ho aj;clear hb a4 ac;refine ⟨_,rfl,av,?_⟩;simp only [pz];refine h_cl 32 75 22 #[yZ (kO (bks bs) pb kb) am,yZ (kO (bks bs) pb kb) bc] ((samePeer_yes (kO (bks bs) pb kb) am bc u6 ah.1 ah.2 (through_small r.2.small r.1.ok (by have:=r.2.len;have:=r.1.wt;omega))).mono ?_);rintro e u7 ⟨rfl,hb⟩;have ad:Hid (Be y5 u7):=bt bg hb;have g:=av.more hb;clear hb av bg;refine ⟨_,rfl,g,?_⟩;simp only [pz];refine yJ 33 76 (.bool true) g ?_;refine yJ 34 77 (.bool true) g ?_;refine yJ 35 78 vc g ?_;refine yJ 36 79 (.agg (zA pc tc)) g ?_ (hy:=fun x hx=>ldb N4 (hx.at 1 rfl) underlying35);refine yJ 37 80 (I U kc) g ?_;refine yJ 39 82 vc g ?_;refine yJ 40 83 (.agg (zA pc tc)) g ?_ (hy:=fun x hx=>ldb N4 (hx.at 1 rfl) underlying35);refine yJ 41 84 (I U kc) g ?_;refine h_cl 38 81 14 #[vc,yZ pc tc,I U kc] ((tooEarlyR_i cs vc pc tc kc u7 (d.2.2.2.2.2.2.1.below ad) l.1.ok (d.2.2.2.2.2.2.2.1.below ad) l.2.small).mono ?_);rintro e u8 ⟨ay,rfl,ho,hb⟩;have ag:Hid (Be y5 u8):=bt ad hb;have al:=g.more hb;have ak:Hid (jS u8 (yDF (bks cs) pc kc) ay):=ho.reads;clear ho;clear hb g ad;refine ⟨_,rfl,al,?_⟩;simp only [pz];refine h_cl 42 85 32 #[vc,yZ pc tc,I U kc] ((tooEarly_s cs vc pc tc kc u8 (d.2.2.2.2.2.2.1.below ag) l.1.ok (d.2.2.2.2.2.2.2.1.below ag) l.2.small).mono ?_);rintro e u9 ⟨bk,rfl,ho,hb⟩;have bf:Hid (Be y5 u9):=bt ag hb;have ap:=al.more hb;have ai:=hid (qad2 (ak.below hb) ho.reads);clear ho ak;clear hb al ag;refine ⟨_,rfl,ap,?_⟩;simp only [pz];refine h_cl 43 86 22 #[yZ (yDF (bks cs) pc kc) ay,yZ (yDF (bks cs) pc kc) bk] ((samePeer_yes (yDF (bks cs) pc kc) ay bk u9 ai.1 ai.2 (early_small l.2.small l.1.ok (by have:=l.2.len;have:=l.1.wt;omega))).mono ?_);rintro e bm ⟨rfl,hb⟩;have a7:Hid (Be y5 bm):=bt bf hb;have ab:=ap.more hb;clear hb ap bf;refine ⟨_,rfl,ab,?_⟩;simp only [pz];refine yJ 44 87 (.bool true) ab ?_;refine yJ 45 2 (.bool true) ab ?_;refine h_dn ?_;go_wp2;go_ret;exact ⟨rfl,bt d.1 a7⟩
end Go.Proofs.YtfnneillakdopacGreatR.WFnSafeTold
