/-
  The walk of the law.
-/
import Derived.Test.YtjdddcldbfhbiacGreatRK1
import Derived.Test.YtjdddcldbfhbiacGreatRK11
import Derived.Test.YtjdddcldbfhbiacGreatRK10
import Derived.Test.YtjdddcldbfhbiacGreatRK12
import Derived.Test.YtjdddcldbfhbiacGreatRLokS
set_option maxRecDepth 100000
set_option maxHeartbeats 32000000
namespace Go.Proofs.YtjdddcldbfhbiacGreatR.WFnVotesOnce
open Go.RowKit Num
theorem walk_big (w:World) (ao:Option Addr) (len cap:Nat) (h:(1048576:Int) < len) :
  Calls Tryz.prog 3 #[.slice ao len cap] w fun e w'=>e=.returned (.bool true)/\Below w.heap.size w w':=by
 go_enter Tryz.func3,Tryz.ntmps3
 go_wp2
 go_ret
 exact ⟨rfl,br _ _⟩
theorem big_no (w:World) (ao:Option Addr) (len cap:Nat) (h:(len:Int)<=1048576) :
  Calls Tryz.prog 7 #[.slice ao len cap] w fun e w'=>e=.returned (.bool false)/\w'=w:=by
 go_enter Tryz.func7,Tryz.ntmps7
 go_wp2
 go_ret
 exact ⟨by simp;omega,rfl⟩
structure VoB (y:World) (N4 N7 N8 N9:Nat) (A4 A7 A8 A9:Array Value):Prop where
 b4:Bx y N4 A4 35
 b7:Bx y N7 A7 35
 b8:Bx y N8 A8 28
 b9:Bx y N9 A9 35
theorem VoB.more {y x:World} {N4 N7 N8 N9:Nat} {A4 A7 A8 A9:Array Value} (h:VoB y N4 N7 N8 N9 A4 A7 A8 A9) (hb:Below y.heap.size y x):VoB x N4 N7 N8 N9 A4 A7 A8 A9:=
 ⟨(hb.block _ (gl h.b4)).trans h.b4,(hb.block _ (gl h.b7)).trans h.b7,(hb.block _ (gl h.b8)).trans h.b8,(hb.block _ (gl h.b9)).trans h.b9⟩
theorem may_no (p:PE) (F V:Int):zEG (yP p F V 7) F V=false:=by simp [zEG,yP]
theorem may_more (p:PE) (F V:Int):zEG (yP p F V 7) (F+1) V=true:=by
 show (decide (V < V) || (decide (V=V) && decide (F < F+1)))=true
 rw [decide_eq_true (show F < F+1 by omega)]
 simp
theorem may_next (p:PE) (F V:Int):zEG (yP p F V 7) 1 (V+1)=true:=by
 show (decide (V < V+1) || (decide (V=V+1) && decide (F < 1)))=true
 rw [decide_eq_true (show V < V+1 by omega)]
 rfl
theorem may_back (p:PE) (F V:Int):zEG (yP p F V 7) 4 (V - 1)=false:=by
 show (decide (V < V - 1) || (decide (V=V - 1) && decide (F < 4)))=false
 rw [decide_eq_false (show ¬ V < V - 1 by omega),decide_eq_false (show ¬ V=V - 1 by omega)]
 rfl
theorem walk (w:World) (ao:Option Addr) (len cap b off:Nat) (hc:Code w ao len b off) :
  Calls Tryz.prog 3 #[.slice ao len cap] w fun e w'=>e=.returned (.bool true)/\Below w.heap.size w w':=by
 have HC:=hid hc
 have hle:(len:Int)<=1048576:=by have:=hc.le;omega
 clear hc
 go_enter Tryz.func3,Tryz.ntmps3
 go_wp2_with fail
 refine (big_no w ao len cap hle).mono ?_
 rintro e w0 ⟨rfl,hw⟩
 obtain rfl:=hw.symm
 clear hw
 go_wp2_with fail
 refine (drawPeer_any HC.out).mono ?_
 rintro e x1 ⟨ps,v,p,t,rfl,-,hpp,-,hD,hb⟩
 have HP:=hid hpp
 have H1:Hid (Below w.heap.size w x1/\zO w.heap.size x1.heap.size x1 p t):=⟨hb,hD⟩
 clear hpp hD hb
 go_upto_region 4 with (refine zC rfl _ _ _ rfl x1.heap.size (zA p t) rfl rfl 35 zF (heap_alloc_new x1 _) (by kernel_rfl) rfl (zJ H1.out.2.1) ?_;intro y1 hg hk hz;have hb1:Below x1.heap.size x1 y1:=yB hg;have HY1:Hid (Below w.heap.size w y1/\jS y1 p t/\Bx y1 x1.heap.size (zA p t) 35):=⟨bt H1.out.1 hb1,(H1.out.2.below hb1).reads,hk⟩;clear hg hk hz hb1 H1)
 obtain ⟨N4,hN4⟩:∃ N4,N4=x1.heap.size:=⟨_,rfl⟩
 rw [<- hN4] at HY1 ⊢
 clear hN4
 refine xA (fun x=>Bx x N4 (zA p t) 35) (by kernel_rfl) ?_
 show wpAnyH Tryz.prog _ _ _ _ (8+1) (Array.replicate 9 false) _ _
 have hS:Bx y1.drew N4 (zA p t) 35:=HY1.out.2.2
 refine yJ 0 19 (.pointer (some ⟨N4,1,none⟩)) hS ?_
 refine yJ 1 20 (.int .i64 p.view) hS ?_ (hy:=by intro x hx;have c1:=zB hx 1 (.int .i64 p.view) rfl;go_simp;try with_reducible rfl)
 refine yJ 2 21 (.slice ao len cap) hS ?_
 refine h_cl 3 22 9 #[.slice ao len cap] ((drawPlaces_any (HC.out.below (HY1.out.1.trans (br _ _).drew))).mono ?_)
 rintro e x2 ⟨v2,xs,rfl,hxl,hxs,hown2,hb0⟩
 have hb2:Below y1.heap.size y1 x2:=((br _ _).drew).trans hb0
 obtain ⟨a2,c2,h4,hz⟩:=yL hown2
 subst h4
 obtain ⟨g2,rfl⟩:=hz (by omega)
 have hx0:=hxs (xs[0]'(by omega)) (List.getElem_mem _)
 have e0:x2.cell? ⟨g2,0,none⟩=some (.int .i64 (xs[0]'(by omega))):=by
  rw [(zDG hown2 0 (by omega)).1]
  have:=jY jG xs 0 (by omega) 0 (by omega)
  simpa [xJ] using this
 obtain ⟨n0,hn0⟩:∃ n,n=xs[0]'(by omega):=⟨_,rfl⟩
 rw [<- hn0] at e0 hx0
 have HX2:Hid (Below w.heap.size w x2/\jS x2 p t/\Bx x2 N4 (zA p t) 35):=⟨bt HY1.out.1 hb2,HY1.out.2.1.below hb2,(hb2.block _ (gl HY1.out.2.2)).trans HY1.out.2.2⟩
 have hx12:(xs.length:Int)=12:=by omega
 have HV:=HP.out.view
 clear hb0 hb2 hown2 hz hxs hn0 hS HY1
 refine ⟨_,rfl,HX2.out.2.2,?_⟩
 simp only [pz]
 refine h_run (s:=4) (e':=some 23) rfl rfl rfl (by kernel_rfl) (.pointer (some ⟨g2,0,none⟩)) x2 ?_ ⟨HX2.out.2.2,?_⟩
 ·go_simp
  try with_reducible rfl
 simp only [pz]
 refine h_run (s:=5) (e':=some 24) rfl rfl rfl (by kernel_rfl) (.int .i64 n0) x2 ?_ ⟨HX2.out.2.2,?_⟩
 ·go_simp
  try with_reducible rfl
 simp only [pz]
 refine h_run (s:=6) (e':=some 25) rfl rfl rfl (by kernel_rfl) (.int .i64 (n0 % 3)) x2 ?_ ⟨HX2.out.2.2,?_⟩
 ·go_simp
  exact Int.tmod_eq_emod_of_nonneg hx0.1
 simp only [pz]
 refine h_run (s:=7) (e':=some 26) rfl rfl rfl (by kernel_rfl) (.int .i64 (p.view+n0 % 3)) x2 ?_ ⟨HX2.out.2.2,?_⟩
 ·go_simp
  rw [IntKind.wrap_i64]
  omega
 simp only [pz]
 refine h_run (s:=8) (e':=some 5) rfl rfl rfl (by kernel_rfl) (.int .i64 (p.view+n0 % 3)) x2 ?_ ⟨HX2.out.2.2,?_⟩
 ·go_simp
  try with_reducible rfl
 simp only [pz]
 refine wpAnyH_done (by kernel_rfl) ?_ _
 obtain ⟨V,hV⟩:∃ V,V=p.view+n0 % 3:=⟨_,rfl⟩
 have hV0:0<=V/\V<=1000:=by omega
 rw [<- hV]
 clear hV e0 hx0 HV hx12 hxl
 go_wp2_with fail
 refine (drawPlaces_any (HC.out.below HX2.out.1)).mono ?_
 rintro e x3 ⟨v3,xs3,rfl,hxl,hxs,hown3,hb3⟩
 obtain ⟨a3,c3,h4,hz⟩:=yL hown3
 subst h4
 obtain ⟨g3,rfl⟩:=hz (by omega)
 have hx0:=hxs (xs3[1]'(by omega)) (List.getElem_mem _)
 have e0:x3.cell? ⟨g3,1,none⟩=some (.int .i64 (xs3[1]'(by omega))):=by
  rw [(zDG hown3 1 (by omega)).1]
  have:=jY jG xs3 1 (by omega) 0 (by omega)
  simpa [xJ] using this
 obtain ⟨n1,hn1⟩:∃ n,n=xs3[1]'(by omega):=⟨_,rfl⟩
 rw [<- hn1] at e0 hx0
 have HX3:Hid (Below w.heap.size w x3/\jS x3 p t/\Bx x3 N4 (zA p t) 35):=⟨bt HX2.out.1 hb3,HX2.out.2.1.below hb3,(hb3.block _ (gl HX2.out.2.2)).trans HX2.out.2.2⟩
 have hx12:(xs3.length:Int)=12:=by omega
 obtain ⟨F,hF⟩:∃ F,F=1+n1 % 3:=⟨_,rfl⟩
 have hF0:1<=F/\F<=3:=by omega
 clear hb3 hown3 hz hxs hn1 HX2
 go_wp2_with (refine wpList_load_row rfl _ _ rfl N4 rfl 35 _ (0,0) _ HX3.out.2.2 Tryz.underlying35 rfl (by kernel_rfl) ?_)
 rw [<- hF]
 clear hF e0 hx0 hx12 hxl
 refine (votedR_i p t F V 7 x3 HX3.out.2.1 (HP.out.small (by decide))).mono ?_
 obtain ⟨q,hq⟩:∃ q,q=yP p F V 7:=⟨_,rfl⟩
 rw [<- hq]
 have HQQ:=hid hq
 clear hq
 rintro e x4 ⟨s,rfl,hD,hb4⟩
 have HX4:Hid (Below w.heap.size w x4/\Bx x4 N4 (zA p t) 35):=⟨bt HX3.out.1 hb4,(hb4.block _ (gl HX3.out.2.2)).trans HX3.out.2.2⟩
 have HO4:Hid ((zA q s).all (·.oneCell')=true):=zJ hD.1
 clear hD hb4 HX3
 obtain ⟨W4,hW4⟩:∃ W4,W4=(x4.alloc (.cells zF 35)).alloc (.cells #[.int .i64 0,.int .i64 0,.int .i64 0,.int .i64 0] 28):=⟨_,rfl⟩
 have HA4:Hid (Bx W4 x4.heap.size zF 35/\Bx W4 (x4.heap.size+1) #[.int .i64 0,.int .i64 0,.int .i64 0,.int .i64 0] 28/\Below x4.heap.size x4 W4):=hid (by rw [hW4];exact ⟨(qK x4 _ _).1,(qK x4 _ _).2,ba (ba (br _ _) _) _⟩)
 unfold zF at hW4
 go_wp2_with (first
  | (rw [<- hW4];clear hW4;refine zC rfl _ _ _ rfl x4.heap.size (zA q s) rfl rfl 35 zF HA4.out.1 (by kernel_rfl) rfl HO4.out ?_;intro y4 hg hk hz;have HY4:Hid (Below w.heap.size w y4/\Bx y4 N4 (zA p t) 35/\Bx y4 x4.heap.size (zA q s) 35/\Bx y4 (x4.heap.size+1) #[.int .i64 0,.int .i64 0,.int .i64 0,.int .i64 0] 28):=(by
    have hlt:=(gl HX4.out.2)
    have hb5:Below w.heap.size w y4:=(bt HX4.out.1 HA4.out.2.2).grown hg (bt HX4.out.1 HA4.out.2.2).size (fun k hk=>by cases hk;exact HX4.out.1.size)
    exact ⟨hb5,(hg.block _ (Nat.lt_of_lt_of_le hlt HA4.out.2.2.size) (fun e=>by have:=Option.some.inj e;omega)).trans ((HA4.out.2.2.block _ hlt).trans HX4.out.2),hk,(hg.block _ (gl HA4.out.2.1) (fun e=>by have:=Option.some.inj e;omega)).trans HA4.out.2.1⟩:_/\_);clear hg hk hz HA4)
  | (refine zC rfl _ _ _ rfl (x4.heap.size+1) #[.int .i64 F,.int .i64 V,.int .i64 7,.int .i64 p.id] rfl rfl 28 #[.int .i64 0,.int .i64 0,.int .i64 0,.int .i64 0] HY4.out.2.2.2 (by kernel_rfl) rfl (by simp [Value.oneCell']) ?_;intro y5 hg hk hz;have HY5:Hid (Below w.heap.size w y5/\Bx y5 N4 (zA p t) 35/\Bx y5 x4.heap.size (zA q s) 35/\Bx y5 (x4.heap.size+1) #[.int .i64 F,.int .i64 V,.int .i64 7,.int .i64 p.id] 28):=(by
    have hlt:=(gl HX4.out.2)
    exact ⟨HY4.out.1.grown hg HY4.out.1.size (fun k hk=>by cases hk;have:=HX4.out.1.size;omega),(hg.block _ (gl HY4.out.2.1) (fun e=>by have:=Option.some.inj e;omega)).trans HY4.out.2.1,(hg.block _ (gl HY4.out.2.2.1) (fun e=>by have:=Option.some.inj e;omega)).trans HY4.out.2.2.1,hk⟩:_/\_);clear hg hk hz HY4))
 obtain ⟨N7,hN7⟩:∃ N7,N7=x4.heap.size:=⟨_,rfl⟩
 rw [<- hN7] at HY5 ⊢
 clear hN7 HX4 HO4
 refine (drawMayVote_any (HC.out.below HY5.out.1)).mono ?_
 rintro e x6 ⟨p9,t9,ph,vw,rfl,-,hD,hb6⟩
 have HX6:Hid (Below w.heap.size w x6/\Bx x6 N4 (zA p t) 35/\Bx x6 N7 (zA q s) 35/\Bx x6 (N7+1) #[.int .i64 F,.int .i64 V,.int .i64 7,.int .i64 p.id] 28):=⟨bt HY5.out.1 hb6,(hb6.block _ (gl HY5.out.2.1)).trans HY5.out.2.1,(hb6.block _ (gl HY5.out.2.2.1)).trans HY5.out.2.2.1,(hb6.block _ (gl HY5.out.2.2.2)).trans HY5.out.2.2.2⟩
 have HO9:Hid ((zA p9 t9).all (·.oneCell')=true):=zJ hD.1
 clear hD hb6 HY5
 go_upto_region 8 with (refine zC rfl _ _ _ rfl x6.heap.size (zA p9 t9) rfl rfl 35 zF (heap_alloc_new x6 _) (by kernel_rfl) rfl HO9.out ?_;intro y7 hg hk hz;have hb7:Below x6.heap.size x6 y7:=yB hg;have HY7:Hid (Below w.heap.size w y7/\VoB y7 N4 N7 (N7+1) x6.heap.size (zA p t) (zA q s) #[.int .i64 F,.int .i64 V,.int .i64 7,.int .i64 p.id] (zA p9 t9)):=⟨bt HX6.out.1 hb7,(hb7.block _ (gl HX6.out.2.1)).trans HX6.out.2.1,(hb7.block _ (gl HX6.out.2.2.1)).trans HX6.out.2.2.1,(hb7.block _ (gl HX6.out.2.2.2)).trans HX6.out.2.2.2,hk⟩;clear hg hk hz hb7 HX6 HO9)
 obtain ⟨N9,hN9⟩:∃ N9,N9=x6.heap.size:=⟨_,rfl⟩
 rw [<- hN9] at HY7 ⊢
 clear hN9
 have hq:=HQQ.out
 have HQ1:Hid (zEG q F V=false):=hid (by rw [hq];exact may_no p F V)
 have HQ2:Hid (zEG q (F+1) V=true):=hid (by rw [hq];exact may_more p F V)
 have HQ3:Hid (zEG q 1 (V+1)=true):=hid (by rw [hq];exact may_next p F V)
 have HQ4:Hid (zEG q 4 (V - 1)=false):=hid (by rw [hq];exact may_back p F V)
 have HQV:Hid (q.view=p.view):=hid (by rw [hq];rfl)
 have HQL:Hid (q.last=(F,V,7,p.id)):=hid (by rw [hq];rfl)
 obtain ⟨mm,hmm⟩:∃ mm,mm=zEG p9 ph vw:=⟨_,rfl⟩
 have HMM:Hid (zEG p9 ph vw=mm):=hmm.symm
 clear hq hmm HQQ
 have EV:=eqVt (F,V,7,p.id) (F,V,7,p.id)
 rw [decide_eq_true rfl] at EV
 simp only at EV
 have GV:=guardVt
 refine xA (fun x=>VoB x N4 N7 (N7+1) N9 (zA p t) (zA q s) #[.int .i64 F,.int .i64 V,.int .i64 7,.int .i64 p.id] (zA p9 t9)) (by kernel_rfl) ?_
 show wpAnyH Tryz.prog _ _ _ _ (61+1) (Array.replicate 62 false) _ _
 have hS:VoB y7.drew N4 N7 (N7+1) N9 (zA p t) (zA q s) #[.int .i64 F,.int .i64 V,.int .i64 7,.int .i64 p.id] (zA p9 t9):=HY7.out.2.more (br _ _).drew
 have HBY:Hid (Below w.heap.size w y7.drew):=bt HY7.out.1 (br _ _).drew
 refine yJ 0 46 (.pointer (some ⟨N7+1,3,none⟩)) hS ?_
 refine yJ 1 47 (.int .i64 p.id) hS ?_ (hy:=by intro x hx;have c1:=zB hx.b8 3 (.int .i64 p.id) rfl;go_simp;try with_reducible rfl)
 refine yJ 2 48 (.pointer (some ⟨N4,0,none⟩)) hS ?_
 refine yJ 3 49 (.int .i64 p.id) hS ?_ (hy:=by intro x hx;have c1:=zB hx.b4 0 (.int .i64 p.id) rfl;go_simp;try with_reducible rfl)
 refine yJ 4 50 (.bool true) hS ?_
 refine yJ 5 51 (.bool true) hS ?_
 refine yJ 6 52 (.pointer (some ⟨N7+1,2,none⟩)) hS ?_
 refine yJ 7 53 (.int .i64 7) hS ?_ (hy:=by intro x hx;have c1:=zB hx.b8 2 (.int .i64 7) rfl;go_simp;try with_reducible rfl)
 refine yJ 8 54 (.bool true) hS ?_
 refine yJ 9 55 (.bool true) hS ?_
 refine yJ 10 56 (.bool true) hS ?_
 refine yJ 11 57 (.pointer (some ⟨N7,10,none⟩)) hS ?_
 refine yJ 12 58 (.agg #[.int .i64 F,.int .i64 V,.int .i64 7,.int .i64 p.id]) hS ?_ (hy:=by intro x hx;have c0:=zB hx.b7 10 (.int .i64 F) (by simp [zA,HQL.out]);have c1:=zB hx.b7 11 (.int .i64 V) (by simp [zA,HQL.out]);have c2:=zB hx.b7 12 (.int .i64 7) (by simp [zA,HQL.out]);have c3:=zB hx.b7 13 (.int .i64 p.id) (by simp [zA,HQL.out]);go_simp;try with_reducible rfl)
 refine yJ 13 59 (.agg #[.int .i64 F,.int .i64 V,.int .i64 7,.int .i64 p.id]) hS ?_ (hy:=fun x hx=>zM _ _ rfl (N7+1) rfl _ _ _ _ hx.b8 Tryz.underlying28 rfl (by kernel_rfl))
 refine yJ 14 60 (.bool true) hS ?_ (hy:=by intro x hx;have e1:=EV x;go_simp;try with_reducible rfl)
 refine yJ 15 61 (.bool true) hS ?_
 refine yJ 16 62 (.bool true) hS ?_
 refine yJ 17 63 (.agg (zA q s)) hS ?_ (hy:=fun x hx=>zM _ _ rfl N7 rfl _ _ _ _ hx.b7 Tryz.underlying35 rfl (by kernel_rfl))
 refine yJ 18 64 (.int .i64 F) hS ?_
 refine yJ 19 65 (.int .i64 V) hS ?_
 refine h_cl 20 66 12 #[yZ q s,.int .i64 F,.int .i64 V] ((yAJ q s F V y7.drew).mono ?_)
 rw [HQ1.out]
 rintro e z1 ⟨rfl,hb⟩
 have HB1:Hid (Below w.heap.size w z1):=bt HBY.out hb
 have hS1:=hS.more hb
 clear hb hS HBY
 refine ⟨_,rfl,hS1,?_⟩
 simp only [pz]
 refine yJ 21 67 (.bool true) hS1 ?_
 refine yJ 22 68 (.bool true) hS1 ?_
 refine yJ 23 69 (.bool true) hS1 ?_
 refine yJ 24 70 (.agg (zA q s)) hS1 ?_ (hy:=fun x hx=>zM _ _ rfl N7 rfl _ _ _ _ hx.b7 Tryz.underlying35 rfl (by kernel_rfl))
 refine yJ 25 71 (.int .i64 F) hS1 ?_
 refine yJ 26 72 (.int .i64 (F+1)) hS1 ?_ (hy:=by intro x hx;go_simp;rw [IntKind.wrap_i64];omega)
 refine yJ 27 73 (.int .i64 V) hS1 ?_
 refine h_cl 28 74 12 #[yZ q s,.int .i64 (F+1),.int .i64 V] ((yAJ q s (F+1) V z1).mono ?_)
 rw [HQ2.out]
 rintro e z2 ⟨rfl,hb⟩
 have HB2:Hid (Below w.heap.size w z2):=bt HB1.out hb
 have hS2:=hS1.more hb
 clear hb hS1 HB1
 refine ⟨_,rfl,hS2,?_⟩
 simp only [pz]
 refine yJ 29 75 (.bool true) hS2 ?_
 refine yJ 30 76 (.bool true) hS2 ?_
 refine yJ 31 77 (.agg (zA q s)) hS2 ?_ (hy:=fun x hx=>zM _ _ rfl N7 rfl _ _ _ _ hx.b7 Tryz.underlying35 rfl (by kernel_rfl))
 refine yJ 32 78 (.int .i64 V) hS2 ?_
 refine yJ 33 79 (.int .i64 (V+1)) hS2 ?_ (hy:=by intro x hx;go_simp;rw [IntKind.wrap_i64];omega)
 refine h_cl 34 80 12 #[yZ q s,.int .i64 1,.int .i64 (V+1)] ((yAJ q s 1 (V+1) z2).mono ?_)
 rw [HQ3.out]
 rintro e z3 ⟨rfl,hb⟩
 have HB3:Hid (Below w.heap.size w z3):=bt HB2.out hb
 have hS3:=hS2.more hb
 clear hb hS2 HB2
 refine ⟨_,rfl,hS3,?_⟩
 simp only [pz]
 refine yJ 35 81 (.bool true) hS3 ?_
 refine yJ 36 82 (.bool true) hS3 ?_
 refine yJ 37 83 (.agg (zA q s)) hS3 ?_ (hy:=fun x hx=>zM _ _ rfl N7 rfl _ _ _ _ hx.b7 Tryz.underlying35 rfl (by kernel_rfl))
 refine yJ 38 84 (.int .i64 V) hS3 ?_
 refine yJ 39 85 (.int .i64 (V - 1)) hS3 ?_ (hy:=by intro x hx;go_simp;rw [IntKind.wrap_i64];omega)
 refine h_cl 40 86 12 #[yZ q s,.int .i64 4,.int .i64 (V - 1)] ((yAJ q s 4 (V - 1) z3).mono ?_)
 rw [HQ4.out]
 rintro e z4 ⟨rfl,hb⟩
 have HB4:Hid (Below w.heap.size w z4):=bt HB3.out hb
 have hS4:=hS3.more hb
 clear hb hS3 HB3
 refine ⟨_,rfl,hS4,?_⟩
 simp only [pz]
 refine yJ 41 87 (.bool true) hS4 ?_
 refine yJ 42 88 (.bool true) hS4 ?_
 refine yJ 43 89 (.bool true) hS4 ?_
 refine yJ 44 90 (.agg (zA p9 t9)) hS4 ?_ (hy:=fun x hx=>zM _ _ rfl N9 rfl _ _ _ _ hx.b9 Tryz.underlying35 rfl (by kernel_rfl))
 refine yJ 45 91 (.int .i64 ph) hS4 ?_
 refine yJ 46 92 (.int .i64 vw) hS4 ?_
 refine yJ 48 94 (.agg (zA p9 t9)) hS4 ?_ (hy:=fun x hx=>zM _ _ rfl N9 rfl _ _ _ _ hx.b9 Tryz.underlying35 rfl (by kernel_rfl))
 refine yJ 49 95 (.int .i64 ph) hS4 ?_
 refine yJ 50 96 (.int .i64 vw) hS4 ?_
 refine h_cl 47 93 12 #[yZ p9 t9,.int .i64 ph,.int .i64 vw] ((yAJ p9 t9 ph vw z4).mono ?_)
 rw [HMM.out]
 rintro e z5 ⟨rfl,hb⟩
 have HB5:Hid (Below w.heap.size w z5):=bt HB4.out hb
 have hS5:=hS4.more hb
 clear hb hS4 HB4
 refine ⟨_,rfl,hS5,?_⟩
 simp only [pz]
 refine h_cl 51 97 13 #[yZ p9 t9,.int .i64 ph,.int .i64 vw] ((yFB p9 t9 ph vw z5).mono ?_)
 rw [HMM.out]
 rintro e z6 ⟨rfl,hb⟩
 have HB6:Hid (Below w.heap.size w z6):=bt HB5.out hb
 have hS6:=hS5.more hb
 clear hb hS5 HB5
 refine ⟨_,rfl,hS6,?_⟩
 simp only [pz]
 refine yJ 52 98 (.bool true) hS6 ?_
 refine yJ 53 99 (.bool true) hS6 ?_
 refine yJ 54 100 (.bool true) hS6 ?_
 refine yJ 55 101 (.pointer (some ⟨N7,1,none⟩)) hS6 ?_
 refine yJ 56 102 (.int .i64 p.view) hS6 ?_ (hy:=by intro x hx;have c1:=zB hx.b7 1 (.int .i64 p.view) (by simp [zA,HQV.out]);go_simp;try with_reducible rfl)
 refine yJ 57 103 (.pointer (some ⟨N4,1,none⟩)) hS6 ?_
 refine yJ 58 104 (.int .i64 p.view) hS6 ?_ (hy:=by intro x hx;have c1:=zB hx.b4 1 (.int .i64 p.view) rfl;go_simp;try with_reducible rfl)
 refine yJ 59 105 (.bool true) hS6 ?_
 refine yJ 60 106 (.bool true) hS6 ?_
 refine yJ 61 2 (.bool true) hS6 ?_
 refine wpAnyH_done (by kernel_rfl) ?_ _
 go_wp2
 go_ret
 exact ⟨rfl,HB6.out⟩
end Go.Proofs.YtjdddcldbfhbiacGreatR.WFnVotesOnce
