/-
  A text of ours: HandC.
-/
import Derived.Test.YtdopefimjabigadGreatK1
import Derived.Test.YtdopefimjabigadGreatK7
import Derived.Test.YtdopefimjabigadGreatLokS
import Derived.Test.YtdopefimjabigadGreatK3
set_option maxRecDepth 100000
set_option maxHeartbeats 32000000
namespace Go.Proofs.YtdopefimjabigadGreat
open Go.RowKit Num
def mayHandB (c:CU) (l:LT):Bool:=qI c.tree c.n l && (qZ c l.1.2.1 && (qV c.said l.2.1 c.liars && (decide (l.1.1 ≠ 2) || qZ c l.2.2.2.2.2)))
def jM (c:CU) (l:LT):CU × Bool:=if mayHandB c l=true then (jV c [l],postB c [l]) else (c,false)
def lieView (c:CU) (k:Int):Int:=if 0<=k/\k<=(c.tree.length:Int) - 1 then yR c.tree k else 0
def yAH (c:CU) (i to' ph k:Int):LT:=((2,i,to',lieView c k,0),(0,0,0,0),(ph,lieView c k,k,i))
def qP (c:CU) (num:Int):Int:=if c.chain=true then 4 else 1+num % 3
structure handOk (c:CU):Prop where
 net:(c.net.length:Int)<=1048576
 n:0<=c.n/\c.n<=7
 ltree:(c.tree.length:Int)<=1048576
 said:(c.said.length:Int)<=1048576
theorem mayHand_s (c:CU) (s:CW) (l:LT) (w:World) (hR:ClusR w c s) (hk:handOk c) (hq:fitQ l.2.1) :
  Calls Tryz.prog 219 #[clusV c s,.agg (zQ l)] w fun e w'=>e=.returned (.bool (mayHandB c l))/\Below w.heap.size w w':=by
 have HR:=hid hR;have HK:=hid hk;have HQ:=hid hq;obtain ⟨W,hW⟩:∃ W,W=(w.alloc (.cells (zR c s) 90)).alloc (.cells (zQ l) 37):=⟨_,rfl⟩;have HW:Hid (Below w.heap.size w W/\Bx W w.heap.size (zR c s) 90/\Bx W (w.heap.size+1) (zQ l) 37):=hid (by rw [hW];exact ⟨ba (ba (br _ _) _) _,qK w _ _⟩);clear hR hk hq;obtain ⟨B,hB⟩:∃ B,B=mayHandB c l:=⟨_,rfl⟩;have HBB:Hid (B=(qI c.tree c.n l && (qZ c l.1.2.1 && (qV c.said l.2.1 c.liars && (decide (l.1.1 ≠ 2) || qZ c l.2.2.2.2.2))))):=hB;rw [<- hB];clear hB;have c3:=zB HW.out.2.1 3 (s.treeV) rfl;have c0:=zB HW.out.2.1 0 (.int .i64 c.n) rfl;go_enter Tryz.func219,Tryz.ntmps219;go_wp2_with (first | (rw [<- hW];clear hW) | (refine qB (by first | rfl | simp [Region.wanted,yielded]) _ _ rfl (w.heap.size+1) rfl 37 _ (0,0) _ HW.out.2.2 Tryz.underlying37 rfl (by kernel_rfl) ?_))
 clear c3 c0;refine (letterOk_s s.tree s.treeV c.n l W (HR.out.below HW.out.1).tree (by have:=HK.out.ltree;rw [<- HR.out.etree,yO] at this;exact this) HK.out.n.1 HK.out.n.2 HQ.out).mono ?_;rintro e w1 ⟨rfl,hb1⟩;rw [HR.out.etree];have Hw1:Hid (Below w.heap.size w w1/\Bx w1 w.heap.size (zR c s) 90/\Bx w1 (w.heap.size+1) (zQ l) 37):=⟨bt HW.out.1 hb1,(hb1.block _ (gl HW.out.2.1)).trans HW.out.2.1,(hb1.block _ (gl HW.out.2.2)).trans HW.out.2.2⟩;clear hb1 HW
 cases h1:qI c.tree c.n l with
 | false=>
  have HE:Hid (B=false):=hid (by rw [HBB.out,h1];rfl);go_wp2;go_ret;exact ⟨zL HE.out.symm,Hw1.out.1⟩
 | true=>
  have l1:=zB Hw1.out.2.2 1 (.int .i64 l.1.2.1) rfl;go_wp2_with (refine qB (by first | rfl | simp [Region.wanted,yielded]) _ _ rfl w.heap.size rfl 90 _ (0,0) _ Hw1.out.2.1 Tryz.underlying90 rfl (by kernel_rfl) ?_)
  clear l1;refine (yAI c s l.1.2.1 w1).mono ?_;rintro e w2 ⟨rfl,hb2⟩;have Hw2:Hid (Below w.heap.size w w2/\Bx w2 w.heap.size (zR c s) 90/\Bx w2 (w.heap.size+1) (zQ l) 37):=⟨bt Hw1.out.1 hb2,(hb2.block _ (gl Hw1.out.2.1)).trans Hw1.out.2.1,(hb2.block _ (gl Hw1.out.2.2)).trans Hw1.out.2.2⟩;clear hb2
  cases h2:qZ c l.1.2.1 with
  | false=>
   have HE:Hid (B=false):=hid (by rw [HBB.out,h1,h2];rfl);go_wp2;go_ret;exact ⟨zL HE.out.symm,Hw2.out.1⟩
  | true=>
   have c6:=zB Hw2.out.2.1 6 (s.said) rfl;have c2:=zB Hw2.out.2.1 2 (.int .i64 c.liars) rfl;have l5:=zB Hw2.out.2.2 5 (.int .i64 l.2.1.1) rfl;have l6:=zB Hw2.out.2.2 6 (.int .i64 l.2.1.2.1) rfl;have l7:=zB Hw2.out.2.2 7 (.int .i64 l.2.1.2.2.1) rfl;have l8:=zB Hw2.out.2.2 8 (.int .i64 l.2.1.2.2.2) rfl;go_wp2_with fail
   clear c6 c2 l5 l6 l7 l8;refine (proven_s c.said s.said l.2.1 c.liars w2 (HR.out.said.below Hw2.out.1) HK.out.said).mono ?_;rintro e w3 ⟨rfl,hb3⟩;have Hw3:Hid (Below w.heap.size w w3/\Bx w3 w.heap.size (zR c s) 90/\Bx w3 (w.heap.size+1) (zQ l) 37):=⟨bt Hw2.out.1 hb3,(hb3.block _ (gl Hw2.out.2.1)).trans Hw2.out.2.1,(hb3.block _ (gl Hw2.out.2.2)).trans Hw2.out.2.2⟩;clear hb3
   cases h3:qV c.said l.2.1 c.liars with
   | false=>
    have HE:Hid (B=false):=hid (by rw [HBB.out,h1,h2,h3];rfl);go_wp2;go_ret;exact ⟨zL HE.out.symm,Hw3.out.1⟩
   | true=>
    have l0:=zB Hw3.out.2.2 0 (.int .i64 l.1.1) rfl;have l12:=zB Hw3.out.2.2 12 (.int .i64 l.2.2.2.2.2) rfl
    by_cases h4:l.1.1=2
    ·have b4:(l.1.1 != 2)=false:=by simpa using h4
     have HE:Hid (B=qZ c l.2.2.2.2.2):=(by rw [HBB.out,h1,h2,h3];simp [h4]:B=_);clear h4;go_wp2_with (refine qB (by first | rfl | simp [Region.wanted,yielded]) _ _ rfl w.heap.size rfl 90 _ (0,0) _ Hw3.out.2.1 Tryz.underlying90 rfl (by kernel_rfl) ?_)
     refine (yAI c s l.2.2.2.2.2 w3).mono ?_;rintro e w4 ⟨rfl,hb4⟩;have HB4:Hid (Below w.heap.size w w4):=bt Hw3.out.1 hb4;clear hb4;go_wp2;go_ret;exact ⟨zL HE.out.symm,HB4.out⟩
    ·have b4:(l.1.1 != 2)=true:=by simpa using h4
     have HE:Hid (B=true):=(by rw [HBB.out,h1,h2,h3];simp [h4]:B=_);clear h4;go_wp2;go_ret;exact ⟨zL HE.out.symm,Hw3.out.1⟩
theorem post_no (c:CU) (s:CW) (N:Nat) {lo hi:Nat} (l:List LT) (lv:Value) (w:World) (hbox:Bx w N (zR c s) 90) (hown:xG lo hi w c s) (hl:yM w lv 13 yE l) (hroom:60 < c.net.length+l.length) (hk:(c.net.length:Int)<=1048576) (hl2:(l.length:Int)<=1048576) :
  Calls Tryz.prog 181 #[.pointer (some ⟨N,0,none⟩),lv] w fun e w'=>e=.returned (.bool false)/\Below w.heap.size w w':=by
 obtain ⟨an,cn,en,-⟩:=yL hown.net;obtain ⟨al,cl,el,-⟩:=hl;have c5:=zB hbox 5 s.net rfl;rw [en] at c5;subst el;clear hbox hown en;have hr:(60:Int) < (c.net.length:Int)+(l.length:Int):=by omega
 go_enter Tryz.func181,Tryz.ntmps181;go_wp2;go_ret;exact ⟨rfl,br _ _⟩
theorem hand_p (c:CU) (s:CW) (N lo hi:Nat) (l:LT) (w:World) (hbox:Bx w N (zR c s) 90) (hown:xG lo hi w c s) (hlo:lo<=hi) (hk:handOk c) (hq:fitQ l.2.1) :
  Calls Tryz.prog 188 #[.pointer (some ⟨N,0,none⟩),.agg (zQ l)] w fun e w'=>e=.returned (.bool (jM c l).2)/\∃ s',InB N lo w w' (jM c l).1 s'/\((jM c l).2=false->s'=s):=by
 have HI:Hid (InB N lo w w c s):=InB.start hbox hown;have HLO:Hid (lo<=w.heap.size):=Nat.le_trans hlo hown.size;have HK:=hid hk;have HQ:=hid hq;clear hbox hown hlo hk hq;obtain ⟨W,hW⟩:∃ W,W=w.alloc (.cells (zQ l) 37):=⟨_,rfl⟩
 have HW:Hid (InB N lo w W c s/\Bx W w.heap.size (zQ l) 37):=(by
  have hb:Below w.heap.size w W:=by rw [hW];exact yA _ _
  exact ⟨HI.out.more hb,by rw [hW];exact heap_alloc_new w _⟩:_/\_)
 obtain ⟨R,hR⟩:∃ R,R=jM c l:=⟨_,rfl⟩;have HR:Hid (R=if mayHandB c l=true then (jV c [l],postB c [l]) else (c,false)):=hR;rw [<- hR];clear hR;go_enter Tryz.func188,Tryz.ntmps188
 go_upto_region 1 with (rw [<- hW];clear hW)
 try (rw [<- hW];clear hW)
 refine zT (fun _=>true) (fun x=>Bx x N (zR c s) 90/\Bx x w.heap.size (zQ l) 37) (by kernel_rfl) ?_;show zX Tryz.prog _ _ _ _ _ (5+1) (Array.replicate 6 false) _ _;have hS:Bx W.drew N (zR c s) 90/\Bx W.drew w.heap.size (zQ l) 37:=⟨HW.out.1.box,HW.out.2⟩;refine zD 0 5 (.pointer (some ⟨N,0,none⟩)) hS ?_;refine zD 1 6 (.pointer (some ⟨N,0,none⟩)) hS ?_;refine zD 2 7 (.agg (zR c s)) hS ?_ (hy:=fun x hx=>zM _ _ rfl N rfl _ _ _ _ hx.1 Tryz.underlying90 rfl (by kernel_rfl));refine zD 3 8 (.agg (zQ l)) hS ?_ (hy:=fun x hx=>zM _ _ rfl w.heap.size rfl _ _ _ _ hx.2 Tryz.underlying37 rfl (by kernel_rfl));have hdd:Below W.heap.size W W.drew:=(br _ _).drew;refine kJ 4 9 219 #[.agg (zR c s),.agg (zQ l)] ((mayHand_s c s l W.drew (HW.out.1.more hdd).own.reads HK.out HQ.out).mono ?_);rintro e w1 ⟨rfl,hb0⟩;have hb1:Below W.heap.size W w1:=hdd.trans hb0;have H1:Hid (InB N lo w w1 c s/\Bx w1 w.heap.size (zQ l) 37):=⟨HW.out.1.more hb1,(hb1.block _ (gl HW.out.2)).trans HW.out.2⟩;clear hb0 hb1 hdd hS HW;refine ⟨_,rfl,fun _=>⟨H1.out.1.box,H1.out.2⟩,?_⟩;simp only [pz]
 cases hm:mayHandB c l with
 | false=>
  have HE:Hid (R=(c,false)):=(by rw [HR.out,hm];rfl:R=_);refine zD 5 10 (.bool true) ⟨H1.out.1.box,H1.out.2⟩ ?_;refine zK (by kernel_rfl) ?_ _;go_wp2;go_ret;refine ⟨zL (by rw [HE.out]),s,?_,fun _=>rfl⟩;rw [HE.out];exact H1.out.1
 | true=>
  have HE:Hid (R=(jV c [l],postB c [l])):=(by rw [HR.out,hm];rfl:R=_);refine zD 5 10 (.bool false) ⟨H1.out.1.box,H1.out.2⟩ ?_;refine zK (by kernel_rfl) ?_ _;obtain ⟨Y,hY⟩:∃ Y,Y=w1.alloc (.cells (zQ l) 37):=⟨_,rfl⟩
  have HY:Hid (InB N lo w Y c s/\yM Y (.slice (some ⟨w1.heap.size,0,none⟩) 1 1) 13 yE [l]):=(by
   have hby:Below w1.heap.size w1 Y:=by rw [hY];exact yA _ _
   refine ⟨H1.out.1.more hby,zW (xs:=[l]) xP (base:=w1.heap.size) (e:=37) ?_⟩;rw [hY]
   simpa [zE] using yCH (l:=l) (Nat.le_refl w1.heap.size):_/\_)
  unfold zQ at hY
  go_wp2_with (first
   | (refine w_ld w.heap.size H1.out.2 Tryz.underlying37 ?_;unfold zQ)
   | (rw [<- hY]))
  by_cases hroom:60 < c.net.length+[l].length
  ·refine (post_no c s N [l] _ Y HY.out.1.box HY.out.1.own HY.out.2 hroom HK.out.net (by simp)).mono ?_;rintro e w3 ⟨rfl,hb3⟩;have HB3:Hid (InB N lo w w3 c s):=HY.out.1.more hb3;have HE2:Hid (R=(c,false)):=(by rw [HE.out];unfold jV postB;rw [if_pos hroom,decide_eq_true hroom];rfl:R=_);clear hb3;go_wp2;go_ret;refine ⟨zL (by rw [HE2.out]),s,?_,fun _=>rfl⟩;rw [HE2.out];exact HB3.out
  ·refine (post_p c s N lo Y.heap.size [l] _ Y HY.out.1.box HY.out.1.own (Nat.le_trans HLO.out HY.out.1.fr.size) HY.out.2 HK.out.net (by simp)).mono ?_;rintro e w3 ⟨rfl,s3,hin⟩;have HIN:Hid (InB N lo w w3 (jV c [l]) s3):=HY.out.1.trans hin;have HE2:Hid (R.2=true):=hid (by rw [HE.out];unfold postB;rw [decide_eq_false hroom];rfl);clear hin;go_wp2;go_ret;refine ⟨zL (by rw [HE.out]),s3,?_,fun h=>by rw [HE2.out] at h;cases h⟩;rw [HE.out];exact HIN.out
theorem phase_s (c:CU) (s:CW) (num:Int) (w:World) (h0:0<=num) :
  Calls Tryz.prog 190 #[clusV c s,.int .i64 num] w fun e w'=>e=.returned (.int .i64 (qP c num))/\Below w.heap.size w w':=by
 obtain ⟨W,hW⟩:∃ W,W=w.alloc (.cells (zR c s) 90):=⟨_,rfl⟩;have HB:Hid (Below w.heap.size w W):=hid (by rw [hW];exact ba (br _ _) _);have c1:W.cell? ⟨w.heap.size,1,none⟩=some (.bool c.chain):=zB (by rw [hW];exact heap_alloc_new w _) 1 (.bool c.chain) rfl;have hm:num.tmod 3=num % 3:=Int.tmod_eq_emod_of_nonneg h0;have hmb:0<=num % 3/\num % 3 < 3:=by omega
 cases hc:c.chain with
 | true=>
  have HE:Hid (qP c num=4):=if_pos hc;rw [hc] at c1;go_enter Tryz.func190,Tryz.ntmps190;go_wp2_with (rw [<- hW];clear hW)
  go_ret;exact ⟨jD HE.out.symm,HB.out⟩
 | false=>
  have HE:Hid (qP c num=1+num % 3):=if_neg (by rw [hc];decide);rw [hc] at c1;go_enter Tryz.func190,Tryz.ntmps190;go_wp2_with (rw [<- hW];clear hW)
  go_ret;exact ⟨jD (by rw [HE.out]),HB.out⟩
end Go.Proofs.YtdopefimjabigadGreat
