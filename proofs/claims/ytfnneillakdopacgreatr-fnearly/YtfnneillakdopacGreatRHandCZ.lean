/-
  A text of ours: HandC.
-/
import Derived.Test.YtfnneillakdopacGreatRK1
import Derived.Test.YtfnneillakdopacGreatRK7
import Derived.Test.YtfnneillakdopacGreatRLokSZ
import Derived.Test.YtfnneillakdopacGreatRK3
set_option maxRecDepth 100000
set_option maxHeartbeats 32000000
namespace Go.Proofs.YtfnneillakdopacGreatR
open _root_.Go.Proofs.Tryz
open Go.RowKit Num
def mayHandB (c:CU) (l:LT):Bool:=qI c.tree c.n l && (qZ c l.1.2.1 && (qV c.said l.2.1 c.liars && (decide (l.1.1 ≠ 2) || qZ c l.2.2.2.2.2)))
def jM (c:CU) (l:LT):CU × Bool:=if mayHandB c l=true then (jV c [l],postB c [l]) else (c,false)
def qP (c:CU) (num:Int):Int:=if c.chain=true then 4 else 1+num % 3
structure handOk (c:CU):Prop where
 net:(c.net.length:Int)<=1048576
 n:0<=c.n/\c.n<=7
 ltree:(c.tree.length:Int)<=1048576
 said:(c.said.length:Int)<=1048576
theorem mayHand_s (c:CU) (s:CW) (l:LT) (w:World) (hR:ClusR w c s) (hk:handOk c) (hq:fitQ l.2.1) :
  Calls prog 224 #[clusV c s,.agg (zQ l)] w fun e w'=>e=.returned (.bool (mayHandB c l))/\Be w w':=by
 have HR:=hid hR;have HK:=hid hk;have HQ:=hid hq;obtain ⟨W,hW⟩:=nw ((w.alloc (.cells (zR c s) 124)).alloc (.cells (zQ l) 61));have HW:Hid (Be w W/\Bx W w.heap.size (zR c s) 124/\Bx W (w.heap.size+1) (zQ l) 61):=hid (by rw [hW];exact ⟨ba (ba (br _ _) _) _,qK w _ _⟩);clear hR hk hq;obtain ⟨B,hB⟩:=nw (mayHandB c l);have f:Hid (B=(qI c.tree c.n l && (qZ c l.1.2.1 && (qV c.said l.2.1 c.liars && (decide (l.1.1 ≠ 2) || qZ c l.2.2.2.2.2))))):=hB;rw [<- hB];clear hB;have c3:=zB HW.2.1 3 (s.treeV) rfl;have c0:=zB HW.2.1 0 (.int .i64 c.n) rfl;go_enter func224,ntmps224;go_wp2_with (first | (rw [<- hW];clear hW) | (refine qB (by first | rfl | simp [Region.wanted,yielded]) _ _ rfl (w.heap.size+1) rfl 61 _ (0,0) _ HW.2.2 underlying61 rfl (by kernel_rfl) ?_))
 clear c3 c0;refine (letterOk_s s.tree s.treeV c.n l W (HR.below HW.1).tree (by have:=HK.ltree;rw [<- HR.out.etree,yO] at this;exact this) HK.n.1 HK.n.2 HQ).mono ?_;rintro e w1 ⟨rfl,i⟩;rw [HR.out.etree];have d:=hid (qad3 (bt HW.1 i) (bk i HW.2.1) (bk i HW.2.2));clear i HW
 cases h1:qI c.tree c.n l with
 | false=>
  have HE:Hid (B=false):=hid (by rw [f.out,h1];rfl);go_wp2;go_ret;exact ⟨zL HE.symm,d.1⟩
 | true=>
  have l1:=zB d.2.2 1 (.int .i64 l.1.2.1) rfl;go_wp2_with (refine qB (by first | rfl | simp [Region.wanted,yielded]) _ _ rfl w.heap.size rfl 124 _ (0,0) _ d.2.1 underlying124 rfl (by kernel_rfl) ?_)
  clear l1;refine (yAI c s l.1.2.1 w1).mono ?_;rintro e w2 ⟨rfl,h⟩;have a:=hid (qad3 (bt d.1 h) (bk h d.2.1) (bk h d.2.2));clear h
  cases h2:qZ c l.1.2.1 with
  | false=>
   have HE:Hid (B=false):=hid (by rw [f.out,h1,h2];rfl);go_wp2;go_ret;exact ⟨zL HE.symm,a.1⟩
  | true=>
   have c6:=zB a.2.1 6 (s.said) rfl;have c2:=zB a.2.1 2 (.int .i64 c.liars) rfl;have l5:=zB a.2.2 5 (.int .i64 l.2.1.1) rfl;have l6:=zB a.2.2 6 (.int .i64 l.2.1.2.1) rfl;have l7:=zB a.2.2 7 (.int .i64 l.2.1.2.2.1) rfl;have l8:=zB a.2.2 8 (.int .i64 l.2.1.2.2.2) rfl;go_wp2_with fail
   clear c6 c2 l5 l6 l7 l8;refine (proven_s c.said s.said l.2.1 c.liars w2 (HR.said.below a.1) HK.said).mono ?_;rintro e w3 ⟨rfl,g⟩;have b:=hid (qad3 (bt a.1 g) (bk g a.2.1) (bk g a.2.2));clear g
   cases h3:qV c.said l.2.1 c.liars with
   | false=>
    have HE:Hid (B=false):=hid (by rw [f.out,h1,h2,h3];rfl);go_wp2;go_ret;exact ⟨zL HE.symm,b.1⟩
   | true=>
    have l0:=zB b.2.2 0 (.int .i64 l.1.1) rfl;have m:=zB b.2.2 12 (.int .i64 l.2.2.2.2.2) rfl
    by_cases h4:l.1.1=2
    ·have b4:(l.1.1 != 2)=false:=by simpa using h4
     have HE:Hid (B=qZ c l.2.2.2.2.2):=(by rw [f.out,h1,h2,h3];simp [h4]:B=_);clear h4;go_wp2_with (refine qB (by first | rfl | simp [Region.wanted,yielded]) _ _ rfl w.heap.size rfl 124 _ (0,0) _ b.2.1 underlying124 rfl (by kernel_rfl) ?_)
     refine (yAI c s l.2.2.2.2.2 w3).mono ?_;rintro e w4 ⟨rfl,j⟩;have k:Hid (Be w w4):=bt b.1 j;clear j;go_wp2;go_ret;exact ⟨zL HE.symm,k⟩
    ·have b4:(l.1.1 != 2)=true:=by simpa using h4
     have HE:Hid (B=true):=(by rw [f.out,h1,h2,h3];simp [h4]:B=_);clear h4;go_wp2;go_ret;exact ⟨zL HE.symm,b.1⟩
theorem post_no (c:CU) (s:CW) (N:Nat) {lo hi:Nat} (l:List LT) (lv:Value) (w:World) (hbox:Bx w N (zR c s) 124) (hown:xG lo hi w c s) (hl:yM w lv 13 yE l) (hroom:60 < c.net.length+l.length) (hk:(c.net.length:Int)<=1048576) (hl2:(l.length:Int)<=1048576) :
  Calls prog 191 #[.pointer (some ⟨N,0,none⟩),lv] w fun e w'=>e=.returned (.bool false)/\Be w w':=by
 obtain ⟨an,cn,en,-⟩:=yL hown.net;obtain ⟨al,cl,el,-⟩:=hl;have c5:=zB hbox 5 s.net rfl;rw [en] at c5;subst el;clear hbox hown en;have hr:(60:Int) < (c.net.length:Int)+(l.length:Int):=by omega
 go_enter func191,ntmps191;go_wp2;go_ret;exact ⟨rfl,br _ _⟩
theorem hand_p (c:CU) (s:CW) (N lo hi:Nat) (l:LT) (w:World) (hbox:Bx w N (zR c s) 124) (hown:xG lo hi w c s) (hlo:lo<=hi) (hk:handOk c) (hq:fitQ l.2.1) :
  Calls prog 199 #[.pointer (some ⟨N,0,none⟩),.agg (zQ l)] w fun e w'=>e=.returned (.bool (jM c l).2)/\∃ s',InB N lo w w' (jM c l).1 s'/\((jM c l).2=false->s'=s):=by
 have HI:Hid (InB N lo w w c s):=InB.start hbox hown;have m:Hid (lo<=w.heap.size):=Nat.le_trans hlo hown.size;have HK:=hid hk;have HQ:=hid hq;clear hbox hown hlo hk hq;obtain ⟨W,hW⟩:=nw (w.alloc (.cells (zQ l) 61))
 have HW:Hid (InB N lo w W c s/\Bx W w.heap.size (zQ l) 61):=(by
  have hb:Be w W:=by rw [hW];exact yA _ _
  exact ⟨HI.more hb,by rw [hW];exact heap_alloc_new w _⟩:_/\_)
 obtain ⟨R,hR⟩:=nw (jM c l);have HR:Hid (R=if mayHandB c l=true then (jV c [l],postB c [l]) else (c,false)):=hR;rw [<- hR];clear hR;go_enter func199,ntmps199
 go_upto_region 1 with (rw [<- hW];clear hW)
 try (rw [<- hW];clear hW)
 refine p_rg (fun _=>true) (fun x=>Bx x N (zR c s) 124/\Bx x w.heap.size (zQ l) 61) ?_;show zX prog _ _ _ _ _ (5+1) (Array.replicate 6 false) _ _;have hS:Bx W.drew N (zR c s) 124/\Bx W.drew w.heap.size (zQ l) 61:=⟨HW.1.box,HW.2⟩;refine p_pt 0 5 N 0 hS ?_;refine p_pt 1 6 N 0 hS ?_;refine zD 2 7 (.agg (zR c s)) hS ?_ (hy:=fun x hx=>ldb N hx.1 underlying124);refine zD 3 8 (.agg (zQ l)) hS ?_ (hy:=fun x hx=>ldb w.heap.size hx.2 underlying61);have d:=bw W;refine kJ 4 9 224 #[.agg (zR c s),.agg (zQ l)] ((mayHand_s c s l W.drew (HW.1.more d).own.reads HK HQ).mono ?_);rintro e w1 ⟨rfl,i⟩;have b:Be W w1:=d.trans i;have H1:=hid (qad2 (HW.1.more b) (bk b HW.2));clear i b d hS HW;refine ⟨_,rfl,fun _=>⟨H1.1.box,H1.2⟩,?_⟩;simp only [pz]
 cases hm:mayHandB c l with
 | false=>
  have HE:Hid (R=(c,false)):=(by rw [HR.out,hm];rfl:R=_);refine zD 5 10 (.bool true) ⟨H1.1.box,H1.2⟩ ?_;refine p_do ?_;go_wp2;go_ret;refine ⟨zL (by rw [HE.out]),s,?_,fun _=>rfl⟩;rw [HE.out];exact H1.out.1
 | true=>
  have HE:Hid (R=(jV c [l],postB c [l])):=(by rw [HR.out,hm];rfl:R=_);refine zD 5 10 (.bool false) ⟨H1.1.box,H1.2⟩ ?_;refine p_do ?_;obtain ⟨Y,hY⟩:=nw (w1.alloc (.cells (zQ l) 61))
  have HY:Hid (InB N lo w Y c s/\yM Y (.slice (some ⟨w1.heap.size,0,none⟩) 1 1) 13 yE [l]):=(by
   have j:Be w1 Y:=by rw [hY];exact yA _ _
   refine ⟨H1.1.more j,zW (xs:=[l]) xP (base:=w1.heap.size) (e:=61) ?_⟩;rw [hY]
   simpa [zE] using yCH (l:=l) (Nat.le_refl w1.heap.size):_/\_)
  unfold zQ at hY
  go_wp2_with (first
   | (refine w_ld w.heap.size H1.2 underlying61 ?_;unfold zQ)
   | (rw [<- hY]))
  by_cases hroom:60 < c.net.length+[l].length
  ·refine (post_no c s N [l] _ Y HY.1.box HY.1.own HY.2 hroom HK.net (by simp)).mono ?_;rintro e w3 ⟨rfl,g⟩;have n:Hid (InB N lo w w3 c s):=HY.1.more g;have a:Hid (R=(c,false)):=(by rw [HE.out];unfold jV postB;rw [if_pos hroom,decide_eq_true hroom];rfl:R=_);clear g;go_wp2;go_ret;refine ⟨zL (by rw [a.out]),s,?_,fun _=>rfl⟩;rw [a.out];exact n.out
  ·refine (post_p c s N lo Y.heap.size [l] _ Y HY.1.box HY.1.own (Nat.le_trans m HY.1.fr.size) HY.2 HK.net (by simp)).mono ?_;rintro e w3 ⟨rfl,s3,f⟩;have k:Hid (InB N lo w w3 (jV c [l]) s3):=HY.1.trans f;have a:Hid (R.2=true):=hid (by rw [HE.out];unfold postB;rw [decide_eq_false hroom];rfl);clear f;go_wp2;go_ret;refine ⟨zL (by rw [HE.out]),s3,?_,fun h=>by rw [a.out] at h;cases h⟩;rw [HE.out];exact k.out
theorem phase_s (c:CU) (s:CW) (num:Int) (w:World) (h0:0<=num) :
  Calls prog 201 #[clusV c s,.int .i64 num] w fun e w'=>e=.returned (.int .i64 (qP c num))/\Be w w':=by
 obtain ⟨W,hW⟩:=nw (w.alloc (.cells (zR c s) 124));have HB:Hid (Be w W):=hid (by rw [hW];exact ba (br _ _) _);have c1:W.cell? ⟨w.heap.size,1,none⟩=some (.bool c.chain):=zB (by rw [hW];exact heap_alloc_new w _) 1 (.bool c.chain) rfl;have hm:num.tmod 3=num % 3:=Int.tmod_eq_emod_of_nonneg h0;have a:0<=num % 3/\num % 3 < 3:=by omega
 cases hc:c.chain with
 | true=>
  have HE:Hid (qP c num=4):=if_pos hc;rw [hc] at c1;go_enter func201,ntmps201;go_wp2_with (rw [<- hW];clear hW)
  go_ret;exact ⟨jD HE.symm,HB⟩
 | false=>
  have HE:Hid (qP c num=1+num % 3):=if_neg (by rw [hc];decide);rw [hc] at c1;go_enter func201,ntmps201;go_wp2_with (rw [<- hW];clear hW)
  go_ret;exact ⟨jD (by rw [HE.out]),HB⟩
end Go.Proofs.YtfnneillakdopacGreatR
