/-
  A text of ours: LieC.
-/
import Derived.Test.YtfnneillakdopacGreatRK1
import Derived.Test.YtfnneillakdopacGreatRLieBCZ
import Derived.Test.YtfnneillakdopacGreatRK8
set_option maxRecDepth 100000
set_option maxHeartbeats 32000000
namespace Go.Proofs.YtfnneillakdopacGreatR
open _root_.Go.Proofs.Tryz
open Go.Value renaming int->I,oneCell'->Ac
open Go.IntKind renaming i64->U
open Nat renaming le_trans->Aa
open _root_.Array renaming replicate->Ab
open Go.RowKit Num
theorem lie_p (c:CU) (s:CW) (N lo hi:Nat) (e:EV) (w:World) (hbox:Bx w N (zR c s) 124) (hown:xG lo hi w c s) (hlo:lo<=hi) (hok:lieOk c) (hn:0<=e.num) (hc:(e.cmd.2.1.size:Int)<=1048576) :
  Calls prog 169 #[.pointer (some ⟨N,0,none⟩),.agg (evA e)] w fun r w'=>r=.returned (.bool (lieC c e).2)/\∃ s',InB N lo w w' (lieC c e).1 s':=by
 have ar:Hid (lo<=w.heap.size):=Aa hlo hown.size;have d:=hid hok;have bn:=hid hc;obtain ⟨W,hW⟩:=nw (w.alloc (.cells (evA e) 172))
 have HW:Hid (PtE w W N lo c s e):=(by
  have hb:Be w W:=by rw [hW];exact yA _ _
  exact ⟨(InB.start hbox hown).more hb,by rw [hW];exact heap_alloc_new w _⟩:PtE _ _ _ _ _ _ _)
 clear hbox hown hlo hok hc;obtain ⟨R,hR⟩:=nw (lieC c e);have HR:Hid (R=lieC c e):=hR;rw [<- hR];clear hR;have bq:=d.one;have bv:=d.ltree;obtain ⟨K,hK⟩:=nw (yBJ c e);have bg:Hid (K=yBJ c e/\e.num.tmod (c.tree.length:Int)=K):=⟨hK,by rw [hK];unfold yBJ;exact Int.tmod_eq_emod_of_nonneg hn⟩;clear hK;obtain ⟨at',ct,et,-⟩:=HW.inb.own.reads.viewCell;have a0:Hid (s.treeV=.slice at' c.tree.length ct):=et;clear et;have bo:¬ (c.tree.length:Int)=0:=by omega
 have a5:¬ c.tree.length=0:=by omega
 have bp:((c.tree.length:Int) == 0)=false:=by simpa using a5
 go_enter func169,ntmps169
 go_upto_region 1 with (rw [<- hW];clear hW)
 try (rw [<- hW];clear hW)
 cases ag:qZ c e.at' with
 | false=>
  have HE:Hid (R=(c,false)):=(by rw [HR.out];exact if_pos (Or.inr ag):R=_);refine p_rg (fun _=>true) (fun x=>Bx x N (zR c s) 124/\Bx x w.heap.size (evA e) 172) ?_;show zX prog _ _ _ _ _ (14+1) (Ab 15 false) _ _;have KP:∀ y,Be W y->Bx y N (zR c s) 124/\Bx y w.heap.size (evA e) 172:=fun y hb=>⟨(HW.more hb).inb.box,(HW.more hb).box⟩
  have f:=bw W;have hS:=KP W.drew f;refine p_pt 0 8 N 0 hS ?_;refine p_pt 1 9 N 0 hS ?_;refine p_pt 2 10 N 3 hS ?_;refine zD 3 11 (.slice at' c.tree.length ct) hS ?_ (hy:=by intro x hx;have c3:=zB hx.1 3 s.treeV rfl;rw [a0.out] at c3;go_simp;try rfl);refine zD 4 12 (I U (c.tree.length:Int)) hS ?_;refine zD 5 13 (.bool false) hS ?_;refine zD 6 14 (.bool false) hS ?_;refine p_pt 7 15 N 0 hS ?_;refine p_pt 8 16 N 0 hS ?_;refine zD 9 17 (.agg (zR c s)) hS ?_ (hy:=fun x hx=>ldb N hx.1 underlying124);refine p_pt 10 18 w.heap.size 1 hS ?_;refine zD 11 19 (I U e.at') hS ?_ (hy:=by intro x hx;have l1:=zB hx.2 1 (I U e.at') rfl;go_simp;try rfl);refine kJ 12 20 170 #[.agg (zR c s),I U e.at'] ((yAI c s e.at' W.drew).mono ?_);rintro r X0 ⟨rfl,z⟩;have g:Be W X0:=bt f z;refine ⟨_,rfl,fun _=>KP X0 g,?_⟩;simp only [pz];rw [ag];refine zD 13 21 (.bool true) (KP X0 g) ?_;refine zD 14 22 (.bool true) (KP X0 g) ?_;refine p_do ?_;have ad:Hid (PtE w X0 N lo c s e):=HW.more g;clear hS KP f z g HW;go_wp2;go_ret;refine ⟨zL (by rw [HE.out]),s,?_⟩;rw [HE.out];exact ad.out.inb
 | true=>
  have aa:Hid (R=if e.kind=8 then jM c (yAH c e.at' e.to' (qP c e.num) K) else if e.kind=9 then (if (qM c (qP c e.num) K).2=true then jM c ((3,e.at',e.to',(qM c (qP c e.num) K).1.2.1,0),(qM c (qP c e.num) K).1,(0,0,0,0)) else (c,false)) else if e.kind=10 then zBC c e else jM c ((4,e.at',e.to',e.num % 900+1,0),(0,0,0,0),(0,0,0,0))):=(by
   rw [HR.out,bg.out.1];unfold lieC
   rw [if_neg (fun h=>h.elim a5 (fun h=>by rw [ag] at h;cases h))]:R=_)
  clear HR;refine p_rg (fun _=>true) (fun x=>Bx x N (zR c s) 124/\Bx x w.heap.size (evA e) 172) ?_;show zX prog _ _ _ _ _ (14+1) (Ab 15 false) _ _;have KP:∀ y,Be W y->Bx y N (zR c s) 124/\Bx y w.heap.size (evA e) 172:=fun y hb=>⟨(HW.more hb).inb.box,(HW.more hb).box⟩
  have f:=bw W;have hS:=KP W.drew f;refine p_pt 0 8 N 0 hS ?_;refine p_pt 1 9 N 0 hS ?_;refine p_pt 2 10 N 3 hS ?_;refine zD 3 11 (.slice at' c.tree.length ct) hS ?_ (hy:=by intro x hx;have c3:=zB hx.1 3 s.treeV rfl;rw [a0.out] at c3;go_simp;try rfl);refine zD 4 12 (I U (c.tree.length:Int)) hS ?_;refine zD 5 13 (.bool false) hS ?_;refine zD 6 14 (.bool false) hS ?_;refine p_pt 7 15 N 0 hS ?_;refine p_pt 8 16 N 0 hS ?_;refine zD 9 17 (.agg (zR c s)) hS ?_ (hy:=fun x hx=>ldb N hx.1 underlying124);refine p_pt 10 18 w.heap.size 1 hS ?_;refine zD 11 19 (I U e.at') hS ?_ (hy:=by intro x hx;have l1:=zB hx.2 1 (I U e.at') rfl;go_simp;try rfl);refine kJ 12 20 170 #[.agg (zR c s),I U e.at'] ((yAI c s e.at' W.drew).mono ?_);rintro r X0 ⟨rfl,z⟩;have g:Be W X0:=bt f z;refine ⟨_,rfl,fun _=>KP X0 g,?_⟩;simp only [pz];rw [ag];refine zD 13 21 (.bool false) (KP X0 g) ?_;refine zD 14 22 (.bool false) (KP X0 g) ?_;refine p_do ?_;have ad:Hid (PtE w X0 N lo c s e):=HW.more g;clear hS KP f z g HW;clear ag bp
  go_upto_region 3 with fail
  refine p_rg (fun _=>true) (fun x=>Bx x N (zR c s) 124/\Bx x w.heap.size (evA e) 172) ?_;show zX prog _ _ _ _ _ (8+1) (Ab 9 false) _ _;have KP:∀ y,Be X0 y->Bx y N (zR c s) 124/\Bx y w.heap.size (evA e) 172:=fun y hb=>⟨(ad.more hb).inb.box,(ad.more hb).box⟩
  have f:=bw X0;have hS:=KP X0.drew f;refine p_pt 0 23 w.heap.size 3 hS ?_;refine zD 1 24 (I U e.num) hS ?_ (hy:=by intro x hx;have l3:=zB hx.2 3 (I U e.num) rfl;go_simp;try rfl);refine p_pt 2 25 N 0 hS ?_;refine p_pt 3 26 N 0 hS ?_;refine p_pt 4 27 N 3 hS ?_;refine zD 5 28 (.slice at' c.tree.length ct) hS ?_ (hy:=by intro x hx;have c3:=zB hx.1 3 s.treeV rfl;rw [a0.out] at c3;go_simp;try rfl);refine zD 6 29 (I U (c.tree.length:Int)) hS ?_;refine zD 7 30 (I U K) hS ?_ (hy:=by intro x hx;have bz:=bg.2;go_simp;try rfl);refine zD 8 5 (I U K) hS ?_;refine p_do ?_;obtain ⟨X1,a2⟩:=nw X0.drew;have b:Hid (PtE w X1 N lo c s e):=(by rw [a2];exact ad.out.more f:PtE _ _ _ _ _ _ _);rw [<- a2];clear hS KP f a2 ad bo a5;have l0:=zB b.box 0 (I U e.kind) rfl
  by_cases k8:e.kind=8
  ·have b8:(e.kind == 8)=true:=by simpa using k8
   have HE:Hid (R=jM c (yAH c e.at' e.to' (qP c e.num) K)):=(by rw [aa.out,if_pos k8]:R=_);clear k8 aa
   go_upto_region 6 with fail
   clear l0 b8;refine p_rg (fun i=>decide (i < 16)) (fun x=>Bx x N (zR c s) 124/\Bx x w.heap.size (evA e) 172) ?_;show zX prog _ _ _ _ _ (17+1) (Ab 18 false) _ _;have KP:∀ y,Be X1 y->Bx y N (zR c s) 124/\Bx y w.heap.size (evA e) 172:=fun y hb=>⟨(b.more hb).inb.box,(b.more hb).box⟩
   have f:=bw X1;have hS:=KP X1.drew f;refine p_pt 0 35 N 0 hS ?_;refine p_pt 1 36 N 0 hS ?_;refine p_pt 2 37 N 0 hS ?_;refine zD 3 38 (.agg (zR c s)) hS ?_ (hy:=fun x hx=>ldb N hx.1 underlying124);refine p_pt 4 39 w.heap.size 1 hS ?_;refine zD 5 40 (I U e.at') hS ?_ (hy:=by intro x hx;have l1:=zB hx.2 1 (I U e.at') rfl;go_simp;try rfl);refine p_pt 6 41 w.heap.size 2 hS ?_;refine zD 7 42 (I U e.to') hS ?_ (hy:=by intro x hx;have l2:=zB hx.2 2 (I U e.to') rfl;go_simp;try rfl);refine p_pt 8 43 N 0 hS ?_;refine p_pt 9 44 N 0 hS ?_;refine zD 10 45 (.agg (zR c s)) hS ?_ (hy:=fun x hx=>ldb N hx.1 underlying124);refine p_pt 11 46 w.heap.size 3 hS ?_;refine zD 12 47 (I U e.num) hS ?_ (hy:=by intro x hx;have l3:=zB hx.2 3 (I U e.num) rfl;go_simp;try rfl);refine zD 14 49 (I U K) hS ?_;refine kJ 13 48 201 #[.agg (zR c s),I U e.num] ((phase_s c s e.num X1.drew hn).mono ?_);rintro r y1 ⟨rfl,bf⟩;have am:Be X1 y1:=bt f bf;refine ⟨_,rfl,fun _=>KP y1 am,?_⟩;simp only [pz];obtain ⟨PH,ae⟩:=nw (qP c e.num);rw [<- ae] at HE ⊢;clear ae;refine kJ 15 50 200 #[.agg (zR c s),I U e.at',I U e.to',I U PH,I U K] ((lieVote_s c s e.at' e.to' PH K y1 (b.more am).inb.own.reads (by have:=d.ltree;omega)).mono ?_);rintro r y2 ⟨rfl,bh⟩;have ay:Be X1 y2:=bt am bh;refine ⟨_,rfl,fun _=>KP y2 ay,?_⟩;simp only [pz];have au:Hid (PtE w y2 N lo c s e):=b.more ay;refine kJ 16 51 199 #[.pointer (some ⟨N,0,none⟩),.agg (zQ (yAH c e.at' e.to' PH K))] ((hand_p c s N lo y2.heap.size (yAH c e.at' e.to' PH K) y2 au.inb.box au.inb.own (Aa ar au.inb.fr.size) d.hand ⟨by show (-9223372036854775808:Int)<=0;decide,by show (0:Int)<=9223372036854775807;decide⟩).mono ?_);rintro r y3 ⟨rfl,s3,u,-⟩;have ac:Hid (InB N lo w y3 R.1 s3):=(by rw [HE.out];exact au.out.inb.trans u:InB _ _ _ _ _ _);refine ⟨_,rfl,fun h=>absurd h (by decide),?_⟩;simp only [pz];rw [<- HE.out];refine p_pu 17 4 (.bool R.2) ?_ ?_
   ·intro x hx;go_simp
    try rfl
   simp only [pz];refine p_do ?_;go_wp2;go_ret;exact ⟨rfl,s3,ac⟩
  ·have b8:(e.kind == 8)=false:=by simpa using k8
   by_cases k9:e.kind=9
   ·have b9:(e.kind == 9)=true:=by simpa using k9
    have HE:Hid (R=if (qM c (qP c e.num) K).2=true then jM c ((3,e.at',e.to',(qM c (qP c e.num) K).1.2.1,0),(qM c (qP c e.num) K).1,(0,0,0,0)) else (c,false)):=(by rw [aa.out,if_neg k8,if_pos k9]:R=_);obtain ⟨PH,ae⟩:=nw (qP c e.num);obtain ⟨Q,hQ⟩:=nw (qM c PH K);have HQ:Hid (qM c PH K=Q/\fitQ Q.1/\qP c e.num=PH):=⟨hQ.symm,by rw [hQ];exact lieQc_fit _ _ _,ae.symm⟩;rw [<- ae,<- hQ] at HE;clear k8 k9 aa ae hQ
    go_upto_region 8 with fail
    clear l0 b8 b9
    go_cut [6,7] (fun v6 v7 wx=>∃ g6,v6=.pointer (some ⟨g6,0,none⟩)/\v7=.bool Q.2/\PtE w wx N lo c s e/\Bx wx g6 #[I U Q.1.1,I U Q.1.2.1,I U Q.1.2.2.1,I U Q.1.2.2.2] 26)
    case first=>
     refine p_rg (fun _=>true) (fun x=>Bx x N (zR c s) 124/\Bx x w.heap.size (evA e) 172) ?_;show zX prog _ _ _ _ _ (16+1) (Ab 17 false) _ _;have KP:∀ y,Be X1 y->Bx y N (zR c s) 124/\Bx y w.heap.size (evA e) 172:=fun y hb=>⟨(b.more hb).inb.box,(b.more hb).box⟩
     have f:=bw X1;have hS:=KP X1.drew f;refine p_pt 0 55 N 0 hS ?_;refine p_pt 1 56 N 0 hS ?_;refine zD 2 57 (.agg (zR c s)) hS ?_ (hy:=fun x hx=>ldb N hx.1 underlying124);refine p_pt 3 58 N 0 hS ?_;refine p_pt 4 59 N 0 hS ?_;refine zD 5 60 (.agg (zR c s)) hS ?_ (hy:=fun x hx=>ldb N hx.1 underlying124);refine p_pt 6 61 w.heap.size 3 hS ?_;refine zD 7 62 (I U e.num) hS ?_ (hy:=by intro x hx;have l3:=zB hx.2 3 (I U e.num) rfl;go_simp;try rfl);refine zD 9 64 (I U K) hS ?_;refine zFC (i:=8) (j:=14) (by kernel_rfl) ?_ ?_
     ·refine zEA (s:=8) (e':=some 63) (fn:=201) (args:=#[.agg (zR c s),I U e.num]) rfl rfl (by rfl) ?_ ((phase_s c s e.num X1.drew hn).mono ?_)
      ·go_simp
       try rfl
      rintro r v ⟨rfl,a3⟩;have p:Be X1 v:=bt f a3;refine ⟨_,rfl,fun _=>KP v p,?_⟩;simp only [pz];rw [HQ.out.2.2];refine zFC (i:=10) (j:=14) (by kernel_rfl) ?_ ?_
      ·have a:=lieQc_s c s PH K v (b.more p).inb.own.reads (by have:=d.ltree;omega) d.said d.n.1 (by have:=d.n.2;omega);rw [HQ.out.1] at a;unfold zBF at a;refine zEA (s:=10) (e':=some 65) (fn:=202) (args:=#[.agg (zR c s),I U PH,I U K]) rfl rfl (by rfl) ?_ ((a).mono ?_)
       ·go_simp
        try rfl
       rintro r o ⟨rfl,a6⟩;have n:Be X1 o:=bt p a6;refine ⟨_,rfl,fun _=>KP o n,?_⟩;simp only [pz];clear a;refine zD 11 54 (.tuple #[.agg #[I U Q.1.1,I U Q.1.2.1,I U Q.1.2.2.1,I U Q.1.2.2.2],.bool Q.2]) (KP o n) ?_;refine zD 12 66 (.agg #[I U Q.1.1,I U Q.1.2.1,I U Q.1.2.2.1,I U Q.1.2.2.2]) (KP o n) ?_;refine zD 13 67 (.bool Q.2) (KP o n) ?_;refine p_on 14 ?_;obtain ⟨y3,av⟩:=nw (o.alloc (.cells #[I U 0,I U 0,I U 0,I U 0] 26));have bd:Be o y3:=by rw [av];exact (br _ _).alloc (nl _) _
       have ai:Be X1 y3:=bt n bd;have bi:Bx y3 o.heap.size #[I U 0,I U 0,I U 0,I U 0] 26:=by rw [av];exact heap_alloc_new o _
       refine xU (s:=14) (e':=some 6) rfl rfl rfl (.pointer (some ⟨o.heap.size,0,none⟩)) y3 ?_ ⟨fun _=>KP y3 ai,?_⟩
       ·rw [av];go_simp
        try rfl
       simp only [pz];clear av;have h6:X1.heap.size<=o.heap.size:=n.size;refine p_pa 15 o.heap.size 0 #[I U Q.1.1,I U Q.1.2.1,I U Q.1.2.2.1,I U Q.1.2.2.2] #[I U 0,I U 0,I U 0,I U 0] #[I U Q.1.1,I U Q.1.2.1,I U Q.1.2.2.1,I U Q.1.2.2.2] bi (by simp) (by simp [Ac]) rfl ?_;intro z2 hg al;have t:Be X1 z2:=ai.grown hg ai.size (fun k e=>by cases e;exact h6);refine ⟨fun _=>KP z2 t,?_⟩;refine zD 16 7 (.bool Q.2) (KP z2 t) ?_;refine p_do ?_;go_wp2
       go_meet
       case rel=>exact ⟨_,rfl,rfl,b.more t,al⟩
      ·obtain ⟨y4,aw⟩:=nw (v.alloc (.cells #[I U 0,I U 0,I U 0,I U 0] 26));have bb:Be v y4:=by rw [aw];exact (br _ _).alloc (nl _) _
       have af:Be X1 y4:=bt p bb;have be:Bx y4 v.heap.size #[I U 0,I U 0,I U 0,I U 0] 26:=by rw [aw];exact heap_alloc_new v _
       refine xU (s:=14) (e':=some 6) rfl rfl rfl (.pointer (some ⟨v.heap.size,0,none⟩)) y4 ?_ ⟨fun _=>KP y4 af,?_⟩
       ·rw [aw];go_simp
        try rfl
       simp only [pz];clear aw;refine p_on 10 ?_;have a:=lieQc_s c s PH K y4 (b.more af).inb.own.reads (by have:=d.ltree;omega) d.said d.n.1 (by have:=d.n.2;omega);rw [HQ.out.1] at a;unfold zBF at a;refine zEA (s:=10) (e':=some 65) (fn:=202) (args:=#[.agg (zR c s),I U PH,I U K]) rfl rfl (by rfl) ?_ ((a).mono ?_)
       ·go_simp
        try rfl
       rintro r ak ⟨rfl,aj⟩;have l:Be X1 ak:=bt af aj;refine ⟨_,rfl,fun _=>KP ak l,?_⟩;simp only [pz];clear a;have a4:=bk aj be;refine zD 11 54 (.tuple #[.agg #[I U Q.1.1,I U Q.1.2.1,I U Q.1.2.2.1,I U Q.1.2.2.2],.bool Q.2]) (KP ak l) ?_;refine zD 12 66 (.agg #[I U Q.1.1,I U Q.1.2.1,I U Q.1.2.2.1,I U Q.1.2.2.2]) (KP ak l) ?_;refine zD 13 67 (.bool Q.2) (KP ak l) ?_;have h6:X1.heap.size<=v.heap.size:=p.size;refine p_pa 15 v.heap.size 0 #[I U Q.1.1,I U Q.1.2.1,I U Q.1.2.2.1,I U Q.1.2.2.2] #[I U 0,I U 0,I U 0,I U 0] #[I U Q.1.1,I U Q.1.2.1,I U Q.1.2.2.1,I U Q.1.2.2.2] a4 (by simp) (by simp [Ac]) rfl ?_;intro z2 hg al;have t:Be X1 z2:=l.grown hg l.size (fun k e=>by cases e;exact h6);refine ⟨fun _=>KP z2 t,?_⟩;refine zD 16 7 (.bool Q.2) (KP z2 t) ?_;refine p_do ?_;go_wp2
       go_meet
       case rel=>exact ⟨_,rfl,rfl,b.more t,al⟩
     ·obtain ⟨y6,ap⟩:=nw (X1.drew.alloc (.cells #[I U 0,I U 0,I U 0,I U 0] 26));have a9:Below X1.drew.heap.size X1.drew y6:=by rw [ap];exact (br _ _).alloc (nl _) _
      have ax:Be X1 y6:=bt f a9;have bc:Bx y6 X1.drew.heap.size #[I U 0,I U 0,I U 0,I U 0] 26:=by rw [ap];exact heap_alloc_new X1.drew _
      refine xU (s:=14) (e':=some 6) rfl rfl rfl (.pointer (some ⟨X1.drew.heap.size,0,none⟩)) y6 ?_ ⟨fun _=>KP y6 ax,?_⟩
      ·rw [ap];go_simp
       try rfl
      simp only [pz];clear ap;refine p_on 8 ?_;refine zEA (s:=8) (e':=some 63) (fn:=201) (args:=#[.agg (zR c s),I U e.num]) rfl rfl (by rfl) ?_ ((phase_s c s e.num y6 hn).mono ?_)
      ·go_simp
       try rfl
      rintro r a7 ⟨rfl,an⟩;have ab:Be X1 a7:=bt ax an;refine ⟨_,rfl,fun _=>KP a7 ab,?_⟩;simp only [pz];rw [HQ.out.2.2];have az:=bk an bc;refine p_on 10 ?_;have a:=lieQc_s c s PH K a7 (b.more ab).inb.own.reads (by have:=d.ltree;omega) d.said d.n.1 (by have:=d.n.2;omega);rw [HQ.out.1] at a;unfold zBF at a;refine zEA (s:=10) (e':=some 65) (fn:=202) (args:=#[.agg (zR c s),I U PH,I U K]) rfl rfl (by rfl) ?_ ((a).mono ?_)
      ·go_simp
       try rfl
      rintro r ah ⟨rfl,ao⟩;have m:Be X1 ah:=bt ab ao;refine ⟨_,rfl,fun _=>KP ah m,?_⟩;simp only [pz];clear a;have a1:=bk ao az;refine zD 11 54 (.tuple #[.agg #[I U Q.1.1,I U Q.1.2.1,I U Q.1.2.2.1,I U Q.1.2.2.2],.bool Q.2]) (KP ah m) ?_;refine zD 12 66 (.agg #[I U Q.1.1,I U Q.1.2.1,I U Q.1.2.2.1,I U Q.1.2.2.2]) (KP ah m) ?_;refine zD 13 67 (.bool Q.2) (KP ah m) ?_;have h6:X1.heap.size<=X1.drew.heap.size:=nl _;refine p_pa 15 X1.drew.heap.size 0 #[I U Q.1.1,I U Q.1.2.1,I U Q.1.2.2.1,I U Q.1.2.2.2] #[I U 0,I U 0,I U 0,I U 0] #[I U Q.1.1,I U Q.1.2.1,I U Q.1.2.2.1,I U Q.1.2.2.2] a1 (by simp) (by simp [Ac]) rfl ?_;intro z2 hg al;have t:Be X1 z2:=m.grown hg m.size (fun k e=>by cases e;exact h6);refine ⟨fun _=>KP z2 t,?_⟩;refine zD 16 7 (.bool Q.2) (KP z2 t) ?_;refine p_do ?_;go_wp2
      go_meet
      case rel=>exact ⟨_,rfl,rfl,b.more t,al⟩
    case rest=>
     obtain ⟨g6,rfl,rfl,hP,bj⟩:=hcut;have HC:=hid (qad2 hP bj);clear hP bj b
     cases a8:Q.2 with
     | false=>
      have aq:Hid (R=(c,false)):=(by rw [HE.out,if_neg (by rw [a8];decide)]:R=_);go_wp2;go_ret;refine ⟨zL (by rw [aq.out]),s,?_⟩;rw [aq.out];exact HC.out.1.inb
     | true=>
      have aq:Hid (R=jM c ((3,e.at',e.to',Q.1.2.1,0),Q.1,(0,0,0,0))):=(by rw [HE.out,if_pos a8]:R=_);clear HE a8;have l1:=zB HC.1.box 1 (I U e.at') rfl;have l2:=zB HC.1.box 2 (I U e.to') rfl;have v1:=zB HC.2 1 (I U Q.1.2.1) rfl;go_wp2_with (refine w_ld g6 HC.2 underlying26 ?_)
      clear l1 l2 v1;have a:=hand_p c s N lo wc.heap.size ((3,e.at',e.to',Q.1.2.1,0),Q.1,(0,0,0,0)) wc HC.1.inb.box HC.1.inb.own (Aa ar HC.1.inb.fr.size) d.hand HQ.2.1;rw [<- aq.out] at a;unfold zQ at a;refine a.mono ?_;clear a;rintro r y3 ⟨rfl,s3,u,-⟩;have ac:Hid (InB N lo w y3 R.1 s3):=HC.1.inb.trans u;clear u;go_wp2;go_ret;exact ⟨rfl,s3,ac⟩
   ·have b9:(e.kind == 9)=false:=by simpa using k9
    by_cases k10:e.kind=10
    ·have bm:(e.kind == 10)=true:=by simpa using k10
     have HE:Hid (R=zBC c e):=(by rw [aa.out,if_neg k8,if_neg k9,if_pos k10]:R=_);clear k8 k9 k10 aa;go_wp2_with (refine w_ld w.heap.size b.box underlying172 ?_)
     refine (lieBlock_p c s N lo X1.heap.size e X1 b.inb.box b.inb.own (Aa ar b.inb.fr.size) d hn bn).mono ?_;rintro r y3 ⟨rfl,s3,u⟩;have ac:Hid (InB N lo w y3 R.1 s3):=(by rw [HE.out];exact b.out.inb.trans u:InB _ _ _ _ _ _);clear u;rw [<- HE.out];go_wp2;go_ret;exact ⟨rfl,s3,ac⟩
    ·have bm:(e.kind == 10)=false:=by simpa using k10
     obtain ⟨V9,bl⟩:=nw (e.num % 900+1);have bx:e.num.tmod 900=e.num % 900:=Int.tmod_eq_emod_of_nonneg hn;have bu:0<=e.num % 900/\e.num % 900 < 900:=by omega
     have HE:Hid (R=jM c ((4,e.at',e.to',e.num % 900+1,0),(0,0,0,0),(0,0,0,0))):=(by rw [aa.out,if_neg k8,if_neg k9,if_neg k10]:R=_);clear k8 k9 k10 aa bl;have l1:=zB b.box 1 (I U e.at') rfl;have l2:=zB b.box 2 (I U e.to') rfl;have l3:=zB b.box 3 (I U e.num) rfl;go_wp2_with fail
     clear l0 l1 l2 l3;have a:=hand_p c s N lo X1.heap.size ((4,e.at',e.to',e.num % 900+1,0),(0,0,0,0),(0,0,0,0)) X1 b.inb.box b.inb.own (Aa ar b.inb.fr.size) d.hand ⟨by show (-9223372036854775808:Int)<=0;decide,by show (0:Int)<=9223372036854775807;decide⟩;rw [<- HE.out] at a;unfold zQ at a;refine a.mono ?_;clear a;rintro r y3 ⟨rfl,s3,u,-⟩;have ac:Hid (InB N lo w y3 R.1 s3):=b.inb.trans u;clear u;go_wp2;go_ret;exact ⟨rfl,s3,ac⟩
end Go.Proofs.YtfnneillakdopacGreatR
