/-
  A text of ours: LieC.
-/
import Derived.Test.YtjdddcldbfhbiacGreatRK1
import Derived.Test.YtjdddcldbfhbiacGreatRLieBC
import Derived.Test.YtjdddcldbfhbiacGreatRK8
set_option maxRecDepth 100000
set_option maxHeartbeats 32000000
namespace Go.Proofs.YtjdddcldbfhbiacGreatR
open Go.RowKit Num
theorem lie_p (c:CU) (s:CW) (N lo hi:Nat) (e:EV) (w:World) (hbox:Bx w N (zR c s) 124) (hown:xG lo hi w c s) (hlo:lo<=hi) (hok:lieOk c) (hn:0<=e.num) (hc:(e.cmd.2.1.size:Int)<=1048576) :
  Calls Tryz.prog 169 #[.pointer (some ⟨N,0,none⟩),.agg (evA e)] w fun r w'=>r=.returned (.bool (lieC c e).2)/\∃ s',InB N lo w w' (lieC c e).1 s':=by
 have HLO:Hid (lo<=w.heap.size):=Nat.le_trans hlo hown.size
 have HOK:=hid hok
 have HCM:=hid hc
 obtain ⟨W,hW⟩:∃ W,W=w.alloc (.cells (evA e) 172):=⟨_,rfl⟩
 have HW:Hid (PtE w W N lo c s e):=(by
  have hb:Below w.heap.size w W:=by rw [hW];exact yA _ _
  exact ⟨(InB.start hbox hown).more hb,by rw [hW];exact heap_alloc_new w _⟩:PtE _ _ _ _ _ _ _)
 clear hbox hown hlo hok hc
 obtain ⟨R,hR⟩:∃ R,R=lieC c e:=⟨_,rfl⟩
 have HR:Hid (R=lieC c e):=hR
 rw [<- hR]
 clear hR
 have hlt1:=HOK.out.one
 have hll:=HOK.out.ltree
 obtain ⟨K,hK⟩:∃ K,K=yBJ c e:=⟨_,rfl⟩
 have HKK:Hid (K=yBJ c e/\e.num.tmod (c.tree.length:Int)=K):=⟨hK,by rw [hK];unfold yBJ;exact Int.tmod_eq_emod_of_nonneg hn⟩
 clear hK
 obtain ⟨at',ct,et,-⟩:=HW.out.inb.own.reads.viewCell
 have HET:Hid (s.treeV=.slice at' c.tree.length ct):=et
 clear et
 have hl0:¬ (c.tree.length:Int)=0:=by omega
 have hl1:¬ c.tree.length=0:=by omega
 have hl2:((c.tree.length:Int) == 0)=false:=by simpa using hl1
 go_enter Tryz.func169,Tryz.ntmps169
 go_upto_region 1 with (rw [<- hW];clear hW)
 try (rw [<- hW];clear hW)
 cases hlz:qZ c e.at' with
 | false=>
  have HE:Hid (R=(c,false)):=(by rw [HR.out];exact if_pos (Or.inr hlz):R=_)
  refine zT (fun _=>true) (fun x=>Bx x N (zR c s) 124/\Bx x w.heap.size (evA e) 172) (by kernel_rfl) ?_
  show zX Tryz.prog _ _ _ _ _ (14+1) (Array.replicate 15 false) _ _
  have KP:∀ y,Below W.heap.size W y->Bx y N (zR c s) 124/\Bx y w.heap.size (evA e) 172:=fun y hb=>⟨(HW.out.more hb).inb.box,(HW.out.more hb).box⟩
  have hd0:Below W.heap.size W W.drew:=(br _ _).drew
  have hS:=KP W.drew hd0
  refine zD 0 8 (.pointer (some ⟨N,0,none⟩)) hS ?_
  refine zD 1 9 (.pointer (some ⟨N,0,none⟩)) hS ?_
  refine zD 2 10 (.pointer (some ⟨N,3,none⟩)) hS ?_
  refine zD 3 11 (.slice at' c.tree.length ct) hS ?_ (hy:=by intro x hx;have c3:=zB hx.1 3 s.treeV rfl;rw [HET.out] at c3;go_simp;try with_reducible rfl)
  refine zD 4 12 (.int .i64 (c.tree.length:Int)) hS ?_
  refine zD 5 13 (.bool false) hS ?_
  refine zD 6 14 (.bool false) hS ?_
  refine zD 7 15 (.pointer (some ⟨N,0,none⟩)) hS ?_
  refine zD 8 16 (.pointer (some ⟨N,0,none⟩)) hS ?_
  refine zD 9 17 (.agg (zR c s)) hS ?_ (hy:=fun x hx=>zM _ _ rfl N rfl _ _ _ _ hx.1 Tryz.underlying124 rfl (by kernel_rfl))
  refine zD 10 18 (.pointer (some ⟨w.heap.size,1,none⟩)) hS ?_
  refine zD 11 19 (.int .i64 e.at') hS ?_ (hy:=by intro x hx;have l1:=zB hx.2 1 (.int .i64 e.at') rfl;go_simp;try with_reducible rfl)
  refine kJ 12 20 170 #[.agg (zR c s),.int .i64 e.at'] ((yAI c s e.at' W.drew).mono ?_)
  rintro r X0 ⟨rfl,hsX0⟩
  have hbX0:Below W.heap.size W X0:=bt hd0 hsX0
  refine ⟨_,rfl,fun _=>KP X0 hbX0,?_⟩
  simp only [pz]
  rw [hlz]
  refine zD 13 21 (.bool true) (KP X0 hbX0) ?_
  refine zD 14 22 (.bool true) (KP X0 hbX0) ?_
  refine zK (by kernel_rfl) ?_ _
  have HX0:Hid (PtE w X0 N lo c s e):=HW.out.more hbX0
  clear hS KP hd0 hsX0 hbX0 HW
  go_wp2
  go_ret
  refine ⟨zL (by rw [HE.out]),s,?_⟩
  rw [HE.out]
  exact HX0.out.inb
 | true=>
  have HR2:Hid (R=if e.kind=8 then jM c (yAH c e.at' e.to' (qP c e.num) K) else if e.kind=9 then (if (qM c (qP c e.num) K).2=true then jM c ((3,e.at',e.to',(qM c (qP c e.num) K).1.2.1,0),(qM c (qP c e.num) K).1,(0,0,0,0)) else (c,false)) else if e.kind=10 then zBC c e else jM c ((4,e.at',e.to',e.num % 900+1,0),(0,0,0,0),(0,0,0,0))):=(by
   rw [HR.out,HKK.out.1]
   unfold lieC
   rw [if_neg (fun h=>h.elim hl1 (fun h=>by rw [hlz] at h;cases h))]:R=_)
  clear HR
  refine zT (fun _=>true) (fun x=>Bx x N (zR c s) 124/\Bx x w.heap.size (evA e) 172) (by kernel_rfl) ?_
  show zX Tryz.prog _ _ _ _ _ (14+1) (Array.replicate 15 false) _ _
  have KP:∀ y,Below W.heap.size W y->Bx y N (zR c s) 124/\Bx y w.heap.size (evA e) 172:=fun y hb=>⟨(HW.out.more hb).inb.box,(HW.out.more hb).box⟩
  have hd0:Below W.heap.size W W.drew:=(br _ _).drew
  have hS:=KP W.drew hd0
  refine zD 0 8 (.pointer (some ⟨N,0,none⟩)) hS ?_
  refine zD 1 9 (.pointer (some ⟨N,0,none⟩)) hS ?_
  refine zD 2 10 (.pointer (some ⟨N,3,none⟩)) hS ?_
  refine zD 3 11 (.slice at' c.tree.length ct) hS ?_ (hy:=by intro x hx;have c3:=zB hx.1 3 s.treeV rfl;rw [HET.out] at c3;go_simp;try with_reducible rfl)
  refine zD 4 12 (.int .i64 (c.tree.length:Int)) hS ?_
  refine zD 5 13 (.bool false) hS ?_
  refine zD 6 14 (.bool false) hS ?_
  refine zD 7 15 (.pointer (some ⟨N,0,none⟩)) hS ?_
  refine zD 8 16 (.pointer (some ⟨N,0,none⟩)) hS ?_
  refine zD 9 17 (.agg (zR c s)) hS ?_ (hy:=fun x hx=>zM _ _ rfl N rfl _ _ _ _ hx.1 Tryz.underlying124 rfl (by kernel_rfl))
  refine zD 10 18 (.pointer (some ⟨w.heap.size,1,none⟩)) hS ?_
  refine zD 11 19 (.int .i64 e.at') hS ?_ (hy:=by intro x hx;have l1:=zB hx.2 1 (.int .i64 e.at') rfl;go_simp;try with_reducible rfl)
  refine kJ 12 20 170 #[.agg (zR c s),.int .i64 e.at'] ((yAI c s e.at' W.drew).mono ?_)
  rintro r X0 ⟨rfl,hsX0⟩
  have hbX0:Below W.heap.size W X0:=bt hd0 hsX0
  refine ⟨_,rfl,fun _=>KP X0 hbX0,?_⟩
  simp only [pz]
  rw [hlz]
  refine zD 13 21 (.bool false) (KP X0 hbX0) ?_
  refine zD 14 22 (.bool false) (KP X0 hbX0) ?_
  refine zK (by kernel_rfl) ?_ _
  have HX0:Hid (PtE w X0 N lo c s e):=HW.out.more hbX0
  clear hS KP hd0 hsX0 hbX0 HW
  clear hlz hl2
  go_upto_region 3 with fail
  refine zT (fun _=>true) (fun x=>Bx x N (zR c s) 124/\Bx x w.heap.size (evA e) 172) (by kernel_rfl) ?_
  show zX Tryz.prog _ _ _ _ _ (8+1) (Array.replicate 9 false) _ _
  have KP:∀ y,Below X0.heap.size X0 y->Bx y N (zR c s) 124/\Bx y w.heap.size (evA e) 172:=fun y hb=>⟨(HX0.out.more hb).inb.box,(HX0.out.more hb).box⟩
  have hd0:Below X0.heap.size X0 X0.drew:=(br _ _).drew
  have hS:=KP X0.drew hd0
  refine zD 0 23 (.pointer (some ⟨w.heap.size,3,none⟩)) hS ?_
  refine zD 1 24 (.int .i64 e.num) hS ?_ (hy:=by intro x hx;have l3:=zB hx.2 3 (.int .i64 e.num) rfl;go_simp;try with_reducible rfl)
  refine zD 2 25 (.pointer (some ⟨N,0,none⟩)) hS ?_
  refine zD 3 26 (.pointer (some ⟨N,0,none⟩)) hS ?_
  refine zD 4 27 (.pointer (some ⟨N,3,none⟩)) hS ?_
  refine zD 5 28 (.slice at' c.tree.length ct) hS ?_ (hy:=by intro x hx;have c3:=zB hx.1 3 s.treeV rfl;rw [HET.out] at c3;go_simp;try with_reducible rfl)
  refine zD 6 29 (.int .i64 (c.tree.length:Int)) hS ?_
  refine zD 7 30 (.int .i64 K) hS ?_ (hy:=by intro x hx;have hkk:=HKK.out.2;go_simp;try with_reducible rfl)
  refine zD 8 5 (.int .i64 K) hS ?_
  refine zK (by kernel_rfl) ?_ _
  obtain ⟨X1,hX1⟩:∃ X1,X1=X0.drew:=⟨_,rfl⟩
  have HX1:Hid (PtE w X1 N lo c s e):=(by rw [hX1];exact HX0.out.more hd0:PtE _ _ _ _ _ _ _)
  rw [<- hX1]
  clear hS KP hd0 hX1 HX0 hl0 hl1
  have l0:=zB HX1.out.box 0 (.int .i64 e.kind) rfl
  by_cases k8:e.kind=8
  ·have b8:(e.kind == 8)=true:=by simpa using k8
   have HE:Hid (R=jM c (yAH c e.at' e.to' (qP c e.num) K)):=(by rw [HR2.out,if_pos k8]:R=_)
   clear k8 HR2
   go_upto_region 6 with fail
   clear l0 b8
   refine zT (fun i=>decide (i < 16)) (fun x=>Bx x N (zR c s) 124/\Bx x w.heap.size (evA e) 172) (by kernel_rfl) ?_
   show zX Tryz.prog _ _ _ _ _ (17+1) (Array.replicate 18 false) _ _
   have KP:∀ y,Below X1.heap.size X1 y->Bx y N (zR c s) 124/\Bx y w.heap.size (evA e) 172:=fun y hb=>⟨(HX1.out.more hb).inb.box,(HX1.out.more hb).box⟩
   have hd0:Below X1.heap.size X1 X1.drew:=(br _ _).drew
   have hS:=KP X1.drew hd0
   refine zD 0 35 (.pointer (some ⟨N,0,none⟩)) hS ?_
   refine zD 1 36 (.pointer (some ⟨N,0,none⟩)) hS ?_
   refine zD 2 37 (.pointer (some ⟨N,0,none⟩)) hS ?_
   refine zD 3 38 (.agg (zR c s)) hS ?_ (hy:=fun x hx=>zM _ _ rfl N rfl _ _ _ _ hx.1 Tryz.underlying124 rfl (by kernel_rfl))
   refine zD 4 39 (.pointer (some ⟨w.heap.size,1,none⟩)) hS ?_
   refine zD 5 40 (.int .i64 e.at') hS ?_ (hy:=by intro x hx;have l1:=zB hx.2 1 (.int .i64 e.at') rfl;go_simp;try with_reducible rfl)
   refine zD 6 41 (.pointer (some ⟨w.heap.size,2,none⟩)) hS ?_
   refine zD 7 42 (.int .i64 e.to') hS ?_ (hy:=by intro x hx;have l2:=zB hx.2 2 (.int .i64 e.to') rfl;go_simp;try with_reducible rfl)
   refine zD 8 43 (.pointer (some ⟨N,0,none⟩)) hS ?_
   refine zD 9 44 (.pointer (some ⟨N,0,none⟩)) hS ?_
   refine zD 10 45 (.agg (zR c s)) hS ?_ (hy:=fun x hx=>zM _ _ rfl N rfl _ _ _ _ hx.1 Tryz.underlying124 rfl (by kernel_rfl))
   refine zD 11 46 (.pointer (some ⟨w.heap.size,3,none⟩)) hS ?_
   refine zD 12 47 (.int .i64 e.num) hS ?_ (hy:=by intro x hx;have l3:=zB hx.2 3 (.int .i64 e.num) rfl;go_simp;try with_reducible rfl)
   refine zD 14 49 (.int .i64 K) hS ?_
   refine kJ 13 48 201 #[.agg (zR c s),.int .i64 e.num] ((phase_s c s e.num X1.drew hn).mono ?_)
   rintro r y1 ⟨rfl,hsy1⟩
   have hby1:Below X1.heap.size X1 y1:=bt hd0 hsy1
   refine ⟨_,rfl,fun _=>KP y1 hby1,?_⟩
   simp only [pz]
   obtain ⟨PH,hPH⟩:∃ PH,PH=qP c e.num:=⟨_,rfl⟩
   rw [<- hPH] at HE ⊢
   clear hPH
   refine kJ 15 50 200 #[.agg (zR c s),.int .i64 e.at',.int .i64 e.to',.int .i64 PH,.int .i64 K] ((lieVote_s c s e.at' e.to' PH K y1 (HX1.out.more hby1).inb.own.reads (by have:=HOK.out.ltree;omega)).mono ?_)
   rintro r y2 ⟨rfl,hsy2⟩
   have hby2:Below X1.heap.size X1 y2:=bt hby1 hsy2
   refine ⟨_,rfl,fun _=>KP y2 hby2,?_⟩
   simp only [pz]
   have HY2:Hid (PtE w y2 N lo c s e):=HX1.out.more hby2
   refine kJ 16 51 199 #[.pointer (some ⟨N,0,none⟩),.agg (zQ (yAH c e.at' e.to' PH K))] ((hand_p c s N lo y2.heap.size (yAH c e.at' e.to' PH K) y2 HY2.out.inb.box HY2.out.inb.own (Nat.le_trans HLO.out HY2.out.inb.fr.size) HOK.out.hand ⟨by show (-9223372036854775808:Int)<=0;decide,by show (0:Int)<=9223372036854775807;decide⟩).mono ?_)
   rintro r y3 ⟨rfl,s3,hin,-⟩
   have HIN:Hid (InB N lo w y3 R.1 s3):=(by rw [HE.out];exact HY2.out.inb.trans hin:InB _ _ _ _ _ _)
   refine ⟨_,rfl,fun h=>absurd h (by decide),?_⟩
   simp only [pz]
   rw [<- HE.out]
   refine xM (j:=17) (e':=some 4) (v:=.bool R.2) rfl rfl (by kernel_rfl) (by kernel_rfl) (by kernel_rfl) (by rfl) (fun _ _ _ h=>h) (Or.inl ⟨by rfl,?_⟩) ?_
   ·intro x hx
    go_simp
    try with_reducible rfl
   simp only [pz]
   refine zK (by kernel_rfl) ?_ _
   go_wp2
   go_ret
   exact ⟨rfl,s3,HIN.out⟩
  ·have b8:(e.kind == 8)=false:=by simpa using k8
   by_cases k9:e.kind=9
   ·have b9:(e.kind == 9)=true:=by simpa using k9
    have HE:Hid (R=if (qM c (qP c e.num) K).2=true then jM c ((3,e.at',e.to',(qM c (qP c e.num) K).1.2.1,0),(qM c (qP c e.num) K).1,(0,0,0,0)) else (c,false)):=(by rw [HR2.out,if_neg k8,if_pos k9]:R=_)
    obtain ⟨PH,hPH⟩:∃ PH,PH=qP c e.num:=⟨_,rfl⟩
    obtain ⟨Q,hQ⟩:∃ Q,Q=qM c PH K:=⟨_,rfl⟩
    have HQ:Hid (qM c PH K=Q/\fitQ Q.1/\qP c e.num=PH):=⟨hQ.symm,by rw [hQ];exact lieQc_fit _ _ _,hPH.symm⟩
    rw [<- hPH,<- hQ] at HE
    clear k8 k9 HR2 hPH hQ
    go_upto_region 8 with fail
    clear l0 b8 b9
    go_cut [6,7] (fun v6 v7 wx=>∃ g6,v6=.pointer (some ⟨g6,0,none⟩)/\v7=.bool Q.2/\PtE w wx N lo c s e/\Bx wx g6 #[.int .i64 Q.1.1,.int .i64 Q.1.2.1,.int .i64 Q.1.2.2.1,.int .i64 Q.1.2.2.2] 26)
    case first=>
     refine zT (fun _=>true) (fun x=>Bx x N (zR c s) 124/\Bx x w.heap.size (evA e) 172) (by kernel_rfl) ?_
     show zX Tryz.prog _ _ _ _ _ (16+1) (Array.replicate 17 false) _ _
     have KP:∀ y,Below X1.heap.size X1 y->Bx y N (zR c s) 124/\Bx y w.heap.size (evA e) 172:=fun y hb=>⟨(HX1.out.more hb).inb.box,(HX1.out.more hb).box⟩
     have hd0:Below X1.heap.size X1 X1.drew:=(br _ _).drew
     have hS:=KP X1.drew hd0
     refine zD 0 55 (.pointer (some ⟨N,0,none⟩)) hS ?_
     refine zD 1 56 (.pointer (some ⟨N,0,none⟩)) hS ?_
     refine zD 2 57 (.agg (zR c s)) hS ?_ (hy:=fun x hx=>zM _ _ rfl N rfl _ _ _ _ hx.1 Tryz.underlying124 rfl (by kernel_rfl))
     refine zD 3 58 (.pointer (some ⟨N,0,none⟩)) hS ?_
     refine zD 4 59 (.pointer (some ⟨N,0,none⟩)) hS ?_
     refine zD 5 60 (.agg (zR c s)) hS ?_ (hy:=fun x hx=>zM _ _ rfl N rfl _ _ _ _ hx.1 Tryz.underlying124 rfl (by kernel_rfl))
     refine zD 6 61 (.pointer (some ⟨w.heap.size,3,none⟩)) hS ?_
     refine zD 7 62 (.int .i64 e.num) hS ?_ (hy:=by intro x hx;have l3:=zB hx.2 3 (.int .i64 e.num) rfl;go_simp;try with_reducible rfl)
     refine zD 9 64 (.int .i64 K) hS ?_
     refine zFC (i:=8) (j:=14) (by kernel_rfl) ?_ ?_
     ·refine zEA (s:=8) (e':=some 63) (fn:=201) (args:=#[.agg (zR c s),.int .i64 e.num]) rfl rfl (by rfl) ?_ ((phase_s c s e.num X1.drew hn).mono ?_)
      ·go_simp
       try with_reducible rfl
      rintro r ya0 ⟨rfl,hsya0⟩
      have hbya0:Below X1.heap.size X1 ya0:=bt hd0 hsya0
      refine ⟨_,rfl,fun _=>KP ya0 hbya0,?_⟩
      simp only [pz]
      rw [HQ.out.2.2]
      refine zFC (i:=10) (j:=14) (by kernel_rfl) ?_ ?_
      ·have hcon:=lieQc_s c s PH K ya0 (HX1.out.more hbya0).inb.own.reads (by have:=HOK.out.ltree;omega) HOK.out.said HOK.out.n.1 (by have:=HOK.out.n.2;omega)
       rw [HQ.out.1] at hcon
       unfold zBF at hcon
       refine zEA (s:=10) (e':=some 65) (fn:=202) (args:=#[.agg (zR c s),.int .i64 PH,.int .i64 K]) rfl rfl (by rfl) ?_ ((hcon).mono ?_)
       ·go_simp
        try with_reducible rfl
       rintro r yb1 ⟨rfl,hsyb1⟩
       have hbyb1:Below X1.heap.size X1 yb1:=bt hbya0 hsyb1
       refine ⟨_,rfl,fun _=>KP yb1 hbyb1,?_⟩
       simp only [pz]
       clear hcon
       refine zD 11 54 (.tuple #[.agg #[.int .i64 Q.1.1,.int .i64 Q.1.2.1,.int .i64 Q.1.2.2.1,.int .i64 Q.1.2.2.2],.bool Q.2]) (KP yb1 hbyb1) ?_
       refine zD 12 66 (.agg #[.int .i64 Q.1.1,.int .i64 Q.1.2.1,.int .i64 Q.1.2.2.1,.int .i64 Q.1.2.2.2]) (KP yb1 hbyb1) ?_
       refine zD 13 67 (.bool Q.2) (KP yb1 hbyb1) ?_
       refine kG (i:=14) (by kernel_rfl) ?_
       obtain ⟨y3,hy3⟩:∃ y3,y3=yb1.alloc (.cells #[.int .i64 0,.int .i64 0,.int .i64 0,.int .i64 0] 26):=⟨_,rfl⟩
       have hsy3:Below yb1.heap.size yb1 y3:=by rw [hy3];exact (br _ _).alloc (nl _) _
       have hby3:Below X1.heap.size X1 y3:=bt hbyb1 hsy3
       have b6y3:Bx y3 yb1.heap.size #[.int .i64 0,.int .i64 0,.int .i64 0,.int .i64 0] 26:=by rw [hy3];exact heap_alloc_new yb1 _
       refine xU (s:=14) (e':=some 6) rfl rfl rfl (.pointer (some ⟨yb1.heap.size,0,none⟩)) y3 ?_ ⟨fun _=>KP y3 hby3,?_⟩
       ·rw [hy3]
        go_simp
        try with_reducible rfl
       simp only [pz]
       clear hy3
       have h6:X1.heap.size<=yb1.heap.size:=hbyb1.size
       refine xW (s:=15) (N:=yb1.heap.size) (o:=0) (cells:=#[.int .i64 Q.1.1,.int .i64 Q.1.2.1,.int .i64 Q.1.2.2.1,.int .i64 Q.1.2.2.2]) (old:=#[.int .i64 0,.int .i64 0,.int .i64 0,.int .i64 0]) (new:=#[.int .i64 Q.1.1,.int .i64 Q.1.2.1,.int .i64 Q.1.2.2.1,.int .i64 Q.1.2.2.2]) rfl rfl rfl rfl (by kernel_rfl) rfl rfl b6y3 (by kernel_rfl) (by simp) (by simp [Value.oneCell']) rfl ?_
       intro z2 hg hk6
       have hb2:Below X1.heap.size X1 z2:=hby3.grown hg hby3.size (fun k e=>by cases e;exact h6)
       refine ⟨fun _=>KP z2 hb2,?_⟩
       refine zD 16 7 (.bool Q.2) (KP z2 hb2) ?_
       refine zK (by kernel_rfl) ?_ _
       go_wp2
       go_meet
       case rel=>exact ⟨_,rfl,rfl,HX1.out.more hb2,hk6⟩
      ·obtain ⟨y4,hy4⟩:∃ y4,y4=ya0.alloc (.cells #[.int .i64 0,.int .i64 0,.int .i64 0,.int .i64 0] 26):=⟨_,rfl⟩
       have hsy4:Below ya0.heap.size ya0 y4:=by rw [hy4];exact (br _ _).alloc (nl _) _
       have hby4:Below X1.heap.size X1 y4:=bt hbya0 hsy4
       have b6y4:Bx y4 ya0.heap.size #[.int .i64 0,.int .i64 0,.int .i64 0,.int .i64 0] 26:=by rw [hy4];exact heap_alloc_new ya0 _
       refine xU (s:=14) (e':=some 6) rfl rfl rfl (.pointer (some ⟨ya0.heap.size,0,none⟩)) y4 ?_ ⟨fun _=>KP y4 hby4,?_⟩
       ·rw [hy4]
        go_simp
        try with_reducible rfl
       simp only [pz]
       clear hy4
       refine kG (i:=10) (by kernel_rfl) ?_
       have hcon:=lieQc_s c s PH K y4 (HX1.out.more hby4).inb.own.reads (by have:=HOK.out.ltree;omega) HOK.out.said HOK.out.n.1 (by have:=HOK.out.n.2;omega)
       rw [HQ.out.1] at hcon
       unfold zBF at hcon
       refine zEA (s:=10) (e':=some 65) (fn:=202) (args:=#[.agg (zR c s),.int .i64 PH,.int .i64 K]) rfl rfl (by rfl) ?_ ((hcon).mono ?_)
       ·go_simp
        try with_reducible rfl
       rintro r yb4 ⟨rfl,hsyb4⟩
       have hbyb4:Below X1.heap.size X1 yb4:=bt hby4 hsyb4
       refine ⟨_,rfl,fun _=>KP yb4 hbyb4,?_⟩
       simp only [pz]
       clear hcon
       have b6yb4:=(hsyb4.block _ (gl b6y4)).trans b6y4
       refine zD 11 54 (.tuple #[.agg #[.int .i64 Q.1.1,.int .i64 Q.1.2.1,.int .i64 Q.1.2.2.1,.int .i64 Q.1.2.2.2],.bool Q.2]) (KP yb4 hbyb4) ?_
       refine zD 12 66 (.agg #[.int .i64 Q.1.1,.int .i64 Q.1.2.1,.int .i64 Q.1.2.2.1,.int .i64 Q.1.2.2.2]) (KP yb4 hbyb4) ?_
       refine zD 13 67 (.bool Q.2) (KP yb4 hbyb4) ?_
       have h6:X1.heap.size<=ya0.heap.size:=hbya0.size
       refine xW (s:=15) (N:=ya0.heap.size) (o:=0) (cells:=#[.int .i64 Q.1.1,.int .i64 Q.1.2.1,.int .i64 Q.1.2.2.1,.int .i64 Q.1.2.2.2]) (old:=#[.int .i64 0,.int .i64 0,.int .i64 0,.int .i64 0]) (new:=#[.int .i64 Q.1.1,.int .i64 Q.1.2.1,.int .i64 Q.1.2.2.1,.int .i64 Q.1.2.2.2]) rfl rfl rfl rfl (by kernel_rfl) rfl rfl b6yb4 (by kernel_rfl) (by simp) (by simp [Value.oneCell']) rfl ?_
       intro z2 hg hk6
       have hb2:Below X1.heap.size X1 z2:=hbyb4.grown hg hbyb4.size (fun k e=>by cases e;exact h6)
       refine ⟨fun _=>KP z2 hb2,?_⟩
       refine zD 16 7 (.bool Q.2) (KP z2 hb2) ?_
       refine zK (by kernel_rfl) ?_ _
       go_wp2
       go_meet
       case rel=>exact ⟨_,rfl,rfl,HX1.out.more hb2,hk6⟩
     ·obtain ⟨y6,hy6⟩:∃ y6,y6=X1.drew.alloc (.cells #[.int .i64 0,.int .i64 0,.int .i64 0,.int .i64 0] 26):=⟨_,rfl⟩
      have hsy6:Below X1.drew.heap.size X1.drew y6:=by rw [hy6];exact (br _ _).alloc (nl _) _
      have hby6:Below X1.heap.size X1 y6:=bt hd0 hsy6
      have b6y6:Bx y6 X1.drew.heap.size #[.int .i64 0,.int .i64 0,.int .i64 0,.int .i64 0] 26:=by rw [hy6];exact heap_alloc_new X1.drew _
      refine xU (s:=14) (e':=some 6) rfl rfl rfl (.pointer (some ⟨X1.drew.heap.size,0,none⟩)) y6 ?_ ⟨fun _=>KP y6 hby6,?_⟩
      ·rw [hy6]
       go_simp
       try with_reducible rfl
      simp only [pz]
      clear hy6
      refine kG (i:=8) (by kernel_rfl) ?_
      refine zEA (s:=8) (e':=some 63) (fn:=201) (args:=#[.agg (zR c s),.int .i64 e.num]) rfl rfl (by rfl) ?_ ((phase_s c s e.num y6 hn).mono ?_)
      ·go_simp
       try with_reducible rfl
      rintro r ya6 ⟨rfl,hsya6⟩
      have hbya6:Below X1.heap.size X1 ya6:=bt hby6 hsya6
      refine ⟨_,rfl,fun _=>KP ya6 hbya6,?_⟩
      simp only [pz]
      rw [HQ.out.2.2]
      have b6ya6:=(hsya6.block _ (gl b6y6)).trans b6y6
      refine kG (i:=10) (by kernel_rfl) ?_
      have hcon:=lieQc_s c s PH K ya6 (HX1.out.more hbya6).inb.own.reads (by have:=HOK.out.ltree;omega) HOK.out.said HOK.out.n.1 (by have:=HOK.out.n.2;omega)
      rw [HQ.out.1] at hcon
      unfold zBF at hcon
      refine zEA (s:=10) (e':=some 65) (fn:=202) (args:=#[.agg (zR c s),.int .i64 PH,.int .i64 K]) rfl rfl (by rfl) ?_ ((hcon).mono ?_)
      ·go_simp
       try with_reducible rfl
      rintro r yb7 ⟨rfl,hsyb7⟩
      have hbyb7:Below X1.heap.size X1 yb7:=bt hbya6 hsyb7
      refine ⟨_,rfl,fun _=>KP yb7 hbyb7,?_⟩
      simp only [pz]
      clear hcon
      have b6yb7:=(hsyb7.block _ (gl b6ya6)).trans b6ya6
      refine zD 11 54 (.tuple #[.agg #[.int .i64 Q.1.1,.int .i64 Q.1.2.1,.int .i64 Q.1.2.2.1,.int .i64 Q.1.2.2.2],.bool Q.2]) (KP yb7 hbyb7) ?_
      refine zD 12 66 (.agg #[.int .i64 Q.1.1,.int .i64 Q.1.2.1,.int .i64 Q.1.2.2.1,.int .i64 Q.1.2.2.2]) (KP yb7 hbyb7) ?_
      refine zD 13 67 (.bool Q.2) (KP yb7 hbyb7) ?_
      have h6:X1.heap.size<=X1.drew.heap.size:=nl _
      refine xW (s:=15) (N:=X1.drew.heap.size) (o:=0) (cells:=#[.int .i64 Q.1.1,.int .i64 Q.1.2.1,.int .i64 Q.1.2.2.1,.int .i64 Q.1.2.2.2]) (old:=#[.int .i64 0,.int .i64 0,.int .i64 0,.int .i64 0]) (new:=#[.int .i64 Q.1.1,.int .i64 Q.1.2.1,.int .i64 Q.1.2.2.1,.int .i64 Q.1.2.2.2]) rfl rfl rfl rfl (by kernel_rfl) rfl rfl b6yb7 (by kernel_rfl) (by simp) (by simp [Value.oneCell']) rfl ?_
      intro z2 hg hk6
      have hb2:Below X1.heap.size X1 z2:=hbyb7.grown hg hbyb7.size (fun k e=>by cases e;exact h6)
      refine ⟨fun _=>KP z2 hb2,?_⟩
      refine zD 16 7 (.bool Q.2) (KP z2 hb2) ?_
      refine zK (by kernel_rfl) ?_ _
      go_wp2
      go_meet
      case rel=>exact ⟨_,rfl,rfl,HX1.out.more hb2,hk6⟩
    case rest=>
     obtain ⟨g6,rfl,rfl,hP,hb6⟩:=hcut
     have HC:Hid (PtE w wc N lo c s e/\Bx wc g6 #[.int .i64 Q.1.1,.int .i64 Q.1.2.1,.int .i64 Q.1.2.2.1,.int .i64 Q.1.2.2.2] 26):=⟨hP,hb6⟩
     clear hP hb6 HX1
     cases hq2:Q.2 with
     | false=>
      have HE2:Hid (R=(c,false)):=(by rw [HE.out,if_neg (by rw [hq2];decide)]:R=_)
      go_wp2
      go_ret
      refine ⟨zL (by rw [HE2.out]),s,?_⟩
      rw [HE2.out]
      exact HC.out.1.inb
     | true=>
      have HE2:Hid (R=jM c ((3,e.at',e.to',Q.1.2.1,0),Q.1,(0,0,0,0))):=(by rw [HE.out,if_pos hq2]:R=_)
      clear HE hq2
      have l1:=zB HC.out.1.box 1 (.int .i64 e.at') rfl
      have l2:=zB HC.out.1.box 2 (.int .i64 e.to') rfl
      have v1:=zB HC.out.2 1 (.int .i64 Q.1.2.1) rfl
      go_wp2_with (refine wpList_load_row rfl _ _ rfl g6 rfl 26 _ (0,0) _ HC.out.2 Tryz.underlying26 rfl (by kernel_rfl) ?_)
      clear l1 l2 v1
      have hcon:=hand_p c s N lo wc.heap.size ((3,e.at',e.to',Q.1.2.1,0),Q.1,(0,0,0,0)) wc HC.out.1.inb.box HC.out.1.inb.own (Nat.le_trans HLO.out HC.out.1.inb.fr.size) HOK.out.hand HQ.out.2.1
      rw [<- HE2.out] at hcon
      unfold zQ at hcon
      refine hcon.mono ?_
      clear hcon
      rintro r y3 ⟨rfl,s3,hin,-⟩
      have HIN:Hid (InB N lo w y3 R.1 s3):=HC.out.1.inb.trans hin
      clear hin
      go_wp2
      go_ret
      exact ⟨rfl,s3,HIN.out⟩
   ·have b9:(e.kind == 9)=false:=by simpa using k9
    by_cases k10:e.kind=10
    ·have b10:(e.kind == 10)=true:=by simpa using k10
     have HE:Hid (R=zBC c e):=(by rw [HR2.out,if_neg k8,if_neg k9,if_pos k10]:R=_)
     clear k8 k9 k10 HR2
     go_wp2_with (refine wpList_load_row rfl _ _ rfl w.heap.size rfl 172 _ (0,0) _ HX1.out.box Tryz.underlying172 rfl (by kernel_rfl) ?_)
     refine (lieBlock_p c s N lo X1.heap.size e X1 HX1.out.inb.box HX1.out.inb.own (Nat.le_trans HLO.out HX1.out.inb.fr.size) HOK.out hn HCM.out).mono ?_
     rintro r y3 ⟨rfl,s3,hin⟩
     have HIN:Hid (InB N lo w y3 R.1 s3):=(by rw [HE.out];exact HX1.out.inb.trans hin:InB _ _ _ _ _ _)
     clear hin
     rw [<- HE.out]
     go_wp2
     go_ret
     exact ⟨rfl,s3,HIN.out⟩
    ·have b10:(e.kind == 10)=false:=by simpa using k10
     obtain ⟨V9,hV9⟩:∃ V9,V9=e.num % 900+1:=⟨_,rfl⟩
     have hm9:e.num.tmod 900=e.num % 900:=Int.tmod_eq_emod_of_nonneg hn
     have hb9:0<=e.num % 900/\e.num % 900 < 900:=by omega
     have HE:Hid (R=jM c ((4,e.at',e.to',e.num % 900+1,0),(0,0,0,0),(0,0,0,0))):=(by rw [HR2.out,if_neg k8,if_neg k9,if_neg k10]:R=_)
     clear k8 k9 k10 HR2 hV9
     have l1:=zB HX1.out.box 1 (.int .i64 e.at') rfl
     have l2:=zB HX1.out.box 2 (.int .i64 e.to') rfl
     have l3:=zB HX1.out.box 3 (.int .i64 e.num) rfl
     go_wp2_with fail
     clear l0 l1 l2 l3
     have hcon:=hand_p c s N lo X1.heap.size ((4,e.at',e.to',e.num % 900+1,0),(0,0,0,0),(0,0,0,0)) X1 HX1.out.inb.box HX1.out.inb.own (Nat.le_trans HLO.out HX1.out.inb.fr.size) HOK.out.hand ⟨by show (-9223372036854775808:Int)<=0;decide,by show (0:Int)<=9223372036854775807;decide⟩
     rw [<- HE.out] at hcon
     unfold zQ at hcon
     refine hcon.mono ?_
     clear hcon
     rintro r y3 ⟨rfl,s3,hin,-⟩
     have HIN:Hid (InB N lo w y3 R.1 s3):=HX1.out.inb.trans hin
     clear hin
     go_wp2
     go_ret
     exact ⟨rfl,s3,HIN.out⟩
end Go.Proofs.YtjdddcldbfhbiacGreatR
