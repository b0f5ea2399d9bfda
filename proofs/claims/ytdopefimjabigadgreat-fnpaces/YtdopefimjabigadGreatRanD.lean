/-
  A text of ours: RanD.
-/
import Derived.Test.YtdopefimjabigadGreatK1
import Derived.Test.YtdopefimjabigadGreatEvD
import Derived.Test.YtdopefimjabigadGreatK10
import Derived.Test.YtdopefimjabigadGreatClusN
set_option maxRecDepth 100000
set_option maxHeartbeats 32000000
namespace Go.Proofs.YtdopefimjabigadGreat
open Go.RowKit Num
structure RanB (w y:World) (N lo B:Nat) (ao:Option Addr) (len cap b off:Nat) (c:CU) (s:CW):Prop where
 st:St y B ao len cap b off
 out:Bx y w.heap.size jE 90
 box:Bx y N (zR c s) 90
 own:xG lo y.heap.size y c s
 gr:w.grownBy y (some B)
 hB:B < w.heap.size
 hlo:w.heap.size < lo
 hN:w.heap.size < N
 bl:0 < len->b < w.heap.size
 hy:lo<=y.heap.size
theorem RanB.draw {w y z:World} {N lo B:Nat} {ao:Option Addr} {len cap b off:Nat} {c:CU} {s:CW} (h:RanB w y N lo B ao len cap b off c s) (hs:St z B ao len cap b off) (hg:y.grownBy z (some B)):RanB w z N lo B ao len cap b off c s:=
 ⟨hs,(hg.block _ (gl h.out) (fun e=>by have:=Option.some.inj e;have:=h.hB;omega)).trans h.out,(hg.block _ (gl h.box) (fun e=>by have:=Option.some.inj e;have:=h.hB;have:=h.hN;omega)).trans h.box,(h.own.frs (FrS.of_grown hg (B:=fun k=>k=B) (fun k e=>by cases e;rfl)) (fun i g hi hp e=>by have:=h.own.lim i g hi hp;have:=h.hB;have:=h.hlo;omega)).wide hg.size (nl _),zP h.gr hg,h.hB,h.hlo,h.hN,h.bl,Nat.le_trans h.hy hg.size⟩
theorem RanB.go {w y z:World} {N lo B:Nat} {ao:Option Addr} {len cap b off:Nat} {c c':CU} {s s':CW} (h:RanB w y N lo B ao len cap b off c s) (hi:InW N lo y z c' s'):RanB w z N lo B ao len cap b off c' s':=by
 have K:∀ k,k<=w.heap.size->z.heap[k]?=y.heap[k]?:=fun k hk=>hi.fr.block k (by have:=(gl h.out);omega) (fun e=>by have:=h.hN;have:=h.hlo;omega)
 have hcode:Code z ao len b off:=⟨h.st.code.le,h.st.code.some,fun k hk=>by
  obtain ⟨v,h0,h1,h2⟩:=h.st.code.cell k hk
  exact ⟨v,h0,h1,by rw [World.cell?_of_block (w:=y) (K b (by have:=h.bl (by omega);omega))];exact h2⟩,fun hl=>Nat.lt_of_lt_of_le (h.st.code.lt hl) hi.fr.size⟩
 exact ⟨⟨hcode,h.st.cur.keep (K B (by have:=h.hB;omega)),h.st.ne⟩,(K _ (nl _)).trans h.out,hi.box,hi.own,⟨hi.fr.os.trans h.gr.os,hi.fr.tape.trans h.gr.tape,hi.fr.output.trans h.gr.output,Nat.le_trans h.gr.size hi.fr.size,fun k hk hne=>(K k (by omega)).trans (h.gr.block k hk hne)⟩,h.hB,h.hlo,h.hN,h.bl,Nat.le_trans h.hy hi.fr.size⟩
theorem new_life {l:Int} (hl:l∈([0,8,8,1,2]:List Int)) (ch:Bool):(xF 4 ch l).1=newC 4 ch l/\jJ 0 (newC 4 ch l):=by
 have h1:okNew 4 l=true:=by
  simp only [List.mem_cons,List.not_mem_nil,or_false] at hl
  rcases hl with rfl | rfl | rfl | rfl | rfl <;> decide +kernel
 have h2:0<=l/\l<=15:=by
  simp only [List.mem_cons,List.not_mem_nil,or_false] at hl;omega
 refine ⟨by unfold xF;rw [if_pos h1],⟨rfl,h2,⟨by show 1<=[kE].length;decide,by show [kE].length<=60;decide,fun b hb=>?_⟩,rfl,fun p hp=>?_,fun i hi=>?_,⟨by simp [newC],fun x hx=>by simp [newC] at hx⟩,⟨by simp [newC],fun x hx=>by simp [newC] at hx⟩,⟨by simp [newC],fun x hx=>by simp [newC] at hx⟩⟩⟩
 ·have hb2:b∈[kE]:=hb
  rcases List.mem_singleton.1 hb2 with rfl
  exact ⟨⟨by decide,by decide⟩,⟨by decide,by decide⟩,by decide,fun c hc=>by simp [kE] at hc,smQ0⟩
 ·have hp2:p∈(List.range 4).map (fun (i:Nat)=>newP (i:Int)):=hp;obtain ⟨i,hi,rfl⟩:=List.mem_map.1 hp2;have:=List.mem_range.1 hi;have hf:fair ([]:CL):=fair_of (by decide);exact ⟨⟨by show (0:Int)<=(i:Int);omega,by show (i:Int)<=6;omega⟩,⟨by show (0:Int)<=1;decide,by show (1:Int)<=900;decide⟩,smQ0,smQ0,smV0,⟨List.Pairwise.nil,fun x hx=>by simp [newP] at hx⟩,hf,⟨by simp [newP],fun x hx=>by simp [newP] at hx⟩,⟨by simp [newP],fun x hx=>by simp [newP] at hx⟩,⟨by simp [newP],fun x hx=>by simp [newP] at hx⟩,⟨by simp [newP],fun x hx=>by simp [newP] at hx⟩,sm0⟩
 ·have key:∀ i (h:i < ((List.range 4).map (fun (i:Nat)=>newP (i:Int))).length),(((List.range 4).map (fun (i:Nat)=>newP (i:Int)))[i]'h).id=(i:Int):=by
   intro i h;rw [List.getElem_map,List.getElem_range]
   rfl
  exact key i hi
theorem new_vw (ch:Bool) (l:Int):Vw (((0:Nat):Int)+1) (newC 4 ch l):=by
 refine ⟨fun b hb=>?_,fun p hp=>?_⟩
 ·have hb2:b∈[kE]:=hb
  rcases List.mem_singleton.1 hb2 with rfl
  decide
 ·have hp2:p∈(List.range 4).map (fun (i:Nat)=>newP (i:Int)):=hp;obtain ⟨i,-,rfl⟩:=List.mem_map.1 hp2;exact Int.le_refl 1
theorem ran_st {w:World} {B:Nat} {ao:Option Addr} {len cap b off:Nat} (most:Nat) (hm0:0 < most) (hm1:most<=200) (h:St w B ao len cap b off) :
  Calls Tryz.prog 64 #[.pointer (some ⟨B,0,none⟩),.int .i64 (most:Int)] w fun r w'=>∃ c s,r=.returned (clusV c s)/\LifeW (4+most) c/\xG w.heap.size w'.heap.size w' c s/\St w' B ao len cap b off/\w.grownBy w' (some B):=by
 have H:=hid h;obtain ⟨W,hW⟩:∃ W,W=w.alloc (.cells jE 90):=⟨_,rfl⟩
 have HW:Hid (St W B ao len cap b off/\Bx W w.heap.size jE 90/\w.grownBy W (some B)/\B < w.heap.size/\(0 < len->b < w.heap.size)):=(by
  have hb:Below w.heap.size w W:=by rw [hW];exact yA _ _
  exact ⟨h.below hb,by rw [hW];exact heap_alloc_new _ _,yG hb,h.cur.lt,h.code.lt⟩:_/\_)
 clear h;unfold jE at hW;go_enter Tryz.func64,Tryz.ntmps64;go_wp2_with (rw [<- hW];clear hW)
 refine (once_st 2 (by decide) (by decide) HW.out.1).mono ?_;rintro r y1 ⟨ch,rfl,hst,hg⟩;have H1:Hid (St y1 B ao len cap b off/\Bx y1 w.heap.size jE 90/\w.grownBy y1 (some B)):=⟨hst,(hg.block _ (gl HW.out.2.1) (fun e=>by have:=Option.some.inj e;have:=HW.out.2.2.2.1;omega)).trans HW.out.2.1,zP HW.out.2.2.1 hg⟩;clear hst hg;obtain ⟨YA,hYA⟩:∃ YA,YA=y1.alloc (.cells #[.int .i64 0,.int .i64 8,.int .i64 8,.int .i64 1,.int .i64 2] 3):=⟨_,rfl⟩
 have HYA:Hid (St YA B ao len cap b off/\Bx YA w.heap.size jE 90/\w.grownBy YA (some B)/\Bx YA y1.heap.size #[.int .i64 0,.int .i64 8,.int .i64 8,.int .i64 1,.int .i64 2] 3/\y1.heap.size ≠ B):=(by
  have hb:Below y1.heap.size y1 YA:=by rw [hYA];exact yA _ _
  refine ⟨H1.out.1.below hb,(hb.block _ (gl H1.out.2.1)).trans H1.out.2.1,zP H1.out.2.2 (yG hb),by rw [hYA];exact heap_alloc_new _ _,?_⟩;have:=H1.out.1.cur.lt
  omega:_/\_)
 go_wp2_with (rw [<- hYA];clear hYA)
 refine (pickL_st (L:=y1.heap.size) [0,8,8,1,2] (by decide) (by decide) HYA.out.1 HYA.out.2.2.2.2 HYA.out.2.2.2.1).mono ?_;rintro r y2 ⟨lz,hlz,rfl,hst,hg⟩;have H2:Hid (St y2 B ao len cap b off/\Bx y2 w.heap.size jE 90/\w.grownBy y2 (some B)):=⟨hst,(hg.block _ (gl HYA.out.2.1) (fun e=>by have:=Option.some.inj e;have:=HW.out.2.2.2.1;omega)).trans HYA.out.2.1,zP HYA.out.2.2.1 hg⟩;have hnl:=new_life hlz ch;have hlw:(Lit.int .i64 lz).wf=true:=wf_in (by have:=hnl.2.liars;have e:(newC 4 ch lz).liars=lz:=rfl;rw [e] at this;omega);clear hst hg hlz HYA H1;go_wp2_with fail
 have hcon:=clusterNew_s 4 ch lz y2 (wf_in ⟨by decide,by decide⟩) hlw;obtain ⟨c0,hc0⟩:∃ c0,c0=(xF 4 ch lz).1:=⟨_,rfl⟩;have HL0:Hid (LifeW 0 c0):=hid (by rw [hc0,hnl.1];exact ⟨hnl.2,new_vw ch lz⟩);rw [<- hc0] at hcon;refine hcon.mono ?_;clear hcon hc0 hnl hlw;rintro r y3 ⟨s0,rfl,ho,hb3⟩;have H3:Hid (St y3 B ao len cap b off/\Bx y3 w.heap.size jE 90/\w.grownBy y3 (some B)/\xG y2.heap.size y3.heap.size y3 c0 s0/\w.heap.size < y2.heap.size/\y2.heap.size<=y3.heap.size):=⟨H2.out.1.below hb3,(hb3.block _ (gl H2.out.2.1)).trans H2.out.2.1,zP H2.out.2.2 (yG hb3),ho,(gl H2.out.2.1),hb3.size⟩;clear ho hb3 H2
 go_wp2_with (first
  | (refine w_st y3.heap.size (zR c0 s0) (heap_alloc_new y3 _) (clusA_one H3.out.2.2.2.1) ?_;intro y4 hg hk hz;have hb4:Below y3.heap.size y3 y4:=yB hg;have H4:Hid (RanB w y4 y3.heap.size y2.heap.size B ao len cap b off c0 s0):=⟨H3.out.1.below hb4,(hb4.block _ (gl H3.out.2.1)).trans H3.out.2.1,hk,(H3.out.2.2.2.1.below hb4).wide hb4.size (nl _),zP H3.out.2.2.1 (yG hb4),HW.out.2.2.2.1,H3.out.2.2.2.2.1,Nat.lt_of_lt_of_le H3.out.2.2.2.2.1 H3.out.2.2.2.2.2,HW.out.2.2.2.2,Nat.le_trans H3.out.2.2.2.2.2 hb4.size⟩;clear hg hk hz hb4))
 obtain ⟨N,hN⟩:∃ N,N=y3.heap.size:=⟨_,rfl⟩;obtain ⟨lo,hlo⟩:∃ lo,lo=y2.heap.size:=⟨_,rfl⟩;rw [<- hN,<- hlo] at H4;rw [<- hN];clear hN hlo H3 HW
 go_loopw [8] (fun i wr=>∃ m:Nat,m<=4+most/\i=.int .i64 (m:Int)/\∃ c s,Hid (LifeW m c/\RanB w wr N lo B ao len cap b off c s)) (fun i _=>4+most - (intOf i).toNat)
 case atStart=>exact ⟨0,Nat.zero_le _,rfl,c0,s0,HL0.out,H4.out⟩
 case round=>
  obtain ⟨m,hm,rfl,c,s,HY⟩:=hrel;go_wp2_with fail
  refine (xO (most:Int) (by omega) (by omega) HY.out.2.st).mono ?_;rintro r z1 ⟨x,rfl,h0,h1,hst,hg⟩;have HZ1:Hid (LifeW m c/\RanB w z1 N lo B ao len cap b off c s):=⟨HY.out.1,HY.out.2.draw hst hg⟩;clear hst hg HY
  by_cases hlt:(m:Int) < 4+x
  ·go_wp2_with (refine w_ld N HZ1.out.2.box Tryz.underlying90 ?_)
   refine (event_st c s HZ1.out.2.st HZ1.out.2.own (by have:=HZ1.out.2.hB;have:=HZ1.out.2.hlo;omega) HZ1.out.2.st.code.lt HZ1.out.1.n HZ1.out.1.lpeers HZ1.out.1.net.1 (fun p hp=>(HZ1.out.1.peers p hp).good (by omega))).mono ?_;rintro r z2 ⟨e,rfl,hfit,hst,hg⟩;have HZ2:Hid (LifeW m c/\RanB w z2 N lo B ao len cap b off c s/\evFit e):=⟨HZ1.out.1,HZ1.out.2.draw hst hg,hfit⟩;clear hfit hst hg HZ1;go_wp2_with fail
   refine (do_p c s N lo z2.heap.size e z2 HZ2.out.2.1.box HZ2.out.2.1.own HZ2.out.2.1.hy (HZ2.out.1.ok (by omega)) (wf_in (by have:=HZ2.out.2.2.at0;omega)) HZ2.out.2.2.num.1 (by have:=HZ2.out.2.2.size;omega)).mono ?_;rintro r z3 ⟨rfl,s3,hin⟩;have HZ3:Hid (LifeW (m+1) (doC c e).1/\RanB w z3 N lo B ao len cap b off (doC c e).1 s3):=⟨HZ2.out.1.step HZ2.out.2.2,HZ2.out.2.1.go hin⟩;clear hin HZ2;go_wp2
   go_roundw
   case rel=>exact ⟨m+1,by omega,by go_num,_,s3,HZ3.out⟩
   case measure=>simp [intOf];omega
  ·go_wp2_with (first
    | (refine w_ld N HZ1.out.2.box Tryz.underlying90 ?_)
    | (refine w_st w.heap.size (zR c s) HZ1.out.2.out (clusA_one HZ1.out.2.own) ?_;intro z hg hk hz;have HZ:Hid (Bx z w.heap.size (zR c s) 90/\xG w.heap.size z.heap.size z c s/\St z B ao len cap b off/\w.grownBy z (some B)):=⟨hk,((HZ1.out.2.own.boxT HZ1.out.2.out hg).low (by have:=HZ1.out.2.hlo;omega)).wide hg.size (nl _),HZ1.out.2.st.other hg (by have:=HZ1.out.2.hB;omega) (fun hl e=>by have:=HZ1.out.2.bl hl;omega),yT HZ1.out.2.gr (nl _) hg⟩;clear hg hk hz))
   refine bodyPost_ret (v:=.agg (zR c s)) (results_cell_row Tryz.results64 _ _ w.heap.size 90 _ (0,0) _ rfl HZ.out.1 Tryz.underlying90 rfl (by kernel_rfl)) rfl ?_;exact ⟨c,s,rfl,HZ1.out.1.mono hm,HZ.out.2.1,HZ.out.2.2.1,HZ.out.2.2.2⟩
end Go.Proofs.YtdopefimjabigadGreat
