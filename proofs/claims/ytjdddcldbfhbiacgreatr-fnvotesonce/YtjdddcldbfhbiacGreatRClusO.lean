/-
  A text of ours: ClusO.
-/
import Derived.Test.YtjdddcldbfhbiacGreatRK1
import Derived.Test.YtjdddcldbfhbiacGreatRK2
import Derived.Test.YtjdddcldbfhbiacGreatRK3
set_option maxRecDepth 100000
set_option maxHeartbeats 32000000
namespace Go.Proofs.YtjdddcldbfhbiacGreatR
open Go.RowKit Num
def zAC (c:CU) (k:Int):CU:=if 0≤k∧k < c.net.length then { c with net:=c.net.take k.toNat ++ c.net.drop (k.toNat+1) } else c
def outB (c:CU) (k:Int):Bool:=decide (0≤k∧k < c.net.length)
def zBH (c:CU) (k:Int):LT:=match c.net[k.toNat]? with
 | some l=>if 0≤k then l else ((0,0,0,0,0),(0,0,0,0),(0,0,0,0))
 | none=>((0,0,0,0,0),(0,0,0,0),(0,0,0,0))
theorem rows_news {w:World} {base g n cap:Nat} {xs:List LT} (h:w.ownsRow base 61 13 (.slice (some ⟨g,0,none⟩) n cap) n (zE yE xs)) (hn:n=xs.length) (i m:Nat) (him:i+m≤xs.length) :
  ∀ j u,(zE yE ((xs.drop i).take m))[j]?=some u→w.cell? ((⟨g,i * 13,none⟩:Addr).add j)=some u:=fun j u hu=>by
 have hj:=(List.getElem?_eq_some_iff.1 hu).1
 have hl:=jX xP ((xs.drop i).take m)
 have hlm:((xs.drop i).take m).length=m:=by rw [List.length_take,List.length_drop];omega
 rw [hl,hlm] at hj
 have e1:zE yE xs=zE yE (xs.take i) ++ (zE yE ((xs.drop i).take m) ++ zE yE ((xs.drop i).drop m)):=by
  rw [← zY,List.take_append_drop,← zY,List.take_append_drop]
 have hli:(zE yE (xs.take i)).length=i * 13:=by rw [jX xP,List.length_take,Nat.min_eq_left (by omega)]
 rw [Addr.add_mid,h.cellAt (i * 13+j) (by rw [hn];omega),e1,List.getElem?_append_right (by omega),hli,Nat.add_sub_cancel_left,List.getElem?_append_left (by rw [hl,hlm];exact hj)]
 exact hu
theorem letF_all (l:List LT):∀ u∈zE yE l,u.oneCell'=true:=fun u hu=>by
 unfold zE at hu
 obtain ⟨x,_,hx⟩:=List.mem_flatMap.1 hu
 exact kF x u hx
theorem out_p (c:CU) (s:CW) (N lo hi:Nat) (k:Int) (w:World) (hbox:Bx w N (zR c s) 124) (hown:xG lo hi w c s) (hlo:lo≤hi) (hk:(c.net.length:Int)≤1048576) (hwk:(Lit.int .i64 k).wf=true) :
  Calls Tryz.prog 164 #[.pointer (some ⟨N,0,none⟩),.int .i64 k] w fun e w'=>e=.returned (.tuple #[.agg (zQ (zBH c k)),.bool (outB c k)])∧∃ s',InB N lo w w' (zAC c k) s':=by
 have HB:=hid hbox
 have HO:=hid hown
 have HLO:Hid (lo≤hi∧hi≤w.heap.size∧N < w.heap.size):=⟨hlo,hown.size,(gl hbox)⟩
 obtain ⟨li,lhi,lhz0,lhz1,lhz2⟩:=info_parts zBJ
 obtain ⟨an,cn,en,hga⟩:=yL hown.net
 have HEN:=hid en
 have HGA:=hid hga
 have hcap:c.net.length≤cn:=zJB hown.net _ _ _ en
 clear hbox hown hlo en hga
 obtain ⟨W,hW⟩:∃ W,W=w.alloc (.cells (zQ ((0,0,0,0,0),(0,0,0,0),(0,0,0,0))) 61):=⟨_,rfl⟩
 have HW:Hid (Below w.heap.size w W∧Bx W w.heap.size (zQ ((0,0,0,0,0),(0,0,0,0),(0,0,0,0))) 61∧W.heap.size=w.heap.size+1):=hid (by rw [hW];exact ⟨ba (br _ _) _,heap_alloc_new w _,by simp⟩)
 have HBW:Hid (Bx W N #[.int .i64 c.n,.bool c.chain,.int .i64 c.liars,s.treeV,s.peersV,s.net,s.said,s.pend] 124):=(HW.out.1.block N HLO.out.2.2).trans HB.out
 unfold zQ at hW
 simp only at hW
 go_enter Tryz.func164,Tryz.ntmps164
 go_wp2_with (rw [← hW];clear hW;refine kQ rfl _ _ rfl N 5 (.slice an c.net.length cn) _ _ rfl HBW.out (by rw [← HEN.out];rfl) _ Tryz.underlying33 rfl ?_)
 refine (yS k 0 ((c.net.length:Int) - 1) W).mono ?_
 rintro e w1 ⟨rfl,hw⟩
 obtain rfl:=hw.symm
 clear hw
 by_cases hin:0≤k∧k < c.net.length
 ·rw [kY (by omega)]
  have h0:=hin.1
  have h1:=hin.2
  obtain ⟨j,hj⟩:∃ j:Nat,k=(j:Int):=⟨k.toNat,by omega⟩
  subst hj
  have hjn:j < c.net.length:=by omega
  obtain ⟨l,hl⟩:∃ l,l=c.net[j]:=⟨_,rfl⟩
  have HE:Hid (zAC c (j:Int)={ c with net:=c.net.take j ++ c.net.drop (j+1) }∧outB c (j:Int)=true∧zBH c (j:Int)=l):=⟨by unfold zAC;rw [if_pos hin];simp,by unfold outB;simp [hjn],by unfold zBH;simp [hjn,hl]⟩
  obtain ⟨g,rfl⟩:=HGA.out (by omega)
  have HON:Hid (W.ownsRow lo 61 13 (.slice (some ⟨g,0,none⟩) c.net.length cn) c.net.length (zE yE c.net)):=(by rw [← HEN.out];exact zS HO.out.net HW.out.1)
  have HRG:Hid (W.rangeAt g (j * 13) (yE l)):=(fun i u hu=>by have:=rows_news HON.out rfl j 1 (by omega) i u (by rw [List.drop_eq_getElem_cons hjn];simpa [zE,← hl] using hu);rw [Addr.add_mid] at this;exact this:W.rangeAt g (j * 13) (yE l))
  have hc1:(j:Int)+1≤cn:=by omega
  have hc2:(j:Int)≤c.net.length:=by omega
  have hc3:(j:Int)≤cn:=by omega
  have hc4:(j:Int)+1≤c.net.length:=by omega
  have hn0:¬ (cn=0):=by omega
  clear hin hl
  go_wp2_with (first
   | (refine zC rfl _ _ _ rfl W.heap.size (zQ l) rfl rfl 61 (zQ ((0,0,0,0,0),(0,0,0,0),(0,0,0,0))) (heap_alloc_new W _) (by kernel_rfl) rfl (kD _) ?_;intro y1 hg hk hz;have hb1:Below W.heap.size W y1:=yB hg;have HY1:Hid (Below w.heap.size w y1∧Bx y1 w.heap.size (zQ ((0,0,0,0,0),(0,0,0,0),(0,0,0,0))) 61∧Bx y1 N #[.int .i64 c.n,.bool c.chain,.int .i64 c.liars,s.treeV,s.peersV,s.net,s.said,s.pend] 124∧Bx y1 W.heap.size (zQ l) 61∧y1.ownsRow lo 61 13 (.slice (some ⟨g,0,none⟩) c.net.length cn) c.net.length (zE yE c.net)∧xG lo hi y1 c s):=⟨bt HW.out.1 hb1,(hb1.block _ (gl HW.out.2.1)).trans HW.out.2.1,(hb1.block _ (gl HBW.out)).trans HBW.out,hk,zS HON.out hb1,(HO.out.below HW.out.1).below hb1⟩;clear hg hk hz hb1 HRG HON)
   | (refine kQ rfl _ _ rfl N 5 (.slice (some ⟨g,0,none⟩) c.net.length cn) _ _ rfl HBW.out (by rw [← HEN.out];rfl) _ Tryz.underlying33 rfl ?_)
   | (refine wpList_load_mid rfl _ _ rfl g (j * 13) (by go_simp) (yE l) _ HRG.out Tryz.underlying61 rfl (by kernel_rfl) ?_))
  obtain ⟨o2,ho2⟩:∃ o2:Nat,o2=if cn=j+1 then 0 else (j+1) * 13:=⟨_,rfl⟩
  refine zT (fun i=>i != 19) (fun x=>Bx x N #[.int .i64 c.n,.bool c.chain,.int .i64 c.liars,s.treeV,s.peersV,s.net,s.said,s.pend] 124) (by kernel_rfl) ?_
  show zX Tryz.prog _ _ _ _ _ (19+1) (Array.replicate 20 false) _ _
  have hS:Bx y1.drew N #[.int .i64 c.n,.bool c.chain,.int .i64 c.liars,s.treeV,s.peersV,s.net,s.said,s.pend] 124:=HY1.out.2.2.1
  refine zD 0 24 (.pointer (some ⟨N,0,none⟩)) hS ?_ (hy:=by intro x hx;go_simp;first | done | with_reducible rfl | (rw [IntKind.wrap_i64];omega))
  refine zD 2 26 (.pointer (some ⟨N,0,none⟩)) hS ?_ (hy:=by intro x hx;go_simp;first | done | with_reducible rfl | (rw [IntKind.wrap_i64];omega))
  refine zD 3 27 (.pointer (some ⟨N,0,none⟩)) hS ?_ (hy:=by intro x hx;go_simp;first | done | with_reducible rfl | (rw [IntKind.wrap_i64];omega))
  refine zD 4 28 (.pointer (some ⟨N,5,none⟩)) hS ?_ (hy:=by intro x hx;go_simp;first | done | with_reducible rfl | (rw [IntKind.wrap_i64];omega))
  refine zD 5 29 (.slice (some ⟨g,0,none⟩) c.net.length cn) hS ?_ (hy:=by intro x hx;have c:=zB hx 5 (.slice (some ⟨g,0,none⟩) c.net.length cn) (by rw [← HEN.out];rfl);go_simp;first | done | with_reducible rfl | (rw [IntKind.wrap_i64];omega))
  refine zD 6 30 (.int .i64 (j:Int)) hS ?_ (hy:=by intro x hx;go_simp;first | done | with_reducible rfl | (rw [IntKind.wrap_i64];omega))
  refine zD 7 31 (.slice (some ⟨g,0,none⟩) j cn) hS ?_ (hy:=by intro x hx;go_simp;first | done | with_reducible rfl | (rw [IntKind.wrap_i64];omega))
  refine zD 9 33 (.pointer (some ⟨N,0,none⟩)) hS ?_ (hy:=by intro x hx;go_simp;first | done | with_reducible rfl | (rw [IntKind.wrap_i64];omega))
  refine zD 10 34 (.pointer (some ⟨N,0,none⟩)) hS ?_ (hy:=by intro x hx;go_simp;first | done | with_reducible rfl | (rw [IntKind.wrap_i64];omega))
  refine zD 11 35 (.pointer (some ⟨N,5,none⟩)) hS ?_ (hy:=by intro x hx;go_simp;first | done | with_reducible rfl | (rw [IntKind.wrap_i64];omega))
  refine zD 12 36 (.slice (some ⟨g,0,none⟩) c.net.length cn) hS ?_ (hy:=by intro x hx;have c:=zB hx 5 (.slice (some ⟨g,0,none⟩) c.net.length cn) (by rw [← HEN.out];rfl);go_simp;first | done | with_reducible rfl | (rw [IntKind.wrap_i64];omega))
  refine zD 13 37 (.int .i64 (j:Int)) hS ?_ (hy:=by intro x hx;go_simp;first | done | with_reducible rfl | (rw [IntKind.wrap_i64];omega))
  refine zD 14 38 (.int .i64 ((j:Int)+1)) hS ?_ (hy:=by intro x hx;go_simp;first | done | with_reducible rfl | (rw [IntKind.wrap_i64];omega))
  refine zD 15 39 (.slice (some ⟨g,o2,none⟩) (c.net.length - (j+1)) (cn - (j+1))) hS ?_ (hy:=by
   intro x hx
   rw [ho2]
   by_cases hcc:cn=j+1
   ·rw [if_pos hcc]
    go_simp
    intro hneg
    exact absurd hneg (by omega)
   ·rw [if_neg hcc]
    go_simp
    intro hneg
    exact absurd hneg (by omega))
  obtain ⟨z1,hz1⟩:∃ z1,z1=y1.drew.alloc (.cells #[] 61):=⟨_,rfl⟩
  have hb1:Below y1.heap.size y1 z1:=(by rw [hz1];exact ((Below.refl y1.heap.size y1).drew).alloc (show y1.heap.size≤y1.drew.heap.size from nl _) _:Below y1.heap.size y1 z1)
  have HV1:Hid (z1.ownsRow y1.heap.size 61 13 (.slice (some ⟨y1.heap.size,0,none⟩) 0 0) 0 []):=(by rw [hz1];exact yH y1.drew _ _)
  have HB1:=hid hb1
  have HYS:Hid (w.heap.size+1 < y1.heap.size):=hid (by have:=(gl HY1.out.2.2.2.1);have:=HW.out.2.2;omega)
  have hS1:Bx z1 N #[.int .i64 c.n,.bool c.chain,.int .i64 c.liars,s.treeV,s.peersV,s.net,s.said,s.pend] 124:=(hb1.block N (by have:=HLO.out;have:=HYS.out;omega)).trans HY1.out.2.2.1
  refine p_run (s:=1) (e':=some 25) rfl rfl rfl (by kernel_rfl) (.slice (some ⟨y1.heap.size,0,none⟩) 0 0) z1 ?_ ⟨fun _=>hS1,?_⟩
  ·rw [hz1]
   go_simp
   try with_reducible rfl
  clear hz1 hb1 hS
  simp only [pz]
  refine p_append (s:=8) (e':=some 32) rfl rfl rfl (.tmp 25) (.tmp 31) 33 rfl (by kernel_rfl) y1.heap.size 61 li _ 13 104 Tryz.underlying33 lhi lhz0 lhz1 lhz2 rfl (by decide) (.slice (some ⟨y1.heap.size,0,none⟩) 0 0) 0 [] rfl HV1.out ⟨g,0,none⟩ j cn (zE yE (c.net.take j)) rfl (by rw [jX xP,List.length_take,Nat.min_eq_left (by omega)]) (fun i u hu=>by have:=rows_news (zS HY1.out.2.2.2.2.1 HB1.out) rfl 0 j (by omega) i u (by simpa using hu);simpa using this) (letF_all _) (by unfold maxLen;omega) (by omega) HB1.out.size ?_
  intro v2 z2 ho hg
  have HB2:Hid (Below y1.heap.size y1 z2):=HB1.out.grown hg HB1.out.size (fun k hk=>by cases hk;exact nl _)
  have HV2:=hid ho
  have hS2:Bx z2 N #[.int .i64 c.n,.bool c.chain,.int .i64 c.liars,s.treeV,s.peersV,s.net,s.said,s.pend] 124:=(HB2.out.block N (by have:=HLO.out;have:=HYS.out;omega)).trans HY1.out.2.2.1
  clear ho hg hS1 HB1 HV1
  refine ⟨fun _=>hS2,?_⟩
  simp only [pz]
  refine p_append (s:=16) (e':=some 40) rfl rfl rfl (.tmp 32) (.tmp 39) 33 rfl (by kernel_rfl) y1.heap.size 61 li _ 13 104 Tryz.underlying33 lhi lhz0 lhz1 lhz2 rfl (by decide) v2 (0+j) _ rfl HV2.out ⟨g,o2,none⟩ (c.net.length - (j+1)) (cn - (j+1)) (zE yE (c.net.drop (j+1))) rfl (by rw [jX xP,List.length_drop]) (fun i u hu=>?_) (letF_all _) (by unfold maxLen;omega) (by omega) HB2.out.size ?_
  ·by_cases hcc:cn=j+1
   ·have hnl:c.net.length=j+1:=by omega
    rw [List.drop_eq_nil_of_le (by omega)] at hu
    simp [zE] at hu
   ·rw [if_neg hcc] at ho2
    rw [ho2]
    exact rows_news (zS HY1.out.2.2.2.2.1 HB2.out) rfl (j+1) (c.net.length - (j+1)) (by omega) i u (by rw [List.take_of_length_le (by rw [List.length_drop];exact nl _)];exact hu)
  intro v3 z3 ho hg
  have HB3:Hid (Below y1.heap.size y1 z3):=HB2.out.grown hg HB2.out.size (fun k hk=>(HV2.out.lt k hk).1)
  have hnl:0+j+(c.net.length - (j+1))=(c.net.take j ++ c.net.drop (j+1)).length:=by rw [List.length_append,List.length_take,List.length_drop,Nat.min_eq_left (by omega)];omega
  have HV3:Hid (z3.ownsRow y1.heap.size 61 13 v3 (c.net.take j ++ c.net.drop (j+1)).length (zE yE (c.net.take j ++ c.net.drop (j+1)))):=hid (by rw [← hnl,zY];simpa using ho)
  have hS3:Bx z3 N #[.int .i64 c.n,.bool c.chain,.int .i64 c.liars,s.treeV,s.peersV,s.net,s.said,s.pend] 124:=(HB3.out.block N (by have:=HLO.out;have:=HYS.out;omega)).trans HY1.out.2.2.1
  clear ho hg hS2 HB2 HV2 hnl ho2
  refine ⟨fun _=>hS3,?_⟩
  simp only [pz]
  refine zD 17 41 (.pointer (some ⟨N,0,none⟩)) hS3 ?_ (hy:=by intro x hx;go_simp;first | done | with_reducible rfl | (rw [IntKind.wrap_i64];omega))
  refine zD 18 42 (.pointer (some ⟨N,5,none⟩)) hS3 ?_ (hy:=by intro x hx;go_simp;first | done | with_reducible rfl | (rw [IntKind.wrap_i64];omega))
  refine kT (s:=19) (N:=N) (o:=5) (u:=v3) (old:=#[.int .i64 c.n,.bool c.chain,.int .i64 c.liars,s.treeV,s.peersV,s.net,s.said,s.pend]) (new:=#[.int .i64 c.n,.bool c.chain,.int .i64 c.liars,s.treeV,s.peersV,v3,s.said,s.pend]) rfl rfl rfl rfl (by kernel_rfl) rfl rfl hS3 (by kernel_rfl) (by simp) (jI HV3.out) rfl ?_
  intro z4 hg hk
  have HZ4:Hid (Bx z4 N #[.int .i64 c.n,.bool c.chain,.int .i64 c.liars,s.treeV,s.peersV,v3,s.said,s.pend] 124∧FrS (fun k=>k=N) w z4∧xG lo hi z4 c s∧z4.ownsRow y1.heap.size 61 13 v3 (c.net.take j ++ c.net.drop (j+1)).length (zE yE (c.net.take j ++ c.net.drop (j+1)))∧Bx z4 w.heap.size (zQ ((0,0,0,0,0),(0,0,0,0),(0,0,0,0))) 61∧Bx z4 W.heap.size (zQ l) 61∧y1.heap.size≤z4.heap.size):=⟨hk,(FrS.of_below (bt HY1.out.1 HB3.out)).trans (FrS.of_grown hg (fun k e=>by cases e;rfl)),(HY1.out.2.2.2.2.2.below HB3.out).boxT hS3 hg,World.ownsRow.kept HV3.out hg (zH HV3.out hS3 (by decide)),(hg.block _ (by have:=HB3.out.size;have:=HYS.out;omega) (fun e=>by have:=Option.some.inj e;have:=HLO.out;omega)).trans ((HB3.out.block _ (by have:=HYS.out;omega)).trans HY1.out.2.1),(hg.block _ (by have:=HB3.out.size;have:=HYS.out;have:=HW.out.2.2;omega) (fun e=>by have:=Option.some.inj e;have:=HLO.out;have:=HW.out.2.2;omega)).trans ((HB3.out.block _ (by have:=HYS.out;have:=HW.out.2.2;omega)).trans HY1.out.2.2.2.1),Nat.le_trans HB3.out.size hg.size⟩
  clear hg hk hS3 HB3 HV3
  refine ⟨fun h=>(by cases h),?_⟩
  refine zK (by kernel_rfl) ?_ _
  go_wp2_with (first
   | (refine wpList_load_row rfl _ _ rfl W.heap.size rfl 61 _ (0,0) _ HZ4.out.2.2.2.2.2.1 Tryz.underlying61 rfl (by kernel_rfl) ?_)
   | (refine zC rfl _ _ _ rfl w.heap.size (zQ l) rfl rfl 61 (zQ ((0,0,0,0,0),(0,0,0,0),(0,0,0,0))) HZ4.out.2.2.2.2.1 (by kernel_rfl) rfl (kD _) ?_;intro z5 hg hk hz;have HZ5:Hid (Bx z5 w.heap.size (zQ l) 61∧Bx z5 N #[.int .i64 c.n,.bool c.chain,.int .i64 c.liars,s.treeV,s.peersV,v3,s.said,s.pend] 124∧FrS (fun k=>k=N) w z5∧xG lo hi z5 c s∧z5.ownsRow y1.heap.size 61 13 v3 (c.net.take j ++ c.net.drop (j+1)).length (zE yE (c.net.take j ++ c.net.drop (j+1)))∧z4.heap.size≤z5.heap.size):=⟨hk,(hg.block _ (gl HZ4.out.1) (fun e=>by have:=Option.some.inj e;have:=HLO.out;omega)).trans HZ4.out.1,⟨hg.os.trans HZ4.out.2.1.os,hg.tape.trans HZ4.out.2.1.tape,hg.output.trans HZ4.out.2.1.output,Nat.le_trans HZ4.out.2.1.size hg.size,fun i hi hn=>(hg.block i (by have:=HZ4.out.2.1.size;omega) (fun e=>by have:=Option.some.inj e;omega)).trans (HZ4.out.2.1.block i hi hn)⟩,HZ4.out.2.2.1.boxed hg (Or.inr HLO.out.2.1),own_not HZ4.out.2.2.2.1 hg (by have:=HYS.out;omega),hg.size⟩;clear hg hk hz))
  refine bodyPost_ret (v:=.tuple #[.agg (zQ l),.bool true]) (qE Tryz.results164 _ _ w.heap.size 61 _ (0,0) _ _ rfl HZ5.out.1 Tryz.underlying61 rfl (by kernel_rfl) rfl) rfl ?_
  refine ⟨by rw [HE.out.2.1,HE.out.2.2],{ s with net:=v3 },?_⟩
  rw [HE.out.1]
  have hz:=HZ5.out
  have hs4:=HZ4.out.2.2.2.2.2.2
  exact ⟨hz.2.1,hz.2.2.2.1.setNet (Nat.le_trans HLO.out.2.1 hz.2.2.1.size) (nl _) (zN hz.2.2.2.2.1 (by have:=HLO.out;have:=HYS.out;omega)) (fun i hi=>⟨by have:=(hz.2.2.2.2.1.lt i hi).1;have:=HLO.out;have:=HYS.out;omega,(hz.2.2.2.2.1.lt i hi).2⟩) HLO.out.1,hz.2.2.1⟩
 ·rw [zAB (by omega)]
  have HE:Hid (zAC c k=c∧outB c k=false∧zBH c k=((0,0,0,0,0),(0,0,0,0),(0,0,0,0))):=⟨if_neg hin,by unfold outB;simp only [decide_eq_false_iff_not];exact hin,by
   unfold zBH
   split
   ·rename_i l hl
    split
    ·rename_i hk0
     have:=(List.getElem?_eq_some_iff.1 hl).1
     exact absurd ⟨hk0,by omega⟩ hin
    ·rfl
   ·rfl⟩
  go_wp2_with (refine zC rfl _ _ _ rfl w.heap.size (zQ ((0,0,0,0,0),(0,0,0,0),(0,0,0,0))) rfl rfl 61 (zQ ((0,0,0,0,0),(0,0,0,0),(0,0,0,0))) HW.out.2.1 (by kernel_rfl) rfl (kD _) ?_;intro z5 hg hk hz;have HZ5:Hid (Bx z5 w.heap.size (zQ ((0,0,0,0,0),(0,0,0,0),(0,0,0,0))) 61∧Bx z5 N #[.int .i64 c.n,.bool c.chain,.int .i64 c.liars,s.treeV,s.peersV,s.net,s.said,s.pend] 124∧FrS (fun k=>k=N) w z5∧xG lo hi z5 c s):=⟨hk,(hg.block _ (gl HBW.out) (fun e=>by have:=Option.some.inj e;have:=HLO.out;omega)).trans HBW.out,FrS.of_below (HW.out.1.grown hg HW.out.1.size (fun k hk=>by cases hk;exact nl _)),(HO.out.below HW.out.1).boxed hg (Or.inr HLO.out.2.1)⟩;clear hg hk hz)
  refine bodyPost_ret (v:=.tuple #[.agg (zQ ((0,0,0,0,0),(0,0,0,0),(0,0,0,0))),.bool false]) (qE Tryz.results164 _ _ w.heap.size 61 _ (0,0) _ _ rfl HZ5.out.1 Tryz.underlying61 rfl (by kernel_rfl) rfl) rfl ?_
  refine ⟨by rw [HE.out.2.1,HE.out.2.2],s,?_⟩
  rw [HE.out.1]
  exact ⟨HZ5.out.2.1,HZ5.out.2.2.2.wide (Nat.le_trans HLO.out.2.1 HZ5.out.2.2.1.size) (nl _),HZ5.out.2.2.1⟩
end Go.Proofs.YtjdddcldbfhbiacGreatR
