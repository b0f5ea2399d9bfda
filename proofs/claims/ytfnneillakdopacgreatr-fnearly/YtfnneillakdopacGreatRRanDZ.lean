/-
  A text of ours: RanD.
-/
import Derived.Test.YtfnneillakdopacGreatRK1
import Derived.Test.YtfnneillakdopacGreatREvDZ
import Derived.Test.YtfnneillakdopacGreatRK10
import Derived.Test.YtfnneillakdopacGreatRClusNZ
set_option maxRecDepth 100000
set_option maxHeartbeats 32000000
namespace Go.Proofs.YtfnneillakdopacGreatR
open _root_.Go.Proofs.Tryz
open Go.Value renaming int->I
open Go.IntKind renaming i64->U
open Nat renaming le_trans->Aa,lt_of_lt_of_le->Ab
open Go.RowKit Num
variable {B b cap len off:Nat} {ao:Option Addr} {w:World}
structure RanB (w y:World) (N lo B:Nat) (ao:Option Addr) (len cap b off:Nat) (c:CU) (s:CW):Prop where
 st:St y B ao len cap b off
 out:Bx y w.heap.size jE 124
 box:Bx y N (zR c s) 124
 own:xG lo y.heap.size y c s
 gr:w.grownBy y (some B)
 hB:B < w.heap.size
 hlo:w.heap.size < lo
 hN:w.heap.size < N
 bl:0 < len->b < w.heap.size
 hy:lo<=y.heap.size
theorem RanB.draw {y z:World} {N lo:Nat} {c:CU} {s:CW} (h:RanB w y N lo B ao len cap b off c s) (hs:St z B ao len cap b off) (hg:y.grownBy z (some B)):RanB w z N lo B ao len cap b off c s:=
 ⟨hs,gk hg h.out (qsn (by have:=h.hB;omega)),gk hg h.box (qsn (by have:=h.hB;have:=h.hN;omega)),(h.own.frs (FrS.of_grown hg (B:=fun k=>k=B) (fun k e=>by cases e;rfl)) (fun i g hi hp e=>by have:=h.own.lim i g hi hp;have:=h.hB;have:=h.hlo;omega)).wide hg.size (nl _),zP h.gr hg,h.hB,h.hlo,h.hN,h.bl,Aa h.hy hg.size⟩
theorem RanB.go {y z:World} {N lo:Nat} {c c':CU} {s s':CW} (h:RanB w y N lo B ao len cap b off c s) (hi:InW N lo y z c' s'):RanB w z N lo B ao len cap b off c' s':=by
 have K:∀ k,k<=w.heap.size->z.heap[k]?=y.heap[k]?:=fun k hk=>hi.fr.block k (by have:=(gl h.out);omega) (fun e=>by have:=h.hN;have:=h.hlo;omega)
 have a:Code z ao len b off:=⟨h.st.code.le,h.st.code.some,fun k hk=>by
  obtain ⟨v,h0,h1,h2⟩:=h.st.code.cell k hk
  exact ⟨v,h0,h1,by rw [World.cell?_of_block (w:=y) (K b (by have:=h.bl (by omega);omega))];exact h2⟩,fun hl=>Ab (h.st.code.lt hl) hi.fr.size⟩
 exact ⟨⟨a,h.st.cur.keep (K B (by have:=h.hB;omega)),h.st.ne⟩,(K _ (nl _)).trans h.out,hi.box,hi.own,⟨hi.fr.os.trans h.gr.os,hi.fr.tape.trans h.gr.tape,hi.fr.output.trans h.gr.output,Aa h.gr.size hi.fr.size,fun k hk d=>(K k (by omega)).trans (h.gr.block k hk d)⟩,h.hB,h.hlo,h.hN,h.bl,Aa h.hy hi.fr.size⟩
theorem new_life {l:Int} (hl:l∈([0,8,8,1,2]:List Int)) (ch:Bool):(xF 4 ch l).1=newC 4 ch l/\jJ 0 (newC 4 ch l):=by
 have h1:okNew 4 l=true:=by
  simp only [List.mem_cons,List.not_mem_nil,or_false] at hl
  rcases hl with rfl | rfl | rfl | rfl | rfl <;> decide +kernel
 have h2:0<=l/\l<=15:=by
  simp only [List.mem_cons,List.not_mem_nil,or_false] at hl;omega
 refine ⟨by unfold xF;rw [if_pos h1],⟨rfl,h2,⟨by show 1<=[kE].length;decide,by show [kE].length<=60;decide,fun b hb=>?_,rfl,fun i hi h0=>absurd (show i < 1 from hi) (by omega)⟩,rfl,fun p hp=>?_,fun i hi=>?_,⟨by simp [newC],fun x hx=>by simp [newC] at hx⟩,⟨by simp [newC],fun x hx=>by simp [newC] at hx⟩,⟨by simp [newC],fun x hx=>by simp [newC] at hx⟩⟩⟩
 ·have a:b∈[kE]:=hb
  rcases List.mem_singleton.1 a with rfl
  exact ⟨⟨by decide,by decide⟩,⟨by decide,by decide⟩,by decide,fun c hc=>by simp [kE] at hc,smQ0⟩
 ·have e:p∈(List.range 4).map (fun (i:Nat)=>newP (i:Int)):=hp;obtain ⟨i,hi,rfl⟩:=List.mem_map.1 e;have:=List.mem_range.1 hi;have hf:fair ([]:CL):=fair_of (by decide);exact ⟨⟨by show (0:Int)<=(i:Int);omega,by show (i:Int)<=6;omega⟩,⟨by show (0:Int)<=1;decide,by show (1:Int)<=900;decide⟩,smQ0,smQ0,smV0,⟨List.Pairwise.nil,fun x hx=>by simp [newP] at hx⟩,hf,⟨by simp [newP],fun x hx=>by simp [newP] at hx⟩,⟨by simp [newP],fun x hx=>by simp [newP] at hx⟩,⟨by simp [newP],fun x hx=>by simp [newP] at hx⟩,⟨by simp [newP],fun x hx=>by simp [newP] at hx⟩,sm0⟩
 ·have d:∀ i (h:i < ((List.range 4).map (fun (i:Nat)=>newP (i:Int))).length),(((List.range 4).map (fun (i:Nat)=>newP (i:Int)))[i]'h).id=(i:Int):=by
   intro i h;rw [List.getElem_map,List.getElem_range]
   rfl
  exact d i hi
theorem new_vw (ch:Bool) (l:Int):Vw (((0:Nat):Int)+1) (newC 4 ch l):=by
 refine ⟨fun b hb=>?_,fun p hp=>?_⟩
 ·have a:b∈[kE]:=hb
  rcases List.mem_singleton.1 a with rfl
  decide
 ·have c:p∈(List.range 4).map (fun (i:Nat)=>newP (i:Int)):=hp;obtain ⟨i,-,rfl⟩:=List.mem_map.1 c;exact Int.le_refl 1
theorem new_ka (ch:Bool) (l:Int):KAC (newC 4 ch l):=fun p hp=>by
 have a:p∈(List.range 4).map (fun (i:Nat)=>newP (i:Int)):=hp;obtain ⟨i,-,rfl⟩:=List.mem_map.1 a;exact KA.none _ (fun x hx=>by simp [newP] at hx) rfl rfl rfl
theorem ran_st (most:Nat) (hm0:0 < most) (hm1:most<=200) (h:St w B ao len cap b off) :
  Calls prog 82 #[.pointer (some ⟨B,0,none⟩),I U (most:Int)] w fun r w'=>∃ c s,r=.returned (clusV c s)/\LifeX (4+most) c/\xG w.heap.size w'.heap.size w' c s/\St w' B ao len cap b off/\w.grownBy w' (some B):=by
 have H:=hid h;obtain ⟨W,hW⟩:=nw (w.alloc (.cells jE 124))
 have HW:Hid (St W B ao len cap b off/\Bx W w.heap.size jE 124/\w.grownBy W (some B)/\B < w.heap.size/\(0 < len->b < w.heap.size)):=(by
  have hb:Be w W:=by rw [hW];exact yA _ _
  exact ⟨h.below hb,by rw [hW];exact heap_alloc_new _ _,yG hb,h.cur.lt,h.code.lt⟩:_/\_)
 clear h;unfold jE at hW;go_enter func82,ntmps82;go_wp2_with (rw [<- hW];clear hW)
 refine (once_st 2 (by decide) (by decide) HW.1).mono ?_;rintro r y1 ⟨ch,rfl,f,hg⟩;have H1:=hid (qad3 f (gk hg HW.2.1 (qsn (by have:=HW.2.2.2.1;omega))) (zP HW.2.2.1 hg));clear f hg;obtain ⟨YA,n⟩:=nw (y1.alloc (.cells #[I U 0,I U 8,I U 8,I U 1,I U 2] 3))
 have j:Hid (St YA B ao len cap b off/\Bx YA w.heap.size jE 124/\w.grownBy YA (some B)/\Bx YA y1.heap.size #[I U 0,I U 8,I U 8,I U 1,I U 2] 3/\y1.heap.size ≠ B):=(by
  have hb:Be y1 YA:=by rw [n];exact yA _ _
  refine ⟨H1.1.below hb,bk hb H1.2.1,zP H1.2.2 (yG hb),by rw [n];exact heap_alloc_new _ _,?_⟩;have:=H1.1.cur.lt
  omega:_/\_)
 go_wp2_with (rw [<- n];clear n)
 refine (pickL_st (L:=y1.heap.size) [0,8,8,1,2] (by decide) (by decide) j.1 j.2.2.2.2 j.2.2.2.1).mono ?_;rintro r y2 ⟨lz,v,rfl,f,hg⟩;have H2:=hid (qad3 f (gk hg j.2.1 (qsn (by have:=HW.2.2.2.1;omega))) (zP j.2.2.1 hg));have o:=new_life v ch;have y:(Lit.int U lz).wf=true:=wf_in (by have:=o.2.liars;have e:(newC 4 ch lz).liars=lz:=rfl;rw [e] at this;omega);clear f hg v j H1;go_wp2_with fail
 have l:=clusterNew_s 4 ch lz y2 (wf_in ⟨by decide,by decide⟩) y;obtain ⟨c0,u⟩:=nw ((xF 4 ch lz).1);have ab:Hid (LifeX 0 c0):=hid (by rw [u,o.1];exact ⟨⟨o.2,new_vw ch lz⟩,new_ka ch lz⟩);rw [<- u] at l;refine l.mono ?_;clear l u o y;rintro r y3 ⟨s0,rfl,ho,k⟩;have H3:=hid (qad6 (H2.1.below k) (bk k H2.2.1) (zP H2.2.2 (yG k)) ho (gl H2.2.1) k.size);clear ho k H2
 go_wp2_with (first
  | (refine w_st y3.heap.size (zR c0 s0) (heap_alloc_new y3 _) (clusA_one H3.2.2.2.1) ?_;intro y4 hg hk hz;have g:Be y3 y4:=yB hg;have H4:Hid (RanB w y4 y3.heap.size y2.heap.size B ao len cap b off c0 s0):=⟨H3.1.below g,bk g H3.2.1,hk,(H3.2.2.2.1.below g).wide g.size (nl _),zP H3.2.2.1 (yG g),HW.2.2.2.1,H3.2.2.2.2.1,Ab H3.2.2.2.2.1 H3.2.2.2.2.2,HW.2.2.2.2,Aa H3.2.2.2.2.2 g.size⟩;clear hg hk hz g))
 obtain ⟨N,hN⟩:=nw y3.heap.size;obtain ⟨lo,hlo⟩:=nw y2.heap.size;rw [<- hN,<- hlo] at H4;rw [<- hN];clear hN hlo H3 HW
 go_loopw [8] (fun i wr=>∃ m:Nat,m<=4+most/\i=I U (m:Int)/\∃ c s,Hid (LifeX m c/\RanB w wr N lo B ao len cap b off c s)) (fun i _=>4+most - (intOf i).toNat)
 case atStart=>exact ⟨0,Nat.zero_le _,rfl,c0,s0,ab,H4⟩
 case round=>
  obtain ⟨m,hm,rfl,c,s,HY⟩:=hrel;go_wp2_with fail
  refine (xO (most:Int) (by omega) (by omega) HY.2.st).mono ?_;rintro r z1 ⟨x,rfl,h0,h1,f,hg⟩;have a:=hid (qad2 HY.out.1 (HY.2.draw f hg));clear f hg HY
  by_cases hlt:(m:Int) < 4+x
  ·go_wp2_with (refine w_ld N a.2.box underlying124 ?_)
   refine (event_st c s a.2.st a.2.own (by have:=a.2.hB;have:=a.2.hlo;omega) a.2.st.code.lt a.1.n a.1.lpeers a.1.net.1 (fun p hp=>(a.1.peers p hp).good (by omega))).mono ?_;rintro r z2 ⟨e,rfl,t,f,hg⟩;have d:=hid (qad3 a.out.1 (a.2.draw f hg) t);clear t f hg a;go_wp2_with fail
   refine (do_p c s N lo z2.heap.size e z2 d.2.1.box d.2.1.own d.2.1.hy (d.1.ok (by omega)) (wf_in (by have:=d.2.2.at0;omega)) d.2.2.num.1 (by have:=d.2.2.size;omega)).mono ?_;rintro r z3 ⟨rfl,s3,aa⟩;have ac:=hid (qad2 (d.1.step d.2.2) (d.2.1.go aa));clear aa d;go_wp2
   go_roundw
   case rel=>exact ⟨m+1,by omega,by go_num,_,s3,ac⟩
   case measure=>simp [intOf];omega
  ·go_wp2_with (first
    | (refine w_ld N a.2.box underlying124 ?_)
    | (refine w_st w.heap.size (zR c s) a.2.out (clusA_one a.2.own) ?_;intro z hg hk hz;have HZ:Hid (Bx z w.heap.size (zR c s) 124/\xG w.heap.size z.heap.size z c s/\St z B ao len cap b off/\w.grownBy z (some B)):=⟨hk,((a.2.own.boxT a.2.out hg).low (by have:=a.2.hlo;omega)).wide hg.size (nl _),a.2.st.other hg (by have:=a.2.hB;omega) (fun hl e=>by have:=a.2.bl hl;omega),yT a.2.gr (nl _) hg⟩;clear hg hk hz))
   refine b_cr (.agg (zR c s)) results82 HZ.1 underlying124 ?_;exact ⟨c,s,rfl,a.1.mono hm,HZ.2.1,HZ.2.2.1,HZ.2.2.2⟩
end Go.Proofs.YtfnneillakdopacGreatR
