/-
  A text of ours: ClusN.
-/
import Derived.Test.YtjdddcldbfhbiacGreatRK1
import Derived.Test.YtjdddcldbfhbiacGreatRK4
set_option maxRecDepth 100000
set_option maxHeartbeats 32000000
namespace Go.Proofs.YtjdddcldbfhbiacGreatR
open Go.RowKit Num
def okNew (n l:Int):Bool:=inB n 1 7 && (inB l 0 (wrap64 (wrap64 (2 ^ n.toNat) - 1)) && !decide (zDE n < zFH l))
def freshP (m:Nat):List PE:=(List.range m).map fun (i:Nat)=>newP (i:Int)
def newC (n:Int) (b:Bool) (l:Int):CU:=⟨n,b,l,[kE],freshP n.toNat,[],[],[]⟩
def zeroCU:CU:=⟨0,false,0,[],[],[],[],[]⟩
def zeroCW:CW:=⟨.slice none 0 0,[],.slice none 0 0,[],.slice none 0 0,.slice none 0 0,.slice none 0 0⟩
def xF (n:Int) (b:Bool) (l:Int):CU × Bool:=if okNew n l then (newC n b l,true) else (zeroCU,false)
theorem yEG {a b c d e f g h:Value} (h0:a.oneCell'=true) (h1:b.oneCell'=true) (h2:c.oneCell'=true) (h3:d.oneCell'=true) (h4:e.oneCell'=true) (h5:f.oneCell'=true) (h6:g.oneCell'=true) (h7:h.oneCell'=true):(#[a,b,c,d,e,f,g,h]:Array Value).all (·.oneCell')=true:=by simp [h0,h1,h2,h3,h4,h5,h6,h7]
theorem zJA (w:World) (base m:Nat) (e:TypeId):w.ownsRow base e m (.slice none 0 0) 0 []:=⟨by simp,Or.inl ⟨rfl,rfl⟩⟩
theorem zero_own {lo:Nat} {w:World} (h:lo≤w.heap.size):xG lo w.heap.size w zeroCU zeroCW:=by
 refine ownC_of (b1:=w.heap.size) (b2:=w.heap.size) (b3:=w.heap.size) (b4:=w.heap.size) rfl ⟨zJA _ _ _ _,fun p hp=>(by cases hp),List.Pairwise.nil⟩ (fun g hg=>?_) rfl ⟨zJA _ _ _ _,yDD.nil _ _⟩ (fun g hg=>?_) (zJA _ _ _ _) (fun g hg=>(by cases hg)) (zJA _ _ _ _) (fun g hg=>(by cases hg)) (zJA _ _ _ _) (fun g hg=>(by cases hg)) h (nl _) (nl _) (nl _) (nl _) (nl _)
 ·rcases hg with hg | ⟨p,hp,_⟩
  ·cases hg
  ·cases hp
 ·rcases hg with hg | ⟨p,hp,_⟩
  ·cases hg
  ·cases hp
theorem clusterNew_s (n:Int) (b:Bool) (l:Int) (w:World) (hn:(Lit.int .i64 n).wf=true) (hl:(Lit.int .i64 l).wf=true) :
  Calls Tryz.prog 122 #[.int .i64 n,.bool b,.int .i64 l] w fun e w'=>∃ s',e=.returned (.tuple #[clusV (xF n b l).1 s',.bool (xF n b l).2])∧xG w.heap.size w'.heap.size w' (xF n b l).1 s'∧Below w.heap.size w w':=by
 have hlb:=bounds_i64 hl
 have hnb:=bounds_i64 hn
 obtain ⟨pi,phi,phz0,phz1,phz2⟩:=info_parts infoPeer
 obtain ⟨W,hW⟩:∃ W,W=w.alloc (.cells jE 124):=⟨_,rfl⟩
 have HW:Hid (Below w.heap.size w W∧Bx W w.heap.size jE 124∧w.heap.size < W.heap.size):=hid (by rw [hW];exact ⟨ba (br _ _) _,heap_alloc_new w _,by simp⟩)
 unfold jE at hW
 clear hn hl
 go_enter Tryz.func122,Tryz.ntmps122
 go_wp2_with fail
 rw [← hW]
 clear hW
 refine (yS n 1 7 W).mono ?_
 rintro e w1 ⟨rfl,hw⟩
 obtain rfl:=hw.symm
 clear hw
 cases hi:inB n 1 7 with
 | false=>
  have HE:Hid (xF n b l=(zeroCU,false)):=(by unfold xF okNew;rw [hi];rfl:xF n b l=_)
  go_wp2_with (refine zC rfl _ _ _ rfl w.heap.size jE rfl rfl 124 jE HW.out.2.1 (by kernel_rfl) rfl (yEG rfl rfl rfl rfl rfl rfl rfl rfl) ?_;intro z hg hk hz;have HZ:Hid (Bx z w.heap.size jE 124∧Below w.heap.size w z):=⟨hk,HW.out.1.grown hg HW.out.1.size (fun k hk=>by cases hk;exact nl _)⟩;clear hg hk hz)
  refine bodyPost_ret (v:=.tuple #[.agg jE,.bool false]) (qE Tryz.results122 _ _ w.heap.size 124 _ (0,0) _ _ rfl HZ.out.1 Tryz.underlying124 rfl (by kernel_rfl) rfl) rfl ?_
  rw [HE.out]
  exact ⟨zeroCW,rfl,zero_own (Nat.le_trans (nl _) HZ.out.2.size),HZ.out.2⟩
 | true=>
  have h1:1≤n∧n≤7:=by unfold inB at hi;simpa using hi
  obtain ⟨j,rfl⟩:∃ j:Nat,n=(j:Int):=⟨n.toNat,by omega⟩
  go_wp2_with fail
  refine (yS l 0 (wrap64 (wrap64 (2 ^ j) - 1)) W).mono ?_
  rintro e w1 ⟨rfl,hw⟩
  obtain rfl:=hw.symm
  clear hw
  cases hj:inB l 0 (wrap64 (wrap64 (2 ^ j) - 1)) with
  | false=>
   have HE:Hid (xF (j:Int) b l=(zeroCU,false)):=(by unfold xF okNew;rw [hi,Int.toNat_natCast,hj];rfl:xF (j:Int) b l=_)
   go_wp2_with (refine zC rfl _ _ _ rfl w.heap.size jE rfl rfl 124 jE HW.out.2.1 (by kernel_rfl) rfl (yEG rfl rfl rfl rfl rfl rfl rfl rfl) ?_;intro z hg hk hz;have HZ:Hid (Bx z w.heap.size jE 124∧Below w.heap.size w z):=⟨hk,HW.out.1.grown hg HW.out.1.size (fun k hk=>by cases hk;exact nl _)⟩;clear hg hk hz)
   refine bodyPost_ret (v:=.tuple #[.agg jE,.bool false]) (qE Tryz.results122 _ _ w.heap.size 124 _ (0,0) _ _ rfl HZ.out.1 Tryz.underlying124 rfl (by kernel_rfl) rfl) rfl ?_
   rw [HE.out]
   exact ⟨zeroCW,rfl,zero_own (Nat.le_trans (nl _) HZ.out.2.size),HZ.out.2⟩
  | true=>
   go_wp2_with fail
   refine (count_s l W hlb.1 hlb.2).mono ?_
   rintro e w1 ⟨rfl,hw⟩
   obtain rfl:=hw.symm
   clear hw
   go_wp2_with fail
   refine (faults_s (j:Int) W hnb.1 hnb.2).mono ?_
   rintro e w1 ⟨rfl,hw⟩
   obtain rfl:=hw.symm
   clear hw
   by_cases hf:zDE (j:Int) < zFH l
   ·have HE:Hid (xF (j:Int) b l=(zeroCU,false)):=(by unfold xF okNew;rw [hi,Int.toNat_natCast,hj,decide_eq_true hf];rfl:xF (j:Int) b l=_)
    go_wp2_with (refine zC rfl _ _ _ rfl w.heap.size jE rfl rfl 124 jE HW.out.2.1 (by kernel_rfl) rfl (yEG rfl rfl rfl rfl rfl rfl rfl rfl) ?_;intro z hg hk hz;have HZ:Hid (Bx z w.heap.size jE 124∧Below w.heap.size w z):=⟨hk,HW.out.1.grown hg HW.out.1.size (fun k hk=>by cases hk;exact nl _)⟩;clear hg hk hz)
    refine bodyPost_ret (v:=.tuple #[.agg jE,.bool false]) (qE Tryz.results122 _ _ w.heap.size 124 _ (0,0) _ _ rfl HZ.out.1 Tryz.underlying124 rfl (by kernel_rfl) rfl) rfl ?_
    rw [HE.out]
    exact ⟨zeroCW,rfl,zero_own (Nat.le_trans (nl _) HZ.out.2.size),HZ.out.2⟩
   ·have HE:Hid (xF (j:Int) b l=(newC (j:Int) b l,true)):=(by unfold xF okNew;rw [hi,Int.toNat_natCast,hj,decide_eq_false hf];rfl:xF (j:Int) b l=_)
    clear hi hj
    go_wp2_with fail
    refine (treeNew_s W).mono ?_
    rintro e x1 ⟨v3_,rfl,ho,hb⟩
    obtain ⟨a3,c3,e3,-⟩:=yL ho.row
    have e3':v3_=.slice a3 1 c3:=e3
    subst e3'
    clear e3
    have HT1:=hid ho
    have HL3:Hid (∀ g,inTree (.slice a3 1 c3) [(kE,.slice none 0 0)] g→g < x1.heap.size):=fun g hg=>(zCE ho hg).2
    have HX1:Hid (Below w.heap.size w x1∧Bx x1 w.heap.size jE 124∧W.heap.size≤x1.heap.size):=⟨bt HW.out.1 hb,(hb.block _ HW.out.2.2).trans HW.out.2.1,hb.size⟩
    clear ho hb
    go_wp2_with (refine zC rfl _ _ _ rfl x1.heap.size #[.int .i64 (j:Int),.bool b,.int .i64 l,.slice a3 1 c3,.slice none 0 0,.slice none 0 0,.slice none 0 0,.slice none 0 0] rfl rfl 124 jE (heap_alloc_new x1 _) (by kernel_rfl) rfl (yEG rfl rfl rfl (jI HT1.out.row) rfl rfl rfl rfl) ?_;intro y1 hg hk hz;have hb1:Below x1.heap.size x1 y1:=yB hg;have HY1:Hid (Below w.heap.size w y1∧Bx y1 w.heap.size jE 124∧Bx y1 x1.heap.size #[.int .i64 (j:Int),.bool b,.int .i64 l,.slice a3 1 c3,.slice none 0 0,.slice none 0 0,.slice none 0 0,.slice none 0 0] 124∧xH y1 W.heap.size (.slice a3 1 c3) [(kE,.slice none 0 0)]∧x1.heap.size < y1.heap.size):=⟨bt HX1.out.1 hb1,(hb1.block _ (gl HX1.out.2.1)).trans HX1.out.2.1,hk,HT1.out.below hb1,(gl hk)⟩;clear hg hk hz hb1 HT1)
    go_loopw [9] (fun i wr=>∃ (m:Nat) (pv:Value) (qs:PL),m≤j∧i=.int .i64 (m:Int)∧Hid (Below w.heap.size w wr∧Bx wr w.heap.size jE 124∧Bx wr x1.heap.size #[.int .i64 (j:Int),.bool b,.int .i64 l,.slice a3 1 c3,pv,.slice none 0 0,.slice none 0 0,.slice none 0 0] 124∧xH wr W.heap.size (.slice a3 1 c3) [(kE,.slice none 0 0)]∧y1.heap.size≤wr.heap.size)∧Hid (qJ y1.heap.size wr pv qs)∧Hid (pes qs=freshP m)) (fun i _=>j - (intOf i).toNat)
    case atStart=>exact ⟨0,.slice none 0 0,[],Nat.zero_le _,rfl,⟨HY1.out.1,HY1.out.2.1,HY1.out.2.2.1,HY1.out.2.2.2.1,nl _⟩,⟨zJA _ _ _ _,yDD.nil _ _⟩,rfl⟩
    case round=>
     obtain ⟨m,pv,qs,hm,rfl,HSm,HPm,HEm⟩:=hrel
     have hql:qs.length=m:=by have:=congrArg List.length HEm.out;rw [yCI] at this;simpa [freshP] using this
     by_cases hlt:(m:Int) < (j:Int)
     ·go_wp2
      refine zT (fun i=>i != 7) (fun x=>Bx x x1.heap.size #[.int .i64 (j:Int),.bool b,.int .i64 l,.slice a3 1 c3,pv,.slice none 0 0,.slice none 0 0,.slice none 0 0] 124) (by kernel_rfl) ?_
      show zX Tryz.prog _ _ _ _ _ (7+1) (Array.replicate 8 false) _ _
      have hS:Bx wr.drew x1.heap.size #[.int .i64 (j:Int),.bool b,.int .i64 l,.slice a3 1 c3,pv,.slice none 0 0,.slice none 0 0,.slice none 0 0] 124:=HSm.out.2.2.1
      refine zD 0 40 (.pointer (some ⟨x1.heap.size,4,none⟩)) hS ?_
      refine zD 1 41 pv hS ?_ (hy:=by intro x hx;have c:=zB hx 4 pv rfl;go_simp;try with_reducible rfl)
      refine zD 2 42 (.int .i64 (m:Int)) hS ?_
      refine kJ 3 43 161 #[.int .i64 (m:Int)] ((peerNew_s (m:Int) wr.drew).mono ?_)
      rintro e z1 ⟨s1,rfl,ho,hb0⟩
      have hb:Below wr.heap.size wr z1:=((br _ _).drew).trans hb0
      obtain ⟨p,hp⟩:∃ p,p=newP (m:Int):=⟨_,rfl⟩
      rw [← hp] at ho ⊢
      have HNP:=hid hp
      have HD1:=hid ho
      have hS1:Bx z1 x1.heap.size #[.int .i64 (j:Int),.bool b,.int .i64 l,.slice a3 1 c3,pv,.slice none 0 0,.slice none 0 0,.slice none 0 0] 124:=(hb.block _ (gl HSm.out.2.2.1)).trans HSm.out.2.2.1
      refine ⟨_,rfl,fun _=>hS1,?_⟩
      simp only [pz]
      obtain ⟨z2,hz2⟩:∃ z2,z2=z1.alloc (.cells (zA p s1) 35):=⟨_,rfl⟩
      have hb2:Below wr.heap.size wr z2:=(by rw [hz2];exact bt hb (yA z1 _):Below wr.heap.size wr z2)
      have HD2:Hid (zO wr.heap.size z2.heap.size z2 p s1):=hid (by rw [hz2];exact (HD1.out.below (yA z1 _)).wide (yA z1 _).size (nl _))
      have HZ2:Hid (z2.heap.size=z1.heap.size+1∧Bx z2 z1.heap.size (zA p s1) 35∧wr.heap.size≤z1.heap.size):=hid (by rw [hz2];exact ⟨by simp,heap_alloc_new z1 _,hb.size⟩)
      have hS2:Bx z2 x1.heap.size #[.int .i64 (j:Int),.bool b,.int .i64 l,.slice a3 1 c3,pv,.slice none 0 0,.slice none 0 0,.slice none 0 0] 124:=(hb2.block _ (gl HSm.out.2.2.1)).trans HSm.out.2.2.1
      have HB2:=hid hb2
      refine p_run (s:=4) (e':=some 44) rfl rfl rfl (by kernel_rfl) (.slice (some ⟨z1.heap.size,0,none⟩) 1 1) z2 ?_ ⟨fun _=>hS2,?_⟩
      ·rw [hz2]
       unfold yZ zA
       go_simp
       try with_reducible rfl
      clear hz2 hS hS1 hb hb0 hb2 ho HD1 hp
      simp only [pz]
      refine qO (s:=5) (e':=some 45) rfl rfl rfl (.tmp 41) (.tmp 44) 122 rfl (by kernel_rfl) y1.heap.size 35 pi _ 21 264 Tryz.underlying122 phi phz0 phz1 phz2 rfl (by decide) pv qs.length (zE peerF qs) rfl (zS HPm.out.row HB2.out) ⟨z1.heap.size,0,none⟩ 1 1 (peerF (p,s1)) rfl rfl (World.news_of_block HZ2.out.2.1) (fun u hu=>(Array.all_eq_true_iff_forall_mem.1 (zJ HD2.out.1)) u (by exact List.mem_toArray.2 hu)) (by decide) (by unfold maxLen;omega) (by omega) (by have:=HZ2.out;have:=HSm.out.2.2.2.2;omega) _ HZ2.out.1 ?_
      intro g2 cap2 z3 ho2 hg2 hwh hlt2
      have hra:∀ k,pv.ownBlock=some k→y1.heap.size≤k:=fun k hk=>(HPm.out.row.lt k hk).1
      have hs1:=HY1.out.2.2.2.2
      have hs2:=HX1.out.2.2
      have hs3:=HW.out.2.2
      have HS3:Hid (Below w.heap.size w z3∧Bx z3 w.heap.size jE 124∧Bx z3 x1.heap.size #[.int .i64 (j:Int),.bool b,.int .i64 l,.slice a3 1 c3,pv,.slice none 0 0,.slice none 0 0,.slice none 0 0] 124∧xH z3 W.heap.size (.slice a3 1 c3) [(kE,.slice none 0 0)]∧y1.heap.size≤z3.heap.size):=⟨(bt HSm.out.1 HB2.out).grown hg2 (bt HSm.out.1 HB2.out).size (fun k hk=>by have:=hra k hk;omega),(hg2.block _ (by have:=HB2.out.size;have:=HSm.out.2.2.2.2;omega) (fun e=>by have:=hra _ e.symm;omega)).trans ((HB2.out.block _ (gl HSm.out.2.1)).trans HSm.out.2.1),(hg2.block _ (by have:=HB2.out.size;have:=HSm.out.2.2.2.2;omega) (fun e=>by have:=hra _ e.symm;omega)).trans ((HB2.out.block _ (gl HSm.out.2.2.1)).trans HSm.out.2.2.1),(HSm.out.2.2.2.1.below HB2.out).above (b1:=y1.heap.size) (fun k hk=>by have:=HL3.out k hk;omega) hg2 hra,by have:=HB2.out.size;have:=HSm.out.2.2.2.2;have:=hg2.size;omega⟩
      have HP3:Hid (qJ y1.heap.size z3 (.slice (some ⟨g2,0,none⟩) (qs.length+1) cap2) (qs ++ [(p,s1)])):=HPm.out.append HB2.out HD2.out HSm.out.2.2.2.2 hg2 ho2
      have hS3:Bx z3 x1.heap.size #[.int .i64 (j:Int),.bool b,.int .i64 l,.slice a3 1 c3,pv,.slice none 0 0,.slice none 0 0,.slice none 0 0] 124:=HS3.out.2.2.1
      clear ho2 hg2 hwh hlt2 hra hS2
      refine ⟨fun _=>hS3,?_⟩
      simp only [pz]
      refine zD 6 46 (.pointer (some ⟨x1.heap.size,4,none⟩)) hS3 ?_
      refine kT (s:=7) (N:=x1.heap.size) (o:=4) (u:=.slice (some ⟨g2,0,none⟩) (qs.length+1) cap2) (old:=#[.int .i64 (j:Int),.bool b,.int .i64 l,.slice a3 1 c3,pv,.slice none 0 0,.slice none 0 0,.slice none 0 0]) (new:=#[.int .i64 (j:Int),.bool b,.int .i64 l,.slice a3 1 c3,.slice (some ⟨g2,0,none⟩) (qs.length+1) cap2,.slice none 0 0,.slice none 0 0,.slice none 0 0]) rfl rfl rfl rfl (by kernel_rfl) rfl rfl hS3 (by kernel_rfl) (by simp) rfl rfl ?_
      intro z4 hg hk
      have HS4:Hid (Below w.heap.size w z4∧Bx z4 w.heap.size jE 124∧Bx z4 x1.heap.size #[.int .i64 (j:Int),.bool b,.int .i64 l,.slice a3 1 c3,.slice (some ⟨g2,0,none⟩) (qs.length+1) cap2,.slice none 0 0,.slice none 0 0,.slice none 0 0] 124∧xH z4 W.heap.size (.slice a3 1 c3) [(kE,.slice none 0 0)]∧y1.heap.size≤z4.heap.size):=⟨HS3.out.1.grown hg HS3.out.1.size (fun k hk=>by cases hk;omega),(hg.block _ (gl HS3.out.2.1) (fun e=>by have:=Option.some.inj e;omega)).trans HS3.out.2.1,hk,HS3.out.2.2.2.1.frs (FrS.of_grown hg (B:=fun i=>i=x1.heap.size) (fun i e=>by cases e;rfl)) (fun g hg e=>by have:=HL3.out g hg;omega),Nat.le_trans HS3.out.2.2.2.2 hg.size⟩
      have HP4:Hid (qJ y1.heap.size z4 (.slice (some ⟨g2,0,none⟩) (qs.length+1) cap2) (qs ++ [(p,s1)])):=HP3.out.not hg hs1
      clear hg hk hS3 HS3 HP3 HSm HPm HD2 HB2 HZ2 hs1 hs2 hs3
      refine ⟨fun h=>(by cases h),?_⟩
      refine zK (by kernel_rfl) ?_ _
      go_wp2
      go_roundw
      case rel=>exact ⟨m+1,_,qs ++ [(p,s1)],by omega,by go_num,HS4.out,HP4.out,(by rw [pes_snoc,HEm.out,HNP.out];unfold freshP;rw [List.range_succ,List.map_append];rfl:pes (qs ++ [(p,s1)])=freshP (m+1))⟩
      case measure=>simp [intOf];omega
     ·have hmj:m=j:=by omega
      have HEJ:Hid (pes qs=freshP j):=hid (by rw [← hmj];exact HEm.out)
      have HOP:Hid (pv.oneCell'=true):=jI HPm.out.row
      clear hmj
      go_wp2_with (first
       | (refine wpList_load_row rfl _ _ rfl x1.heap.size rfl 124 _ (0,0) _ HSm.out.2.2.1 Tryz.underlying124 rfl (by kernel_rfl) ?_)
       | (refine zC rfl _ _ _ rfl w.heap.size #[.int .i64 (j:Int),.bool b,.int .i64 l,.slice a3 1 c3,pv,.slice none 0 0,.slice none 0 0,.slice none 0 0] rfl rfl 124 jE HSm.out.2.1 (by kernel_rfl) rfl (yEG rfl rfl rfl (jI HSm.out.2.2.2.1.row) HOP.out rfl rfl rfl) ?_;intro z hg hk hz;have HBz:Hid (Below w.heap.size w z∧Bx z w.heap.size #[.int .i64 (j:Int),.bool b,.int .i64 l,.slice a3 1 c3,pv,.slice none 0 0,.slice none 0 0,.slice none 0 0] 124∧xH z W.heap.size (.slice a3 1 c3) [(kE,.slice none 0 0)]∧qJ y1.heap.size z pv qs∧wr.heap.size≤z.heap.size):=⟨HSm.out.1.grown hg HSm.out.1.size (fun k hk=>by cases hk;exact nl _),hk,HSm.out.2.2.2.1.not hg HW.out.2.2,HPm.out.not hg (by have:=HY1.out.2.2.2.2;have:=HX1.out.2.2;have:=HW.out.2.2;omega),hg.size⟩;clear hg hk hz))
      refine bodyPost_ret (v:=.tuple #[.agg #[.int .i64 (j:Int),.bool b,.int .i64 l,.slice a3 1 c3,pv,.slice none 0 0,.slice none 0 0,.slice none 0 0],.bool true]) (qE Tryz.results122 _ _ w.heap.size 124 _ (0,0) _ _ rfl HBz.out.2.1 Tryz.underlying124 rfl (by kernel_rfl) rfl) rfl ?_
      rw [HE.out]
      refine ⟨⟨.slice a3 1 c3,[(kE,.slice none 0 0)],pv,qs,.slice none 0 0,.slice none 0 0,.slice none 0 0⟩,rfl,?_,HBz.out.1⟩
      have d1_:=HY1.out.2.2.2.2
      have d2_:=HX1.out.2.2
      have d3_:=HW.out.2.2
      have d4_:=HSm.out.2.2.2.2
      have d5_:=HBz.out.2.2.2.2
      have h:=ownC_of (b0:=W.heap.size) (b1:=y1.heap.size) (b2:=z.heap.size) (b3:=z.heap.size) (b4:=z.heap.size) (b5:=z.heap.size) (w:=z) (c:=newC (j:Int) b l) (s:=⟨.slice a3 1 c3,[(kE,.slice none 0 0)],pv,qs,.slice none 0 0,.slice none 0 0,.slice none 0 0⟩) rfl HBz.out.2.2.1 (fun g hg=>by have:=HL3.out g hg;omega) (by rw [HEJ.out];unfold newC;simp) HBz.out.2.2.2.1 (fun g hg=>(inPeers_ge HBz.out.2.2.2.1 hg).2) (zJA _ _ _ _) (fun g hg=>(by cases hg)) (zJA _ _ _ _) (fun g hg=>(by cases hg)) (zJA _ _ _ _) (fun g hg=>(by cases hg)) (by omega) (by omega) (nl _) (nl _) (nl _) (nl _)
      exact h.low (by omega)
end Go.Proofs.YtjdddcldbfhbiacGreatR
