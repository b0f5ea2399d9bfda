/-
  A text of ours: ClusN.
-/
import Derived.Test.YtfnneillakdopacGreatRK1
import Derived.Test.YtfnneillakdopacGreatRK4
set_option maxRecDepth 100000
set_option maxHeartbeats 32000000
namespace Go.Proofs.YtfnneillakdopacGreatR
open _root_.Go.Proofs.Tryz
open Go.Value renaming int->I
open Go.IntKind renaming i64->U
open Nat renaming le_trans->Aa
open Go.RowKit Num
def okNew (n l:Int):Bool:=inB n 1 7 && (inB l 0 (wrap64 (wrap64 (2 ^ n.toNat) - 1)) && !decide (zDE n < zFH l))
def freshP (m:Nat):List PE:=(List.range m).map fun (i:Nat)=>newP (i:Int)
def newC (n:Int) (b:Bool) (l:Int):CU:=⟨n,b,l,[kE],freshP n.toNat,[],[],[]⟩
def zeroCU:CU:=⟨0,false,0,[],[],[],[],[]⟩
def zeroCW:CW:=⟨.slice none 0 0,[],.slice none 0 0,[],.slice none 0 0,.slice none 0 0,.slice none 0 0⟩
def xF (n:Int) (b:Bool) (l:Int):CU × Bool:=if okNew n l then (newC n b l,true) else (zeroCU,false)
theorem yEG {a b c d e f g h:Value} (h0:a.oneCell'=true) (h1:b.oneCell'=true) (h2:c.oneCell'=true) (h3:d.oneCell'=true) (h4:e.oneCell'=true) (h5:f.oneCell'=true) (h6:g.oneCell'=true) (h7:h.oneCell'=true):(#[a,b,c,d,e,f,g,h]:Array Value).all (·.oneCell')=true:=by simp [h0,h1,h2,h3,h4,h5,h6,h7]
theorem zJA (w:World) (base m:Nat) (e:TypeId):w.ownsRow base e m (.slice none 0 0) 0 []:=⟨by simp,Or.inl ⟨rfl,rfl⟩⟩
theorem zero_own {lo:Nat} {w:World} (h:lo<=w.heap.size):xG lo w.heap.size w zeroCU zeroCW:=by
 refine ownC_of (b1:=w.heap.size) (b2:=w.heap.size) (b3:=w.heap.size) (b4:=w.heap.size) rfl ⟨zJA _ _ _ _,fun p hp=>(by cases hp),List.Pairwise.nil⟩ (fun g hg=>?_) rfl ⟨zJA _ _ _ _,yDD.nil _ _⟩ (fun g hg=>?_) (zJA _ _ _ _) (fun g hg=>(by cases hg)) (zJA _ _ _ _) (fun g hg=>(by cases hg)) (zJA _ _ _ _) (fun g hg=>(by cases hg)) h (nl _) (nl _) (nl _) (nl _) (nl _)
 ·rcases hg with hg | ⟨p,hp,_⟩
  ·cases hg
  ·cases hp
 ·rcases hg with hg | ⟨p,hp,_⟩
  ·cases hg
  ·cases hp
theorem clusterNew_s (n:Int) (b:Bool) (l:Int) (w:World) (hn:(Lit.int U n).wf=true) (hl:(Lit.int U l).wf=true) :
  Calls prog 122 #[I U n,.bool b,I U l] w fun e w'=>∃ s',e=.returned (.tuple #[clusV (xF n b l).1 s',.bool (xF n b l).2])/\xG w.heap.size w'.heap.size w' (xF n b l).1 s'/\Be w w':=by
 have ap:=bounds_i64 hl;have ay:=bounds_i64 hn;obtain ⟨pi,a1,aw,al,au⟩:=info_parts infoPeer;obtain ⟨W,hW⟩:=nw (w.alloc (.cells jE 124));have HW:Hid (Be w W/\Bx W w.heap.size jE 124/\w.heap.size < W.heap.size):=hid (by rw [hW];exact ⟨ba (br _ _) _,heap_alloc_new w _,by simp⟩);unfold jE at hW;clear hn hl;go_enter func122,ntmps122;go_wp2_with fail
 rw [<- hW];clear hW;refine (yS n 1 7 W).mono ?_;rintro e w1 ⟨rfl,hw⟩;obtain rfl:=hw.symm;clear hw
 cases hi:inB n 1 7 with
 | false=>
  have HE:Hid (xF n b l=(zeroCU,false)):=(by unfold xF okNew;rw [hi];rfl:xF n b l=_);go_wp2_with (refine w_st w.heap.size jE HW.2.1 (yEG rfl rfl rfl rfl rfl rfl rfl rfl) ?_;intro z hg hk hz;have HZ:Hid (Bx z w.heap.size jE 124/\Be w z):=⟨hk,HW.1.grown hg HW.1.size (fun k hk=>by cases hk;exact nl _)⟩;clear hg hk hz)
  refine b_ct (.tuple #[.agg jE,.bool false]) results122 HZ.1 underlying124 ?_;rw [HE.out];exact ⟨zeroCW,rfl,zero_own (Aa (nl _) HZ.2.size),HZ.2⟩
 | true=>
  have h1:1<=n/\n<=7:=by unfold inB at hi;simpa using hi
  obtain ⟨j,rfl⟩:∃ j:Nat,n=(j:Int):=⟨n.toNat,by omega⟩;go_wp2_with fail
  refine (yS l 0 (wrap64 (wrap64 (2 ^ j) - 1)) W).mono ?_;rintro e w1 ⟨rfl,hw⟩;obtain rfl:=hw.symm;clear hw
  cases hj:inB l 0 (wrap64 (wrap64 (2 ^ j) - 1)) with
  | false=>
   have HE:Hid (xF (j:Int) b l=(zeroCU,false)):=(by unfold xF okNew;rw [hi,Int.toNat_natCast,hj];rfl:xF (j:Int) b l=_);go_wp2_with (refine w_st w.heap.size jE HW.2.1 (yEG rfl rfl rfl rfl rfl rfl rfl rfl) ?_;intro z hg hk hz;have HZ:Hid (Bx z w.heap.size jE 124/\Be w z):=⟨hk,HW.1.grown hg HW.1.size (fun k hk=>by cases hk;exact nl _)⟩;clear hg hk hz)
   refine b_ct (.tuple #[.agg jE,.bool false]) results122 HZ.1 underlying124 ?_;rw [HE.out];exact ⟨zeroCW,rfl,zero_own (Aa (nl _) HZ.2.size),HZ.2⟩
  | true=>
   go_wp2_with fail
   refine (count_s l W ap.1 ap.2).mono ?_;rintro e w1 ⟨rfl,hw⟩;obtain rfl:=hw.symm;clear hw;go_wp2_with fail
   refine (faults_s (j:Int) W ay.1 ay.2).mono ?_;rintro e w1 ⟨rfl,hw⟩;obtain rfl:=hw.symm;clear hw
   by_cases hf:zDE (j:Int) < zFH l
   ·have HE:Hid (xF (j:Int) b l=(zeroCU,false)):=(by unfold xF okNew;rw [hi,Int.toNat_natCast,hj,decide_eq_true hf];rfl:xF (j:Int) b l=_);go_wp2_with (refine w_st w.heap.size jE HW.2.1 (yEG rfl rfl rfl rfl rfl rfl rfl rfl) ?_;intro z hg hk hz;have HZ:Hid (Bx z w.heap.size jE 124/\Be w z):=⟨hk,HW.1.grown hg HW.1.size (fun k hk=>by cases hk;exact nl _)⟩;clear hg hk hz)
    refine b_ct (.tuple #[.agg jE,.bool false]) results122 HZ.1 underlying124 ?_;rw [HE.out];exact ⟨zeroCW,rfl,zero_own (Aa (nl _) HZ.2.size),HZ.2⟩
   ·have HE:Hid (xF (j:Int) b l=(newC (j:Int) b l,true)):=(by unfold xF okNew;rw [hi,Int.toNat_natCast,hj,decide_eq_false hf];rfl:xF (j:Int) b l=_);clear hi hj;go_wp2_with fail
    refine (treeNew_s W).mono ?_;rintro e x1 ⟨a2,rfl,ho,hb⟩;obtain ⟨a3,c3,e3,-⟩:=yL ho.row;have bb:a2=.slice a3 1 c3:=e3;subst bb;clear e3;have ai:=hid ho;have ak:Hid (∀ g,inTree (.slice a3 1 c3) [(kE,.slice none 0 0)] g->g < x1.heap.size):=fun g hg=>(zCE ho hg).2
    have ac:=hid (qad3 (bt HW.1 hb) ((hb.block _ HW.2.2).trans HW.2.1) hb.size);clear ho hb;go_wp2_with (refine w_st x1.heap.size #[I U (j:Int),.bool b,I U l,.slice a3 1 c3,.slice none 0 0,.slice none 0 0,.slice none 0 0,.slice none 0 0] (heap_alloc_new x1 _) (yEG rfl rfl rfl (jI ai.row) rfl rfl rfl rfl) ?_;intro y1 hg hk hz;have af:Be x1 y1:=yB hg;have r:=hid (qad5 (bt ac.1 af) (bk af ac.2.1) hk (ai.below af) (gl hk));clear hg hk hz af ai)
    go_loopw [9] (fun i wr=>∃ (m:Nat) (pv:Value) (qs:PL),m<=j/\i=I U (m:Int)/\Hid (Be w wr/\Bx wr w.heap.size jE 124/\Bx wr x1.heap.size #[I U (j:Int),.bool b,I U l,.slice a3 1 c3,pv,.slice none 0 0,.slice none 0 0,.slice none 0 0] 124/\xH wr W.heap.size (.slice a3 1 c3) [(kE,.slice none 0 0)]/\y1.heap.size<=wr.heap.size)/\Hid (qJ y1.heap.size wr pv qs)/\Hid (pes qs=freshP m)) (fun i _=>j - (intOf i).toNat)
    case atStart=>exact ⟨0,.slice none 0 0,[],Nat.zero_le _,rfl,⟨r.1,r.2.1,r.2.2.1,r.2.2.2.1,nl _⟩,⟨zJA _ _ _ _,yDD.nil _ _⟩,rfl⟩
    case round=>
     obtain ⟨m,pv,qs,hm,rfl,a,y,aj⟩:=hrel;have bj:qs.length=m:=by have:=congrArg List.length aj;rw [yCI] at this;simpa [freshP] using this
     by_cases hlt:(m:Int) < (j:Int)
     ·go_wp2;refine p_rg (fun i=>i != 7) (fun x=>Bx x x1.heap.size #[I U (j:Int),.bool b,I U l,.slice a3 1 c3,pv,.slice none 0 0,.slice none 0 0,.slice none 0 0] 124) ?_;show zX prog _ _ _ _ _ (7+1) (Array.replicate 8 false) _ _;have hS:Bx wr.drew x1.heap.size #[I U (j:Int),.bool b,I U l,.slice a3 1 c3,pv,.slice none 0 0,.slice none 0 0,.slice none 0 0] 124:=a.2.2.1;refine p_pt 0 40 x1.heap.size 4 hS ?_;refine zD 1 41 pv hS ?_ (hy:=by intro x hx;have c:=zB hx 4 pv rfl;go_simp;try rfl);refine zD 2 42 (I U (m:Int)) hS ?_;refine kJ 3 43 161 #[I U (m:Int)] ((peerNew_s (m:Int) wr.drew).mono ?_);rintro e z1 ⟨s1,rfl,ho,ao⟩;have hb:=(bw wr).trans ao;obtain ⟨p,hp⟩:=nw (newP (m:Int));rw [<- hp] at ho ⊢;have a8:=hid hp;have az:=hid ho;have a0:Bx z1 x1.heap.size #[I U (j:Int),.bool b,I U l,.slice a3 1 c3,pv,.slice none 0 0,.slice none 0 0,.slice none 0 0] 124:=bk hb a.2.2.1;refine ⟨_,rfl,fun _=>a0,?_⟩;simp only [pz];obtain ⟨z2,aa⟩:=nw (z1.alloc (.cells (zA p s1) 35));have ah:Be wr z2:=(by rw [aa];exact bt hb (yA z1 _):Be wr z2);have ag:Hid (zO wr.heap.size z2.heap.size z2 p s1):=hid (by rw [aa];exact (az.below (yA z1 _)).wide (yA z1 _).size (nl _));have ae:Hid (z2.heap.size=z1.heap.size+1/\Bx z2 z1.heap.size (zA p s1) 35/\wr.heap.size<=z1.heap.size):=hid (by rw [aa];exact ⟨by simp,heap_alloc_new z1 _,hb.size⟩);have av:Bx z2 x1.heap.size #[I U (j:Int),.bool b,I U l,.slice a3 1 c3,pv,.slice none 0 0,.slice none 0 0,.slice none 0 0] 124:=bk ah a.2.2.1;have d:=hid ah;refine p_run (s:=4) (e':=some 44) rfl rfl rfl (by kernel_rfl) (.slice (some ⟨z1.heap.size,0,none⟩) 1 1) z2 ?_ ⟨fun _=>av,?_⟩
      ·rw [aa];unfold yZ zA;go_simp
       try rfl
      clear aa hS a0 hb ao ah ho az hp;simp only [pz];refine qO (s:=5) (e':=some 45) rfl rfl rfl (.tmp 41) (.tmp 44) 122 rfl (by kernel_rfl) y1.heap.size 35 pi _ 21 264 underlying122 a1 aw al au rfl (by decide) pv qs.length (zE peerF qs) rfl (zS y.row d) ⟨z1.heap.size,0,none⟩ 1 1 (peerF (p,s1)) rfl rfl (World.news_of_block ae.2.1) (fun u hu=>(Array.all_eq_true_iff_forall_mem.1 (zJ ag.1)) u (by exact List.mem_toArray.2 hu)) (by decide) (by unfold maxLen;omega) (by omega) (by have:=ae.out;have:=a.2.2.2.2;omega) _ ae.1 ?_;intro g2 f z3 am t a6 ar;have ab:∀ k,pv.ownBlock=some k->y1.heap.size<=k:=fun k hk=>(y.row.lt k hk).1
      have ax:=r.2.2.2.2;have bc:=ac.2.2;have bd:=HW.2.2;have o:Hid (Be w z3/\Bx z3 w.heap.size jE 124/\Bx z3 x1.heap.size #[I U (j:Int),.bool b,I U l,.slice a3 1 c3,pv,.slice none 0 0,.slice none 0 0,.slice none 0 0] 124/\xH z3 W.heap.size (.slice a3 1 c3) [(kE,.slice none 0 0)]/\y1.heap.size<=z3.heap.size):=⟨(bt a.1 d).grown t (bt a.1 d).size (fun k hk=>by have:=ab k hk;omega),(t.block _ (by have:=d.size;have:=a.2.2.2.2;omega) (fun e=>by have:=ab _ e.symm;omega)).trans (bk d a.2.1),(t.block _ (by have:=d.size;have:=a.2.2.2.2;omega) (fun e=>by have:=ab _ e.symm;omega)).trans (bk d a.2.2.1),(a.2.2.2.1.below d).above (b1:=y1.heap.size) (fun k hk=>by have:=ak k hk;omega) t ab,by have:=d.size;have:=a.2.2.2.2;have:=t.size;omega⟩;have aq:Hid (qJ y1.heap.size z3 (.slice (some ⟨g2,0,none⟩) (qs.length+1) f) (qs ++ [(p,s1)])):=y.append d ag a.2.2.2.2 t am;have ad:Bx z3 x1.heap.size #[I U (j:Int),.bool b,I U l,.slice a3 1 c3,pv,.slice none 0 0,.slice none 0 0,.slice none 0 0] 124:=o.2.2.1;clear am t a6 ar ab av;refine ⟨fun _=>ad,?_⟩;simp only [pz];refine zD 6 46 (.pointer (some ⟨x1.heap.size,4,none⟩)) ad ?_;refine p_ce 7 x1.heap.size 4 (.slice (some ⟨g2,0,none⟩) (qs.length+1) f) #[I U (j:Int),.bool b,I U l,.slice a3 1 c3,pv,.slice none 0 0,.slice none 0 0,.slice none 0 0] #[I U (j:Int),.bool b,I U l,.slice a3 1 c3,.slice (some ⟨g2,0,none⟩) (qs.length+1) f,.slice none 0 0,.slice none 0 0,.slice none 0 0] ad (by simp) rfl rfl ?_;intro z4 hg hk;have a4:Hid (Be w z4/\Bx z4 w.heap.size jE 124/\Bx z4 x1.heap.size #[I U (j:Int),.bool b,I U l,.slice a3 1 c3,.slice (some ⟨g2,0,none⟩) (qs.length+1) f,.slice none 0 0,.slice none 0 0,.slice none 0 0] 124/\xH z4 W.heap.size (.slice a3 1 c3) [(kE,.slice none 0 0)]/\y1.heap.size<=z4.heap.size):=⟨o.1.grown hg o.1.size (qkk (by omega)),gk hg o.2.1 (qsn (by omega)),hk,o.2.2.2.1.frs (FrS.of_grown hg (B:=fun i=>i=x1.heap.size) (fun i e=>by cases e;rfl)) (fun g hg e=>by have:=ak g hg;omega),Aa o.2.2.2.2 hg.size⟩;have a5:Hid (qJ y1.heap.size z4 (.slice (some ⟨g2,0,none⟩) (qs.length+1) f) (qs ++ [(p,s1)])):=aq.not hg ax;clear hg hk ad o aq a y ag d ae ax bc bd;refine ⟨fun h=>(by cases h),?_⟩;refine p_do ?_;go_wp2
      go_roundw
      case rel=>exact ⟨m+1,_,qs ++ [(p,s1)],by omega,by go_num,a4,a5,(by rw [pes_snoc,aj.out,a8.out];unfold freshP;rw [List.range_succ,List.map_append];rfl:pes (qs ++ [(p,s1)])=freshP (m+1))⟩
      case measure=>simp [intOf];omega
     ·have an:m=j:=by omega
      have a9:Hid (pes qs=freshP j):=hid (by rw [<- an];exact aj.out);have a7:Hid (pv.oneCell'=true):=jI y.row;clear an
      go_wp2_with (first
       | (refine w_ld x1.heap.size a.2.2.1 underlying124 ?_)
       | (refine w_st w.heap.size #[I U (j:Int),.bool b,I U l,.slice a3 1 c3,pv,.slice none 0 0,.slice none 0 0,.slice none 0 0] a.2.1 (yEG rfl rfl rfl (jI a.2.2.2.1.row) a7 rfl rfl rfl) ?_;intro z hg hk hz;have v:Hid (Be w z/\Bx z w.heap.size #[I U (j:Int),.bool b,I U l,.slice a3 1 c3,pv,.slice none 0 0,.slice none 0 0,.slice none 0 0] 124/\xH z W.heap.size (.slice a3 1 c3) [(kE,.slice none 0 0)]/\qJ y1.heap.size z pv qs/\wr.heap.size<=z.heap.size):=⟨a.1.grown hg a.1.size (fun k hk=>by cases hk;exact nl _),hk,a.2.2.2.1.not hg HW.2.2,y.not hg (by have:=r.2.2.2.2;have:=ac.2.2;have:=HW.2.2;omega),hg.size⟩;clear hg hk hz))
      refine b_ct (.tuple #[.agg #[I U (j:Int),.bool b,I U l,.slice a3 1 c3,pv,.slice none 0 0,.slice none 0 0,.slice none 0 0],.bool true]) results122 v.2.1 underlying124 ?_;rw [HE.out];refine ⟨⟨.slice a3 1 c3,[(kE,.slice none 0 0)],pv,qs,.slice none 0 0,.slice none 0 0,.slice none 0 0⟩,rfl,?_,v.1⟩;have be:=r.2.2.2.2;have bf:=ac.2.2;have bh:=HW.2.2;have bg:=a.2.2.2.2;have bi:=v.2.2.2.2;have h:=ownC_of (b0:=W.heap.size) (b1:=y1.heap.size) (b2:=z.heap.size) (b3:=z.heap.size) (b4:=z.heap.size) (b5:=z.heap.size) (w:=z) (c:=newC (j:Int) b l) (s:=⟨.slice a3 1 c3,[(kE,.slice none 0 0)],pv,qs,.slice none 0 0,.slice none 0 0,.slice none 0 0⟩) rfl v.2.2.1 (fun g hg=>by have:=ak g hg;omega) (by rw [a9.out];unfold newC;simp) v.2.2.2.1 (fun g hg=>(inPeers_ge v.2.2.2.1 hg).2) (zJA _ _ _ _) (fun g hg=>(by cases hg)) (zJA _ _ _ _) (fun g hg=>(by cases hg)) (zJA _ _ _ _) (fun g hg=>(by cases hg)) (by omega) (by omega) (nl _) (nl _) (nl _) (nl _);exact h.low (by omega)
end Go.Proofs.YtfnneillakdopacGreatR
