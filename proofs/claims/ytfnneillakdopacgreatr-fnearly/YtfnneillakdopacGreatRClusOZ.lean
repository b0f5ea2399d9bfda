/-
  A text of ours: ClusO.
-/
import Derived.Test.YtfnneillakdopacGreatRK1
import Derived.Test.YtfnneillakdopacGreatRK2
import Derived.Test.YtfnneillakdopacGreatRK3
set_option maxRecDepth 100000
set_option maxHeartbeats 32000000
namespace Go.Proofs.YtfnneillakdopacGreatR
open _root_.Go.Proofs.Tryz
open Go.Value renaming int->I
open Go.IntKind renaming i64->U,wrap_i64->Ad
open Option renaming none->Aa,some->Ab
open Nat renaming le_trans->Ac
open List renaming length_take->Ae
open Go.RowKit Num
def zAC (c:CU) (k:Int):CU:=if 0<=k/\k < c.net.length then { c with net:=c.net.take k.toNat ++ c.net.drop (k.toNat+1) } else c
def outB (c:CU) (k:Int):Bool:=decide (0<=k/\k < c.net.length)
def zBH (c:CU) (k:Int):LT:=match c.net[k.toNat]? with
 | some l=>if 0<=k then l else ((0,0,0,0,0),(0,0,0,0),(0,0,0,0))
 | none=>((0,0,0,0,0),(0,0,0,0),(0,0,0,0))
theorem rows_news {w:World} {base g n cap:Nat} {xs:List LT} (h:w.ownsRow base 61 13 (.slice (Ab ⟨g,0,Aa⟩) n cap) n (zE yE xs)) (hn:n=xs.length) (i m:Nat) (him:i+m<=xs.length) :
  ∀ j u,(zE yE ((xs.drop i).take m))[j]?=some u->w.cell? ((⟨g,i * 13,Aa⟩:Addr).add j)=some u:=fun j u hu=>by
 have hj:=(List.getElem?_eq_some_iff.1 hu).1;have hl:=jX xP ((xs.drop i).take m);have a:((xs.drop i).take m).length=m:=by rw [Ae,List.length_drop];omega
 rw [hl,a] at hj
 have e1:zE yE xs=zE yE (xs.take i) ++ (zE yE ((xs.drop i).take m) ++ zE yE ((xs.drop i).drop m)):=by
  rw [<- zY,List.take_append_drop,<- zY,List.take_append_drop]
 have b:(zE yE (xs.take i)).length=i * 13:=by rw [jX xP,Ae,Nat.min_eq_left (by omega)]
 rw [Addr.add_mid,h.cellAt (i * 13+j) (by rw [hn];omega),e1,List.getElem?_append_right (by omega),b,Nat.add_sub_cancel_left,List.getElem?_append_left (by rw [hl,a];exact hj)];exact hu
theorem letF_all (l:List LT):∀ u∈zE yE l,u.oneCell'=true:=fun u hu=>by
 unfold zE at hu;obtain ⟨x,_,hx⟩:=List.mem_flatMap.1 hu;exact kF x u hx
theorem out_p (c:CU) (s:CW) (N lo hi:Nat) (k:Int) (w:World) (hbox:Bx w N (zR c s) 124) (hown:xG lo hi w c s) (hlo:lo<=hi) (hk:(c.net.length:Int)<=1048576) (hwk:(Lit.int U k).wf=true) :
  Calls prog 164 #[.pointer (Ab ⟨N,0,Aa⟩),I U k] w fun e w'=>e=.returned (.tuple #[.agg (zQ (zBH c k)),.bool (outB c k)])/\∃ s',InB N lo w w' (zAC c k) s':=by
 have HB:=hid hbox;have HO:=hid hown;have a:=hid (qad3 hlo hown.size (gl hbox));obtain ⟨li,ao,ad,af,ae⟩:=info_parts zBJ;obtain ⟨an,cn,en,al⟩:=yL hown.net;have v:=hid en;have ar:=hid al;have au:c.net.length<=cn:=zJB hown.net _ _ _ en;clear hbox hown hlo en al;obtain ⟨W,hW⟩:=nw (w.alloc (.cells (zQ ((0,0,0,0,0),(0,0,0,0),(0,0,0,0))) 61));have HW:Hid (Be w W/\Bx W w.heap.size (zQ ((0,0,0,0,0),(0,0,0,0),(0,0,0,0))) 61/\W.heap.size=w.heap.size+1):=hid (by rw [hW];exact ⟨ba (br _ _) _,heap_alloc_new w _,by simp⟩);have ac:Hid (Bx W N #[I U c.n,.bool c.chain,I U c.liars,s.treeV,s.peersV,s.net,s.said,s.pend] 124):=(HW.1.block N a.2.2).trans HB;unfold zQ at hW;simp only at hW;go_enter func164,ntmps164;go_wp2_with (rw [<- hW];clear hW;refine kQ rfl _ _ rfl N 5 (.slice an c.net.length cn) _ _ rfl ac (by rw [<- v.out];rfl) _ underlying33 rfl ?_)
 refine (yS k 0 ((c.net.length:Int) - 1) W).mono ?_;rintro e w1 ⟨rfl,hw⟩;obtain rfl:=hw.symm;clear hw
 by_cases hin:0<=k/\k < c.net.length
 ·rw [kY (by omega)];have h0:=hin.1;have h1:=hin.2;obtain ⟨j,hj⟩:∃ j:Nat,k=(j:Int):=⟨k.toNat,by omega⟩;subst hj;have ag:j < c.net.length:=by omega
  obtain ⟨l,hl⟩:=nw (c.net[j]);have HE:Hid (zAC c (j:Int)={ c with net:=c.net.take j ++ c.net.drop (j+1) }/\outB c (j:Int)=true/\zBH c (j:Int)=l):=⟨by unfold zAC;rw [if_pos hin];simp,by unfold outB;simp [ag],by unfold zBH;simp [ag,hl]⟩;obtain ⟨g,rfl⟩:=ar (by omega);have aj:Hid (W.ownsRow lo 61 13 (.slice (Ab ⟨g,0,Aa⟩) c.net.length cn) c.net.length (zE yE c.net)):=(by rw [<- v.out];exact zS HO.net HW.1);have ak:Hid (W.rangeAt g (j * 13) (yE l)):=(fun i u hu=>by have:=rows_news aj rfl j 1 (by omega) i u (by rw [List.drop_eq_getElem_cons ag];simpa [zE,<- hl] using hu);rw [Addr.add_mid] at this;exact this:W.rangeAt g (j * 13) (yE l));have a0:(j:Int)+1<=cn:=by omega
  have aw:(j:Int)<=c.net.length:=by omega
  have ax:(j:Int)<=cn:=by omega
  have az:(j:Int)+1<=c.net.length:=by omega
  have av:¬ (cn=0):=by omega
  clear hin hl
  go_wp2_with (first
   | (refine w_st W.heap.size (zQ l) (heap_alloc_new W _) (kD _) ?_;intro y1 hg hk hz;have m:Be W y1:=yB hg;have d:=hid (qad6 (bt HW.1 m) (bk m HW.2.1) (bk m ac) hk (zS aj m) ((HO.below HW.1).below m));clear hg hk hz m ak aj)
   | (refine kQ rfl _ _ rfl N 5 (.slice (Ab ⟨g,0,Aa⟩) c.net.length cn) _ _ rfl ac (by rw [<- v.out];rfl) _ underlying33 rfl ?_)
   | (refine wpList_load_mid rfl _ _ rfl g (j * 13) (by go_simp) (yE l) _ ak underlying61 rfl (by kernel_rfl) ?_))
  obtain ⟨o2,aa⟩:∃ o2:Nat,o2=if cn=j+1 then 0 else (j+1) * 13:=⟨_,rfl⟩
  refine p_rg (fun i=>i != 19) (fun x=>Bx x N #[I U c.n,.bool c.chain,I U c.liars,s.treeV,s.peersV,s.net,s.said,s.pend] 124) ?_;show zX prog _ _ _ _ _ (19+1) (Array.replicate 20 false) _ _;have hS:Bx y1.drew N #[I U c.n,.bool c.chain,I U c.liars,s.treeV,s.peersV,s.net,s.said,s.pend] 124:=d.2.2.1;refine p_pt 0 24 N 0 hS ?_ (hy:=by intro x hx;go_simp;first | done | with_reducible rfl | (rw [Ad];omega));refine p_pt 2 26 N 0 hS ?_ (hy:=by intro x hx;go_simp;first | done | with_reducible rfl | (rw [Ad];omega));refine p_pt 3 27 N 0 hS ?_ (hy:=by intro x hx;go_simp;first | done | with_reducible rfl | (rw [Ad];omega));refine p_pt 4 28 N 5 hS ?_ (hy:=by intro x hx;go_simp;first | done | with_reducible rfl | (rw [Ad];omega));refine zD 5 29 (.slice (Ab ⟨g,0,Aa⟩) c.net.length cn) hS ?_ (hy:=by intro x hx;have c:=zB hx 5 (.slice (Ab ⟨g,0,Aa⟩) c.net.length cn) (by rw [<- v.out];rfl);go_simp;first | done | with_reducible rfl | (rw [Ad];omega));refine zD 6 30 (I U (j:Int)) hS ?_ (hy:=by intro x hx;go_simp;first | done | with_reducible rfl | (rw [Ad];omega));refine zD 7 31 (.slice (Ab ⟨g,0,Aa⟩) j cn) hS ?_ (hy:=by intro x hx;go_simp;first | done | with_reducible rfl | (rw [Ad];omega));refine p_pt 9 33 N 0 hS ?_ (hy:=by intro x hx;go_simp;first | done | with_reducible rfl | (rw [Ad];omega));refine p_pt 10 34 N 0 hS ?_ (hy:=by intro x hx;go_simp;first | done | with_reducible rfl | (rw [Ad];omega));refine p_pt 11 35 N 5 hS ?_ (hy:=by intro x hx;go_simp;first | done | with_reducible rfl | (rw [Ad];omega));refine zD 12 36 (.slice (Ab ⟨g,0,Aa⟩) c.net.length cn) hS ?_ (hy:=by intro x hx;have c:=zB hx 5 (.slice (Ab ⟨g,0,Aa⟩) c.net.length cn) (by rw [<- v.out];rfl);go_simp;first | done | with_reducible rfl | (rw [Ad];omega));refine zD 13 37 (I U (j:Int)) hS ?_ (hy:=by intro x hx;go_simp;first | done | with_reducible rfl | (rw [Ad];omega));refine zD 14 38 (I U ((j:Int)+1)) hS ?_ (hy:=by intro x hx;go_simp;first | done | with_reducible rfl | (rw [Ad];omega))
  refine zD 15 39 (.slice (Ab ⟨g,o2,Aa⟩) (c.net.length - (j+1)) (cn - (j+1))) hS ?_ (hy:=by
   intro x hx;rw [aa]
   by_cases hcc:cn=j+1
   ·rw [if_pos hcc];go_simp;intro y;exact absurd y (by omega)
   ·rw [if_neg hcc];go_simp;intro y
    exact absurd y (by omega))
  obtain ⟨z1,ab⟩:=nw (y1.drew.alloc (.cells #[] 61));have m:Be y1 z1:=(by rw [ab];exact ((Below.refl y1.heap.size y1).drew).alloc (show y1.heap.size<=y1.drew.heap.size from nl _) _:Be y1 z1);have am:Hid (z1.ownsRow y1.heap.size 61 13 (.slice (Ab ⟨y1.heap.size,0,Aa⟩) 0 0) 0 []):=(by rw [ab];exact yH y1.drew _ _);have t:=hid m;have f:Hid (w.heap.size+1 < y1.heap.size):=hid (by have:=(gl d.2.2.2.1);have:=HW.2.2;omega);have aq:Bx z1 N #[I U c.n,.bool c.chain,I U c.liars,s.treeV,s.peersV,s.net,s.said,s.pend] 124:=(m.block N (by have:=a.out;have:=f.out;omega)).trans d.2.2.1;refine p_run (s:=1) (e':=some 25) rfl rfl rfl (by kernel_rfl) (.slice (Ab ⟨y1.heap.size,0,Aa⟩) 0 0) z1 ?_ ⟨fun _=>aq,?_⟩
  ·rw [ab];go_simp
   try rfl
  clear ab m hS;simp only [pz];refine p_append (s:=8) (e':=some 32) rfl rfl rfl (.tmp 25) (.tmp 31) 33 rfl (by kernel_rfl) y1.heap.size 61 li _ 13 104 underlying33 ao ad af ae rfl (by decide) (.slice (Ab ⟨y1.heap.size,0,Aa⟩) 0 0) 0 [] rfl am ⟨g,0,Aa⟩ j cn (zE yE (c.net.take j)) rfl (by rw [jX xP,Ae,Nat.min_eq_left (by omega)]) (fun i u hu=>by have:=rows_news (zS d.2.2.2.2.1 t) rfl 0 j (by omega) i u (by simpa using hu);simpa using this) (letF_all _) (by unfold maxLen;omega) (by omega) t.size ?_;intro v2 z2 ho hg;have r:Hid (Be y1 z2):=t.grown hg t.size (fun k hk=>by cases hk;exact nl _);have ah:=hid ho;have ap:Bx z2 N #[I U c.n,.bool c.chain,I U c.liars,s.treeV,s.peersV,s.net,s.said,s.pend] 124:=(r.block N (by have:=a.out;have:=f.out;omega)).trans d.2.2.1;clear ho hg aq t am;refine ⟨fun _=>ap,?_⟩;simp only [pz];refine p_append (s:=16) (e':=some 40) rfl rfl rfl (.tmp 32) (.tmp 39) 33 rfl (by kernel_rfl) y1.heap.size 61 li _ 13 104 underlying33 ao ad af ae rfl (by decide) v2 (0+j) _ rfl ah ⟨g,o2,Aa⟩ (c.net.length - (j+1)) (cn - (j+1)) (zE yE (c.net.drop (j+1))) rfl (by rw [jX xP,List.length_drop]) (fun i u hu=>?_) (letF_all _) (by unfold maxLen;omega) (by omega) r.size ?_
  ·by_cases hcc:cn=j+1
   ·have ai:c.net.length=j+1:=by omega
    rw [List.drop_eq_nil_of_le (by omega)] at hu;simp [zE] at hu
   ·rw [if_neg hcc] at aa;rw [aa];exact rows_news (zS d.2.2.2.2.1 r) rfl (j+1) (c.net.length - (j+1)) (by omega) i u (by rw [List.take_of_length_le (by rw [List.length_drop];exact nl _)];exact hu)
  intro v3 z3 ho hg;have n:Hid (Be y1 z3):=r.grown hg r.size (fun k hk=>(ah.lt k hk).1);have ai:0+j+(c.net.length - (j+1))=(c.net.take j ++ c.net.drop (j+1)).length:=by rw [List.length_append,Ae,List.length_drop,Nat.min_eq_left (by omega)];omega
  have z:Hid (z3.ownsRow y1.heap.size 61 13 v3 (c.net.take j ++ c.net.drop (j+1)).length (zE yE (c.net.take j ++ c.net.drop (j+1)))):=hid (by rw [<- ai,zY];simpa using ho);have p:Bx z3 N #[I U c.n,.bool c.chain,I U c.liars,s.treeV,s.peersV,s.net,s.said,s.pend] 124:=(n.block N (by have:=a.out;have:=f.out;omega)).trans d.2.2.1;clear ho hg ap r ah ai aa;refine ⟨fun _=>p,?_⟩;simp only [pz];refine zD 17 41 (.pointer (Ab ⟨N,0,Aa⟩)) p ?_ (hy:=by intro x hx;go_simp;first | done | with_reducible rfl | (rw [Ad];omega));refine zD 18 42 (.pointer (Ab ⟨N,5,Aa⟩)) p ?_ (hy:=by intro x hx;go_simp;first | done | with_reducible rfl | (rw [Ad];omega));refine p_ce 19 N 5 v3 #[I U c.n,.bool c.chain,I U c.liars,s.treeV,s.peersV,s.net,s.said,s.pend] #[I U c.n,.bool c.chain,I U c.liars,s.treeV,s.peersV,v3,s.said,s.pend] p (by simp) (jI z) rfl ?_;intro z4 hg hk;have b:Hid (Bx z4 N #[I U c.n,.bool c.chain,I U c.liars,s.treeV,s.peersV,v3,s.said,s.pend] 124/\FrS (fun k=>k=N) w z4/\xG lo hi z4 c s/\z4.ownsRow y1.heap.size 61 13 v3 (c.net.take j ++ c.net.drop (j+1)).length (zE yE (c.net.take j ++ c.net.drop (j+1)))/\Bx z4 w.heap.size (zQ ((0,0,0,0,0),(0,0,0,0),(0,0,0,0))) 61/\Bx z4 W.heap.size (zQ l) 61/\y1.heap.size<=z4.heap.size):=⟨hk,(FrS.of_below (bt d.1 n)).trans (FrS.of_grown hg (fun k e=>by cases e;rfl)),(d.2.2.2.2.2.below n).boxT p hg,World.ownsRow.kept z hg (zH z p (by decide)),(hg.block _ (by have:=n.size;have:=f.out;omega) (qsn (by have:=a.out;omega))).trans ((n.block _ (by have:=f.out;omega)).trans d.2.1),(hg.block _ (by have:=n.size;have:=f.out;have:=HW.2.2;omega) (qsn (by have:=a.out;have:=HW.2.2;omega))).trans ((n.block _ (by have:=f.out;have:=HW.2.2;omega)).trans d.2.2.2.1),Ac n.size hg.size⟩;clear hg hk p n z;refine ⟨fun h=>(by cases h),?_⟩;refine p_do ?_
  go_wp2_with (first
   | (refine w_ld W.heap.size b.2.2.2.2.2.1 underlying61 ?_)
   | (refine w_st w.heap.size (zQ l) b.2.2.2.2.1 (kD _) ?_;intro z5 hg hk hz;have o:Hid (Bx z5 w.heap.size (zQ l) 61/\Bx z5 N #[I U c.n,.bool c.chain,I U c.liars,s.treeV,s.peersV,v3,s.said,s.pend] 124/\FrS (fun k=>k=N) w z5/\xG lo hi z5 c s/\z5.ownsRow y1.heap.size 61 13 v3 (c.net.take j ++ c.net.drop (j+1)).length (zE yE (c.net.take j ++ c.net.drop (j+1)))/\z4.heap.size<=z5.heap.size):=⟨hk,gk hg b.1 (qsn (by have:=a.out;omega)),⟨hg.os.trans b.2.1.os,hg.tape.trans b.2.1.tape,hg.output.trans b.2.1.output,Ac b.2.1.size hg.size,fun i hi hn=>(hg.block i (by have:=b.2.1.size;omega) (qsn (by omega))).trans (b.2.1.block i hi hn)⟩,b.2.2.1.boxed hg (Or.inr a.2.1),own_not b.2.2.2.1 hg (by have:=f.out;omega),hg.size⟩;clear hg hk hz))
  refine b_ct (.tuple #[.agg (zQ l),.bool true]) results164 o.1 underlying61 ?_;refine ⟨by rw [HE.out.2.1,HE.out.2.2],{ s with net:=v3 },?_⟩;rw [HE.out.1];have hz:=o.out;have ay:=b.2.2.2.2.2.2;exact ⟨hz.2.1,hz.2.2.2.1.setNet (Ac a.2.1 hz.2.2.1.size) (nl _) (zN hz.2.2.2.2.1 (by have:=a.out;have:=f.out;omega)) (fun i hi=>⟨by have:=(hz.2.2.2.2.1.lt i hi).1;have:=a.out;have:=f.out;omega,(hz.2.2.2.2.1.lt i hi).2⟩) a.1,hz.2.2.1⟩
 ·rw [zAB (by omega)]
  have HE:Hid (zAC c k=c/\outB c k=false/\zBH c k=((0,0,0,0,0),(0,0,0,0),(0,0,0,0))):=⟨if_neg hin,by unfold outB;simp only [decide_eq_false_iff_not];exact hin,by
   unfold zBH
   split
   ·rename_i l hl
    split
    ·rename_i hk0
     have:=(List.getElem?_eq_some_iff.1 hl).1;exact absurd ⟨hk0,by omega⟩ hin
    ·rfl
   ·rfl⟩
  go_wp2_with (refine w_st w.heap.size (zQ ((0,0,0,0,0),(0,0,0,0),(0,0,0,0))) HW.2.1 (kD _) ?_;intro z5 hg hk hz;have o:Hid (Bx z5 w.heap.size (zQ ((0,0,0,0,0),(0,0,0,0),(0,0,0,0))) 61/\Bx z5 N #[I U c.n,.bool c.chain,I U c.liars,s.treeV,s.peersV,s.net,s.said,s.pend] 124/\FrS (fun k=>k=N) w z5/\xG lo hi z5 c s):=⟨hk,gk hg ac (qsn (by have:=a.out;omega)),FrS.of_below (HW.1.grown hg HW.1.size (fun k hk=>by cases hk;exact nl _)),(HO.below HW.1).boxed hg (Or.inr a.2.1)⟩;clear hg hk hz)
  refine b_ct (.tuple #[.agg (zQ ((0,0,0,0,0),(0,0,0,0),(0,0,0,0))),.bool false]) results164 o.1 underlying61 ?_;refine ⟨by rw [HE.out.2.1,HE.out.2.2],s,?_⟩;rw [HE.out.1];exact ⟨o.2.1,o.2.2.2.wide (Ac a.2.1 o.2.2.1.size) (nl _),o.2.2.1⟩
end Go.Proofs.YtfnneillakdopacGreatR
