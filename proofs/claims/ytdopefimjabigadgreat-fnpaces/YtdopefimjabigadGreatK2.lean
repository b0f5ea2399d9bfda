/-
  Texts of ours that later ones lean on, in one: ClusS, ClusP, SafeS.
-/
import Derived.Test.YtdopefimjabigadGreatK1
import Derived.Test.YtdopefimjabigadGreatPeerC
import Derived.Test.YtdopefimjabigadGreatPutBS
set_option maxRecDepth 100000
set_option maxHeartbeats 32000000
namespace Go.Proofs.YtdopefimjabigadGreat
open Go.RowKit Num
structure CopC (w y:World) (A O:Array Value):Prop where
 below:Below w.heap.size w y
 box:Bx y w.heap.size A 90
 zero:Bx y (w.heap.size+1) jE 90
 out:Bx y (w.heap.size+1+1) O 90
theorem CopC.far {w y:World} {A O:Array Value} (h:CopC w y A O):w.heap.size+1+1 < y.heap.size:=(gl h.out)
theorem CopC.put {w y x:World} {A O O':Array Value} (h:CopC w y A O) (hg:y.grownBy x (some (w.heap.size+1+1))) (hk:Bx x (w.heap.size+1+1) O' 90):CopC w x A O':=
 ⟨h.below.grown hg h.below.size (fun k hk=>by cases hk;omega),(hg.block _ (gl h.box) (fun e=>by have:=Option.some.inj e;omega)).trans h.box,(hg.block _ (gl h.zero) (fun e=>by have:=Option.some.inj e;omega)).trans h.zero,hk⟩
theorem CopC.more {w y x:World} {A O:Array Value} (h:CopC w y A O) (hb:Below y.heap.size y x):CopC w x A O:=
 ⟨bt h.below hb,(hb.block _ (gl h.box)).trans h.box,(hb.block _ (gl h.zero)).trans h.zero,(hb.block _ (gl h.out)).trans h.out⟩
theorem CopC.grow {w y x:World} {A O:Array Value} {r:Option Nat} (h:CopC w y A O) (hg:y.grownBy x r) (hr:∀ g,r=some g→w.heap.size+1+1 < g):CopC w x A O:=
 ⟨h.below.grown hg h.below.size (fun k hk=>by have:=hr k hk;omega),(hg.block _ (gl h.box) (fun e=>by have:=hr _ e.symm;omega)).trans h.box,(hg.block _ (gl h.zero) (fun e=>by have:=hr _ e.symm;omega)).trans h.zero,(hg.block _ (gl h.out) (fun e=>by have:=hr _ e.symm;omega)).trans h.out⟩
theorem xH.not {w w':World} {base N:Nat} {v:Value} {ps:TL} (h:xH w base v ps) (hg:w.grownBy w' (some N)) (hN:N < base):xH w' base v ps:=h.frs (FrS.of_grown hg (B:=fun k=>k=N) (fun k e=>by cases e;rfl)) (fun g hg e=>by have:=(zCE h hg).1;omega)
theorem qJ.not {w w':World} {base N:Nat} {v:Value} {ps:PL} (h:qJ base w v ps) (hg:w.grownBy w' (some N)) (hN:N < base):qJ base w' v ps:=h.frs (FrS.of_grown hg (B:=fun k=>k=N) (fun k e=>by cases e;rfl)) (fun g hg e=>by have:=(inPeers_ge h (Or.inl hg)).1;omega) (fun x hx g hg e=>by have:=(inPeers_ge h (Or.inr ⟨x,hx,hg⟩)).1;omega)
theorem own_not {w w':World} {base N m n:Nat} {e:TypeId} {v:Value} {xs:List Value} (h:w.ownsRow base e m v n xs) (hg:w.grownBy w' (some N)) (hN:N < base):w'.ownsRow base e m v n xs:=(FrS.of_grown hg (B:=fun k=>k=N) (fun k e=>by cases e;rfl)).own h (fun g hg e=>by have:=(h.lt g hg).1;omega)
theorem xH.above {w w':World} {base b1:Nat} {v:Value} {ps:TL} {r:Option Nat} (h:xH w base v ps) (hl:∀ g,inTree v ps g→g < b1) (hg:w.grownBy w' r) (hr:∀ g,r=some g→b1≤g):xH w' base v ps:=h.frs (FrS.of_grown hg (B:=fun k=>b1≤k) hr) (fun g hg e=>by have:=hl g hg;omega)
theorem qJ.append {lo n2 g2 cap2:Nat} {w x y:World} {pv:Value} {qs:PL} {p:PE} {s1:PV} (h:qJ lo w pv qs) (hb:Below w.heap.size w x) (hd:zO w.heap.size x.heap.size x p s1) (hlo:lo≤w.heap.size) (hg:x.grownBy y pv.ownBlock)
  (hrow:y.ownsRow lo 35 21 (.slice (some ⟨g2,0,none⟩) n2 cap2) (qs.length+1) (zE peerF qs ++ peerF (p,s1))):qJ lo y (.slice (some ⟨g2,0,none⟩) n2 cap2) (qs ++ [(p,s1)]):=by
 have hE:yDD lo x (qs ++ [(p,s1)]):=(h.own.below hb).push (hi:=w.heap.size) hd hlo (fun x hx=>(h.own.each x hx).2.1) (nl _);refine ⟨by rw [List.length_append,zY];simpa [zE] using hrow,?_⟩
 cases e:pv.ownBlock with
 | none=>
  rw [e] at hg;exact hE.frs (FrS.of_grown hg (B:=fun _=>False) (fun g hg=>by cases hg)) (fun _ _ _ _ hB=>hB)
 | some g=>
  rw [e] at hg
  obtain ⟨cur,hcur⟩:∃ cur,Bx x g cur 35:=by
   obtain ⟨_,⟨hv,_⟩ | ⟨g3,cap3,cur,hv,_,hh,_⟩⟩:=zS h.row hb
   ·rw [hv] at e;cases e
   ·rw [hv] at e
    cases e
    exact ⟨cur,hh⟩
  exact hE.boxed hcur hg
theorem xG.setNet {lo hi hi':Nat} {w:World} {c:CU} {s:CW} {v:Value} {l:List LT} (h:xG lo hi w c s) (hh:hi≤hi') (hs:hi'≤w.heap.size) (ho:w.ownsRow lo 37 13 v l.length (zE yE l)) (hv:∀ g,v.ownBlock=some g→hi≤g∧g < hi') (hlo:lo≤hi):xG lo hi' w { c with net:=l } { s with net:=v }:=by
 have bd:∀ i g,i < 5→zFD { s with net:=v } i g→(i=2∧hi≤g∧g < hi')∨(zFD s i g∧lo≤g∧g < hi):=fun i g hi5 hg=>by
  match i,hi5 with
  | 0,_=>exact Or.inr ⟨hg,h.lim 0 g (by omega) hg⟩
  | 1,_=>exact Or.inr ⟨hg,h.lim 1 g (by omega) hg⟩
  | 2,_=>exact Or.inl ⟨rfl,hv g hg⟩
  | 3,_=>exact Or.inr ⟨hg,h.lim 3 g (by omega) hg⟩
  | 4,_=>exact Or.inr ⟨hg,h.lim 4 g (by omega) hg⟩
 refine ⟨h.etree,h.tree,h.epeers,h.peers,ho,h.said,h.pend,fun i j g hi5 hj5 h1 h2=>?_,fun i g hi5 hg=>?_,hs⟩
 ·rcases bd i g hi5 h1 with h1 | h1 <;> rcases bd j g hj5 h2 with h2 | h2
  ·omega
  ·omega
  ·omega
  ·exact h.dis i j g hi5 hj5 h1.1 h2.1
 ·rcases bd i g hi5 hg with h1 | h1 <;> omega
theorem xN {w:World} {base n m N:Nat} {e:TypeId} {v:Value} {xs:List Value} {A:Array Value} (h:w.ownsRow base e m v n xs) (hN:Bx w N A 90) (hne:e ≠ 90):v.ownBlock ≠ some N:=by
 rcases zH h hN hne with h | h
 ·rw [h];exact fun e=>by cases e
 ·exact h
theorem xG.noBox {lo hi N:Nat} {w:World} {c:CU} {s:CW} {A:Array Value} (h:xG lo hi w c s) (hN:Bx w N A 90):∀ i,i < 5→¬ zFD s i N:=fun i hi hp=>by
 match i,hi with
 | 0,_=>
  rcases hp with hp | ⟨p,hm,hp⟩
  ·exact xN h.tree.row hN (by decide) hp
  ·exact xN (h.tree.cmds p hm) hN (by decide) hp
 | 1,_=>
  rcases hp with hp | ⟨x,hm,a,ha,hp⟩
  ·exact xN h.peers.row hN (by decide) hp
  ·have hd:=(h.peers.own.each x hm).1;simp only [six,List.mem_cons,List.not_mem_nil,or_false] at ha
   rcases ha with rfl | rfl | rfl | rfl | rfl | rfl
   ·exact xN hd.row hN (by decide) hp
   ·exact xN hd.cells hN (by decide) hp
   ·exact xN hd.early hN (by decide) hp
   ·exact xN hd.undos hN (by decide) hp
   ·exact xN hd.votes hN (by decide) hp
   ·exact xN hd.news hN (by decide) hp
 | 2,_=>exact xN h.net hN (by decide) hp
 | 3,_=>exact xN h.said hN (by decide) hp
 | 4,_=>exact xN h.pend hN (by decide) hp
theorem xG.boxT {lo hi N:Nat} {w w':World} {c:CU} {s:CW} {A:Array Value} (h:xG lo hi w c s) (hN:Bx w N A 90) (hg:w.grownBy w' (some N)):xG lo hi w' c s:=
 h.frs (B:=fun k=>k=N) (FrS.of_grown hg (fun k e=>by cases e;rfl)) (fun i g hi hp e=>h.noBox hN i hi (by rw [← e];exact hp))
def jV (c:CU) (l:List LT):CU:=if 60 < c.net.length+l.length then c else { c with net:=c.net ++ l }
def postB (c:CU) (l:List LT):Bool:=!decide (60 < c.net.length+l.length)
structure InB (N lo:Nat) (w w':World) (c:CU) (s:CW):Prop where
 box:Bx w' N (zR c s) 90
 own:xG lo w'.heap.size w' c s
 fr:FrS (fun k=>k=N) w w'
theorem post_p (c:CU) (s:CW) (N lo hi:Nat) (l:List LT) (lv:Value) (w:World) (hbox:Bx w N (zR c s) 90) (hown:xG lo hi w c s) (hlo:lo≤hi) (hl:yM w lv 13 yE l) (hk:(c.net.length:Int)≤1048576) (hk2:(l.length:Int)≤1048576) :
  Calls Tryz.prog 181 #[.pointer (some ⟨N,0,none⟩),lv] w fun e w'=>e=.returned (.bool (postB c l))∧∃ s',InB N lo w w' (jV c l) s':=by
 have HB:=hid hbox;have HO:=hid hown;have HL:=hid hl;have HNE:Hid (N < w.heap.size∧lo≤hi∧hi≤w.heap.size):=⟨(gl hbox),hlo,hown.size⟩;obtain ⟨li,lhi,lhz0,lhz1,lhz2⟩:=info_parts zBJ;obtain ⟨an,cn,en,-⟩:=yL hown.net;obtain ⟨al,cl,el,-⟩:=hl;have HEN:=hid en;subst el;clear hbox hown hlo en
 by_cases hroom:60 < c.net.length+l.length
 ·have HE:Hid (postB c l=false∧jV c l=c):=⟨by unfold postB;simp [hroom],if_pos hroom⟩;have hr:(60:Int) < (c.net.length:Int)+(l.length:Int):=by omega
  go_enter Tryz.func181,Tryz.ntmps181;go_wp2_with (refine kQ rfl _ _ rfl N 5 (.slice an c.net.length cn) _ _ rfl HB.out (by rw [← HEN.out];rfl) _ Tryz.underlying33 rfl ?_)
  go_ret;refine ⟨zL HE.out.1.symm,s,?_⟩;rw [HE.out.2];exact ⟨HB.out,HO.out.wide HNE.out.2.2 (nl _),FrS.refl _ _⟩
 ·have HE:Hid (postB c l=true∧jV c l={ c with net:=c.net ++ l }):=⟨by unfold postB;simp [hroom],if_neg hroom⟩;have hr:¬ (60:Int) < (c.net.length:Int)+(l.length:Int):=by omega
  go_enter Tryz.func181,Tryz.ntmps181
  go_wp2_with (first
   | (refine zU rfl _ _ _ rfl N 5 v2 rfl rfl _ _ HB2.out (by kernel_rfl) (by simp) (jI HV2.out) #[.int .i64 c.n,.bool c.chain,.int .i64 c.liars,s.treeV,s.peersV,v2,s.said,s.pend] rfl ?_;intro y hg hk;have HY:Hid (Bx y N #[.int .i64 c.n,.bool c.chain,.int .i64 c.liars,s.treeV,s.peersV,v2,s.said,s.pend] 90∧FrS (fun k=>k=N) w y∧x2.heap.size≤y.heap.size∧y.ownsRow w.heap.size 37 13 v2 (c.net ++ l).length (zE yE (c.net ++ l))∧xG lo hi y c s):=⟨hk,(FrS.of_below HBB2.out).trans (FrS.of_grown hg (fun k e=>by cases e;rfl)),hg.size,World.ownsRow.kept HV2.out hg (zH HV2.out HB2.out (by decide)),(HO.out.below HBB2.out).boxT HB2.out hg⟩;clear hg hk)
   | (refine kQ rfl _ _ rfl N 5 (.slice an c.net.length cn) _ _ rfl HB.out (by rw [← HEN.out];rfl) _ Tryz.underlying33 rfl ?_)
   | (refine kQ rfl _ _ rfl N 5 (.slice an c.net.length cn) _ _ rfl (((yA w (.cells #[] 37 (0,0))).block N (by have:=HNE.out;omega)).trans HB.out) (by rw [← HEN.out];rfl) _ Tryz.underlying33 rfl ?_)
   | (at_builtin;refine yU _ rfl _ _ 33 rfl w.heap.size 37 li _ 104 Tryz.underlying33 lhi lhz0 lhz1 lhz2 rfl (by decide) xP kF _ [] rfl (yH w _ _) _ c.net rfl (by rw [← HEN.out];exact (zW xP HO.out.net).below ((Below.refl w.heap.size w).alloc (nl _) _)) (by simp;unfold maxLen;omega) (by simp;omega) (by simp) ?_;intro v1 x1 ho hg;have HBB1:Hid (Below w.heap.size w x1):=yB hg;have HV1:=hid ho;clear ho hg)
   | (at_builtin;refine yU _ rfl _ _ 33 rfl w.heap.size 37 li _ 104 Tryz.underlying33 lhi lhz0 lhz1 lhz2 rfl (by decide) xP kF _ c.net rfl HV1.out _ l rfl (HL.out.below HBB1.out) (by unfold maxLen;omega) (by omega) HBB1.out.size ?_;intro v2 x2 ho hg;have HBB2:Hid (Below w.heap.size w x2):=HBB1.out.grown hg HBB1.out.size (fun k hk=>(HV1.out.lt k hk).1);have HV2:=hid ho;have HB2:Hid (Bx x2 N #[.int .i64 c.n,.bool c.chain,.int .i64 c.liars,s.treeV,s.peersV,s.net,s.said,s.pend] 90):=(HBB2.out.block N (by have:=HNE.out;omega)).trans HB.out;clear ho hg HBB1 HV1))
  go_ret;refine ⟨zL HE.out.1.symm,{ s with net:=v2 },?_⟩;rw [HE.out.2];have hz:=HY.out;exact ⟨hz.1,hz.2.2.2.2.setNet (Nat.le_trans HNE.out.2.2 hz.2.1.size) (nl _) (zN hz.2.2.2.1 (by have:=HNE.out;omega)) (fun g hg=>⟨by have:=(hz.2.2.2.1.lt g hg).1;have:=HNE.out;omega,(hz.2.2.2.1.lt g hg).2⟩) HNE.out.2.1,hz.2.1⟩
theorem qE {P:Program} {fn:Func} {p q:Tmp} {ty:TypeId} (h:fn.results=#[.cell p ty,.tmp q]) (tmps:Array Value) (w:World) (g:Nat) (t:TypeId) (cs:Array Value) (fr:Nat × Nat) (d:TypeDesc) (v:Value)
  (hp:tmps.getD p undef=.pointer (some ⟨g,0,none⟩)) (hg:w.heap[g]?=some (.cells cs t fr)) (hu:P.underlying ty=some d) (hd:(match d with | .struct _ | .array _ _=>true | _=>false)=true) (hi:(P.info? ty).map (·.size)=some cs.size)
  (hq:tmps.getD q undef=v) :
  (results fn tmps).run P w=.ok (.tuple #[.agg cs,v]) w:=by
 have hp':tmps[p]?.getD undef=.pointer (some ⟨g,0,none⟩):=by simpa using hp
 have hq':tmps[q]?.getD undef=v:=by simpa using hq
 simp [results,h,hp',hq',asAddr,run_loadVar_row w g t ty cs fr d hg hu hd hi]
def atC (c:CU) (k:Int):List LT:=match c.net[k.toNat]? with
 | some l=>[l]
 | none=>[]
def yEC (c:CU) (k:Int):CU × Bool:=if 0≤k∧k < c.net.length then (jV c (atC c k),postB c (atC c k)) else (c,false)
theorem rows_one {α:Type} {f:α→List Value} {m:Nat} {w:World} {g n cap:Nat} {xs:List α} (h:yM w (.slice (some ⟨g,0,none⟩) n cap) m f xs) (k c2:Nat) (hk:k < xs.length):yM w (.slice (some ⟨g,k * m,none⟩) 1 c2) m f [xs[k]]:=by
 obtain ⟨a,cp,e,hr⟩:=h;injection e with e1 e2 e3
 obtain ⟨g2,off,e4,hg,hc⟩:=hr (by omega);rw [← e1] at e4;injection e4 with e4
 injection e4 with e5 e6
 subst e5 e6;refine ⟨some ⟨g,k * m,none⟩,c2,rfl,fun _=>⟨g,k * m,rfl,hg,fun i hi j hj=>?_⟩⟩;have hi0:i=0:=by simp at hi;exact hi
 subst hi0;have:=hc k hk j hj
 simpa using this
theorem twice_p (c:CU) (s:CW) (N lo hi:Nat) (k:Int) (w:World) (hbox:Bx w N (zR c s) 90) (hown:xG lo hi w c s) (hlo:lo≤hi) (hk:(c.net.length:Int)≤1048576) (hwk:(Lit.int .i64 k).wf=true) :
  Calls Tryz.prog 143 #[.pointer (some ⟨N,0,none⟩),.int .i64 k] w fun e w'=>e=.returned (.bool (yEC c k).2)∧∃ s',InB N lo w w' (yEC c k).1 s':=by
 have HB:=hid hbox;have HO:=hid hown;have HLO:=hid hlo;obtain ⟨an,cn,en,hga⟩:=yL hown.net;have HEN:=hid en;have HGA:=hid hga;have hcap:c.net.length≤cn:=zJB hown.net _ _ _ en;clear hbox hown hlo en hga;go_enter Tryz.func143,Tryz.ntmps143;go_wp2_with (refine kQ rfl _ _ rfl N 5 (.slice an c.net.length cn) _ _ rfl HB.out (by rw [← HEN.out];rfl) _ Tryz.underlying33 rfl ?_)
 refine (yS k 0 ((c.net.length:Int) - 1) w).mono ?_;rintro e w1 ⟨rfl,hw⟩;obtain rfl:=hw.symm;clear hw
 by_cases hin:0≤k∧k < c.net.length
 ·rw [kY (by omega)];have h0:=hin.1;have h1:=hin.2;obtain ⟨j,hj⟩:∃ j:Nat,k=(j:Int):=⟨k.toNat,by omega⟩;subst hj;have hjn:j < c.net.length:=by omega
  have HE:Hid (yEC c (j:Int)=(jV c [c.net[j]],postB c [c.net[j]])):=(by unfold yEC atC;rw [if_pos hin];simp [hjn]:yEC c (j:Int)=_);obtain ⟨g,rfl⟩:=HGA.out (by omega);clear hin;have hc1:(j:Int)+1≤cn:=by omega
  have hc2:(j:Int)≤(j:Int)+1:=by omega
  have hc3:j+1≤cn:=by omega
  have hc4:¬ cn=j:=by omega
  go_wp2_with (refine kQ rfl _ _ rfl N 5 (.slice (some ⟨g,0,none⟩) c.net.length cn) _ _ rfl HB.out (by rw [← HEN.out];rfl) _ Tryz.underlying33 rfl ?_)
  refine (post_p c s N lo hi [c.net[j]] _ w HB.out HO.out HLO.out (rows_one (by rw [← HEN.out];exact zW xP HO.out.net) j (cn - j) hjn) hk (by simp)).mono ?_;rintro e w2 ⟨rfl,s2,hin⟩;have HI:=hid hin;clear hin;go_wp2;go_ret;refine ⟨zL (by rw [HE.out]),s2,?_⟩;rw [HE.out];exact HI.out
 ·rw [zAB (by omega)];have HE:Hid (yEC c k=(c,false)):=if_neg hin;go_wp2;go_ret;refine ⟨zL (by rw [HE.out]),s,?_⟩;rw [HE.out];exact ⟨HB.out,HO.out.wide HO.out.size (nl _),FrS.refl _ _⟩
def zEG (p:PE) (phase view:Int):Bool:=decide (p.last.2.1 < view) || (decide (p.last.2.1=view) && decide (p.last.1 < phase))
def yI (p:PE) (view:Int):PE:=if view > p.view∧view≤900 then { p with view:=view,votes:=[],news:=[] } else p
def yP (p:PE) (phase view block:Int):PE:={ p with last:=(phase,view,block,p.id) }
theorem voted_small {p:PE} (h:yC p) (phase view block:Int):yC (yP p phase view block):=⟨h.row,h.cells,h.early,h.undos,h.votes,h.news,h.kcells,h.kundos⟩
theorem zHA {p:PE} (h:yC p) (view:Int):yC (yI p view):=by
 unfold yI
 split
 ·exact ⟨h.row,h.cells,h.early,h.undos,by simp,by simp,h.kcells,h.kundos⟩
 ·exact h
theorem enter_len (p:PE) (view:Int):jZ (yI p view)≤jZ p:=by
 unfold yI
 split
 ·unfold jZ;simp;omega
 ·exact nl _
theorem yFB (p:PE) (s:PV) (phase view:Int) (w:World) :
  Calls Tryz.prog 35 #[yZ p s,.int .i64 phase,.int .i64 view] w fun e w'=>e=.returned (.bool (zEG p phase view))∧Below w.heap.size w w':=by
 have HK:Hid ((w.alloc (.cells (zA p s) 35)).heap[w.heap.size]?=some (.cells (zA p s) 35 (0,0))):=heap_alloc_new w _;have c10:=zB HK.out 10 (.int .i64 p.last.1) rfl;have c11:=zB HK.out 11 (.int .i64 p.last.2.1) rfl
 by_cases h1:p.last.2.1 < view
 ·have HR:Hid (zEG p phase view=true):=hid (by unfold zEG;rw [decide_eq_true h1];rfl);go_enter Tryz.func35,Tryz.ntmps35;go_wp2;go_ret;exact ⟨zL HR.out.symm,ba (br _ _) _⟩
 ·by_cases h2:p.last.2.1=view
  ·have b2:(p.last.2.1 == view)=true:=by simpa using h2
   by_cases h3:p.last.1 < phase
   ·have HR:Hid (zEG p phase view=true):=hid (by unfold zEG;rw [decide_eq_true h2,decide_eq_true h3];simp);go_enter Tryz.func35,Tryz.ntmps35;go_wp2;go_ret;exact ⟨zL HR.out.symm,ba (br _ _) _⟩
   ·have HR:Hid (zEG p phase view=false):=hid (by unfold zEG;rw [decide_eq_false h1,decide_eq_false h3];simp);go_enter Tryz.func35,Tryz.ntmps35;go_wp2;go_ret;exact ⟨zL HR.out.symm,ba (br _ _) _⟩
  ·have b2:(p.last.2.1 == view)=false:=by simpa using h2
   have HR:Hid (zEG p phase view=false):=hid (by unfold zEG;rw [decide_eq_false h1,decide_eq_false h2];simp);go_enter Tryz.func35,Tryz.ntmps35;go_wp2;go_ret;exact ⟨zL HR.out.symm,ba (br _ _) _⟩
structure Bx3 (w y:World) (N:Nat) (A Z O:Array Value):Prop where
 below:Below w.heap.size w y
 box:Bx y w.heap.size A 35
 zero:Bx y (w.heap.size+1) Z 35
 out:Bx y N O 35
 far:w.heap.size+1 < N
theorem Bx3.lt {w y:World} {N:Nat} {A Z O:Array Value} (h:Bx3 w y N A Z O):N < y.heap.size:=(gl h.out)
theorem Bx3.more {w y x:World} {N:Nat} {A Z O:Array Value} (h:Bx3 w y N A Z O) (hb:Below y.heap.size y x):Bx3 w x N A Z O:=by
 have:=h.lt;have:=h.far;exact ⟨bt h.below hb,(hb.block _ (by omega)).trans h.box,(hb.block _ (by omega)).trans h.zero,(hb.block _ (by omega)).trans h.out,h.far⟩
theorem Bx3.put {w y x:World} {N:Nat} {A Z O O':Array Value} (h:Bx3 w y N A Z O) (hg:y.grownBy x (some N)) (hk:Bx x N O' 35):Bx3 w x N A Z O':=by
 have:=h.lt;have:=h.far;exact ⟨h.below.grown hg h.below.size (fun k hk=>by cases hk;omega),(hg.block _ (by omega) (fun e=>by have:=Option.some.inj e;omega)).trans h.box,(hg.block _ (by omega) (fun e=>by have:=Option.some.inj e;omega)).trans h.zero,hk,h.far⟩
theorem zCB (p:PE) (s:PV) (view:Int) (w:World) (hR:jS w p s) (hs:yC p) :
  Calls Tryz.prog 37 #[yZ p s,.int .i64 view] w fun e w'=>∃ s',e=.returned (yZ (yI p view) s')∧zO w.heap.size w'.heap.size w' (yI p view) s'∧Below w.heap.size w w':=by
 have HR:=hid hR;have HS:=hid hs;clear hR hs;obtain ⟨W,hW⟩:∃ W,W=(w.alloc (.cells (zA p s) 35)).alloc (.cells zF 35):=⟨_,rfl⟩
 have HC:Hid (Below w.heap.size w W∧Bx W w.heap.size (zA p s) 35∧Bx W (w.heap.size+1) zF 35):=by
  rw [hW];exact ⟨ba (ba (br _ _) _) _,qK w _ _⟩
 have HWS:Hid (W.heap.size=w.heap.size+1+1):=hid (by rw [hW];simp);unfold zF at hW;go_enter Tryz.func37,Tryz.ntmps37;go_wp2_with (rw [← hW];clear hW;refine w_ld w.heap.size HC.out.2.1 Tryz.underlying35 ?_)
 refine (zHJ p s W (HR.out.below HC.out.1) HS.out).mono ?_;rintro e x1 ⟨s1,rfl,ho,hb⟩;have HO1:=hid ho.toD;have HB1:=hid hb;clear ho hb
 by_cases hin:view > p.view∧view≤900
 ·have h1:view > p.view:=hin.1;have h1':p.view < view:=hin.1;have h2:view≤900:=hin.2;have HE:Hid (yI p view={ p with view:=view,votes:=[],news:=[] }):=(by unfold yI;rw [if_pos hin]:yI p view=_);clear hin
  go_wp2_with (first
   | (refine w_st x1.heap.size (zA p s1) (heap_alloc_new x1 _) (zJ HO1.out.1) ?_;intro y1 hg hk hz;have hb1:Below x1.heap.size x1 y1:=yB hg;have HY1:Hid (Bx3 w y1 x1.heap.size (zA p s) zF (zA p s1)):=⟨bt HC.out.1 (bt HB1.out hb1),(hb1.block _ (by have:=HB1.out.size;have:=HWS.out;omega)).trans ((HB1.out.block _ (by have:=HWS.out;omega)).trans HC.out.2.1),(hb1.block _ (by have:=HB1.out.size;have:=HWS.out;omega)).trans ((HB1.out.block _ (by have:=HWS.out;omega)).trans HC.out.2.2),hk,(by have:=HB1.out.size;have:=HWS.out;omega)⟩;have HD1:Hid (zO W.heap.size x1.heap.size y1 p s1):=HO1.out.below hb1;clear hg hk hz hb1 HO1;have c1:=zB HY1.out.box 1 (.int .i64 p.view) rfl)
   | (refine zU rfl _ _ _ rfl x1.heap.size 1 (.int .i64 view) rfl rfl _ _ HY1.out.out (by kernel_rfl) (by simp [zA]) rfl (zA { p with view:=view } s1) rfl ?_;intro y2 hg hk;have HY2:Hid (Bx3 w y2 x1.heap.size (zA p s) zF (zA { p with view:=view } s1)):=HY1.out.put hg hk;have HD2:Hid (zO W.heap.size x1.heap.size y2 p s1):=HD1.out.far hg (Or.inr (nl _));clear hg hk HY1 HD1 c1)
   | (refine zU rfl _ _ _ rfl x1.heap.size 18 (.slice (some ⟨y2.heap.size,0,none⟩) 0 0) rfl rfl _ _ (HY2.out.more ((br _ _).alloc (nl _) (.cells #[] 28))).out (by kernel_rfl) (by simp [zA]) rfl (zA { p with view:=view } { s1 with votes:=.slice (some ⟨y2.heap.size,0,none⟩) 0 0 }) rfl ?_;intro y3 hg hk;have HY3:Hid (Bx3 w y3 x1.heap.size (zA p s) zF (zA { p with view:=view } { s1 with votes:=.slice (some ⟨y2.heap.size,0,none⟩) 0 0 })):=(HY2.out.more ((br _ _).alloc (nl _) _)).put hg hk;have HD3:Hid (zO W.heap.size x1.heap.size y3 p s1):=(HD2.out.below ((br _ _).alloc (nl _) _)).far hg (Or.inr (nl _));have HV3:Hid (y3.ownsRow y2.heap.size 28 4 (.slice (some ⟨y2.heap.size,0,none⟩) 0 0) 0 []):=World.ownsRow.kept (yH y2 _ _) hg (Or.inr (fun e=>by have e:=Option.some.inj e;have:=HY2.out.lt;simp at e;omega));have HL3:Hid (x1.heap.size < y2.heap.size∧y2.heap.size < y3.heap.size):=⟨HY2.out.lt,Nat.lt_of_lt_of_le (by simp) hg.size⟩;clear hg hk HY2 HD2)
   | (refine zU rfl _ _ _ rfl x1.heap.size 19 (.slice (some ⟨y3.heap.size,0,none⟩) 0 0) rfl rfl _ _ (HY3.out.more ((br _ _).alloc (nl _) (.cells #[] 37))).out (by kernel_rfl) (by simp [zA]) rfl (zA { p with view:=view } { s1 with votes:=.slice (some ⟨y2.heap.size,0,none⟩) 0 0,news:=.slice (some ⟨y3.heap.size,0,none⟩) 0 0 }) rfl ?_;intro y4 hg hk;have HY4:Hid (Bx3 w y4 x1.heap.size (zA p s) zF (zA { p with view:=view } { s1 with votes:=.slice (some ⟨y2.heap.size,0,none⟩) 0 0,news:=.slice (some ⟨y3.heap.size,0,none⟩) 0 0 })):=(HY3.out.more ((br _ _).alloc (nl _) _)).put hg hk;have HD4:Hid (zO W.heap.size x1.heap.size y4 p s1):=(HD3.out.below ((br _ _).alloc (nl _) _)).far hg (Or.inr (nl _));have HV4:Hid (y4.ownsRow y2.heap.size 28 4 (.slice (some ⟨y2.heap.size,0,none⟩) 0 0) 0 []):=World.ownsRow.kept (HV3.out.alloc _) hg (Or.inr (fun e=>by have e:=Option.some.inj e;have:=HL3.out;simp at e;omega));have HN4:Hid (y4.ownsRow y3.heap.size 37 13 (.slice (some ⟨y3.heap.size,0,none⟩) 0 0) 0 []):=World.ownsRow.kept (yH y3 _ _) hg (Or.inr (fun e=>by have e:=Option.some.inj e;have:=HL3.out;simp at e;omega));have HL4:Hid (y3.heap.size < y4.heap.size):=Nat.lt_of_lt_of_le (by simp) hg.size;have HF4:Hid (zO W.heap.size y4.heap.size y4 { p with view:=view,votes:=[],news:=[] } { s1 with votes:=.slice (some ⟨y2.heap.size,0,none⟩) 0 0,news:=.slice (some ⟨y3.heap.size,0,none⟩) 0 0 }):=zO.setNews (l:=[]) (zO.setVotes (l:=[]) (hi':=y3.heap.size) (HD4.out.other (q:={ p with view:=view }) rfl rfl rfl rfl rfl rfl) (by have:=HL3.out;omega) (by have:=HL4.out;omega) (zN HV4.out (by have:=HB1.out.size;have:=HL3.out;omega)) (fun g e=>by cases e;exact HL3.out.2) (fun g e=>by cases e;exact Or.inr (Nat.le_of_lt HL3.out.1))) (by have:=HL4.out;omega) (nl _) (zN HN4.out (by have:=HB1.out.size;have:=HL3.out;omega)) (fun g e=>by cases e;exact HL4.out) (fun g e=>by cases e;exact Or.inr (nl _));clear hg hk HY3 HD3 HV3)
   | (refine w_ld x1.heap.size HY4.out.out Tryz.underlying35 ?_)
   | (refine w_st (w.heap.size+1) (zA { p with view:=view,votes:=[],news:=[] } { s1 with votes:=.slice (some ⟨y2.heap.size,0,none⟩) 0 0,news:=.slice (some ⟨y3.heap.size,0,none⟩) 0 0 }) HY4.out.zero (zJ HF4.out.1) ?_;intro z hg hk hz;have HBz:Hid (Below w.heap.size w z):=HY4.out.below.grown hg HY4.out.below.size (fun k hk=>by cases hk;omega);have HKz:=hid hk;have HFz:Hid (zO W.heap.size y4.heap.size z { p with view:=view,votes:=[],news:=[] } { s1 with votes:=.slice (some ⟨y2.heap.size,0,none⟩) 0 0,news:=.slice (some ⟨y3.heap.size,0,none⟩) 0 0 }):=HF4.out.far hg (Or.inl (by have:=HWS.out;omega));have HSz:=hid hg.size;clear hg hk hz HY4 HF4))
  refine bodyPost_ret (v:=.agg (zA { p with view:=view,votes:=[],news:=[] } { s1 with votes:=.slice (some ⟨y2.heap.size,0,none⟩) 0 0,news:=.slice (some ⟨y3.heap.size,0,none⟩) 0 0 })) (results_cell_row Tryz.results37 _ _ (w.heap.size+1) 35 _ (0,0) _ rfl HKz.out Tryz.underlying35 rfl (by kernel_rfl)) rfl ?_;rw [HE.out];exact ⟨_,rfl,(HFz.out.wide HSz.out (nl _)).low HC.out.1.size,HBz.out⟩
 ·have HE:Hid (yI p view=p):=hid (by unfold yI;rw [if_neg hin])
  by_cases h1:p.view < view
  ·have h2:¬ view≤900:=fun h=>hin ⟨h1,h⟩
   clear hin
   go_wp2_with (first
    | (refine w_st x1.heap.size (zA p s1) (heap_alloc_new x1 _) (zJ HO1.out.1) ?_;intro y1 hg hk hz;have hb1:Below x1.heap.size x1 y1:=yB hg;have HY1:Hid (Bx3 w y1 x1.heap.size (zA p s) zF (zA p s1)):=⟨bt HC.out.1 (bt HB1.out hb1),(hb1.block _ (by have:=HB1.out.size;have:=HWS.out;omega)).trans ((HB1.out.block _ (by have:=HWS.out;omega)).trans HC.out.2.1),(hb1.block _ (by have:=HB1.out.size;have:=HWS.out;omega)).trans ((HB1.out.block _ (by have:=HWS.out;omega)).trans HC.out.2.2),hk,(by have:=HB1.out.size;have:=HWS.out;omega)⟩;have HD1:Hid (zO W.heap.size x1.heap.size y1 p s1):=HO1.out.below hb1;clear hg hk hz hb1 HO1;have c1:=zB HY1.out.box 1 (.int .i64 p.view) rfl)
    | (refine w_ld x1.heap.size HY1.out.out Tryz.underlying35 ?_)
    | (refine w_st (w.heap.size+1) (zA p s1) HY1.out.zero (zJ HD1.out.1) ?_;intro z hg hk hz;have HBz:Hid (Below w.heap.size w z):=HY1.out.below.grown hg HY1.out.below.size (fun k hk=>by cases hk;omega);have HKz:=hid hk;have HFz:Hid (zO W.heap.size x1.heap.size z p s1):=HD1.out.far hg (Or.inl (by have:=HWS.out;omega));have HSz:Hid (x1.heap.size≤z.heap.size):=Nat.le_trans (Nat.le_of_lt HY1.out.lt) hg.size;clear hg hk hz HY1 HD1))
   refine bodyPost_ret (v:=.agg (zA p s1)) (results_cell_row Tryz.results37 _ _ (w.heap.size+1) 35 _ (0,0) _ rfl HKz.out Tryz.underlying35 rfl (by kernel_rfl)) rfl ?_;rw [HE.out];exact ⟨_,rfl,(HFz.out.wide HSz.out (nl _)).low HC.out.1.size,HBz.out⟩
  ·clear hin
   go_wp2_with (first
    | (refine w_st x1.heap.size (zA p s1) (heap_alloc_new x1 _) (zJ HO1.out.1) ?_;intro y1 hg hk hz;have hb1:Below x1.heap.size x1 y1:=yB hg;have HY1:Hid (Bx3 w y1 x1.heap.size (zA p s) zF (zA p s1)):=⟨bt HC.out.1 (bt HB1.out hb1),(hb1.block _ (by have:=HB1.out.size;have:=HWS.out;omega)).trans ((HB1.out.block _ (by have:=HWS.out;omega)).trans HC.out.2.1),(hb1.block _ (by have:=HB1.out.size;have:=HWS.out;omega)).trans ((HB1.out.block _ (by have:=HWS.out;omega)).trans HC.out.2.2),hk,(by have:=HB1.out.size;have:=HWS.out;omega)⟩;have HD1:Hid (zO W.heap.size x1.heap.size y1 p s1):=HO1.out.below hb1;clear hg hk hz hb1 HO1;have c1:=zB HY1.out.box 1 (.int .i64 p.view) rfl)
    | (refine w_ld x1.heap.size HY1.out.out Tryz.underlying35 ?_)
    | (refine w_st (w.heap.size+1) (zA p s1) HY1.out.zero (zJ HD1.out.1) ?_;intro z hg hk hz;have HBz:Hid (Below w.heap.size w z):=HY1.out.below.grown hg HY1.out.below.size (fun k hk=>by cases hk;omega);have HKz:=hid hk;have HFz:Hid (zO W.heap.size x1.heap.size z p s1):=HD1.out.far hg (Or.inl (by have:=HWS.out;omega));have HSz:Hid (x1.heap.size≤z.heap.size):=Nat.le_trans (Nat.le_of_lt HY1.out.lt) hg.size;clear hg hk hz HY1 HD1))
   refine bodyPost_ret (v:=.agg (zA p s1)) (results_cell_row Tryz.results37 _ _ (w.heap.size+1) 35 _ (0,0) _ rfl HKz.out Tryz.underlying35 rfl (by kernel_rfl)) rfl ?_;rw [HE.out];exact ⟨_,rfl,(HFz.out.wide HSz.out (nl _)).low HC.out.1.size,HBz.out⟩
end Go.Proofs.YtdopefimjabigadGreat
