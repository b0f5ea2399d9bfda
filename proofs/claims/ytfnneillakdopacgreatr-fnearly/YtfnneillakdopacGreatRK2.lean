/-
  Texts of ours that later ones lean on, in one: ClusS, ClusP, SafeS.
-/
import Derived.Test.YtfnneillakdopacGreatRK1
import Derived.Test.YtfnneillakdopacGreatRPeerCZ
import Derived.Test.YtfnneillakdopacGreatRPutBSZ
set_option maxRecDepth 100000
set_option maxHeartbeats 32000000
namespace Go.Proofs.YtfnneillakdopacGreatR
open _root_.Go.Proofs.Tryz
open Go.Value renaming int->I
open Go.IntKind renaming i64->U
open Option renaming none->Aa,some->Ab
open Option.some renaming inj->Ac
open Go.World.ownsRow renaming kept->Ad
open Or renaming inr->Ae
open Go.RowKit Num
variable {A O Z:Array Value} {c:CU} {s:CW} {N base hi lo m n:Nat} {p:PE} {v:Value} {w w' x y:World}
theorem xH.not {ps:TL} (h:xH w base v ps) (hg:w.grownBy w' (some N)) (hN:N < base):xH w' base v ps:=h.frs (FrS.of_grown hg (B:=fun k=>k=N) (fun k e=>by cases e;rfl)) (fun g hg e=>by have:=(zCE h hg).1;omega)
theorem qJ.not {ps:PL} (h:qJ base w v ps) (hg:w.grownBy w' (some N)) (hN:N < base):qJ base w' v ps:=h.frs (FrS.of_grown hg (B:=fun k=>k=N) (fun k e=>by cases e;rfl)) (fun g hg e=>by have:=(inPeers_ge h (Or.inl hg)).1;omega) (fun x hx g hg e=>by have:=(inPeers_ge h (Ae ⟨x,hx,hg⟩)).1;omega)
theorem own_not {e:TypeId} {xs:List Value} (h:w.ownsRow base e m v n xs) (hg:w.grownBy w' (some N)) (hN:N < base):w'.ownsRow base e m v n xs:=(FrS.of_grown hg (B:=fun k=>k=N) (fun k e=>by cases e;rfl)).own h (fun g hg e=>by have:=(h.lt g hg).1;omega)
theorem xH.above {b1:Nat} {ps:TL} {r:Option Nat} (h:xH w base v ps) (hl:∀ g,inTree v ps g->g < b1) (hg:w.grownBy w' r) (hr:∀ g,r=some g->b1<=g):xH w' base v ps:=h.frs (FrS.of_grown hg (B:=fun k=>b1<=k) hr) (fun g hg e=>by have:=hl g hg;omega)
theorem qJ.append {n2 g2 cap2:Nat} {pv:Value} {qs:PL} {s1:PV} (h:qJ lo w pv qs) (hb:Be w x) (hd:zO w.heap.size x.heap.size x p s1) (hlo:lo<=w.heap.size) (hg:x.grownBy y pv.ownBlock)
  (hrow:y.ownsRow lo 35 21 (.slice (Ab ⟨g2,0,Aa⟩) n2 cap2) (qs.length+1) (zE peerF qs ++ peerF (p,s1))):qJ lo y (.slice (Ab ⟨g2,0,Aa⟩) n2 cap2) (qs ++ [(p,s1)]):=by
 have hE:yDD lo x (qs ++ [(p,s1)]):=(h.own.below hb).push (hi:=w.heap.size) hd hlo (fun x hx=>(h.own.each x hx).2.1) (nl _);refine ⟨by rw [List.length_append,zY];simpa [zE] using hrow,?_⟩
 cases e:pv.ownBlock with
 | none=>
  rw [e] at hg;exact hE.frs (FrS.of_grown hg (B:=fun _=>False) (fun g hg=>by cases hg)) (fun _ _ _ _ hB=>hB)
 | some g=>
  rw [e] at hg
  obtain ⟨a,b⟩:∃ a,Bx x g a 35:=by
   obtain ⟨_,⟨hv,_⟩ | ⟨g3,c,a,hv,_,hh,_⟩⟩:=zS h.row hb
   ·rw [hv] at e;cases e
   ·rw [hv] at e
    cases e
    exact ⟨a,hh⟩
  exact hE.boxed b hg
theorem xG.setNet {hi':Nat} {l:List LT} (h:xG lo hi w c s) (hh:hi<=hi') (hs:hi'<=w.heap.size) (ho:w.ownsRow lo 61 13 v l.length (zE yE l)) (hv:∀ g,v.ownBlock=some g->hi<=g/\g < hi') (hlo:lo<=hi):xG lo hi' w { c with net:=l } { s with net:=v }:=by
 have bd:∀ i g,i < 5->zFD { s with net:=v } i g->(i=2/\hi<=g/\g < hi')∨(zFD s i g/\lo<=g/\g < hi):=fun i g a hg=>by
  match i,a with
  | 0,_=>exact Ae ⟨hg,h.lim 0 g (by omega) hg⟩
  | 1,_=>exact Ae ⟨hg,h.lim 1 g (by omega) hg⟩
  | 2,_=>exact Or.inl ⟨rfl,hv g hg⟩
  | 3,_=>exact Ae ⟨hg,h.lim 3 g (by omega) hg⟩
  | 4,_=>exact Ae ⟨hg,h.lim 4 g (by omega) hg⟩
 refine ⟨h.etree,h.tree,h.epeers,h.peers,ho,h.said,h.pend,fun i j g a b h1 h2=>?_,fun i g a hg=>?_,hs⟩
 ·rcases bd i g a h1 with h1 | h1 <;> rcases bd j g b h2 with h2 | h2
  ·omega
  ·omega
  ·omega
  ·exact h.dis i j g a b h1.1 h2.1
 ·rcases bd i g a hg with h1 | h1 <;> omega
theorem xN {e:TypeId} {xs:List Value} (h:w.ownsRow base e m v n xs) (hN:Bx w N A 124) (hne:e ≠ 124):v.ownBlock ≠ some N:=by
 rcases zH h hN hne with h | h
 ·rw [h];exact fun e=>by cases e
 ·exact h
theorem xG.noBox (h:xG lo hi w c s) (hN:Bx w N A 124):∀ i,i < 5->¬ zFD s i N:=fun i hi hp=>by
 match i,hi with
 | 0,_=>
  rcases hp with hp | ⟨p,hm,hp⟩
  ·exact xN h.tree.row hN (by decide) hp
  ·exact xN (h.tree.cmds p hm) hN (by decide) hp
 | 1,_=>
  rcases hp with hp | ⟨x,hm,a,ha,hp⟩
  ·exact xN h.peers.row hN (by decide) hp
  ·have hd:=(h.peers.own.each x hm).1;simp only [six,List.mem_cons,List.not_mem_nil,or_false] at ha
   rcases ha with rfl | rfl | rfl | rfl | rfl | rfl
   ·exact xN hd.row hN (by decide) hp
   ·exact xN hd.cells hN (by decide) hp
   ·exact xN hd.early hN (by decide) hp
   ·exact xN hd.undos hN (by decide) hp
   ·exact xN hd.votes hN (by decide) hp
   ·exact xN hd.news hN (by decide) hp
 | 2,_=>exact xN h.net hN (by decide) hp
 | 3,_=>exact xN h.said hN (by decide) hp
 | 4,_=>exact xN h.pend hN (by decide) hp
theorem xG.boxT (h:xG lo hi w c s) (hN:Bx w N A 124) (hg:w.grownBy w' (some N)):xG lo hi w' c s:=
 h.frs (B:=fun k=>k=N) (FrS.of_grown hg (fun k e=>by cases e;rfl)) (fun i g hi hp e=>h.noBox hN i hi (by rw [<- e];exact hp))
def jV (c:CU) (l:List LT):CU:=if 60 < c.net.length+l.length then c else { c with net:=c.net ++ l }
def postB (c:CU) (l:List LT):Bool:=!decide (60 < c.net.length+l.length)
structure InB (N lo:Nat) (w w':World) (c:CU) (s:CW):Prop where
 box:Bx w' N (zR c s) 124
 own:xG lo w'.heap.size w' c s
 fr:FrS (fun k=>k=N) w w'
theorem post_p (c:CU) (s:CW) (N lo hi:Nat) (l:List LT) (lv:Value) (w:World) (hbox:Bx w N (zR c s) 124) (hown:xG lo hi w c s) (hlo:lo<=hi) (hl:yM w lv 13 yE l) (hk:(c.net.length:Int)<=1048576) (hk2:(l.length:Int)<=1048576) :
  Calls prog 191 #[.pointer (Ab ⟨N,0,Aa⟩),lv] w fun e w'=>e=.returned (.bool (postB c l))/\∃ s',InB N lo w w' (jV c l) s':=by
 have HB:=hid hbox;have HO:=hid hown;have HL:=hid hl;have b:=hid (qad3 (gl hbox) hlo hown.size);obtain ⟨li,p,h,j,i⟩:=info_parts zBJ;obtain ⟨an,cn,en,-⟩:=yL hown.net;obtain ⟨al,cl,el,-⟩:=hl;have f:=hid en;subst el;clear hbox hown hlo en
 by_cases hroom:60 < c.net.length+l.length
 ·have HE:Hid (postB c l=false/\jV c l=c):=⟨by unfold postB;simp [hroom],if_pos hroom⟩;have hr:(60:Int) < (c.net.length:Int)+(l.length:Int):=by omega
  go_enter func191,ntmps191;go_wp2_with (refine kQ rfl _ _ rfl N 5 (.slice an c.net.length cn) _ _ rfl HB (by rw [<- f.out];rfl) _ underlying33 rfl ?_)
  go_ret;refine ⟨zL HE.1.symm,s,?_⟩;rw [HE.out.2];exact ⟨HB,HO.wide b.2.2 (nl _),FrS.refl _ _⟩
 ·have HE:Hid (postB c l=true/\jV c l={ c with net:=c.net ++ l }):=⟨by unfold postB;simp [hroom],if_neg hroom⟩;have hr:¬ (60:Int) < (c.net.length:Int)+(l.length:Int):=by omega
  go_enter func191,ntmps191
  go_wp2_with (first
   | (refine w_sc N 5 v2 m (by simp) (jI n) #[I U c.n,.bool c.chain,I U c.liars,s.treeV,s.peersV,v2,s.said,s.pend] rfl ?_;intro y hg hk;have HY:Hid (Bx y N #[I U c.n,.bool c.chain,I U c.liars,s.treeV,s.peersV,v2,s.said,s.pend] 124/\FrS (fun k=>k=N) w y/\x2.heap.size<=y.heap.size/\y.ownsRow w.heap.size 61 13 v2 (c.net ++ l).length (zE yE (c.net ++ l))/\xG lo hi y c s):=⟨hk,(FrS.of_below d).trans (FrS.of_grown hg (fun k e=>by cases e;rfl)),hg.size,Ad n hg (zH n m (by decide)),(HO.below d).boxT m hg⟩;clear hg hk)
   | (refine kQ rfl _ _ rfl N 5 (.slice an c.net.length cn) _ _ rfl HB (by rw [<- f.out];rfl) _ underlying33 rfl ?_)
   | (refine kQ rfl _ _ rfl N 5 (.slice an c.net.length cn) _ _ rfl (((yA w (.cells #[] 61 (0,0))).block N (by have:=b.out;omega)).trans HB) (by rw [<- f.out];rfl) _ underlying33 rfl ?_)
   | (at_builtin;refine yU _ rfl _ _ 33 rfl w.heap.size 61 li _ 104 underlying33 p h j i rfl (by decide) xP kF _ [] rfl (yH w _ _) _ c.net rfl (by rw [<- f.out];exact (zW xP HO.net).below ((Below.refl w.heap.size w).alloc (nl _) _)) (by simp;unfold maxLen;omega) (by simp;omega) (by simp) ?_;intro v1 x1 ho hg;have a:Hid (Be w x1):=yB hg;have o:=hid ho;clear ho hg)
   | (at_builtin;refine yU _ rfl _ _ 33 rfl w.heap.size 61 li _ 104 underlying33 p h j i rfl (by decide) xP kF _ c.net rfl o _ l rfl (HL.below a) (by unfold maxLen;omega) (by omega) a.size ?_;intro v2 x2 ho hg;have d:Hid (Be w x2):=a.grown hg a.size (fun k hk=>(o.lt k hk).1);have n:=hid ho;have m:Hid (Bx x2 N #[I U c.n,.bool c.chain,I U c.liars,s.treeV,s.peersV,s.net,s.said,s.pend] 124):=(d.block N (by have:=b.out;omega)).trans HB;clear ho hg a o))
  go_ret;refine ⟨zL HE.1.symm,{ s with net:=v2 },?_⟩;rw [HE.out.2];have hz:=HY.out;exact ⟨hz.1,hz.2.2.2.2.setNet (Nat.le_trans b.2.2 hz.2.1.size) (nl _) (zN hz.2.2.2.1 (by have:=b.out;omega)) (fun g hg=>⟨by have:=(hz.2.2.2.1.lt g hg).1;have:=b.out;omega,(hz.2.2.2.1.lt g hg).2⟩) b.2.1,hz.2.1⟩
theorem qE {P:Program} {fn:Func} {p q:Tmp} {ty:TypeId} (h:fn.results=#[.cell p ty,.tmp q]) (tmps:Array Value) (w:World) (g:Nat) (t:TypeId) (cs:Array Value) (fr:Nat × Nat) (d:TypeDesc) (v:Value)
  (hp:tmps.getD p undef=.pointer (Ab ⟨g,0,Aa⟩)) (hg:w.heap[g]?=Ab (.cells cs t fr)) (hu:P.underlying ty=some d) (hd:(match d with | .struct _ | .array _ _=>true | _=>false)=true) (hi:(P.info? ty).map (·.size)=some cs.size)
  (hq:tmps.getD q undef=v) :
  (results fn tmps).run P w=.ok (.tuple #[.agg cs,v]) w:=by
 have b:tmps[p]?.getD undef=.pointer (Ab ⟨g,0,Aa⟩):=by simpa using hp
 have a:tmps[q]?.getD undef=v:=by simpa using hq
 simp [results,h,b,a,asAddr,run_loadVar_row w g t ty cs fr d hg hu hd hi]
theorem b_ct {P:Program} {fn:Func} {R:Ending->World->Prop} {a:Act} {p q:Tmp} {ty t:TypeId} {g:Nat} {cs:Array Value} {d:TypeDesc} (V:Value) (h:fn.results=#[.cell p ty,.tmp q]) (hg:w.heap[g]?=Ab (.cells cs t (0,0))) (hu:P.underlying ty=some d) (hR:R (.returned V) w)
  (hV:Value.tuple #[.agg cs,v]=V:=by exact rfl) (hp:a.tmps.getD p undef=.pointer (Ab ⟨g,0,Aa⟩):=by exact rfl) (hd:(match d with | .struct _ | .array _ _=>true | _=>false)=true:=by exact rfl) (hi:(P.info? ty).map (·.size)=some cs.size:=by kernel_rfl) (hq:a.tmps.getD q undef=v:=by exact rfl) (hf:a.defers=[]:=by exact rfl):bodyPost P fn R .ret a w:=by
 subst hV;exact bodyPost_ret (qE h _ w g t cs (0,0) d v hp hg hu hd hi hq) hf hR
def atC (c:CU) (k:Int):List LT:=match c.net[k.toNat]? with
 | some l=>[l]
 | none=>[]
def yEC (c:CU) (k:Int):CU × Bool:=if 0<=k/\k < c.net.length then (jV c (atC c k),postB c (atC c k)) else (c,false)
theorem rows_one {α:Type} {f:α->List Value} {g cap:Nat} {xs:List α} (h:yM w (.slice (Ab ⟨g,0,Aa⟩) n cap) m f xs) (k c2:Nat) (hk:k < xs.length):yM w (.slice (Ab ⟨g,k * m,Aa⟩) 1 c2) m f [xs[k]]:=by
 obtain ⟨a,cp,e,hr⟩:=h;injection e with e1 e2 e3
 obtain ⟨g2,c,e4,hg,hc⟩:=hr (by omega);rw [<- e1] at e4;injection e4 with e4
 injection e4 with e5 e6
 subst e5 e6;refine ⟨some ⟨g,k * m,Aa⟩,c2,rfl,fun _=>⟨g,k * m,rfl,hg,fun i hi j hj=>?_⟩⟩;have b:i=0:=by simp at hi;exact hi
 subst b;have:=hc k hk j hj
 simpa using this
theorem twice_p (c:CU) (s:CW) (N lo hi:Nat) (k:Int) (w:World) (hbox:Bx w N (zR c s) 124) (hown:xG lo hi w c s) (hlo:lo<=hi) (hk:(c.net.length:Int)<=1048576) (hwk:(Lit.int U k).wf=true) :
  Calls prog 165 #[.pointer (Ab ⟨N,0,Aa⟩),I U k] w fun e w'=>e=.returned (.bool (yEC c k).2)/\∃ s',InB N lo w w' (yEC c k).1 s':=by
 have HB:=hid hbox;have HO:=hid hown;have i:=hid hlo;obtain ⟨an,cn,en,f⟩:=yL hown.net;have b:=hid en;have h:=hid f;have l:c.net.length<=cn:=zJB hown.net _ _ _ en;clear hbox hown hlo en f;go_enter func165,ntmps165;go_wp2_with (refine kQ rfl _ _ rfl N 5 (.slice an c.net.length cn) _ _ rfl HB (by rw [<- b.out];rfl) _ underlying33 rfl ?_)
 refine (yS k 0 ((c.net.length:Int) - 1) w).mono ?_;rintro e w1 ⟨rfl,hw⟩;obtain rfl:=hw.symm;clear hw
 by_cases a:0<=k/\k < c.net.length
 ·rw [kY (by omega)];have h0:=a.1;have h1:=a.2;obtain ⟨j,hj⟩:∃ j:Nat,k=(j:Int):=⟨k.toNat,by omega⟩;subst hj;have d:j < c.net.length:=by omega
  have HE:Hid (yEC c (j:Int)=(jV c [c.net[j]],postB c [c.net[j]])):=(by unfold yEC atC;rw [if_pos a];simp [d]:yEC c (j:Int)=_);obtain ⟨g,rfl⟩:=h (by omega);clear a;have o:(j:Int)+1<=cn:=by omega
  have m:(j:Int)<=(j:Int)+1:=by omega
  have n:j+1<=cn:=by omega
  have p:¬ cn=j:=by omega
  go_wp2_with (refine kQ rfl _ _ rfl N 5 (.slice (Ab ⟨g,0,Aa⟩) c.net.length cn) _ _ rfl HB (by rw [<- b.out];rfl) _ underlying33 rfl ?_)
  refine (post_p c s N lo hi [c.net[j]] _ w HB HO i (rows_one (by rw [<- b.out];exact zW xP HO.net) j (cn - j) d) hk (by simp)).mono ?_;rintro e w2 ⟨rfl,s2,a⟩;have HI:=hid a;clear a;go_wp2;go_ret;refine ⟨zL (by rw [HE.out]),s2,?_⟩;rw [HE.out];exact HI.out
 ·rw [zAB (by omega)];have HE:Hid (yEC c k=(c,false)):=if_neg a;go_wp2;go_ret;refine ⟨zL (by rw [HE.out]),s,?_⟩;rw [HE.out];exact ⟨HB,HO.wide HO.size (nl _),FrS.refl _ _⟩
def zEG (p:PE) (phase view:Int):Bool:=decide (p.last.2.1 < view) || (decide (p.last.2.1=view) && decide (p.last.1 < phase))
def yI (p:PE) (view:Int):PE:=if view > p.view/\view<=900 then { p with view:=view,votes:=[],news:=[] } else p
def yP (p:PE) (phase view block:Int):PE:={ p with last:=(phase,view,block,p.id) }
theorem voted_small (h:yC p) (phase view block:Int):yC (yP p phase view block):=⟨h.row,h.cells,h.early,h.undos,h.votes,h.news,h.kcells,h.kundos⟩
theorem zHA (h:yC p) (view:Int):yC (yI p view):=by
 unfold yI
 split
 ·exact ⟨h.row,h.cells,h.early,h.undos,by simp,by simp,h.kcells,h.kundos⟩
 ·exact h
theorem enter_len (p:PE) (view:Int):jZ (yI p view)<=jZ p:=by
 unfold yI
 split
 ·unfold jZ;simp;omega
 ·exact nl _
theorem yFB (p:PE) (s:PV) (phase view:Int) (w:World) :
  Calls prog 13 #[yZ p s,I U phase,I U view] w fun e w'=>e=.returned (.bool (zEG p phase view))/\Be w w':=by
 have HK:Hid ((w.alloc (.cells (zA p s) 35)).heap[w.heap.size]?=Ab (.cells (zA p s) 35 (0,0))):=heap_alloc_new w _;have a:=zB HK 10 (I U p.last.1) rfl;have b:=zB HK 11 (I U p.last.2.1) rfl
 by_cases h1:p.last.2.1 < view
 ·have HR:Hid (zEG p phase view=true):=hid (by unfold zEG;rw [decide_eq_true h1];rfl);go_enter func13,ntmps13;go_wp2;go_ret;exact ⟨zL HR.symm,ba (br _ _) _⟩
 ·by_cases h2:p.last.2.1=view
  ·have b2:(p.last.2.1 == view)=true:=by simpa using h2
   by_cases h3:p.last.1 < phase
   ·have HR:Hid (zEG p phase view=true):=hid (by unfold zEG;rw [decide_eq_true h2,decide_eq_true h3];simp);go_enter func13,ntmps13;go_wp2;go_ret;exact ⟨zL HR.symm,ba (br _ _) _⟩
   ·have HR:Hid (zEG p phase view=false):=hid (by unfold zEG;rw [decide_eq_false h1,decide_eq_false h3];simp);go_enter func13,ntmps13;go_wp2;go_ret;exact ⟨zL HR.symm,ba (br _ _) _⟩
  ·have b2:(p.last.2.1 == view)=false:=by simpa using h2
   have HR:Hid (zEG p phase view=false):=hid (by unfold zEG;rw [decide_eq_false h1,decide_eq_false h2];simp);go_enter func13,ntmps13;go_wp2;go_ret;exact ⟨zL HR.symm,ba (br _ _) _⟩
structure Bx3 (w y:World) (N:Nat) (A Z O:Array Value):Prop where
 below:Be w y
 box:Bx y w.heap.size A 35
 zero:Bx y (w.heap.size+1) Z 35
 out:Bx y N O 35
 far:w.heap.size+1 < N
theorem Bx3.lt (h:Bx3 w y N A Z O):N < y.heap.size:=(gl h.out)
theorem Bx3.more (h:Bx3 w y N A Z O) (hb:Be y x):Bx3 w x N A Z O:=by
 have:=h.lt;have:=h.far;exact ⟨bt h.below hb,(hb.block _ (by omega)).trans h.box,(hb.block _ (by omega)).trans h.zero,(hb.block _ (by omega)).trans h.out,h.far⟩
theorem Bx3.put {O':Array Value} (h:Bx3 w y N A Z O) (hg:y.grownBy x (some N)) (hk:Bx x N O' 35):Bx3 w x N A Z O':=by
 have:=h.lt;have:=h.far;exact ⟨h.below.grown hg h.below.size (qkk (by omega)),(hg.block _ (by omega) (qsn (by omega))).trans h.box,(hg.block _ (by omega) (qsn (by omega))).trans h.zero,hk,h.far⟩
theorem zCB (p:PE) (s:PV) (view:Int) (w:World) (hR:jS w p s) (hs:yC p) :
  Calls prog 30 #[yZ p s,I U view] w fun e w'=>∃ s',e=.returned (yZ (yI p view) s')/\zO w.heap.size w'.heap.size w' (yI p view) s'/\Be w w':=by
 have HR:=hid hR;have HS:=hid hs;clear hR hs;obtain ⟨W,hW⟩:=nw ((w.alloc (.cells (zA p s) 35)).alloc (.cells zF 35))
 have HC:Hid (Be w W/\Bx W w.heap.size (zA p s) 35/\Bx W (w.heap.size+1) zF 35):=by
  rw [hW];exact ⟨ba (ba (br _ _) _) _,qK w _ _⟩
 have c:Hid (W.heap.size=w.heap.size+1+1):=hid (by rw [hW];simp);unfold zF at hW;go_enter func30,ntmps30;go_wp2_with (rw [<- hW];clear hW;refine w_ld w.heap.size HC.2.1 underlying35 ?_)
 refine (zHJ p s W (HR.below HC.1) HS).mono ?_;rintro e x1 ⟨s1,rfl,ho,hb⟩;have i:=hid ho.toD;have b:=hid hb;clear ho hb
 by_cases hin:view > p.view/\view<=900
 ·have h1:view > p.view:=hin.1;have af:p.view < view:=hin.1;have h2:view<=900:=hin.2;have HE:Hid (yI p view={ p with view:=view,votes:=[],news:=[] }):=(by unfold yI;rw [if_pos hin]:yI p view=_);clear hin
  go_wp2_with (first
   | (refine w_st x1.heap.size (zA p s1) (heap_alloc_new x1 _) (zJ i.1) ?_;intro y1 hg hk hz;have d:Be x1 y1:=yB hg;have a:Hid (Bx3 w y1 x1.heap.size (zA p s) zF (zA p s1)):=⟨bt HC.1 (bt b d),(d.block _ (by have:=b.size;have:=c.out;omega)).trans ((b.block _ (by have:=c.out;omega)).trans HC.2.1),(d.block _ (by have:=b.size;have:=c.out;omega)).trans ((b.block _ (by have:=c.out;omega)).trans HC.2.2),hk,(by have:=b.size;have:=c.out;omega)⟩;have f:Hid (zO W.heap.size x1.heap.size y1 p s1):=i.below d;clear hg hk hz d i;have c1:=zB a.box 1 (I U p.view) rfl)
   | (refine w_sc x1.heap.size 1 (I U view) a.out.out (by simp [zA]) rfl (zA { p with view:=view } s1) rfl ?_;intro y2 hg hk;have o:Hid (Bx3 w y2 x1.heap.size (zA p s) zF (zA { p with view:=view } s1)):=a.put hg hk;have y:Hid (zO W.heap.size x1.heap.size y2 p s1):=f.far hg (Ae (nl _));clear hg hk a f c1)
   | (refine w_sc x1.heap.size 18 (.slice (Ab ⟨y2.heap.size,0,Aa⟩) 0 0) ((o.more ((br _ _).alloc (nl _) (.cells #[] 28))).out) (by simp [zA]) rfl (zA { p with view:=view } { s1 with votes:=.slice (Ab ⟨y2.heap.size,0,Aa⟩) 0 0 }) rfl ?_;intro y3 hg hk;have v:Hid (Bx3 w y3 x1.heap.size (zA p s) zF (zA { p with view:=view } { s1 with votes:=.slice (Ab ⟨y2.heap.size,0,Aa⟩) 0 0 })):=(o.more ((br _ _).alloc (nl _) _)).put hg hk;have ab:Hid (zO W.heap.size x1.heap.size y3 p s1):=(y.below ((br _ _).alloc (nl _) _)).far hg (Ae (nl _));have aa:Hid (y3.ownsRow y2.heap.size 28 4 (.slice (Ab ⟨y2.heap.size,0,Aa⟩) 0 0) 0 []):=Ad (yH y2 _ _) hg (Ae (fun e=>by have e:=Ac e;have:=o.lt;simp at e;omega));have j:Hid (x1.heap.size < y2.heap.size/\y2.heap.size < y3.heap.size):=⟨o.lt,Nat.lt_of_lt_of_le (by simp) hg.size⟩;clear hg hk o y)
   | (refine w_sc x1.heap.size 19 (.slice (Ab ⟨y3.heap.size,0,Aa⟩) 0 0) ((v.more ((br _ _).alloc (nl _) (.cells #[] 61))).out) (by simp [zA]) rfl (zA { p with view:=view } { s1 with votes:=.slice (Ab ⟨y2.heap.size,0,Aa⟩) 0 0,news:=.slice (Ab ⟨y3.heap.size,0,Aa⟩) 0 0 }) rfl ?_;intro y4 hg hk;have t:Hid (Bx3 w y4 x1.heap.size (zA p s) zF (zA { p with view:=view } { s1 with votes:=.slice (Ab ⟨y2.heap.size,0,Aa⟩) 0 0,news:=.slice (Ab ⟨y3.heap.size,0,Aa⟩) 0 0 })):=(v.more ((br _ _).alloc (nl _) _)).put hg hk;have ae:Hid (zO W.heap.size x1.heap.size y4 p s1):=(ab.below ((br _ _).alloc (nl _) _)).far hg (Ae (nl _));have ad:Hid (y4.ownsRow y2.heap.size 28 4 (.slice (Ab ⟨y2.heap.size,0,Aa⟩) 0 0) 0 []):=Ad (aa.alloc _) hg (Ae (fun e=>by have e:=Ac e;have:=j.out;simp at e;omega));have ac:Hid (y4.ownsRow y3.heap.size 61 13 (.slice (Ab ⟨y3.heap.size,0,Aa⟩) 0 0) 0 []):=Ad (yH y3 _ _) hg (Ae (fun e=>by have e:=Ac e;have:=j.out;simp at e;omega));have u:Hid (y3.heap.size < y4.heap.size):=Nat.lt_of_lt_of_le (by simp) hg.size;have x:Hid (zO W.heap.size y4.heap.size y4 { p with view:=view,votes:=[],news:=[] } { s1 with votes:=.slice (Ab ⟨y2.heap.size,0,Aa⟩) 0 0,news:=.slice (Ab ⟨y3.heap.size,0,Aa⟩) 0 0 }):=zO.setNews (l:=[]) (zO.setVotes (l:=[]) (hi':=y3.heap.size) (ae.other (q:={ p with view:=view }) rfl rfl rfl rfl rfl rfl) (by have:=j.out;omega) (by have:=u.out;omega) (zN ad (by have:=b.size;have:=j.out;omega)) (fun g e=>by cases e;exact j.out.2) (fun g e=>by cases e;exact Ae (Nat.le_of_lt j.1))) (by have:=u.out;omega) (nl _) (zN ac (by have:=b.size;have:=j.out;omega)) (fun g e=>by cases e;exact u.out) (fun g e=>by cases e;exact Ae (nl _));clear hg hk v ab aa)
   | (refine w_ld x1.heap.size t.out.out underlying35 ?_)
   | (refine w_st (w.heap.size+1) (zA { p with view:=view,votes:=[],news:=[] } { s1 with votes:=.slice (Ab ⟨y2.heap.size,0,Aa⟩) 0 0,news:=.slice (Ab ⟨y3.heap.size,0,Aa⟩) 0 0 }) t.zero (zJ x.1) ?_;intro z hg hk hz;have k:Hid (Be w z):=t.below.grown hg t.below.size (qkk (by omega));have m:=hid hk;have n:Hid (zO W.heap.size y4.heap.size z { p with view:=view,votes:=[],news:=[] } { s1 with votes:=.slice (Ab ⟨y2.heap.size,0,Aa⟩) 0 0,news:=.slice (Ab ⟨y3.heap.size,0,Aa⟩) 0 0 }):=x.far hg (Or.inl (by have:=c.out;omega));have r:=hid hg.size;clear hg hk hz t x))
  refine b_cr (.agg (zA { p with view:=view,votes:=[],news:=[] } { s1 with votes:=.slice (Ab ⟨y2.heap.size,0,Aa⟩) 0 0,news:=.slice (Ab ⟨y3.heap.size,0,Aa⟩) 0 0 })) results30 m underlying35 ?_;rw [HE.out];exact ⟨_,rfl,(n.wide r (nl _)).low HC.1.size,k⟩
 ·have HE:Hid (yI p view=p):=hid (by unfold yI;rw [if_neg hin])
  by_cases h1:p.view < view
  ·have h2:¬ view<=900:=fun h=>hin ⟨h1,h⟩
   clear hin
   go_wp2_with (first
    | (refine w_st x1.heap.size (zA p s1) (heap_alloc_new x1 _) (zJ i.1) ?_;intro y1 hg hk hz;have d:Be x1 y1:=yB hg;have a:Hid (Bx3 w y1 x1.heap.size (zA p s) zF (zA p s1)):=⟨bt HC.1 (bt b d),(d.block _ (by have:=b.size;have:=c.out;omega)).trans ((b.block _ (by have:=c.out;omega)).trans HC.2.1),(d.block _ (by have:=b.size;have:=c.out;omega)).trans ((b.block _ (by have:=c.out;omega)).trans HC.2.2),hk,(by have:=b.size;have:=c.out;omega)⟩;have f:Hid (zO W.heap.size x1.heap.size y1 p s1):=i.below d;clear hg hk hz d i;have c1:=zB a.box 1 (I U p.view) rfl)
    | (refine w_ld x1.heap.size a.out.out underlying35 ?_)
    | (refine w_st (w.heap.size+1) (zA p s1) a.zero (zJ f.1) ?_;intro z hg hk hz;have k:Hid (Be w z):=a.below.grown hg a.below.size (qkk (by omega));have m:=hid hk;have n:Hid (zO W.heap.size x1.heap.size z p s1):=f.far hg (Or.inl (by have:=c.out;omega));have r:Hid (x1.heap.size<=z.heap.size):=Nat.le_trans (Nat.le_of_lt a.lt) hg.size;clear hg hk hz a f))
   refine b_cr (.agg (zA p s1)) results30 m underlying35 ?_;rw [HE.out];exact ⟨_,rfl,(n.wide r (nl _)).low HC.1.size,k⟩
  ·clear hin
   go_wp2_with (first
    | (refine w_st x1.heap.size (zA p s1) (heap_alloc_new x1 _) (zJ i.1) ?_;intro y1 hg hk hz;have d:Be x1 y1:=yB hg;have a:Hid (Bx3 w y1 x1.heap.size (zA p s) zF (zA p s1)):=⟨bt HC.1 (bt b d),(d.block _ (by have:=b.size;have:=c.out;omega)).trans ((b.block _ (by have:=c.out;omega)).trans HC.2.1),(d.block _ (by have:=b.size;have:=c.out;omega)).trans ((b.block _ (by have:=c.out;omega)).trans HC.2.2),hk,(by have:=b.size;have:=c.out;omega)⟩;have f:Hid (zO W.heap.size x1.heap.size y1 p s1):=i.below d;clear hg hk hz d i;have c1:=zB a.box 1 (I U p.view) rfl)
    | (refine w_ld x1.heap.size a.out.out underlying35 ?_)
    | (refine w_st (w.heap.size+1) (zA p s1) a.zero (zJ f.1) ?_;intro z hg hk hz;have k:Hid (Be w z):=a.below.grown hg a.below.size (qkk (by omega));have m:=hid hk;have n:Hid (zO W.heap.size x1.heap.size z p s1):=f.far hg (Or.inl (by have:=c.out;omega));have r:Hid (x1.heap.size<=z.heap.size):=Nat.le_trans (Nat.le_of_lt a.lt) hg.size;clear hg hk hz a f))
   refine b_cr (.agg (zA p s1)) results30 m underlying35 ?_;rw [HE.out];exact ⟨_,rfl,(n.wide r (nl _)).low HC.1.size,k⟩
end Go.Proofs.YtfnneillakdopacGreatR
