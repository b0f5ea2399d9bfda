/-
  A text of ours: LeadH.
-/
import Derived.Test.YtfnneillakdopacGreatRK1
import Derived.Test.YtfnneillakdopacGreatRLeadSZ
import Derived.Test.YtfnneillakdopacGreatRLokSZ
import Derived.Test.YtfnneillakdopacGreatRPeerCZ
import Derived.Deep.DeepCutAuto
set_option maxRecDepth 100000
set_option maxHeartbeats 32000000
namespace Go.Proofs.YtfnneillakdopacGreatR
open _root_.Go.Proofs.Tryz
open Go.Value renaming int->I
open Go.IntKind renaming i64->U
open Go.World.ownsRow renaming kept->Aa
open Go.RowKit Num
variable {A L O Z:Array Value} {N:Nat} {w y:World}
theorem yN {P:Program} {fn:Func} {p q:Tmp} {ty:TypeId} (h:fn.results=#[.cell p ty,.tmp q]) (tmps:Array Value) (w:World) (g:Nat) (t:TypeId) (cs:Array Value) (fr:Nat × Nat) (d:TypeDesc) (v:Value)
  (hp:tmps.getD p undef=.pointer (some ⟨g,0,none⟩)) (hg:w.heap[g]?=some (.cells cs t fr)) (hu:P.underlying ty=some d) (hd:(match d with | .struct _ | .array _ _=>true | _=>false)=true) (hi:(P.info? ty).map (·.size)=some cs.size)
  (hq:tmps.getD q undef=v) :
  (results fn tmps).run P w=.ok (.tuple #[.agg cs,v]) w:=by
 have b:tmps[p]?.getD undef=.pointer (some ⟨g,0,none⟩):=by simpa using hp
 have a:tmps[q]?.getD undef=v:=by simpa using hq
 simp [results,h,b,a,asAddr,run_loadVar_row w g t ty cs fr d hg hu hd hi]
theorem b_pl {P:Program} {fn:Func} {R:Ending->World->Prop} {a:Act} {p q:Tmp} {ty t:TypeId} {g:Nat} {cs:Array Value} {d:TypeDesc} {v:Value} (V:Value) (h:fn.results=#[.cell p ty,.tmp q]) (hg:w.heap[g]?=some (.cells cs t (0,0))) (hu:P.underlying ty=some d) (hR:R (.returned V) w)
  (hV:Value.tuple #[.agg cs,v]=V:=by exact rfl) (hp:a.tmps.getD p undef=.pointer (some ⟨g,0,none⟩):=by exact rfl) (hd:(match d with | .struct _ | .array _ _=>true | _=>false)=true:=by exact rfl) (hi:(P.info? ty).map (·.size)=some cs.size:=by kernel_rfl) (hq:a.tmps.getD q undef=v:=by exact rfl) (hf:a.defers=[]:=by exact rfl):bodyPost P fn R .ret a w:=by
 subst hV;exact bodyPost_ret (yN h _ w g t cs (0,0) d v hp hg hu hd hi hq) hf hR
def kZ (t:List BK) (n:Int) (p:PE) (l:LT):PE × List LT:=
 if qI t n l=true/\l.1.2.2.1=p.id then (if l.1.1=2 then zCF p n l.2.2 else if l.1.1=4 then (newsP p n l,[]) else (p,[])) else (p,[])
theorem lok_view {t:List BK} {n:Int} {l:LT} (h:qI t n l=true):1<=l.1.2.2.2.1/\l.1.2.2.2.1<=900:=by
 unfold qI at h;simp only [Bool.and_eq_true] at h;have:=h.2.2.2.1;unfold inB at this
 simpa using this
theorem lok_vote {t:List BK} {n:Int} {l:LT} (h:qI t n l=true) (hk:l.1.1=2):l.2.2.2.1=l.1.2.2.2.1:=by
 unfold qI yCA at h;rw [hk] at h;simp only [Bool.and_eq_true,show ¬ ((2:Int)=1) by decide,if_true,if_false,decide_eq_true_eq] at h;exact h.2.2.2.2.2.2.2.2
structure Bx4 (w y:World) (N:Nat) (A L Z O:Array Value):Prop where
 below:Be w y
 box:Bx y w.heap.size A 35
 let':Bx y (w.heap.size+1) L 61
 zero:Bx y (w.heap.size+1+1) Z 35
 out:Bx y N O 35
 far:w.heap.size+1+1 < N
theorem Bx4.lt (h:Bx4 w y N A L Z O):N < y.heap.size:=(gl h.out)
theorem Bx4.more {x:World} (h:Bx4 w y N A L Z O) (hb:Be y x):Bx4 w x N A L Z O:=by
 have:=h.lt;have:=h.far;exact ⟨bt h.below hb,(hb.block _ (by omega)).trans h.box,(hb.block _ (by omega)).trans h.let',(hb.block _ (by omega)).trans h.zero,(hb.block _ (by omega)).trans h.out,h.far⟩
theorem Bx4.put {x:World} {O':Array Value} (h:Bx4 w y N A L Z O) (hg:y.grownBy x (some N)) (hk:Bx x N O' 35):Bx4 w x N A L Z O':=by
 have:=h.lt;have:=h.far;exact ⟨h.below.grown hg h.below.size (qkk (by omega)),(hg.block _ (by omega) (qsn (by omega))).trans h.box,(hg.block _ (by omega) (qsn (by omega))).trans h.let',(hg.block _ (by omega) (qsn (by omega))).trans h.zero,hk,h.far⟩
theorem voted2_s (p:PE) (s:PV) (lo hi:Nat) (n:Int) (v:VT) (w:World) (hD:zO lo hi w p s) (hlo:lo<=w.heap.size) (hs:yC p) (hvl:(p.votes.length:Int)+1<=1048576)
  (hn0:0<=n) (hn1:n<=7) (hv0:-9223372036854775808<=v.2.1) (hv1:v.2.1 < 9223372036854775807) (hp0:-9223372036854775808<=p.view) (hp1:p.view < 9223372036854775807) :
  Calls prog 79 #[yZ p s,I U n,.agg #[I U v.1,I U v.2.1,I U v.2.2.1,I U v.2.2.2]] w fun e w'=>∃ s' v',e=.returned (.tuple #[yZ (zCF p n v).1 s',v'])/\zO lo w'.heap.size w' (zCF p n v).1 s'/\w'.ownsRow w.heap.size 61 13 v' (zCF p n v).2.length (zE yE (zCF p n v).2)/\Be w w':=by
 have HD:=hid hD;have HS:=hid hs;obtain ⟨W,hW⟩:=nw (((w.alloc (.cells (zA p s) 35)).alloc (.cells #[I U v.1,I U v.2.1,I U v.2.2.1,I U v.2.2.2] 28)).alloc (.cells zF 35))
 have HC:Hid (Be w W/\Bx W w.heap.size (zA p s) 35/\Bx W (w.heap.size+1) #[I U v.1,I U v.2.1,I U v.2.2.1,I U v.2.2.2] 28/\Bx W (w.heap.size+1+1) zF 35):=by
  rw [hW];exact ⟨ba (ba (ba (br _ _) _) _) _,zJH w _ _ _⟩
 have g:Hid (W.heap.size=w.heap.size+1+1+1):=hid (by rw [hW];simp);unfold zF at hW;clear hD hs;go_enter func79,ntmps79;go_wp2_with (rw [<- hW];clear hW;refine w_ld (w.heap.size+1) HC.2.2.1 underlying28 ?_)
 refine (vote_p p s w.heap.size lo W.heap.size n v W ((HD.below HC.1).wide (Nat.le_trans HD.2.2 HC.1.size) (nl _)) HC.2.1 (Nat.le_trans hlo HC.1.size) HS hvl hn0 hn1 hv0 hv1 hp0 hp1).mono ?_;obtain ⟨R,hR⟩:=nw (zCF p n v);have h:Hid (zCF p n v=R):=hR.symm;rw [<- hR];clear hR;rintro e x1 ⟨lv,rfl,b,⟨s1,f,d⟩,c⟩;have a:Hid (Bx x1 w.heap.size (zA R.1 s1) 35/\zO lo x1.heap.size x1 R.1 s1/\x1.ownsRow w.heap.size 61 13 lv R.2.length (zE yE R.2)/\Be w x1/\Bx x1 (w.heap.size+1+1) zF 35):=⟨f,d,zN c HC.1.size,HC.1.grown b HC.1.size (fun k hk=>by cases hk;exact nl _),(b.block _ (by rw [g.out];omega) (qsn (by omega))).trans HC.2.2.2⟩;clear b f d c HC
 go_wp2_with (first
  | (refine w_ld w.heap.size a.1 underlying35 ?_)
  | (refine w_st (w.heap.size+1+1) (zA R.1 s1) a.2.2.2.2 (zJ a.2.1.1) ?_;intro z hg hk hz;have HZ:Hid (Be w z/\Bx z (w.heap.size+1+1) (zA R.1 s1) 35/\zO lo z.heap.size z R.1 s1/\z.ownsRow w.heap.size 61 13 lv R.2.length (zE yE R.2)):=⟨a.2.2.2.1.grown hg a.2.2.2.1.size (qkk (by omega)),hk,(a.2.1.boxed a.2.2.2.2 hg).wide hg.size (nl _),Aa a.2.2.1 hg (zH a.2.2.1 a.2.2.2.2 (by decide))⟩;clear hg hk hz a))
 refine b_pl (.tuple #[.agg (zA R.1 s1),lv]) results79 HZ.2.1 underlying35 ?_;rw [h.out];exact ⟨s1,lv,rfl,HZ.2.2.1,HZ.2.2.2,HZ.1⟩
theorem Bx4.fill {z:World} (h:Bx4 w y N A L Z O) (hg:y.grownBy z (some (w.heap.size+1+1))):Be w z:=h.below.grown hg h.below.size (qkk (by omega))
theorem leadHear_s (ps:TL) (va:Value) (n:Int) (p:PE) (s:PV) (l:LT) (w:World) (hT:jB w va ps) (hl:(ps.length:Int)<=1048576) (hR:jS w p s) (hs:yC p) (hvl:(p.votes.length:Int)+1<=1048576)
  (hn0:0<=n) (hn1:n<=7) (hq:fitQ l.2.1) (hp0:-9223372036854775808<=p.view) (hp1:p.view < 9223372036854775807) :
  Calls prog 35 #[va,I U n,yZ p s,.agg (zQ l)] w fun e w'=>∃ s' v',e=.returned (.tuple #[yZ (kZ (bks ps) n p l).1 s',v'])/\zO w.heap.size w'.heap.size w' (kZ (bks ps) n p l).1 s'/\w'.ownsRow w.heap.size 61 13 v' (kZ (bks ps) n p l).2.length (zE yE (kZ (bks ps) n p l).2)/\Be w w':=by
 have HT:=hid hT;have HR:=hid hR;have HS:=hid hs;have ai:=hid hq;clear hT hR hs hq;obtain ⟨W,hW⟩:=nw (((w.alloc (.cells (zA p s) 35)).alloc (.cells (zQ l) 61)).alloc (.cells zF 35))
 have HC:Hid (Be w W/\Bx W w.heap.size (zA p s) 35/\Bx W (w.heap.size+1) (zQ l) 61/\Bx W (w.heap.size+1+1) zF 35):=by
  rw [hW];exact ⟨ba (ba (ba (br _ _) _) _) _,zJH w _ _ _⟩
 have j:Hid (W.heap.size=w.heap.size+1+1+1):=hid (by rw [hW];simp);unfold zF at hW;go_enter func35,ntmps35;go_wp2_with (rw [<- hW];clear hW;refine w_ld w.heap.size HC.2.1 underlying35 ?_)
 refine (zHJ p s W (HR.below HC.1) HS).mono ?_;rintro e x1 ⟨s1,rfl,ho,hb⟩;have v:Hid (zO W.heap.size x1.heap.size x1 p s1):=ho.toD;have g:Hid (Be W x1):=hb;clear ho hb;obtain ⟨N,hN⟩:=nw x1.heap.size
 go_upto_region 3 with (first
  | (refine w_st x1.heap.size (zA p s1) (heap_alloc_new x1 _) (zJ v.1) ?_;intro y1 hg hk hz;have k:Be x1 y1:=yB hg;have x:Hid (Bx4 w y1 N (zA p s) (zQ l) zF (zA p s1)):=⟨bt HC.1 (bt g k),(k.block _ (by have:=g.size;have:=j.out;omega)).trans ((g.block _ (by have:=j.out;omega)).trans HC.2.1),(k.block _ (by have:=g.size;have:=j.out;omega)).trans ((g.block _ (by have:=j.out;omega)).trans HC.2.2.1),(k.block _ (by have:=g.size;have:=j.out;omega)).trans ((g.block _ (by have:=j.out;omega)).trans HC.2.2.2),(by rw [hN];exact hk),(by have:=g.size;have:=j.out;omega)⟩;have ag:Hid (zO w.heap.size y1.heap.size y1 p s1):=((v.below k).wide (Nat.le_of_lt (gl hk)) (nl _)).low HC.1.size;clear hg hk hz k v g))
 obtain ⟨y2,o⟩:=nw (y1.alloc (.cells #[] 61));rw [<- o];have t:Be y1 y2:=by rw [o];exact (br _ _).alloc (nl _) _
 have r:Hid (Bx4 w y2 N (zA p s) (zQ l) zF (zA p s1)):=x.more t;have aa:Hid (zO w.heap.size y2.heap.size y2 p s1):=(ag.below t).wide t.size (nl _);have y:Hid (y2.ownsRow w.heap.size 61 13 (.slice (some ⟨y1.heap.size,0,none⟩) 0 0) ([]:List LT).length (zE yE [])):=hid (by rw [o];exact zN (yH y1 61 13) x.below.size);obtain ⟨ov,af⟩:=nw (Value.slice (some ⟨y1.heap.size,0,none⟩) 0 0);rw [<- af] at y ⊢;clear t o af x ag HC j;rw [<- hN];clear hN;go_wp2_with (refine w_ld (w.heap.size+1) r.let' underlying61 ?_)
 refine (letterOk_s ps va n l y2 (HT.below r.below) hl hn0 hn1 ai).mono ?_;rintro e y3 ⟨rfl,hb⟩;have a:Hid (Bx4 w y3 N (zA p s) (zQ l) zF (zA p s1)):=r.more hb;have f:Hid (zO w.heap.size y3.heap.size y3 p s1):=(aa.below hb).wide hb.size (nl _);have c:Hid (y3.ownsRow w.heap.size 61 13 ov ([]:List LT).length (zE yE [])):=zS y hb;clear hb r aa y;have ad:=zB a.box 0 (I U p.id) rfl;have ab:=zB a.let' 2 (I U l.1.2.2.1) rfl;have ac:=zB a.let' 0 (I U l.1.1) rfl
 cases b:qI (bks ps) n l with
 | false=>
  have HE:Hid (kZ (bks ps) n p l=(p,[])):=(by unfold kZ;rw [if_neg (fun h=>by rw [b] at h;exact absurd h.1 (by decide))]:kZ (bks ps) n p l=_);clear b
  go_wp2_with (first
   | (refine w_ld N a.out.out underlying35 ?_)
   | (refine w_st (w.heap.size+1+1) (zA p s1) a.zero (zJ f.1) ?_;intro z hg hk hz;have HZ:Hid (Be w z/\Bx z (w.heap.size+1+1) (zA p s1) 35/\zO w.heap.size z.heap.size z p s1/\z.ownsRow w.heap.size 61 13 ov ([]).length (zE yE ([]))):=⟨a.fill hg,hk,(f.boxed a.zero hg).wide hg.size (nl _),Aa c hg (zH c a.zero (by decide))⟩;clear hg hk hz))
  refine b_pl (.tuple #[.agg (zA p s1),ov]) results35 HZ.2.1 underlying35 ?_;rw [HE.out];exact ⟨s1,ov,rfl,HZ.2.2.1,HZ.2.2.2,HZ.1⟩
 | true=>
  have ap:=lok_view b
  by_cases hto:l.1.2.2.1=p.id
  ·have aj:(l.1.2.2.1 != p.id)=false:=by simpa using hto
   by_cases hk2:l.1.1=2
   ·have am:(l.1.1 == 2)=true:=by simpa using hk2
    have ah:=hid (lok_vote b hk2);obtain ⟨R,hR⟩:=nw (zCF p n l.2.2);have HE:Hid (kZ (bks ps) n p l=R):=hid (by unfold kZ;rw [if_pos ⟨b,hto⟩,if_pos hk2,hR]);have c9:=zB a.let' 9 (I U l.2.2.1) rfl;have al:=zB a.let' 10 (I U l.2.2.2.1) rfl;have ao:=zB a.let' 11 (I U l.2.2.2.2.1) rfl;have ak:=zB a.let' 12 (I U l.2.2.2.2.2) rfl;clear b hto hk2;go_wp2_with (refine w_ld N a.out.out underlying35 ?_)
    refine (voted2_s p s1 w.heap.size y3.heap.size n l.2.2 y3 f a.below.size HS hvl hn0 hn1 (by rw [ah.out];omega) (by rw [ah.out];omega) hp0 hp1).mono ?_;rw [<- hR];rintro e y4 ⟨s4,v4,rfl,ho,ae,hb⟩;have d:Hid (Bx4 w y4 N (zA p s) (zQ l) zF (zA p s1)):=a.more hb;have m:Hid (zO w.heap.size y4.heap.size y4 R.1 s4):=ho;have i:Hid (y4.ownsRow w.heap.size 61 13 v4 R.2.length (zE yE R.2)):=zN ae a.below.size;clear ho ae hb hR a f c ad ab ac c9 al ao ak
    go_wp2_with (first
     | (refine w_ld N d.out.out underlying35 ?_)
     | (refine w_st (w.heap.size+1+1) (zA R.1 s4) d.zero (zJ m.1) ?_;intro z hg hk hz;have HZ:Hid (Be w z/\Bx z (w.heap.size+1+1) (zA R.1 s4) 35/\zO w.heap.size z.heap.size z R.1 s4/\z.ownsRow w.heap.size 61 13 v4 (R.2).length (zE yE (R.2))):=⟨d.fill hg,hk,(m.boxed d.zero hg).wide hg.size (nl _),Aa i hg (zH i d.zero (by decide))⟩;clear hg hk hz))
    refine b_pl (.tuple #[.agg (zA R.1 s4),v4]) results35 HZ.2.1 underlying35 ?_;rw [HE.out];exact ⟨s4,v4,rfl,HZ.2.2.1,HZ.2.2.2,HZ.1⟩
   ·have am:(l.1.1 == 2)=false:=by simpa using hk2
    by_cases hk4:l.1.1=4
    ·have an:(l.1.1 == 4)=true:=by simpa using hk4
     obtain ⟨R,hR⟩:=nw (newsP p n l);have HE:Hid (kZ (bks ps) n p l=(R,[])):=(by unfold kZ;rw [if_pos ⟨b,hto⟩,if_neg hk2,if_pos hk4,hR]:kZ (bks ps) n p l=_);clear b hto hk2 hk4;go_wp2_with (refine w_ld (w.heap.size+1) a.let' underlying61 ?_)
     refine (new_s p s1 N w.heap.size y3.heap.size n l y3 f a.out.out a.below.size HS (by omega) (by omega) (by omega) (by omega) hp0 hp1).mono ?_;rw [<- hR];rintro e y4 ⟨⟨u,rfl⟩,hg,s4,hk,ho⟩;have d:Hid (Bx4 w y4 N (zA p s) (zQ l) zF (zA R s4)):=a.put hg hk;have m:Hid (zO w.heap.size y4.heap.size y4 R s4):=ho;have i:Hid (y4.ownsRow w.heap.size 61 13 ov ([]:List LT).length (zE yE [])):=Aa c hg (zH c a.out.out (by decide));clear ho hg hk hR a f c ad ab ac
     go_wp2_with (first
      | (refine w_ld N d.out.out underlying35 ?_)
      | (refine w_st (w.heap.size+1+1) (zA R s4) d.zero (zJ m.1) ?_;intro z hg hk hz;have HZ:Hid (Be w z/\Bx z (w.heap.size+1+1) (zA R s4) 35/\zO w.heap.size z.heap.size z R s4/\z.ownsRow w.heap.size 61 13 ov ([]).length (zE yE ([]))):=⟨d.fill hg,hk,(m.boxed d.zero hg).wide hg.size (nl _),Aa i hg (zH i d.zero (by decide))⟩;clear hg hk hz))
     refine b_pl (.tuple #[.agg (zA R s4),ov]) results35 HZ.2.1 underlying35 ?_;rw [HE.out];exact ⟨s4,ov,rfl,HZ.2.2.1,HZ.2.2.2,HZ.1⟩
    ·have an:(l.1.1 == 4)=false:=by simpa using hk4
     have HE:Hid (kZ (bks ps) n p l=(p,[])):=(by unfold kZ;rw [if_pos ⟨b,hto⟩,if_neg hk2,if_neg hk4]:kZ (bks ps) n p l=_);clear b hto hk2 hk4
     go_wp2_with (first
      | (refine w_ld N a.out.out underlying35 ?_)
      | (refine w_st (w.heap.size+1+1) (zA p s1) a.zero (zJ f.1) ?_;intro z hg hk hz;have HZ:Hid (Be w z/\Bx z (w.heap.size+1+1) (zA p s1) 35/\zO w.heap.size z.heap.size z p s1/\z.ownsRow w.heap.size 61 13 ov ([]).length (zE yE ([]))):=⟨a.fill hg,hk,(f.boxed a.zero hg).wide hg.size (nl _),Aa c hg (zH c a.zero (by decide))⟩;clear hg hk hz))
     refine b_pl (.tuple #[.agg (zA p s1),ov]) results35 HZ.2.1 underlying35 ?_;rw [HE.out];exact ⟨s1,ov,rfl,HZ.2.2.1,HZ.2.2.2,HZ.1⟩
  ·have aj:(l.1.2.2.1 != p.id)=true:=by simpa using hto
   have HE:Hid (kZ (bks ps) n p l=(p,[])):=(by unfold kZ;rw [if_neg (fun h=>hto h.2)]:kZ (bks ps) n p l=_);clear b hto
   go_wp2_with (first
    | (refine w_ld N a.out.out underlying35 ?_)
    | (refine w_st (w.heap.size+1+1) (zA p s1) a.zero (zJ f.1) ?_;intro z hg hk hz;have HZ:Hid (Be w z/\Bx z (w.heap.size+1+1) (zA p s1) 35/\zO w.heap.size z.heap.size z p s1/\z.ownsRow w.heap.size 61 13 ov ([]).length (zE yE ([]))):=⟨a.fill hg,hk,(f.boxed a.zero hg).wide hg.size (nl _),Aa c hg (zH c a.zero (by decide))⟩;clear hg hk hz))
   refine b_pl (.tuple #[.agg (zA p s1),ov]) results35 HZ.2.1 underlying35 ?_;rw [HE.out];exact ⟨s1,ov,rfl,HZ.2.2.1,HZ.2.2.2,HZ.1⟩
end Go.Proofs.YtfnneillakdopacGreatR
