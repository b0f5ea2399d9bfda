/-
  A text of ours: SomeD.
-/
import Derived.Test.YtfnneillakdopacGreatRK1
import Derived.Test.YtfnneillakdopacGreatRRanDZ
set_option maxRecDepth 100000
set_option maxHeartbeats 32000000
namespace Go.Proofs.YtfnneillakdopacGreatR
open _root_.Go.Proofs.Tryz
open Go.RowKit Num
theorem qF {P:Program} {fn:Func} {p q:Tmp} {ty:TypeId} (h:fn.results=#[.tmp q,.cell p ty]) (tmps:Array Value) (w:World) (g:Nat) (t:TypeId) (cs:Array Value) (fr:Nat × Nat) (d:TypeDesc) (u:Value)
  (hq:tmps.getD q undef=u) (hp:tmps.getD p undef=.pointer (some ⟨g,0,none⟩)) (hg:w.heap[g]?=some (.cells cs t fr)) (hu:P.underlying ty=some d) (hd:(match d with | .struct _ | .array _ _=>true | _=>false)=true) (hi:(P.info? ty).map (·.size)=some cs.size) :
  (results fn tmps).run P w=.ok (.tuple #[u,.agg cs]) w:=by
 have b:tmps[p]?.getD undef=.pointer (some ⟨g,0,none⟩):=by simpa using hp
 have a:tmps[q]?.getD undef=u:=by simpa using hq
 simp [results,h,b,a,asAddr,run_loadVar_row w g t ty cs fr d hg hu hd hi]
theorem some_st {w:World} {B:Nat} {ao:Option Addr} {len cap b off:Nat} (h:St w B ao len cap b off) :
  Calls prog 41 #[.pointer (some ⟨B,0,none⟩)] w fun r w'=>∃ ps v p t,r=.returned (.tuple #[v,yZ p t])/\smT (bks ps)/\(smP 30 p/\p.view<=31/\KA (bks ps) p)/\xH w' w.heap.size v ps/\zO w.heap.size w'.heap.size w' p t/\St w' B ao len cap b off/\w.grownBy w' (some B):=by
 obtain ⟨W,hW⟩:=nw (w.alloc (.cells zF 35))
 have HW:Hid (St W B ao len cap b off/\Bx W w.heap.size zF 35/\w.grownBy W (some B)/\B < w.heap.size/\(0 < len->b < w.heap.size)):=(by
  have hb:Be w W:=by rw [hW];exact yA _ _
  exact ⟨h.below hb,by rw [hW];exact heap_alloc_new _ _,yG hb,h.cur.lt,h.code.lt⟩:_/\_)
 clear h;unfold zF at hW;go_enter func41,ntmps41;go_wp2_with (rw [<- hW];clear hW)
 refine (ran_st 26 (by decide) (by decide) HW.1).mono ?_;rintro r y1 ⟨c,s,rfl,al,ho,l,hg⟩;have HL:=hid al;have H1:=hid (qad5 l (gk hg HW.2.1 (qsn (by have:=HW.2.2.2.1;omega))) (zP HW.2.2.1 hg) ho (gl HW.2.1));have aq:Hid (W.heap.size<=y1.heap.size):=hg.size;clear al ho l hg
 go_upto_region 2 with (refine w_st y1.heap.size (zR c s) (heap_alloc_new y1 _) (clusA_one H1.2.2.2.1) ?_;intro y2 hg hk hz;have n:Be y1 y2:=yB hg;have H2:Hid (St y2 B ao len cap b off/\Bx y2 w.heap.size zF 35/\w.grownBy y2 (some B)/\xG W.heap.size y1.heap.size y2 c s/\w.heap.size < W.heap.size/\Bx y2 y1.heap.size (zR c s) 124/\W.heap.size<=y1.heap.size):=⟨H1.1.below n,bk n H1.2.1,zP H1.2.2.1 (yG n),H1.2.2.2.1.below n,H1.2.2.2.2,hk,aq⟩;clear hg hk hz n)
 obtain ⟨N,hN⟩:=nw y1.heap.size;rw [<- hN] at H2 ⊢;clear hN H1;have ah:=HL.lpeers;obtain ⟨g,f,-,-,a,-,-,-,-,u,aa,-,ai⟩:=H2.2.2.2.1.peerAt (j:=0) (by omega);have y:Hid (s.peersV=.slice (some ⟨g,0,none⟩) c.peers.length f):=a;have HG:=hid (qad2 u aa);have ag:Hid (c.peers.length=4):=ah;clear a u aa ai ah;refine p_rg (fun _=>true) (fun x=>Bx x N (zR c s) 124/\x.heap[g]?=y2.heap[g]?) ?_;show zX prog _ _ _ _ _ (12+1) (Array.replicate 13 false) _ _;have hS:Bx y2.drew N (zR c s) 124/\y2.drew.heap[g]?=y2.heap[g]?:=⟨H2.2.2.2.2.2.1,rfl⟩;refine p_pt 0 7 N 3 hS ?_;refine zD 1 8 s.treeV hS ?_ (hy:=by intro x hx;have c3:=zB hx.1 3 s.treeV rfl;go_simp;try rfl);refine p_pt 2 9 N 4 hS ?_;refine zD 3 10 (.slice (some ⟨g,0,none⟩) c.peers.length f) hS ?_ (hy:=by intro x hx;have c4:=zB hx.1 4 s.peersV rfl;rw [y.out] at c4;go_simp;try rfl);refine p_pt 4 11 B 0 hS ?_;refine p_pt 5 12 N 4 hS ?_;refine zD 6 13 (.slice (some ⟨g,0,none⟩) c.peers.length f) hS ?_ (hy:=by intro x hx;have c4:=zB hx.1 4 s.peersV rfl;rw [y.out] at c4;go_simp;try rfl);refine zD 7 14 (.int .i64 (c.peers.length:Int)) hS ?_;have ab:St y2.drew B ao len cap b off:=H2.1.below ((br _ _).drew);refine kJ 8 15 44 #[.pointer (some ⟨B,0,none⟩),.int .i64 (c.peers.length:Int)] ((xO (c.peers.length:Int) (by have:=ag.out;omega) (by have:=ag.out;omega) ab).mono ?_);rintro r z ⟨x,rfl,h0,h1,l,hg⟩;obtain ⟨j,hj⟩:∃ j:Nat,x=(j:Int):=⟨x.toNat,by omega⟩;subst hj;have ae:j < c.peers.length:=by omega
 have o:=bw y2;have au:B < W.heap.size:=by have:=HW.2.2.2.1;have:=H2.2.2.2.2.1;omega
 have av:W.heap.size<=N:=H2.2.2.2.2.2.2;have HZ:=hid (qad2 (gk hg hS.1 (qsn (by omega))) ((hg.block _ (Nat.lt_of_lt_of_le HG.1 o.size) (qsn (by have:=HG.2;omega))).trans hS.2));have d:Hid (St z B ao len cap b off/\Bx z w.heap.size zF 35/\w.grownBy z (some B)/\xG W.heap.size N z c s):=⟨l,(hg.block _ (Nat.lt_of_lt_of_le (gl H2.2.1) o.size) (qsn (by have:=HW.2.2.2.1;omega))).trans (bk o H2.2.1),zP H2.2.2.1 (zP (yG o) hg),(H2.2.2.2.1.below o).frs (FrS.of_grown hg (B:=fun k=>k=B) (fun k e=>by cases e;rfl)) (fun i k hi hp e=>by have:=H2.2.2.2.1.lim i k hi hp;omega)⟩;clear l hg ab;obtain ⟨g',ar,p,t,a,ak,aj,an,af,u,aa,-,-⟩:=d.2.2.2.peerAt ae
 have ap:g'=g:=by
  rw [y.out] at a;injection a with a _ _
  injection a with a
  injection a with a _ _
  exact a.symm
 subst ap;have am:=hid af;have ac:s.peers[j]?=some (p,t):=ak
 have m:Hid (zO W.heap.size z.heap.size z p t/\smP 30 p/\p.view<=31/\KA c.tree p):=(by
  have hm:=List.mem_of_getElem? ac;refine ⟨d.2.2.2.peers.own.each _ hm,?_⟩;have ad:p∈c.peers:=by rw [<- aj];unfold zCJ;rw [show ((j:Int)).toNat=j by omega,List.getElem?_eq_getElem ae];exact List.getElem_mem ae
  exact ⟨HL.peers p ad,by have:=HL.vw.peers p ad;omega,HL.ka p ad⟩:_/\_)
 have q0:(0:Int)<=(j:Int):=by omega
 have q1:(j:Int) < (c.peers.length:Int):=by omega
 clear a ak aj an af u aa ac hS;have hS:=HZ.out;refine ⟨_,rfl,fun _=>hS,?_⟩;simp only [pz];refine p_pt 9 16 g' (j * 21) hS ?_;refine zD 10 17 (.agg (zA p t)) hS ?_ (hy:=fun x hx=>ldm g' (j * 21) (peerL p t) (qW (hx.2.trans HZ.2.symm) am) underlying35);refine zD 11 2 s.treeV hS ?_;refine p_pa 12 w.heap.size 0 (zA p t) zF (zA p t) d.2.1 (by simp [zA,zF]) (zJ m.1.1) rfl ?_;intro z2 hg hk;have HF:Hid (Bx z2 w.heap.size (zA p t) 35/\xH z2 w.heap.size s.treeV s.tree/\zO w.heap.size z2.heap.size z2 p t/\St z2 B ao len cap b off/\w.grownBy z2 (some B)):=⟨hk,(d.2.2.2.tree.boxed d.2.1 hg).base (by have:=H2.2.2.2.2.1;omega),((m.1.boxed d.2.1 hg).low (by have:=H2.2.2.2.2.1;omega)).wide hg.size (nl _),d.1.other hg (by have:=HW.2.2.2.1;omega) (fun hl e=>by have:=HW.2.2.2.2 hl;omega),yT d.2.2.1 (nl _) hg⟩;refine ⟨fun _=>⟨gk hg hS.1 (qsn (by have:=H2.2.2.2.2.1;omega)),(hg.block _ (by have:=(gl hS.1);have:=d.2.2.2.lim 1 g' (by omega) (Or.inl (by rw [y.out];rfl));omega) (qsn (by have:=HG.2;have:=H2.2.2.2.2.1;omega))).trans hS.2⟩,?_⟩;refine p_do ?_;clear hg hk;go_wp2;refine bodyPost_ret (v:=.tuple #[s.treeV,.agg (zA p t)]) (qF results41 _ _ w.heap.size 35 _ (0,0) _ _ rfl rfl HF.1 underlying35 rfl (by kernel_rfl)) rfl ?_;exact ⟨s.tree,s.treeV,p,t,rfl,by rw [d.out.2.2.2.etree];exact HL.out.tree,⟨m.2.1,m.2.2.1,by rw [d.out.2.2.2.etree];exact m.out.2.2.2⟩,HF.2.1,HF.2.2.1,HF.2.2.2.1,HF.2.2.2.2⟩
end Go.Proofs.YtfnneillakdopacGreatR
