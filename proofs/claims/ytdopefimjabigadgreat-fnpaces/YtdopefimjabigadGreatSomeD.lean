/-
  A text of ours: SomeD.
-/
import Derived.Test.YtdopefimjabigadGreatK1
import Derived.Test.YtdopefimjabigadGreatRanD
set_option maxRecDepth 100000
set_option maxHeartbeats 32000000
namespace Go.Proofs.YtdopefimjabigadGreat
open Go.RowKit Num
theorem qF {P:Program} {fn:Func} {p q:Tmp} {ty:TypeId} (h:fn.results=#[.tmp q,.cell p ty]) (tmps:Array Value) (w:World) (g:Nat) (t:TypeId) (cs:Array Value) (fr:Nat × Nat) (d:TypeDesc) (u:Value)
  (hq:tmps.getD q undef=u) (hp:tmps.getD p undef=.pointer (some ⟨g,0,none⟩)) (hg:w.heap[g]?=some (.cells cs t fr)) (hu:P.underlying ty=some d) (hd:(match d with | .struct _ | .array _ _=>true | _=>false)=true) (hi:(P.info? ty).map (·.size)=some cs.size) :
  (results fn tmps).run P w=.ok (.tuple #[u,.agg cs]) w:=by
 have hp':tmps[p]?.getD undef=.pointer (some ⟨g,0,none⟩):=by simpa using hp
 have hq':tmps[q]?.getD undef=u:=by simpa using hq
 simp [results,h,hp',hq',asAddr,run_loadVar_row w g t ty cs fr d hg hu hd hi]
theorem some_st {w:World} {B:Nat} {ao:Option Addr} {len cap b off:Nat} (h:St w B ao len cap b off) :
  Calls Tryz.prog 65 #[.pointer (some ⟨B,0,none⟩)] w fun r w'=>∃ ps v p t,r=.returned (.tuple #[v,yZ p t])/\smT (bks ps)/\(smP 30 p/\p.view<=31)/\xH w' w.heap.size v ps/\zO w.heap.size w'.heap.size w' p t/\St w' B ao len cap b off/\w.grownBy w' (some B):=by
 obtain ⟨W,hW⟩:∃ W,W=w.alloc (.cells zF 35):=⟨_,rfl⟩
 have HW:Hid (St W B ao len cap b off/\Bx W w.heap.size zF 35/\w.grownBy W (some B)/\B < w.heap.size/\(0 < len->b < w.heap.size)):=(by
  have hb:Below w.heap.size w W:=by rw [hW];exact yA _ _
  exact ⟨h.below hb,by rw [hW];exact heap_alloc_new _ _,yG hb,h.cur.lt,h.code.lt⟩:_/\_)
 clear h;unfold zF at hW;go_enter Tryz.func65,Tryz.ntmps65;go_wp2_with (rw [<- hW];clear hW)
 refine (ran_st 26 (by decide) (by decide) HW.out.1).mono ?_;rintro r y1 ⟨c,s,rfl,hlf,ho,hst,hg⟩;have HL:=hid hlf;have H1:Hid (St y1 B ao len cap b off/\Bx y1 w.heap.size zF 35/\w.grownBy y1 (some B)/\xG W.heap.size y1.heap.size y1 c s/\w.heap.size < W.heap.size):=⟨hst,(hg.block _ (gl HW.out.2.1) (fun e=>by have:=Option.some.inj e;have:=HW.out.2.2.2.1;omega)).trans HW.out.2.1,zP HW.out.2.2.1 hg,ho,(gl HW.out.2.1)⟩;have HWY:Hid (W.heap.size<=y1.heap.size):=hg.size;clear hlf ho hst hg
 go_upto_region 2 with (refine w_st y1.heap.size (zR c s) (heap_alloc_new y1 _) (clusA_one H1.out.2.2.2.1) ?_;intro y2 hg hk hz;have hb2:Below y1.heap.size y1 y2:=yB hg;have H2:Hid (St y2 B ao len cap b off/\Bx y2 w.heap.size zF 35/\w.grownBy y2 (some B)/\xG W.heap.size y1.heap.size y2 c s/\w.heap.size < W.heap.size/\Bx y2 y1.heap.size (zR c s) 90/\W.heap.size<=y1.heap.size):=⟨H1.out.1.below hb2,(hb2.block _ (gl H1.out.2.1)).trans H1.out.2.1,zP H1.out.2.2.1 (yG hb2),H1.out.2.2.2.1.below hb2,H1.out.2.2.2.2,hk,HWY.out⟩;clear hg hk hz hb2)
 obtain ⟨N,hN⟩:∃ N,N=y1.heap.size:=⟨_,rfl⟩;rw [<- hN] at H2 ⊢;clear hN H1;have hp4:=HL.out.lpeers;obtain ⟨g,cap2,-,-,hpv,-,-,-,-,hgl,hlg,-,hcap⟩:=H2.out.2.2.2.1.peerAt (j:=0) (by omega);have HPV:Hid (s.peersV=.slice (some ⟨g,0,none⟩) c.peers.length cap2):=hpv;have HG:Hid (g < y2.heap.size/\W.heap.size<=g):=⟨hgl,hlg⟩;have HP4:Hid (c.peers.length=4):=hp4;clear hpv hgl hlg hcap hp4;refine zT (fun _=>true) (fun x=>Bx x N (zR c s) 90/\x.heap[g]?=y2.heap[g]?) (by kernel_rfl) ?_;show zX Tryz.prog _ _ _ _ _ (12+1) (Array.replicate 13 false) _ _;have hS:Bx y2.drew N (zR c s) 90/\y2.drew.heap[g]?=y2.heap[g]?:=⟨H2.out.2.2.2.2.2.1,rfl⟩;refine zD 0 7 (.pointer (some ⟨N,3,none⟩)) hS ?_;refine zD 1 8 s.treeV hS ?_ (hy:=by intro x hx;have c3:=zB hx.1 3 s.treeV rfl;go_simp;try with_reducible rfl);refine zD 2 9 (.pointer (some ⟨N,4,none⟩)) hS ?_;refine zD 3 10 (.slice (some ⟨g,0,none⟩) c.peers.length cap2) hS ?_ (hy:=by intro x hx;have c4:=zB hx.1 4 s.peersV rfl;rw [HPV.out] at c4;go_simp;try with_reducible rfl);refine zD 4 11 (.pointer (some ⟨B,0,none⟩)) hS ?_;refine zD 5 12 (.pointer (some ⟨N,4,none⟩)) hS ?_;refine zD 6 13 (.slice (some ⟨g,0,none⟩) c.peers.length cap2) hS ?_ (hy:=by intro x hx;have c4:=zB hx.1 4 s.peersV rfl;rw [HPV.out] at c4;go_simp;try with_reducible rfl);refine zD 7 14 (.int .i64 (c.peers.length:Int)) hS ?_;have hst2:St y2.drew B ao len cap b off:=H2.out.1.below ((br _ _).drew);refine kJ 8 15 59 #[.pointer (some ⟨B,0,none⟩),.int .i64 (c.peers.length:Int)] ((xO (c.peers.length:Int) (by have:=HP4.out;omega) (by have:=HP4.out;omega) hst2).mono ?_);rintro r z ⟨x,rfl,h0,h1,hst,hg⟩;obtain ⟨j,hj⟩:∃ j:Nat,x=(j:Int):=⟨x.toNat,by omega⟩;subst hj;have hjn:j < c.peers.length:=by omega
 have hdd:Below y2.heap.size y2 y2.drew:=(br _ _).drew;have hBN:B < W.heap.size:=by have:=HW.out.2.2.2.1;have:=H2.out.2.2.2.2.1;omega
 have hNW:W.heap.size<=N:=H2.out.2.2.2.2.2.2;have HZ:Hid (Bx z N (zR c s) 90/\z.heap[g]?=y2.heap[g]?):=⟨(hg.block _ (gl hS.1) (fun e=>by have:=Option.some.inj e;omega)).trans hS.1,(hg.block _ (Nat.lt_of_lt_of_le HG.out.1 hdd.size) (fun e=>by have:=Option.some.inj e;have:=HG.out.2;omega)).trans hS.2⟩;have HZ2:Hid (St z B ao len cap b off/\Bx z w.heap.size zF 35/\w.grownBy z (some B)/\xG W.heap.size N z c s):=⟨hst,(hg.block _ (Nat.lt_of_lt_of_le (gl H2.out.2.1) hdd.size) (fun e=>by have:=Option.some.inj e;have:=HW.out.2.2.2.1;omega)).trans ((hdd.block _ (gl H2.out.2.1)).trans H2.out.2.1),zP H2.out.2.2.1 (zP (yG hdd) hg),(H2.out.2.2.2.1.below hdd).frs (FrS.of_grown hg (B:=fun k=>k=B) (fun k e=>by cases e;rfl)) (fun i k hi hp e=>by have:=H2.out.2.2.2.1.lim i k hi hp;omega)⟩;clear hst hg hst2;obtain ⟨g',cap',p,t,hpv,hpt,hpa,hpr,hrg,hgl,hlg,-,-⟩:=HZ2.out.2.2.2.peerAt hjn
 have hgg:g'=g:=by
  rw [HPV.out] at hpv;injection hpv with hpv _ _
  injection hpv with hpv
  injection hpv with hpv _ _
  exact hpv.symm
 subst hgg;have HRG:=hid hrg;have hpt2:s.peers[j]?=some (p,t):=hpt
 have HPD:Hid (zO W.heap.size z.heap.size z p t/\smP 30 p/\p.view<=31):=(by
  have hm:=List.mem_of_getElem? hpt2;refine ⟨HZ2.out.2.2.2.peers.own.each _ hm,?_⟩;have hpm:p∈c.peers:=by rw [<- hpa];unfold zCJ;rw [show ((j:Int)).toNat=j by omega,List.getElem?_eq_getElem hjn];exact List.getElem_mem hjn
  exact ⟨HL.out.peers p hpm,by have:=HL.out.vw.peers p hpm;omega⟩:_/\_)
 have q0:(0:Int)<=(j:Int):=by omega
 have q1:(j:Int) < (c.peers.length:Int):=by omega
 clear hpv hpt hpa hpr hrg hgl hlg hpt2 hS;have hS:=HZ.out;refine ⟨_,rfl,fun _=>hS,?_⟩;simp only [pz];refine zD 9 16 (.pointer (some ⟨g',j * 21,none⟩)) hS ?_;refine zD 10 17 (.agg (zA p t)) hS ?_ (hy:=fun x hx=>xB _ _ rfl g' (j * 21) rfl (peerL p t) _ (qW (hx.2.trans HZ.out.2.symm) HRG.out) Tryz.underlying35 rfl (by kernel_rfl));refine zD 11 2 s.treeV hS ?_;refine xW (s:=12) (N:=w.heap.size) (o:=0) (cells:=zA p t) (old:=zF) (new:=zA p t) rfl rfl rfl rfl (by kernel_rfl) rfl rfl HZ2.out.2.1 (by kernel_rfl) (by simp [zA,zF]) (zJ HPD.out.1.1) rfl ?_;intro z2 hg hk;have HF:Hid (Bx z2 w.heap.size (zA p t) 35/\xH z2 w.heap.size s.treeV s.tree/\zO w.heap.size z2.heap.size z2 p t/\St z2 B ao len cap b off/\w.grownBy z2 (some B)):=⟨hk,(HZ2.out.2.2.2.tree.boxed HZ2.out.2.1 hg).base (by have:=H2.out.2.2.2.2.1;omega),((HPD.out.1.boxed HZ2.out.2.1 hg).low (by have:=H2.out.2.2.2.2.1;omega)).wide hg.size (nl _),HZ2.out.1.other hg (by have:=HW.out.2.2.2.1;omega) (fun hl e=>by have:=HW.out.2.2.2.2 hl;omega),yT HZ2.out.2.2.1 (nl _) hg⟩;refine ⟨fun _=>⟨(hg.block _ (gl hS.1) (fun e=>by have:=Option.some.inj e;have:=H2.out.2.2.2.2.1;omega)).trans hS.1,(hg.block _ (by have:=(gl hS.1);have:=HZ2.out.2.2.2.lim 1 g' (by omega) (Or.inl (by rw [HPV.out];rfl));omega) (fun e=>by have:=Option.some.inj e;have:=HG.out.2;have:=H2.out.2.2.2.2.1;omega)).trans hS.2⟩,?_⟩;refine zK (by kernel_rfl) ?_ _;clear hg hk;go_wp2;refine bodyPost_ret (v:=.tuple #[s.treeV,.agg (zA p t)]) (qF Tryz.results65 _ _ w.heap.size 35 _ (0,0) _ _ rfl rfl HF.out.1 Tryz.underlying35 rfl (by kernel_rfl)) rfl ?_;exact ⟨s.tree,s.treeV,p,t,rfl,by rw [HZ2.out.2.2.2.etree];exact HL.out.tree,HPD.out.2,HF.out.2.1,HF.out.2.2.1,HF.out.2.2.2.1,HF.out.2.2.2.2⟩
end Go.Proofs.YtdopefimjabigadGreat
