/-
  Texts of ours that later ones lean on, in one: DrawP, DrawT, Clone, CopyI.
-/
import Derived.Test.YtdopefimjabigadGreatK1
import Derived.Test.YtdopefimjabigadGreatAnyP
import Derived.Test.YtdopefimjabigadGreatK6
import Derived.Shelf.LaysM
import Derived.Shelf.Strconv.Clone
import Derived.Test.YtdopefimjabigadGreatRows
import Derived.WalkKit
import Derived.Test.YtdopefimjabigadGreatK4
import Derived.Deep.RegionHeld3
import Derived.Deep.AppendLies
set_option maxRecDepth 100000
set_option maxHeartbeats 32000000
namespace Go.Proofs.YtdopefimjabigadGreat
open Go.RowKit Num
theorem drawPeer_any {w:World} {ao:Option Addr} {len cap b off:Nat} (hc:Code w ao len b off) :
  Calls Tryz.prog 23 #[.slice ao len cap] w fun e w'=>∃ ps v p t,e=.returned (.tuple #[v,yZ p t])/\smT (bks ps)/\(smP 30 p/\p.view<=31)/\xH w' w.heap.size v ps/\zO w.heap.size w'.heap.size w' p t/\Below w.heap.size w w':=by
 obtain ⟨W,hW⟩:∃ W,W=w.alloc (.cells zF 35):=⟨_,rfl⟩
 have HW:Hid (Code W ao len b off/\Bx W w.heap.size zF 35/\Below w.heap.size w W):=(by
  have hb:Below w.heap.size w W:=by rw [hW];exact yA _ _
  exact ⟨hc.below hb,by rw [hW];exact heap_alloc_new _ _,hb⟩:_/\_)
 clear hc;unfold zF at hW;go_enter Tryz.func23,Tryz.ntmps23;go_wp2_with (rw [<- hW];clear hW)
 refine (new_any HW.out.1).mono ?_;rintro e w1 ⟨N,rfl,hN,hS,hb⟩;have H1:Hid (St w1 N ao len cap b off/\Bx w1 w.heap.size zF 35/\Below w.heap.size w w1/\w.heap.size < N):=⟨hS,(hb.block _ (gl HW.out.2.1)).trans HW.out.2.1,bt HW.out.2.2 hb,Nat.lt_of_lt_of_le (gl HW.out.2.1) hN⟩;clear hN hS hb HW;go_wp2_with fail
 refine (some_st H1.out.1).mono ?_;rintro e w2 ⟨ps,v,p,t,rfl,hsm,hpp,hT,hD,-,hg⟩;have HT:=hid hsm;have HP:=hid hpp;have H2:Hid (Bx w2 w.heap.size zF 35/\Below w.heap.size w w2/\xH w2 w.heap.size v ps/\zO w.heap.size w2.heap.size w2 p t):=⟨(hg.block _ (gl H1.out.2.1) (fun e=>by have:=Option.some.inj e;have:=H1.out.2.2.2;omega)).trans H1.out.2.1,H1.out.2.2.1.grown hg H1.out.2.2.1.size (fun k hk=>by cases hk;have:=H1.out.2.2.2;omega),hT.base H1.out.2.2.1.size,hD.low H1.out.2.2.1.size⟩;clear hsm hpp hT hD hg H1;obtain ⟨gt,ct,hvt⟩:∃ gt ct,v=.slice gt ps.length ct:=(by obtain ⟨a,c,e,-⟩:=H2.out.2.2.1.read.q.1;exact ⟨a,c,e⟩:∃ gt ct,v=.slice gt ps.length ct);subst hvt;go_wp2_with (refine w_st w.heap.size (zA p t) H2.out.1 (zJ H2.out.2.2.2.1) ?_;intro z hg hk hz;have HZ:Hid (Bx z w.heap.size (zA p t) 35/\Below w.heap.size w z/\xH z w.heap.size (.slice gt ps.length ct) ps/\zO w.heap.size z.heap.size z p t):=⟨hk,H2.out.2.1.grown hg H2.out.2.1.size (fun k hk=>by cases hk;omega),H2.out.2.2.1.boxed H2.out.1 hg,(H2.out.2.2.2.boxed H2.out.1 hg).wide hg.size (nl _)⟩;clear hg hk hz H2)
 refine bodyPost_ret (v:=.tuple #[.slice gt ps.length ct,.agg (zA p t)]) (qF Tryz.results23 _ _ w.heap.size 35 _ (0,0) _ _ rfl rfl HZ.out.1 Tryz.underlying35 rfl (by kernel_rfl)) rfl ?_;exact ⟨ps,_,p,t,rfl,HT.out,HP.out,HZ.out.2.2.1,HZ.out.2.2.2,HZ.out.2.1⟩
structure TmB (w y:World) (B M lo:Nat) (ao:Option Addr) (len cap b off:Nat) (p:PE) (t:PV):Prop where
 st:St y B ao len cap b off
 below:Below w.heap.size w y
 zero:Bx y w.heap.size zF 35
 box:Bx y M (zA p t) 35
 own:zO lo y.heap.size y p t
 lt:w.heap.size < B/\B < lo/\lo<=M/\(0 < len->b < w.heap.size)
theorem TmB.draw {w y x:World} {B M lo:Nat} {ao:Option Addr} {len cap b off:Nat} {p:PE} {t:PV} (h:TmB w y B M lo ao len cap b off p t) (hs:St x B ao len cap b off) (hg:y.grownBy x (some B)):TmB w x B M lo ao len cap b off p t:=by
 have:=h.lt;exact ⟨hs,h.below.grown hg h.below.size (fun k hk=>by cases hk;omega),(hg.block _ (gl h.zero) (fun e=>by have:=Option.some.inj e;omega)).trans h.zero,(hg.block _ (gl h.box) (fun e=>by have:=Option.some.inj e;omega)).trans h.box,(h.own.far hg (Or.inl (by omega))).wide hg.size (nl _),h.lt⟩
theorem TmB.put {w y x:World} {B M lo:Nat} {ao:Option Addr} {len cap b off:Nat} {p:PE} {t:PV} {v:Int} (h:TmB w y B M lo ao len cap b off p t) (hg:y.grownBy x (some M)) (hk:Bx x M (zA { p with view:=v } t) 35):TmB w x B M lo ao len cap b off { p with view:=v } t:=by
 have:=h.lt;exact ⟨h.st.other hg (by omega) (fun hl e=>by have:=h.lt.2.2.2 hl;omega),h.below.grown hg h.below.size (fun k hk=>by cases hk;omega),(hg.block _ (gl h.zero) (fun e=>by have:=Option.some.inj e;omega)).trans h.zero,hk,((h.own.boxed h.box hg).wide hg.size (nl _)).other rfl rfl rfl rfl rfl rfl,h.lt⟩
theorem drawTimed_any {w:World} {ao:Option Addr} {len cap b off:Nat} (hc:Code w ao len b off) :
  Calls Tryz.prog 18 #[.slice ao len cap] w fun e w'=>∃ p t n,e=.returned (.tuple #[yZ p t,.int .i64 n])/\smW p/\(0<=n/\n<=8)/\zO w.heap.size w'.heap.size w' p t/\Below w.heap.size w w':=by
 have HCL:Hid (0 < len->b < w.heap.size):=hc.lt;obtain ⟨W,hW⟩:∃ W,W=w.alloc (.cells zF 35):=⟨_,rfl⟩
 have HW:Hid (Code W ao len b off/\Bx W w.heap.size zF 35/\Below w.heap.size w W):=(by
  have hb:Below w.heap.size w W:=by rw [hW];exact yA _ _
  exact ⟨hc.below hb,by rw [hW];exact heap_alloc_new _ _,hb⟩:_/\_)
 clear hc;unfold zF at hW;go_enter Tryz.func18,Tryz.ntmps18;go_wp2_with (rw [<- hW];clear hW)
 refine (new_any HW.out.1).mono ?_;rintro e w1 ⟨B,rfl,hN,hS,hb⟩;have H1:Hid (St w1 B ao len cap b off/\Bx w1 w.heap.size zF 35/\Below w.heap.size w w1/\w.heap.size < B):=⟨hS,(hb.block _ (gl HW.out.2.1)).trans HW.out.2.1,bt HW.out.2.2 hb,Nat.lt_of_lt_of_le (gl HW.out.2.1) hN⟩;clear hN hS hb HW;obtain ⟨YA,hYA⟩:∃ YA,YA=w1.alloc (.cells #[.int .i64 4,.int .i64 4,.int .i64 4,.int .i64 0,.int .i64 8] 3):=⟨_,rfl⟩
 have HYA:Hid (St YA B ao len cap b off/\Bx YA w.heap.size zF 35/\Below w.heap.size w YA/\Bx YA w1.heap.size #[.int .i64 4,.int .i64 4,.int .i64 4,.int .i64 0,.int .i64 8] 3/\w1.heap.size ≠ B):=(by
  have hb:Below w1.heap.size w1 YA:=by rw [hYA];exact yA _ _
  refine ⟨H1.out.1.below hb,(hb.block _ (gl H1.out.2.1)).trans H1.out.2.1,bt H1.out.2.2.1 hb,by rw [hYA];exact heap_alloc_new _ _,?_⟩;have:=H1.out.1.cur.lt
  omega:_/\_)
 go_wp2_with (rw [<- hYA];clear hYA)
 refine (pickL_st (L:=w1.heap.size) [4,4,4,0,8] (by decide) (by decide) HYA.out.1 HYA.out.2.2.2.2 HYA.out.2.2.2.1).mono ?_;rintro e w2 ⟨n,hmem,rfl,hS,hg⟩
 have hn:0<=n/\n<=8:=by
  simp only [List.mem_cons,List.not_mem_nil,or_false] at hmem;omega
 have H2:Hid (St w2 B ao len cap b off/\Bx w2 w.heap.size zF 35/\Below w.heap.size w w2/\w.heap.size < B):=⟨hS,(hg.block _ (gl HYA.out.2.1) (fun e=>by have:=Option.some.inj e;have:=H1.out.2.2.2;omega)).trans HYA.out.2.1,HYA.out.2.2.1.grown hg HYA.out.2.2.1.size (fun k hk=>by cases hk;have:=H1.out.2.2.2;omega),H1.out.2.2.2⟩;clear hmem hS hg HYA H1;go_wp2_with fail
 refine (any9_st H2.out.1).mono ?_;rintro e w3 ⟨ps,v,p,t,rfl,-,hpp,hT,hD,hS,hg⟩;have HP:=hid hpp;have H3:Hid (St w3 B ao len cap b off/\Bx w3 w.heap.size zF 35/\Below w.heap.size w w3/\zO w2.heap.size w3.heap.size w3 p t/\w.heap.size < B/\B < w2.heap.size):=⟨hS,(hg.block _ (gl H2.out.2.1) (fun e=>by have:=Option.some.inj e;have:=H2.out.2.2.2;omega)).trans H2.out.2.1,H2.out.2.2.1.grown hg H2.out.2.2.1.size (fun k hk=>by cases hk;have:=H2.out.2.2.2;omega),hD,H2.out.2.2.2,H2.out.1.cur.lt⟩;have HSZ:Hid (w2.heap.size<=w3.heap.size):=hg.size;obtain ⟨gt,ct,hvt⟩:∃ gt ct,v=.slice gt ps.length ct:=(by obtain ⟨a,c,e,-⟩:=hT.read.q.1;exact ⟨a,c,e⟩:∃ gt ct,v=.slice gt ps.length ct);subst hvt;clear hpp hT hD hS hg H2
 go_wp2_with (first
  | (refine w_st w3.heap.size (zA p t) (heap_alloc_new w3 _) (zJ H3.out.2.2.2.1.1) ?_;intro w4 hg hk hz;have hb4:Below w3.heap.size w3 w4:=yB hg;have H4:Hid (TmB w w4 B w3.heap.size w2.heap.size ao len cap b off p t):=⟨H3.out.1.below hb4,bt H3.out.2.2.1 hb4,(hb4.block _ (gl H3.out.2.1)).trans H3.out.2.1,hk,(H3.out.2.2.2.1.below hb4).wide hb4.size (nl _),H3.out.2.2.2.2.1,H3.out.2.2.2.2.2,HSZ.out,HCL.out⟩;clear hg hk hz hb4))
 obtain ⟨M,hM⟩:∃ M,M=w3.heap.size:=⟨_,rfl⟩;obtain ⟨lo,hlo⟩:∃ lo,lo=w2.heap.size:=⟨_,rfl⟩;rw [<- hM,<- hlo] at H4;rw [<- hM];clear hM hlo H3 HSZ;refine (once_st 8 (by decide) (by decide) H4.out.st).mono ?_;rintro e w5 ⟨o8,rfl,hS,hg⟩;have H5:=hid (H4.out.draw hS hg);clear hS hg H4
 cases o8 with
 | true=>
  go_wp2_with fail
  refine (xO 3 (by omega) (by omega) H5.out.st).mono ?_;rintro e w6 ⟨x3,rfl,hx0,hx1,hS,hg⟩;have H6:=hid (H5.out.draw hS hg);have hwr:IntKind.i64.wrap (899+x3)=899+x3:=(by rw [IntKind.wrap_i64];omega);have HPV:Hid (smW { p with view:=899+x3 }):=HP.out.view (wf_in (by omega));clear hS hg H5
  go_wp2_with (first
   | (refine zU rfl _ _ _ rfl M 1 (.int .i64 (899+x3)) rfl rfl _ _ H6.out.box (by kernel_rfl) (by simp [zA]) rfl (zA { p with view:=899+x3 } t) rfl ?_;intro w7 hg hk;have H7:=hid (H6.out.put hg hk);clear hg hk H6)
   | (refine w_ld M H7.out.box Tryz.underlying35 ?_)
   | (refine w_st w.heap.size (zA { p with view:=899+x3 } t) H7.out.zero (zJ H7.out.own.1) ?_;intro z hg hk hz;have HZ:Hid (Bx z w.heap.size (zA { p with view:=899+x3 } t) 35/\Below w.heap.size w z/\zO w.heap.size z.heap.size z { p with view:=899+x3 } t):=⟨hk,H7.out.below.grown hg H7.out.below.size (fun k hk=>by cases hk;omega),((H7.out.own.boxed H7.out.zero hg).wide hg.size (nl _)).low (by have:=H7.out.lt;omega)⟩;clear hg hk hz H7))
  refine bodyPost_ret (v:=.tuple #[.agg (zA { p with view:=899+x3 } t),.int .i64 n]) (qE Tryz.results18 _ _ w.heap.size 35 _ (0,0) _ _ rfl HZ.out.1 Tryz.underlying35 rfl (by kernel_rfl) rfl) rfl ?_;exact ⟨_,t,n,rfl,HPV.out,hn,HZ.out.2.2,HZ.out.2.1⟩
 | false=>
  go_wp2_with (first
   | (refine w_ld M H5.out.box Tryz.underlying35 ?_)
   | (refine w_st w.heap.size (zA p t) H5.out.zero (zJ H5.out.own.1) ?_;intro z hg hk hz;have HZ:Hid (Bx z w.heap.size (zA p t) 35/\Below w.heap.size w z/\zO w.heap.size z.heap.size z p t):=⟨hk,H5.out.below.grown hg H5.out.below.size (fun k hk=>by cases hk;omega),((H5.out.own.boxed H5.out.zero hg).wide hg.size (nl _)).low (by have:=H5.out.lt;omega)⟩;clear hg hk hz H5))
  refine bodyPost_ret (v:=.tuple #[.agg (zA p t),.int .i64 n]) (qE Tryz.results18 _ _ w.heap.size 35 _ (0,0) _ _ rfl HZ.out.1 Tryz.underlying35 rfl (by kernel_rfl) rfl) rfl ?_;exact ⟨p,t,n,rfl,HP.out,hn,HZ.out.2.2,HZ.out.2.1⟩
theorem drawFar_any {w:World} {ao:Option Addr} {len cap b off:Nat} (hc:Code w ao len b off) :
  Calls Tryz.prog 21 #[.slice ao len cap] w fun e w'=>∃ ps a cp,e=.returned (.slice a ps.length cp)/\PeersR w' (.slice a ps.length cp) ps/\(ps.length:Int)<=1048576/\(∀ x∈ps,0<=x.1.view)/\Below w.heap.size w w':=by
 have HC:=hid hc;clear hc;go_enter Tryz.func21,Tryz.ntmps21;go_wp2_with fail
 refine (new_any HC.out).mono ?_;rintro e w1 ⟨B,rfl,hN,hS,hb⟩;have H1:Hid (St w1 B ao len cap b off/\Below w.heap.size w w1/\w.heap.size<=B):=⟨hS,hb,hN⟩;clear hN hS hb HC;go_wp2_with fail
 refine (ran_st 20 (by decide) (by decide) H1.out.1).mono ?_;rintro r w2 ⟨c,s,rfl,hlf,ho,-,hg⟩;obtain ⟨a,cp,hpv,-⟩:=ho.peers.reads.row;have HPV:Hid (s.peersV=.slice a s.peers.length cp):=hpv;have H2:Hid (Below w.heap.size w w2/\xG w1.heap.size w2.heap.size w2 c s/\LifeW 24 c):=⟨H1.out.2.1.grown hg H1.out.2.1.size (fun k hk=>by cases hk;exact H1.out.2.2),ho,hlf⟩;clear hlf ho hg hpv H1;go_wp2_with (refine w_st w2.heap.size (zR c s) (heap_alloc_new w2 _) (clusA_one H2.out.2.1) ?_;intro w3 hg hk hz;have hb3:Below w2.heap.size w2 w3:=yB hg;have H3:Hid (Below w.heap.size w w3/\xG w1.heap.size w2.heap.size w3 c s/\LifeW 24 c):=⟨bt H2.out.1 hb3,H2.out.2.1.below hb3,H2.out.2.2⟩;have c4:=zB hk 4 (.slice a s.peers.length cp) (by simp [zR,HPV.out]);clear hg hk hz hb3 H2)
 go_ret;refine ⟨s.peers,a,cp,rfl,HPV.out ▸ H3.out.2.1.peers.reads,?_,fun x hx=>?_,H3.out.1⟩
 ·have h4:=H3.out.2.2.lpeers;rw [<- H3.out.2.1.epeers,yCI] at h4;omega
 ·have hm:x.1∈c.peers:=by rw [<- H3.out.2.1.epeers];exact List.mem_map.2 ⟨x,hx,rfl⟩
  exact (H3.out.2.2.peers _ hm).view.1
end Go.Proofs.YtdopefimjabigadGreat
namespace Go.Proofs.YtdopefimjabigadGreat
open Go.Shelf Go.RowKit
def lays316_ren:Go.Shelf.Ren:=⟨fun | 316=>153 | n=>n,fun | 9=>9 | 3=>3 | 4=>4 | 37=>22 | 0=>0 | 127=>236 | 5=>5 | n=>n,fun | n=>n⟩
theorem lays316:Go.Proofs.LaysM.n316 Tryz.prog lays316_ren:={
 mixed:=by kernel_rfl
 f316:=Tryz.func153.trans (congrArg some (by kernel_rfl))
 t0:=Tryz.underlying0
 a0:=Tryz.isAgg0
 z0:=Tryz.sizeOf0
 v0:=Tryz.zeroValue0
 t3:=Tryz.underlying3
 a3:=Tryz.isAgg3
 z3:=Tryz.sizeOf3
 v3:=Tryz.zeroValue3
 t4:=Tryz.underlying4
 a4:=Tryz.isAgg4
 z4:=Tryz.sizeOf4
 v4:=Tryz.zeroValue4
 t9:=Tryz.underlying9
 a9:=Tryz.isAgg9
 z9:=Tryz.sizeOf9
 v9:=Tryz.zeroValue9
 t37:=Tryz.underlying22
 a37:=Tryz.isAgg22
 z37:=Tryz.sizeOf22
 v37:=Tryz.zeroValue22
 t127:=Tryz.underlying236
 a127:=Tryz.isAgg236
 z127:=Tryz.sizeOf236
 v127:=Tryz.zeroValue236
 t5:=Tryz.underlying5
 a5:=Tryz.isAgg5
 z5:=Tryz.sizeOf5
 v5:=Tryz.zeroValue5
 i0:=by kernel_rfl
 i3:=by kernel_rfl
 i4:=by kernel_rfl
 i5:=by kernel_rfl
 i9:=by kernel_rfl
 i37:=by kernel_rfl
 i127:=by kernel_rfl }
theorem slclone (s:ByteArray) (w:World) (hlim:s.size<=281474976710656) :
  Calls Tryz.prog 153 #[.string s] w fun e w'=>e=.returned (.string s)/\Below w.heap.size w w':=Any.stringslite_Clone lays316 s w hlim
theorem clone (s:ByteArray) (w:World) (hlim:s.size<=281474976710656) :
  Calls Tryz.prog 107 #[.string s] w fun e w'=>e=.returned (.string s)/\Below w.heap.size w w':=by
 go_enter Tryz.func107,Tryz.ntmps107;go_wp2_with (go_at_call 153;refine (slclone _ _ hlim).mono ?_;rintro e w' ⟨rfl,hb⟩)
 go_ret;exact ⟨rfl,hb⟩
end Go.Proofs.YtdopefimjabigadGreat
namespace Go.Proofs.YtdopefimjabigadGreat
open Go.RowKit Num
theorem newsC (W:World) (k:ByteArray) (n:Int) (t:TypeId):∀ j u,([.string k,.int .i64 n]:List Value)[j]?=some u->(W.alloc (.cells #[.string k,.int .i64 n] t)).cell? ((⟨W.heap.size,0,none⟩:Addr).add j)=some u:=by
 intro j u hj
 match j,hj with
 | 0,hj=>simp at hj;subst hj;simp [Addr.add]
 | 1,hj=>simp at hj;subst hj;simp [Addr.add]
theorem onesC (k:ByteArray) (n:Int):∀ u∈([.string k,.int .i64 n]:List Value),u.oneCell'=true:=by
 intro u hu;simp at hu;rcases hu with h | h <;> subst h <;> rfl
theorem take_snoc' {cs:CL} {k:Nat} (h:k < cs.length):cs.take (k+1)=cs.take k ++ [cs[k]]:=by
 rw [List.take_add_one,List.getElem?_eq_getElem h];rfl
theorem copy_i (cs:CL) (v:Value) (w:World) (hv:qQ w v cs) (hl:(cs.length:Int)<=1048576) (hall:∀ c∈cs,(c.1.size:Int)<=1048576) :
  Calls Tryz.prog 69 #[v] w fun e w'=>∃ v',e=.returned v'/\w'.ownsRow w.heap.size 108 2 v' cs.length (kM cs)/\Below w.heap.size w w':=by
 have HZ:=hid hall;obtain ⟨a,cap,rfl,hr⟩:=hv;have HR:=hid hr;obtain ⟨i0,hi,hz0,hz1,hz2⟩:=info_parts infoC;clear hall hr;go_enter Tryz.func69,Tryz.ntmps69;go_wp2_with (at_make;refine wpList_make_own _ rfl _ _ 30 rfl w.heap.size 108 i0 _ 2 Tryz.underlying30 hi hz0 hz1 _ _ _ cs.length rfl rfl rfl (by rw [hz2];omega) (by unfold maxLen;omega) (nl _) ?_;intro w0 hown0 hgrow0)
 have B0:Below w.heap.size w w0:=(br _ _).grown hgrow0 (nl _) (fun k h=>by cases h);have HO0:Hid (w0.ownsRow w.heap.size 108 2 (.slice (some ⟨w.heap.size,0,none⟩) 0 cs.length) 0 []):=hown0;have HB0:Hid (Below w.heap.size w w0):=B0;clear hown0 hgrow0 B0
 go_loopw [3,11] (fun o i wr=>∃ k:Nat,k<=cs.length/\i=.int .i64 (k:Int)/\wr.ownsRow w.heap.size 108 2 o k (kM (cs.take k))/\Below w.heap.size w wr) (fun _ i _=>cs.length - (intOf i).toNat)
 case atStart=>exact ⟨0,Nat.zero_le _,rfl,HO0.out,HB0.out⟩
 case round=>
  obtain ⟨k,hk,rfl,hown,hbel⟩:=hrel;have HO:Hid (wr.ownsRow w.heap.size 108 2 u3 k (kM (cs.take k))):=hown;have HB:Hid (Below w.heap.size w wr):=hbel;have hbs:=hbel.size;clear hown hbel
  by_cases hlt:(k:Int) < cs.length
  ·have hkn:k < cs.length:=by omega
   obtain ⟨g,off,rfl,hg,hc⟩:=HR.out (by omega);have q0:(0:Int)<=(k:Int):=by omega
   have c0:wr.cell? ⟨g,off+k * 2,none⟩=some (.string cs[k].1):=by rw [HB.out.cell (by exact hg)];exact (hc k hkn).1
   have c1:wr.cell? ⟨g,off+k * 2+1,none⟩=some (.int .i64 cs[k].2):=by rw [HB.out.cell (by exact hg)];exact (hc k hkn).2
   have hlim:cs[k].1.size<=281474976710656:=by have:=HZ.out cs[k] (List.getElem_mem hkn);omega
   obtain ⟨ws,hws⟩:∃ ws,ws=wr.alloc (Obj.cells #[Value.string cs[k].1,Value.int IntKind.i64 cs[k].2] 108):=⟨_,rfl⟩;have hwss:ws.heap.size=wr.heap.size+1:=by rw [hws];simp
   have HS:Hid (∀ w',Below ws.heap.size ws w'->w'.cell? ⟨wr.heap.size,0,none⟩=some (.string cs[k].1)/\w'.cell? ⟨wr.heap.size,1,none⟩=some (.int .i64 cs[k].2)):=fun w' hb=>by
    constructor <;> rw [hb.cell (by simp [hwss]),hws] <;> simp
   have HWS:Hid (ws=wr.alloc (Obj.cells #[Value.string cs[k].1,Value.int IntKind.i64 cs[k].2] 108)):=hws;have BS:Hid (Below wr.heap.size wr ws):=by rw [hws];exact ba (br _ _) _
   have HOS:Hid (ws.ownsRow w.heap.size 108 2 u3 k (kM (cs.take k))):=zS HO.out BS.out;clear hc;go_wp2;rw [<- hws];clear hws
   go_region_held3 (fun w'=>w'.cell? ⟨wr.heap.size,0,none⟩=some (.string cs[k].1)/\w'.cell? ⟨wr.heap.size,1,none⟩=some (.int .i64 cs[k].2)) (first | exact HS.out _ (br _ _).drew | exact HS.out _ hbc | exact HS.out _ (ba hbc _) | exact hs3) (first | (refine step_append_lies _ (by rfl) (.tmp 15) (.tmp 22) 30 (by rfl) w.heap.size 108 i0 _ 2 24 Tryz.underlying30 hi hz0 hz1 hz2 rfl (by decide) _ _ _ (by rfl) (World.ownsRow.alloc HO2.out _) ⟨World.heap _ |>.size,0,none⟩ 1 1 [.string cs[k].1,.int .i64 cs[k].2] (by rfl) rfl (newsC _ _ _ _) (onesC _ _) (by decide) (by unfold maxLen;omega) (by omega) (by simp;omega) _ rfl ?_;intro g2 cap2 w3 hown3 hgrow3 hx1 hx2;clear hx1 hx2;have hb3:Below w.heap.size w w3:=(ba (bt (bt HB.out BS.out) hbc) _).grown hgrow3 (by simp;omega) (fun x hx=>(HO2.out.lt x hx).1);have hs3:w3.cell? ⟨wr.heap.size,0,none⟩=some (.string cs[k].1)/\w3.cell? ⟨wr.heap.size,1,none⟩=some (.int .i64 cs[k].2):=(by have h2:=HS.out _ (ba hbc (Obj.cells #[Value.string cs[k].1,Value.int IntKind.i64 cs[k].2] 108));rw [<- h2.1,<- h2.2];exact ⟨yAD hgrow3 (by simp;omega) (fun e=>by have:=(HO.out.lt _ e).2;omega),yAD hgrow3 (by simp;omega) (fun e=>by have:=(HO.out.lt _ e).2;omega)⟩)) | (go_at_call 107;refine (clone _ _ hlim).mono ?_;rintro e w2 ⟨rfl,hb2⟩;have hbc:Below ws.heap.size ws w2:=(br _ _).drew.trans hb2;have HO2:Hid (w2.ownsRow w.heap.size 108 2 u3 k (kM (cs.take k))):=zS HOS.out hbc;have hbs2:=hbc.size))
   all_goals
    have HO3:Hid (w3.ownsRow w.heap.size 108 2 (.slice (some ⟨g2,0,none⟩) (k+1) cap2) (k+1) (kM (cs.take k) ++ [.string cs[k].1,.int .i64 cs[k].2])):=hown3;clear hown3 hgrow3 hs3;go_wp2
    go_roundw
    case rel=>exact ⟨k+1,by omega,by go_num,by rw [take_snoc' hkn,flat_append];exact HO3.out,hb3⟩
    case measure=>simp [intOf];omega
  ·have hkl:k=cs.length:=by omega
   have HK:Hid (k=cs.length):=hkl;clear hkl;go_wp2;go_ret;have:=HO.out;rw [HK.out,List.take_length] at this;exact ⟨_,rfl,this,HB.out⟩
end Go.Proofs.YtdopefimjabigadGreat
