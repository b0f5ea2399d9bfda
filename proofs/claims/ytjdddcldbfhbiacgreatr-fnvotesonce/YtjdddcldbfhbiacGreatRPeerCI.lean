/-
  A text of ours: PeerCI.
-/
import Derived.Test.YtjdddcldbfhbiacGreatRK1
import Derived.Test.YtjdddcldbfhbiacGreatRPeerC
import Derived.Test.YtjdddcldbfhbiacGreatRK11
import Derived.Deep.RegionHeld3
import Derived.Deep.AppendLies
set_option maxRecDepth 100000
set_option maxHeartbeats 32000000
namespace Go.Proofs.YtjdddcldbfhbiacGreatR
open Go.RowKit Num
theorem takeU_snoc {α:Type} {l:List α} {k:Nat} (h:k < l.length):l.take (k+1)=l.take k ++ [l[k]]:=by
 rw [List.take_succ_eq_append_getElem h]
theorem newsPC (W:World) (u:UN) (t:TypeId):∀ j x,(kK u)[j]?=some x->(W.alloc (.cells #[.string u.1,.bool u.2.1,.int .i64 u.2.2] t)).cell? ((⟨W.heap.size,0,none⟩:Addr).add j)=some x:=by
 intro j u hj
 have hp:(⟨W.heap.size,0,none⟩:Addr).add j=⟨W.heap.size,j,none⟩:=by unfold Addr.add;split <;> simp_all
 rw [hp,cell_of_row _ W.heap.size j _ _ (0,0) (heap_alloc_new W _),<- hj]
 simp [kK]
theorem none_below {w x:World} (hg:w.grownBy x none):Below w.heap.size w x:=(br _ _).grown hg (nl _) (fun k hk=>by cases hk)
theorem newInts_i (l:List Int) (v:Value) (w:World) (h:yM w v 1 xJ l) (hl:(l.length:Int)<=1048576) :
  Calls Tryz.prog 83 #[v] w fun e w'=>∃ v',e=.returned v'/\w'.ownsRow w.heap.size 3 1 v' l.length (zE xJ l)/\Below w.heap.size w w':=by
 have HR:=hid h
 obtain ⟨i0,hi,hz0,hz1,hz2⟩:=info_parts infoIntL
 clear h
 go_enter Tryz.func83,Tryz.ntmps83
 go_wp2_with (at_builtin;refine yU _ rfl _ _ 29 rfl w.heap.size 3 i0 _ 8 Tryz.underlying29 hi hz0 hz1 hz2 rfl (by decide) jG intF_one_a _ [] rfl (World.ownsRow_nil _ _ _ _) _ l rfl HR.out (by simp;unfold maxLen;omega) (by simp;omega) (nl _) ?_;intro v1 x1 ho hg;have HO:Hid (x1.ownsRow w.heap.size 3 1 v1 l.length (zE xJ l)):=ho;have HB:Hid (Below w.heap.size w x1):=none_below hg;clear ho hg)
 go_ret
 exact ⟨_,rfl,HO.out,HB.out⟩
theorem newVotes_i (l:List VT) (v:Value) (w:World) (h:yM w v 4 xD l) (hl:(l.length:Int)<=1048576) :
  Calls Tryz.prog 86 #[v] w fun e w'=>∃ v',e=.returned v'/\w'.ownsRow w.heap.size 28 4 v' l.length (zE xD l)/\Below w.heap.size w w':=by
 have HR:=hid h
 obtain ⟨i0,hi,hz0,hz1,hz2⟩:=info_parts infoVote
 clear h
 go_enter Tryz.func86,Tryz.ntmps86
 go_wp2_with (at_builtin;refine yU _ rfl _ _ 32 rfl w.heap.size 28 i0 _ 32 Tryz.underlying32 hi hz0 hz1 hz2 rfl (by decide) kW kP _ [] rfl (World.ownsRow_nil _ _ _ _) _ l rfl HR.out (by simp;unfold maxLen;omega) (by simp;omega) (nl _) ?_;intro v1 x1 ho hg;have HO:Hid (x1.ownsRow w.heap.size 28 4 v1 l.length (zE xD l)):=ho;have HB:Hid (Below w.heap.size w x1):=none_below hg;clear ho hg)
 go_ret
 exact ⟨_,rfl,HO.out,HB.out⟩
theorem newLetters_i (l:List LT) (v:Value) (w:World) (h:yM w v 13 yE l) (hl:(l.length:Int)<=1048576) :
  Calls Tryz.prog 87 #[v] w fun e w'=>∃ v',e=.returned v'/\w'.ownsRow w.heap.size 61 13 v' l.length (zE yE l)/\Below w.heap.size w w':=by
 have HR:=hid h
 obtain ⟨i0,hi,hz0,hz1,hz2⟩:=info_parts zBJ
 clear h
 go_enter Tryz.func87,Tryz.ntmps87
 go_wp2_with (at_builtin;refine yU _ rfl _ _ 33 rfl w.heap.size 61 i0 _ 104 Tryz.underlying33 hi hz0 hz1 hz2 rfl (by decide) xP kF _ [] rfl (World.ownsRow_nil _ _ _ _) _ l rfl HR.out (by simp;unfold maxLen;omega) (by simp;omega) (nl _) ?_;intro v1 x1 ho hg;have HO:Hid (x1.ownsRow w.heap.size 61 13 v1 l.length (zE yE l)):=ho;have HB:Hid (Below w.heap.size w x1):=none_below hg;clear ho hg)
 go_ret
 exact ⟨_,rfl,HO.out,HB.out⟩
theorem copyUndos_i (l:List UN) (cv:Value) (w:World) (h:yM w cv 3 kK l) (hl:(l.length:Int)<=1048576) (hs:∀ c∈l,(c.1.size:Int)<=1048576) :
  Calls Tryz.prog 85 #[cv] w fun e w'=>∃ v',e=.returned v'/\w'.ownsRow w.heap.size 95 3 v' l.length (zE kK l)/\Below w.heap.size w w':=by
 obtain ⟨a,cap,rfl,hr⟩:=h
 have HR:=hid hr
 have HZ:=hid hs
 obtain ⟨i0,hi,hz0,hz1,hz2⟩:=info_parts infoUndo
 clear hr hs
 go_enter Tryz.func85,Tryz.ntmps85
 go_wp2
 go_loopw [3,8] (fun o i wr=>∃ k:Nat,k<=l.length/\i=.int .i64 (k:Int)/\wr.ownsRow w.heap.size 95 3 o k (zE kK (l.take k))/\Below w.heap.size w wr) (fun _ i _=>l.length - (intOf i).toNat)
 case atStart=>exact ⟨0,Nat.zero_le _,rfl,World.ownsRow_nil _ _ _ _,br _ _⟩
 case round=>
  obtain ⟨k,hk,rfl,hown,hbel⟩:=hrel
  have HO:Hid (wr.ownsRow w.heap.size 95 3 u3 k (zE kK (l.take k))):=hown
  have HB:Hid (Below w.heap.size w wr):=hbel
  have hbs:=hbel.size
  clear hown hbel
  by_cases hlt:(k:Int) < l.length
  ·have hkn:k < l.length:=by omega
   obtain ⟨g,off,rfl,hg,hc⟩:=HR.out (by omega)
   have q0:(0:Int)<=(k:Int):=by omega
   have c0:wr.cell? ⟨g,off+k * 3,none⟩=some (.string l[k].1):=by rw [HB.out.cell (by exact hg)];exact hc k hkn 0 (by omega)
   have c1:wr.cell? ⟨g,off+k * 3+1,none⟩=some (.bool l[k].2.1):=by rw [HB.out.cell (by exact hg)];exact hc k hkn 1 (by omega)
   have c2:wr.cell? ⟨g,off+k * 3+2,none⟩=some (.int .i64 l[k].2.2):=by rw [HB.out.cell (by exact hg)];exact hc k hkn 2 (by omega)
   have hlim:l[k].1.size<=281474976710656:=by have:=HZ.out l[k] (List.getElem_mem hkn);omega
   obtain ⟨ws,hws⟩:∃ ws,ws=wr.alloc (Obj.cells #[Value.string l[k].1,Value.bool l[k].2.1,Value.int IntKind.i64 l[k].2.2] 95):=⟨_,rfl⟩
   have hwss:ws.heap.size=wr.heap.size+1:=by rw [hws];simp
   have HS:Hid (∀ w',Below ws.heap.size ws w'->w'.cell? ⟨wr.heap.size,0,none⟩=some (.string l[k].1)/\w'.cell? ⟨wr.heap.size,1,none⟩=some (.bool l[k].2.1)/\w'.cell? ⟨wr.heap.size,2,none⟩=some (.int .i64 l[k].2.2)):=fun w' hb=>by
    refine ⟨?_,?_,?_⟩ <;> rw [hb.cell (by simp [hwss]),hws] <;> simp
   have BS:Hid (Below wr.heap.size wr ws):=by rw [hws];exact ba (br _ _) _
   have HOS:Hid (ws.ownsRow w.heap.size 95 3 u3 k (zE kK (l.take k))):=zS HO.out BS.out
   clear hc
   go_wp2
   rw [<- hws]
   clear hws
   go_region_held3 (fun w'=>w'.cell? ⟨wr.heap.size,0,none⟩=some (.string l[k].1)/\w'.cell? ⟨wr.heap.size,1,none⟩=some (.bool l[k].2.1)/\w'.cell? ⟨wr.heap.size,2,none⟩=some (.int .i64 l[k].2.2)) (first | exact HS.out _ (br _ _).drew | exact HS.out _ hbc | exact HS.out _ (ba hbc _) | exact hs3) (first | (refine step_append_lies _ (by rfl) (.tmp 12) (.tmp 21) 31 (by rfl) w.heap.size 95 i0 _ 3 32 Tryz.underlying31 hi hz0 hz1 hz2 rfl (by decide) _ _ _ (by rfl) (World.ownsRow.alloc HO2.out _) ⟨World.heap _ |>.size,0,none⟩ 1 1 (kK l[k]) (by rfl) rfl (newsPC _ l[k] _) (undoF_one l[k]) (by decide) (by unfold maxLen;omega) (by omega) (by simp;omega) _ rfl ?_;intro g2 cap2 w3 hown3 hgrow3 hx1 hx2;clear hx1 hx2;have hb3:Below w.heap.size w w3:=(ba (bt (bt HB.out BS.out) hbc) _).grown hgrow3 (by simp;omega) (fun x hx=>(HO2.out.lt x hx).1);have hs3:w3.cell? ⟨wr.heap.size,0,none⟩=some (.string l[k].1)/\w3.cell? ⟨wr.heap.size,1,none⟩=some (.bool l[k].2.1)/\w3.cell? ⟨wr.heap.size,2,none⟩=some (.int .i64 l[k].2.2):=(by have h2:=HS.out _ (ba hbc (Obj.cells #[Value.string l[k].1,Value.bool l[k].2.1,Value.int IntKind.i64 l[k].2.2] 95));rw [<- h2.1,<- h2.2.1,<- h2.2.2];exact ⟨yAD hgrow3 (by simp;omega) (fun e=>by have:=(HO.out.lt _ e).2;omega),yAD hgrow3 (by simp;omega) (fun e=>by have:=(HO.out.lt _ e).2;omega),yAD hgrow3 (by simp;omega) (fun e=>by have:=(HO.out.lt _ e).2;omega)⟩)) | (go_at_call 125;refine (clone _ _ hlim).mono ?_;rintro e w2 ⟨rfl,hb2⟩;have hbc:Below ws.heap.size ws w2:=(br _ _).drew.trans hb2;have HO2:Hid (w2.ownsRow w.heap.size 95 3 u3 k (zE kK (l.take k))):=zS HOS.out hbc;have hbs2:=hbc.size))
   all_goals
    have HO3:Hid (w3.ownsRow w.heap.size 95 3 (.slice (some ⟨g2,0,none⟩) (k+1) cap2) (k+1) (zE kK (l.take k) ++ kK l[k])):=hown3
    clear hown3 hgrow3 hs3
    go_wp2
    go_roundw
    case rel=>exact ⟨k+1,by omega,by go_num,by rw [takeU_snoc hkn,zY,show zE kK [l[k]]=kK l[k] by simp [zE]];exact HO3.out,hb3⟩
    case measure=>simp [intOf];omega
  ·have hkl:k=l.length:=by omega
   have HK:Hid (k=l.length):=hkl
   clear hkl
   go_wp2
   go_ret
   have:=HO.out
   rw [HK.out,List.take_length] at this
   exact ⟨_,rfl,this,HB.out⟩
structure Bx2 (w y:World) (A Z:Array Value):Prop where
 below:Below w.heap.size w y
 box:Bx y w.heap.size A 35
 zero:Bx y (w.heap.size+1) Z 35
theorem Bx2.lt {w y:World} {A Z:Array Value} (h:Bx2 w y A Z):w.heap.size+1 < y.heap.size:=(gl h.zero)
theorem Bx2.more {w y x:World} {A Z:Array Value} (h:Bx2 w y A Z) (hb:Below y.heap.size y x):Bx2 w x A Z:=by
 have:=h.lt
 exact ⟨bt h.below hb,(hb.block _ (by omega)).trans h.box,(hb.block _ (by omega)).trans h.zero⟩
theorem Bx2.put {w y x:World} {A A' Z:Array Value} (h:Bx2 w y A Z) (hg:y.grownBy x (some w.heap.size)) (hk:Bx x w.heap.size A' 35):Bx2 w x A' Z:=by
 have:=h.lt
 exact ⟨h.below.grown hg h.below.size (fun k hk=>by cases hk;omega),hk,(hg.block _ (by omega) (fun e=>by have:=Option.some.inj e;omega)).trans h.zero⟩
theorem two_boxes (w:World) (A Z:Array Value):Bx2 w ((w.alloc (.cells A 35)).alloc (.cells Z 35)) A Z:=⟨ba (ba (br _ _) _) _,(qK w _ _).1,(qK w _ _).2⟩
def yED (p:PE):PE:={ p with row:=[],cells:=[],early:=[],undos:=[],votes:=[],news:=[] }
theorem copyPeer_i (p:PE) (s:PV) (w:World) (hR:jS w p s) (hs:yC p) :
  Calls Tryz.prog 45 #[yZ p s] w fun e w'=>∃ s',e=.returned (yZ p s')/\zO w.heap.size w'.heap.size w' p s'/\Below w.heap.size w w':=by
 have HR:=hid hR
 have HS:=hid hs
 have hz1:=hs.row
 have hz2:=hs.cells
 have hz3:=hs.early
 have hz4:=hs.undos
 have hz5:=hs.votes
 have hz6:=hs.news
 clear hR hs
 obtain ⟨W,hW⟩:∃ W,W=(w.alloc (.cells (zA p s) 35)).alloc (.cells zF 35):=⟨_,rfl⟩
 have HY0:Hid (Bx2 w W (zA p s) zF):=hid (by rw [hW];exact two_boxes w _ _)
 have HD0:Hid (zO w.heap.size W.heap.size W (yED p) zHD):=(nil_own w.heap.size W p.id).other rfl rfl rfl rfl rfl rfl
 unfold zF at hW
 go_enter Tryz.func45,Tryz.ntmps45
 go_wp2
 rw [<- hW]
 clear hW
 refine zT (fun i=>decide (i < 7)) (fun x=>Bx x w.heap.size (zA p (⟨s.row,s.cells,s.early,s.undos,s.votes,s.news⟩:PV)) 35) (by kernel_rfl) ?_
 show zX Tryz.prog _ _ _ _ _ (9+1) (Array.replicate 10 false) _ _
 have hS:Bx W.drew w.heap.size (zA p (⟨s.row,s.cells,s.early,s.undos,s.votes,s.news⟩:PV)) 35:=HY0.out.box
 refine zD 0 3 (.pointer (some ⟨w.heap.size,14,none⟩)) hS ?_
 refine zD 1 4 s.row hS ?_ (hy:=by intro x hx;have c:=zB hx 14 s.row rfl;go_simp;try with_reducible rfl)
 refine zD 3 6 (.pointer (some ⟨w.heap.size,16,none⟩)) hS ?_
 refine zD 4 7 s.early hS ?_ (hy:=by intro x hx;have c:=zB hx 16 s.early rfl;go_simp;try with_reducible rfl)
 refine kJ 2 5 83 #[s.row] ((newInts_i p.row s.row W.drew (HR.out.below (HY0.out.below.trans (br _ _).drew)).row hz1).mono ?_)
 rintro e x0a ⟨vrow,rfl,ho,hb0⟩
 have hb:Below W.heap.size W x0a:=((br _ _).drew).trans hb0
 have HY0a:Hid (Bx2 w x0a (zA p (⟨s.row,s.cells,s.early,s.undos,s.votes,s.news⟩:PV)) zF):=HY0.out.more hb
 have HO0a:Hid (x0a.ownsRow W.heap.size 3 1 vrow p.row.length (zE xJ p.row)):=ho
 have HD0a:Hid (zO w.heap.size x0a.heap.size x0a ({ yED p with row:=p.row }:PE) (⟨vrow,.slice none 0 0,.slice none 0 0,.slice none 0 0,.slice none 0 0,.slice none 0 0⟩:PV)):=(HD0.out.below hb).setRow (l:=p.row) hb.size (nl _) (zN ho HY0.out.below.size) (fun g e=>(ho.lt g e).2) (fun g e=>Or.inr (ho.lt g e).1)
 clear ho hb hb0 HY0 HD0 hS
 refine ⟨_,rfl,fun _=>HY0a.out.box,?_⟩
 simp only [pz]
 refine zD 6 9 (.pointer (some ⟨w.heap.size,14,none⟩)) HY0a.out.box ?_
 refine kJ 5 8 83 #[s.early] ((newInts_i p.early s.early x0a (HR.out.below HY0a.out.below).early hz3).mono ?_)
 rintro e x0b ⟨vearly,rfl,ho,hb⟩
 have HY0b:Hid (Bx2 w x0b (zA p (⟨s.row,s.cells,s.early,s.undos,s.votes,s.news⟩:PV)) zF):=HY0a.out.more hb
 have HO0b:Hid (x0b.ownsRow x0a.heap.size 3 1 vearly p.early.length (zE xJ p.early)):=ho
 have HO0c:Hid (x0b.ownsRow W.heap.size 3 1 vrow p.row.length (zE xJ p.row)):=zS HO0a.out hb
 have HD0b:Hid (zO w.heap.size x0b.heap.size x0b ({ yED p with row:=p.row,early:=p.early }:PE) (⟨vrow,.slice none 0 0,vearly,.slice none 0 0,.slice none 0 0,.slice none 0 0⟩:PV)):=(HD0a.out.below hb).setEarly (l:=p.early) hb.size (nl _) (zN ho HY0a.out.below.size) (fun g e=>(ho.lt g e).2) (fun g e=>Or.inr (ho.lt g e).1)
 clear ho hb HY0a HD0a HO0a
 refine ⟨_,rfl,fun _=>HY0b.out.box,?_⟩
 simp only [pz]
 refine kT (s:=7) (N:=w.heap.size) (o:=14) (u:=vrow) (old:=zA p (⟨s.row,s.cells,s.early,s.undos,s.votes,s.news⟩:PV)) (new:=zA p (⟨vrow,s.cells,s.early,s.undos,s.votes,s.news⟩:PV)) rfl rfl rfl rfl (by kernel_rfl) rfl rfl HY0b.out.box (by kernel_rfl) (by simp [zA]) (zDH HO0c.out) rfl ?_
 intro y0a hg hk
 have HY0c:Hid (Bx2 w y0a (zA p (⟨vrow,s.cells,s.early,s.undos,s.votes,s.news⟩:PV)) zF):=HY0b.out.put hg hk
 have HD0c:Hid (zO w.heap.size y0a.heap.size y0a ({ yED p with row:=p.row,early:=p.early }:PE) (⟨vrow,.slice none 0 0,vearly,.slice none 0 0,.slice none 0 0,.slice none 0 0⟩:PV)):=(HD0b.out.boxed HY0b.out.box hg).wide hg.size (nl _)
 clear hg hk HY0b HD0b
 refine ⟨fun h=>(by cases h),?_⟩
 refine xM (j:=8) (e':=some 10) (v:=.pointer (some ⟨w.heap.size,16,none⟩)) rfl rfl (by kernel_rfl) (by kernel_rfl) (by kernel_rfl) (by rfl) (fun _ _ _ h=>h) (Or.inl ⟨by rfl,?_⟩) ?_
 ·intro x hx
  go_simp
  try with_reducible rfl
 simp only [pz]
 refine kT (s:=9) (N:=w.heap.size) (o:=16) (u:=vearly) (old:=zA p (⟨vrow,s.cells,s.early,s.undos,s.votes,s.news⟩:PV)) (new:=zA p (⟨vrow,s.cells,vearly,s.undos,s.votes,s.news⟩:PV)) rfl rfl rfl rfl (by kernel_rfl) rfl rfl HY0c.out.box (by kernel_rfl) (by simp [zA]) (zDH HO0b.out) rfl ?_
 intro y0b hg hk
 have HY1:Hid (Bx2 w y0b (zA p (⟨vrow,s.cells,vearly,s.undos,s.votes,s.news⟩:PV)) zF):=HY0c.out.put hg hk
 have HD1:Hid (zO w.heap.size y0b.heap.size y0b ({ yED p with row:=p.row,early:=p.early }:PE) (⟨vrow,.slice none 0 0,vearly,.slice none 0 0,.slice none 0 0,.slice none 0 0⟩:PV)):=(HD0c.out.boxed HY0c.out.box hg).wide hg.size (nl _)
 clear hg hk HY0c HD0c HO0b HO0c
 refine ⟨fun h=>(by cases h),?_⟩
 refine zK (by kernel_rfl) ?_ _
 go_wp2
 refine zT (fun i=>decide (i < 7)) (fun x=>Bx x w.heap.size (zA p (⟨vrow,s.cells,vearly,s.undos,s.votes,s.news⟩:PV)) 35) (by kernel_rfl) ?_
 show zX Tryz.prog _ _ _ _ _ (9+1) (Array.replicate 10 false) _ _
 have hS:Bx y0b.drew w.heap.size (zA p (⟨vrow,s.cells,vearly,s.undos,s.votes,s.news⟩:PV)) 35:=HY1.out.box
 refine zD 0 11 (.pointer (some ⟨w.heap.size,15,none⟩)) hS ?_
 refine zD 1 12 s.cells hS ?_ (hy:=by intro x hx;have c:=zB hx 15 s.cells rfl;go_simp;try with_reducible rfl)
 refine zD 3 14 (.pointer (some ⟨w.heap.size,17,none⟩)) hS ?_
 refine zD 4 15 s.undos hS ?_ (hy:=by intro x hx;have c:=zB hx 17 s.undos rfl;go_simp;try with_reducible rfl)
 refine kJ 2 13 84 #[s.cells] ((copy_i p.cells s.cells y0b.drew (HR.out.below (HY1.out.below.trans (br _ _).drew)).cells hz2 HS.out.kcells).mono ?_)
 rintro e x1a ⟨vcells,rfl,ho,hb0⟩
 have hb:Below y0b.heap.size y0b x1a:=((br _ _).drew).trans hb0
 have HY1a:Hid (Bx2 w x1a (zA p (⟨vrow,s.cells,vearly,s.undos,s.votes,s.news⟩:PV)) zF):=HY1.out.more hb
 have HO1a:Hid (x1a.ownsRow y0b.heap.size 92 2 vcells p.cells.length (kM p.cells)):=ho
 have HD1a:Hid (zO w.heap.size x1a.heap.size x1a ({ yED p with row:=p.row,cells:=p.cells,early:=p.early }:PE) (⟨vrow,vcells,vearly,.slice none 0 0,.slice none 0 0,.slice none 0 0⟩:PV)):=(HD1.out.below hb).setCells (l:=p.cells) hb.size (nl _) (zN ho HY1.out.below.size) (fun g e=>(ho.lt g e).2) (fun g e=>Or.inr (ho.lt g e).1)
 clear ho hb hb0 HY1 HD1 hS
 refine ⟨_,rfl,fun _=>HY1a.out.box,?_⟩
 simp only [pz]
 refine zD 6 17 (.pointer (some ⟨w.heap.size,15,none⟩)) HY1a.out.box ?_
 refine kJ 5 16 85 #[s.undos] ((copyUndos_i p.undos s.undos x1a (HR.out.below HY1a.out.below).undos hz4 HS.out.kundos).mono ?_)
 rintro e x1b ⟨vundos,rfl,ho,hb⟩
 have HY1b:Hid (Bx2 w x1b (zA p (⟨vrow,s.cells,vearly,s.undos,s.votes,s.news⟩:PV)) zF):=HY1a.out.more hb
 have HO1b:Hid (x1b.ownsRow x1a.heap.size 95 3 vundos p.undos.length (zE kK p.undos)):=ho
 have HO1c:Hid (x1b.ownsRow y0b.heap.size 92 2 vcells p.cells.length (kM p.cells)):=zS HO1a.out hb
 have HD1b:Hid (zO w.heap.size x1b.heap.size x1b ({ yED p with row:=p.row,cells:=p.cells,early:=p.early,undos:=p.undos }:PE) (⟨vrow,vcells,vearly,vundos,.slice none 0 0,.slice none 0 0⟩:PV)):=(HD1a.out.below hb).setUndos (l:=p.undos) hb.size (nl _) (zN ho HY1a.out.below.size) (fun g e=>(ho.lt g e).2) (fun g e=>Or.inr (ho.lt g e).1)
 clear ho hb HY1a HD1a HO1a
 refine ⟨_,rfl,fun _=>HY1b.out.box,?_⟩
 simp only [pz]
 refine kT (s:=7) (N:=w.heap.size) (o:=15) (u:=vcells) (old:=zA p (⟨vrow,s.cells,vearly,s.undos,s.votes,s.news⟩:PV)) (new:=zA p (⟨vrow,vcells,vearly,s.undos,s.votes,s.news⟩:PV)) rfl rfl rfl rfl (by kernel_rfl) rfl rfl HY1b.out.box (by kernel_rfl) (by simp [zA]) (zDH HO1c.out) rfl ?_
 intro y1a hg hk
 have HY1c:Hid (Bx2 w y1a (zA p (⟨vrow,vcells,vearly,s.undos,s.votes,s.news⟩:PV)) zF):=HY1b.out.put hg hk
 have HD1c:Hid (zO w.heap.size y1a.heap.size y1a ({ yED p with row:=p.row,cells:=p.cells,early:=p.early,undos:=p.undos }:PE) (⟨vrow,vcells,vearly,vundos,.slice none 0 0,.slice none 0 0⟩:PV)):=(HD1b.out.boxed HY1b.out.box hg).wide hg.size (nl _)
 clear hg hk HY1b HD1b
 refine ⟨fun h=>(by cases h),?_⟩
 refine xM (j:=8) (e':=some 18) (v:=.pointer (some ⟨w.heap.size,17,none⟩)) rfl rfl (by kernel_rfl) (by kernel_rfl) (by kernel_rfl) (by rfl) (fun _ _ _ h=>h) (Or.inl ⟨by rfl,?_⟩) ?_
 ·intro x hx
  go_simp
  try with_reducible rfl
 simp only [pz]
 refine kT (s:=9) (N:=w.heap.size) (o:=17) (u:=vundos) (old:=zA p (⟨vrow,vcells,vearly,s.undos,s.votes,s.news⟩:PV)) (new:=zA p (⟨vrow,vcells,vearly,vundos,s.votes,s.news⟩:PV)) rfl rfl rfl rfl (by kernel_rfl) rfl rfl HY1c.out.box (by kernel_rfl) (by simp [zA]) (zDH HO1b.out) rfl ?_
 intro y1b hg hk
 have HY2:Hid (Bx2 w y1b (zA p (⟨vrow,vcells,vearly,vundos,s.votes,s.news⟩:PV)) zF):=HY1c.out.put hg hk
 have HD2:Hid (zO w.heap.size y1b.heap.size y1b ({ yED p with row:=p.row,cells:=p.cells,early:=p.early,undos:=p.undos }:PE) (⟨vrow,vcells,vearly,vundos,.slice none 0 0,.slice none 0 0⟩:PV)):=(HD1c.out.boxed HY1c.out.box hg).wide hg.size (nl _)
 clear hg hk HY1c HD1c HO1b HO1c
 refine ⟨fun h=>(by cases h),?_⟩
 refine zK (by kernel_rfl) ?_ _
 go_wp2
 refine zT (fun i=>decide (i < 7)) (fun x=>Bx x w.heap.size (zA p (⟨vrow,vcells,vearly,vundos,s.votes,s.news⟩:PV)) 35) (by kernel_rfl) ?_
 show zX Tryz.prog _ _ _ _ _ (9+1) (Array.replicate 10 false) _ _
 have hS:Bx y1b.drew w.heap.size (zA p (⟨vrow,vcells,vearly,vundos,s.votes,s.news⟩:PV)) 35:=HY2.out.box
 refine zD 0 19 (.pointer (some ⟨w.heap.size,18,none⟩)) hS ?_
 refine zD 1 20 s.votes hS ?_ (hy:=by intro x hx;have c:=zB hx 18 s.votes rfl;go_simp;try with_reducible rfl)
 refine zD 3 22 (.pointer (some ⟨w.heap.size,19,none⟩)) hS ?_
 refine zD 4 23 s.news hS ?_ (hy:=by intro x hx;have c:=zB hx 19 s.news rfl;go_simp;try with_reducible rfl)
 refine kJ 2 21 86 #[s.votes] ((newVotes_i p.votes s.votes y1b.drew (HR.out.below (HY2.out.below.trans (br _ _).drew)).votes hz5).mono ?_)
 rintro e x2a ⟨vvotes,rfl,ho,hb0⟩
 have hb:Below y1b.heap.size y1b x2a:=((br _ _).drew).trans hb0
 have HY2a:Hid (Bx2 w x2a (zA p (⟨vrow,vcells,vearly,vundos,s.votes,s.news⟩:PV)) zF):=HY2.out.more hb
 have HO2a:Hid (x2a.ownsRow y1b.heap.size 28 4 vvotes p.votes.length (zE xD p.votes)):=ho
 have HD2a:Hid (zO w.heap.size x2a.heap.size x2a ({ yED p with row:=p.row,cells:=p.cells,early:=p.early,undos:=p.undos,votes:=p.votes }:PE) (⟨vrow,vcells,vearly,vundos,vvotes,.slice none 0 0⟩:PV)):=(HD2.out.below hb).setVotes (l:=p.votes) hb.size (nl _) (zN ho HY2.out.below.size) (fun g e=>(ho.lt g e).2) (fun g e=>Or.inr (ho.lt g e).1)
 clear ho hb hb0 HY2 HD2 hS
 refine ⟨_,rfl,fun _=>HY2a.out.box,?_⟩
 simp only [pz]
 refine zD 6 25 (.pointer (some ⟨w.heap.size,18,none⟩)) HY2a.out.box ?_
 refine kJ 5 24 87 #[s.news] ((newLetters_i p.news s.news x2a (HR.out.below HY2a.out.below).news hz6).mono ?_)
 rintro e x2b ⟨vnews,rfl,ho,hb⟩
 have HY2b:Hid (Bx2 w x2b (zA p (⟨vrow,vcells,vearly,vundos,s.votes,s.news⟩:PV)) zF):=HY2a.out.more hb
 have HO2b:Hid (x2b.ownsRow x2a.heap.size 61 13 vnews p.news.length (zE yE p.news)):=ho
 have HO2c:Hid (x2b.ownsRow y1b.heap.size 28 4 vvotes p.votes.length (zE xD p.votes)):=zS HO2a.out hb
 have HD2b:Hid (zO w.heap.size x2b.heap.size x2b ({ yED p with row:=p.row,cells:=p.cells,early:=p.early,undos:=p.undos,votes:=p.votes,news:=p.news }:PE) (⟨vrow,vcells,vearly,vundos,vvotes,vnews⟩:PV)):=(HD2a.out.below hb).setNews (l:=p.news) hb.size (nl _) (zN ho HY2a.out.below.size) (fun g e=>(ho.lt g e).2) (fun g e=>Or.inr (ho.lt g e).1)
 clear ho hb HY2a HD2a HO2a
 refine ⟨_,rfl,fun _=>HY2b.out.box,?_⟩
 simp only [pz]
 refine kT (s:=7) (N:=w.heap.size) (o:=18) (u:=vvotes) (old:=zA p (⟨vrow,vcells,vearly,vundos,s.votes,s.news⟩:PV)) (new:=zA p (⟨vrow,vcells,vearly,vundos,vvotes,s.news⟩:PV)) rfl rfl rfl rfl (by kernel_rfl) rfl rfl HY2b.out.box (by kernel_rfl) (by simp [zA]) (zDH HO2c.out) rfl ?_
 intro y2a hg hk
 have HY2c:Hid (Bx2 w y2a (zA p (⟨vrow,vcells,vearly,vundos,vvotes,s.news⟩:PV)) zF):=HY2b.out.put hg hk
 have HD2c:Hid (zO w.heap.size y2a.heap.size y2a ({ yED p with row:=p.row,cells:=p.cells,early:=p.early,undos:=p.undos,votes:=p.votes,news:=p.news }:PE) (⟨vrow,vcells,vearly,vundos,vvotes,vnews⟩:PV)):=(HD2b.out.boxed HY2b.out.box hg).wide hg.size (nl _)
 clear hg hk HY2b HD2b
 refine ⟨fun h=>(by cases h),?_⟩
 refine xM (j:=8) (e':=some 26) (v:=.pointer (some ⟨w.heap.size,19,none⟩)) rfl rfl (by kernel_rfl) (by kernel_rfl) (by kernel_rfl) (by rfl) (fun _ _ _ h=>h) (Or.inl ⟨by rfl,?_⟩) ?_
 ·intro x hx
  go_simp
  try with_reducible rfl
 simp only [pz]
 refine kT (s:=9) (N:=w.heap.size) (o:=19) (u:=vnews) (old:=zA p (⟨vrow,vcells,vearly,vundos,vvotes,s.news⟩:PV)) (new:=zA p (⟨vrow,vcells,vearly,vundos,vvotes,vnews⟩:PV)) rfl rfl rfl rfl (by kernel_rfl) rfl rfl HY2c.out.box (by kernel_rfl) (by simp [zA]) (zDH HO2b.out) rfl ?_
 intro y2b hg hk
 have HY3:Hid (Bx2 w y2b (zA p (⟨vrow,vcells,vearly,vundos,vvotes,vnews⟩:PV)) zF):=HY2c.out.put hg hk
 have HD3:Hid (zO w.heap.size y2b.heap.size y2b ({ yED p with row:=p.row,cells:=p.cells,early:=p.early,undos:=p.undos,votes:=p.votes,news:=p.news }:PE) (⟨vrow,vcells,vearly,vundos,vvotes,vnews⟩:PV)):=(HD2c.out.boxed HY2c.out.box hg).wide hg.size (nl _)
 clear hg hk HY2c HD2c HO2b HO2c
 refine ⟨fun h=>(by cases h),?_⟩
 refine zK (by kernel_rfl) ?_ _
 obtain ⟨s6,hs6⟩:∃ s6,s6=(⟨vrow,vcells,vearly,vundos,vvotes,vnews⟩:PV):=⟨_,rfl⟩
 have HDE:Hid (zO w.heap.size y2b.heap.size y2b p s6):=hid (by rw [hs6];exact HD3.out)
 rw [<- hs6] at HY3
 clear hs6 HD3
 go_wp2_with (first
  | (refine wpList_load_row rfl _ _ rfl w.heap.size rfl 35 _ (0,0) _ HY3.out.box Tryz.underlying35 rfl (by kernel_rfl) ?_)
  | (refine zC rfl _ _ _ rfl (w.heap.size+1) (zA p s6) rfl rfl 35 zF HY3.out.zero (by kernel_rfl) rfl (zJ HDE.out.1) ?_;intro z hg hk hz;have HBz:Hid (Below w.heap.size w z):=HY3.out.below.grown hg HY3.out.below.size (fun k hk=>by cases hk;omega);have HKz:Hid (Bx z (w.heap.size+1) (zA p s6) 35):=hk;have HFz:Hid (zO w.heap.size z.heap.size z p s6):=(HDE.out.boxed HY3.out.zero hg).wide hg.size (nl _);clear hg hk hz HDE))
 refine bodyPost_ret (v:=.agg (zA p s6)) (results_cell_row Tryz.results45 _ _ (w.heap.size+1) 35 _ (0,0) _ rfl HKz.out Tryz.underlying35 rfl (by kernel_rfl)) rfl ?_
 exact ⟨_,rfl,HFz.out,HBz.out⟩
end Go.Proofs.YtjdddcldbfhbiacGreatR
