/-
  A text of ours: PutBS.
-/
import Derived.Test.YtfnneillakdopacGreatRK1
set_option maxRecDepth 100000
set_option maxHeartbeats 32000000
namespace Go.Proofs.YtfnneillakdopacGreatR
open _root_.Go.Proofs.Tryz
open Go.Value renaming int->I,slice->Ad
open Go.IntKind renaming i64->U
open Go.World.ownsRow renaming kept->Aa,alloc->Ab
open Go.Obj renaming cells->Ac
open Go.RowKit Num
theorem l05Block_s (b:BK) (cv:Value) (w:World) (hB:yM w cv 3 kL b.2.1) (hl:(b.2.1.length:Int)<=1048576) :
  Calls prog 104 #[blkV b cv] w fun e w'=>∃ cv',e=.returned (blkV b cv')/\w'.ownsRow w.heap.size 139 3 cv' b.2.1.length (zE kL b.2.1)/\Be w w':=by
 have HB:=hid hB;obtain ⟨ac,cc,rfl,_⟩:=hB;obtain ⟨i0,hi,ad,ab,ae⟩:=info_parts infoCm3;have B4:Be w ((((w.alloc (Ac #[I U b.1.1,I U b.1.2,Ad ac b.2.1.length cc,I U b.2.2.1,I U b.2.2.2.1,I U b.2.2.2.2.1,I U b.2.2.2.2.2] 88)).alloc (Ac #[I U 0,I U 0,Ad none 0 0,I U 0,I U 0,I U 0,I U 0] 88)).alloc (Ac #[I U b.1.1,I U b.1.2,Ad ac b.2.1.length cc,I U b.2.2.1,I U b.2.2.2.1,I U b.2.2.2.2.1,I U b.2.2.2.2.2] 88)).alloc (Ac #[] 139)):=ba (ba (ba (ba (br _ _) _) _) _) _;have s:=hid B4;have aa:Hid (yM ((((w.alloc (Ac #[I U b.1.1,I U b.1.2,Ad ac b.2.1.length cc,I U b.2.2.1,I U b.2.2.2.1,I U b.2.2.2.2.1,I U b.2.2.2.2.2] 88)).alloc (Ac #[I U 0,I U 0,Ad none 0 0,I U 0,I U 0,I U 0,I U 0] 88)).alloc (Ac #[I U b.1.1,I U b.1.2,Ad ac b.2.1.length cc,I U b.2.2.1,I U b.2.2.2.1,I U b.2.2.2.2.1,I U b.2.2.2.2.2] 88)).alloc (Ac #[] 139)) (.slice ac b.2.1.length cc) 3 kL b.2.1):=HB.below B4
 have g:Hid (((((w.alloc (Ac #[I U b.1.1,I U b.1.2,Ad ac b.2.1.length cc,I U b.2.2.1,I U b.2.2.2.1,I U b.2.2.2.2.1,I U b.2.2.2.2.2] 88)).alloc (Ac #[I U 0,I U 0,Ad none 0 0,I U 0,I U 0,I U 0,I U 0] 88)).alloc (Ac #[I U b.1.1,I U b.1.2,Ad ac b.2.1.length cc,I U b.2.2.1,I U b.2.2.2.1,I U b.2.2.2.2.1,I U b.2.2.2.2.2] 88)).alloc (Ac #[] 139)).ownsRow (w.heap.size+1+1+1) 139 3 (.slice (some ⟨w.heap.size+1+1+1,0,none⟩) 0 0) ([]:List CM).length (zE kL [])):=(by
  have:=yH (((w.alloc (Ac #[I U b.1.1,I U b.1.2,Ad ac b.2.1.length cc,I U b.2.2.1,I U b.2.2.2.1,I U b.2.2.2.2.1,I U b.2.2.2.2.2] 88)).alloc (Ac #[I U 0,I U 0,Ad none 0 0,I U 0,I U 0,I U 0,I U 0] 88)).alloc (Ac #[I U b.1.1,I U b.1.2,Ad ac b.2.1.length cc,I U b.2.2.1,I U b.2.2.2.1,I U b.2.2.2.2.1,I U b.2.2.2.2.2] 88)) 139 3;rw [show (((w.alloc (Ac #[I U b.1.1,I U b.1.2,Ad ac b.2.1.length cc,I U b.2.2.1,I U b.2.2.2.1,I U b.2.2.2.2.1,I U b.2.2.2.2.2] 88)).alloc (Ac #[I U 0,I U 0,Ad none 0 0,I U 0,I U 0,I U 0,I U 0] 88)).alloc (Ac #[I U b.1.1,I U b.1.2,Ad ac b.2.1.length cc,I U b.2.2.1,I U b.2.2.2.1,I U b.2.2.2.2.1,I U b.2.2.2.2.2] 88)).heap.size=w.heap.size+1+1+1 by simp] at this
  exact this:((((w.alloc (Ac #[I U b.1.1,I U b.1.2,Ad ac b.2.1.length cc,I U b.2.2.1,I U b.2.2.2.1,I U b.2.2.2.2.1,I U b.2.2.2.2.2] 88)).alloc (Ac #[I U 0,I U 0,Ad none 0 0,I U 0,I U 0,I U 0,I U 0] 88)).alloc (Ac #[I U b.1.1,I U b.1.2,Ad ac b.2.1.length cc,I U b.2.2.1,I U b.2.2.2.1,I U b.2.2.2.2.1,I U b.2.2.2.2.2] 88)).alloc (Ac #[] 139)).ownsRow (w.heap.size+1+1+1) 139 3 (.slice (some ⟨w.heap.size+1+1+1,0,none⟩) 0 0) ([]:List CM).length (zE kL []))
 have y:Hid (((((w.alloc (Ac #[I U b.1.1,I U b.1.2,Ad ac b.2.1.length cc,I U b.2.2.1,I U b.2.2.2.1,I U b.2.2.2.2.1,I U b.2.2.2.2.2] 88)).alloc (Ac #[I U 0,I U 0,Ad none 0 0,I U 0,I U 0,I U 0,I U 0] 88)).alloc (Ac #[I U b.1.1,I U b.1.2,Ad ac b.2.1.length cc,I U b.2.2.1,I U b.2.2.2.1,I U b.2.2.2.2.1,I U b.2.2.2.2.2] 88)).alloc (Ac #[] 139)).heap[w.heap.size+1]?=some (.cells #[I U 0,I U 0,.slice none 0 0,I U 0,I U 0,I U 0,I U 0] 88 (0,0))):=(by
  have:=box_cells (w:=(w.alloc (Ac #[I U b.1.1,I U b.1.2,Ad ac b.2.1.length cc,I U b.2.2.1,I U b.2.2.2.1,I U b.2.2.2.2.1,I U b.2.2.2.2.2] 88))) (w':=((((w.alloc (Ac #[I U b.1.1,I U b.1.2,Ad ac b.2.1.length cc,I U b.2.2.1,I U b.2.2.2.1,I U b.2.2.2.2.1,I U b.2.2.2.2.2] 88)).alloc (Ac #[I U 0,I U 0,Ad none 0 0,I U 0,I U 0,I U 0,I U 0] 88)).alloc (Ac #[I U b.1.1,I U b.1.2,Ad ac b.2.1.length cc,I U b.2.2.1,I U b.2.2.2.1,I U b.2.2.2.2.1,I U b.2.2.2.2.2] 88)).alloc (Ac #[] 139))) (ba (ba (br _ _) _) _);rw [show (w.alloc (Ac #[I U b.1.1,I U b.1.2,Ad ac b.2.1.length cc,I U b.2.2.1,I U b.2.2.2.1,I U b.2.2.2.2.1,I U b.2.2.2.2.2] 88)).heap.size=w.heap.size+1 by simp] at this
  exact this:((((w.alloc (Ac #[I U b.1.1,I U b.1.2,Ad ac b.2.1.length cc,I U b.2.2.1,I U b.2.2.2.1,I U b.2.2.2.2.1,I U b.2.2.2.2.2] 88)).alloc (Ac #[I U 0,I U 0,Ad none 0 0,I U 0,I U 0,I U 0,I U 0] 88)).alloc (Ac #[I U b.1.1,I U b.1.2,Ad ac b.2.1.length cc,I U b.2.2.1,I U b.2.2.2.1,I U b.2.2.2.2.1,I U b.2.2.2.2.2] 88)).alloc (Ac #[] 139)).heap[w.heap.size+1]?=some (.cells #[I U 0,I U 0,.slice none 0 0,I U 0,I U 0,I U 0,I U 0] 88 (0,0)))
 have z:Hid (((((w.alloc (Ac #[I U b.1.1,I U b.1.2,Ad ac b.2.1.length cc,I U b.2.2.1,I U b.2.2.2.1,I U b.2.2.2.2.1,I U b.2.2.2.2.2] 88)).alloc (Ac #[I U 0,I U 0,Ad none 0 0,I U 0,I U 0,I U 0,I U 0] 88)).alloc (Ac #[I U b.1.1,I U b.1.2,Ad ac b.2.1.length cc,I U b.2.2.1,I U b.2.2.2.1,I U b.2.2.2.2.1,I U b.2.2.2.2.2] 88)).alloc (Ac #[] 139)).heap[w.heap.size+1+1]?=some (.cells (qD b (.slice ac b.2.1.length cc)) 88 (0,0))):=(by
  have:=box_cells (w:=((w.alloc (Ac #[I U b.1.1,I U b.1.2,Ad ac b.2.1.length cc,I U b.2.2.1,I U b.2.2.2.1,I U b.2.2.2.2.1,I U b.2.2.2.2.2] 88)).alloc (Ac #[I U 0,I U 0,Ad none 0 0,I U 0,I U 0,I U 0,I U 0] 88))) (w':=((((w.alloc (Ac #[I U b.1.1,I U b.1.2,Ad ac b.2.1.length cc,I U b.2.2.1,I U b.2.2.2.1,I U b.2.2.2.2.1,I U b.2.2.2.2.2] 88)).alloc (Ac #[I U 0,I U 0,Ad none 0 0,I U 0,I U 0,I U 0,I U 0] 88)).alloc (Ac #[I U b.1.1,I U b.1.2,Ad ac b.2.1.length cc,I U b.2.2.1,I U b.2.2.2.1,I U b.2.2.2.2.1,I U b.2.2.2.2.2] 88)).alloc (Ac #[] 139))) (ba (br _ _) _);rw [show ((w.alloc (Ac #[I U b.1.1,I U b.1.2,Ad ac b.2.1.length cc,I U b.2.2.1,I U b.2.2.2.1,I U b.2.2.2.2.1,I U b.2.2.2.2.2] 88)).alloc (Ac #[I U 0,I U 0,Ad none 0 0,I U 0,I U 0,I U 0,I U 0] 88)).heap.size=w.heap.size+1+1 by simp] at this
  exact this:((((w.alloc (Ac #[I U b.1.1,I U b.1.2,Ad ac b.2.1.length cc,I U b.2.2.1,I U b.2.2.2.1,I U b.2.2.2.2.1,I U b.2.2.2.2.2] 88)).alloc (Ac #[I U 0,I U 0,Ad none 0 0,I U 0,I U 0,I U 0,I U 0] 88)).alloc (Ac #[I U b.1.1,I U b.1.2,Ad ac b.2.1.length cc,I U b.2.2.1,I U b.2.2.2.1,I U b.2.2.2.2.1,I U b.2.2.2.2.2] 88)).alloc (Ac #[] 139)).heap[w.heap.size+1+1]?=some (.cells (qD b (.slice ac b.2.1.length cc)) 88 (0,0)))
 have n:((((w.alloc (Ac #[I U b.1.1,I U b.1.2,Ad ac b.2.1.length cc,I U b.2.2.1,I U b.2.2.2.1,I U b.2.2.2.2.1,I U b.2.2.2.2.2] 88)).alloc (Ac #[I U 0,I U 0,Ad none 0 0,I U 0,I U 0,I U 0,I U 0] 88)).alloc (Ac #[I U b.1.1,I U b.1.2,Ad ac b.2.1.length cc,I U b.2.2.1,I U b.2.2.2.1,I U b.2.2.2.2.1,I U b.2.2.2.2.2] 88)).alloc (Ac #[] 139)).heap.size=w.heap.size+1+1+1+1:=by simp
 clear B4;unfold blkV;go_enter func104,ntmps104;go_wp2_with (at_builtin;refine yBG _ rfl _ _ 86 rfl (w.heap.size+1+1+1) 139 i0 _ 32 underlying86 hi ad ab ae rfl (by decide) kC qL _ [] rfl g _ b.2.1 rfl aa (by simp;unfold maxLen;omega) (by simp;omega) (by simp) ?_;intro v5 w5 d a;obtain ⟨a5,c,rfl,_⟩:=yL d;simp only [List.nil_append] at d;have f:=hid d;have m:Hid (Be w w5):=s.grown a s.size (fun x hx=>by have:=(g.lt x hx).1;omega);have h:Bx w5 (w.heap.size+1+1) (qD b (.slice ac b.2.1.length cc)) 88:=(a.block _ (by rw [n];omega) (fun e=>by have:=(g.lt _ e.symm).1;omega)).trans z;have r:Bx w5 (w.heap.size+1) #[I U 0,I U 0,.slice none 0 0,I U 0,I U 0,I U 0,I U 0] 88:=(a.block _ (by rw [n];omega) (fun e=>by have:=(g.lt _ e.symm).1;omega)).trans y;have x2:w5.cell? ⟨w.heap.size+1+1,2,none⟩=some (.slice ac b.2.1.length cc):=(xL h).2.2.1;have f2:=frozen_of_row w5 (w.heap.size+1+1) 2 _ _ h;have o:(w5.setCell ⟨w.heap.size+1+1,2,none⟩ (.slice a5 b.2.1.length c)).heap[w.heap.size+1+1]?=some (.cells (qD b (.slice a5 b.2.1.length c)) 88 (0,0)):=heap_setCell_same w5 (w.heap.size+1+1) 2 _ _ _ h;have i:=yK w5 (w.heap.size+1+1) 2 (.slice a5 b.2.1.length c);have p:(w5.setCell ⟨w.heap.size+1+1,2,none⟩ (.slice a5 b.2.1.length c)).heap[w.heap.size+1]?=some (.cells #[I U 0,I U 0,.slice none 0 0,I U 0,I U 0,I U 0,I U 0] 88 (0,0)):=gk i r (qsn (by omega));obtain ⟨z0,z1,z2,z3,z4,z5,z6⟩:=xL o;obtain ⟨⟨p0,r0⟩,⟨p1,r1⟩,⟨p2,r2⟩,⟨p3,r3⟩,⟨p4,r4⟩,⟨p5,r5⟩,⟨p6,r6⟩,u,l⟩:=blk_seven p (I U b.1.1) (I U b.1.2) (.slice a5 b.2.1.length c) (I U b.2.2.1) (I U b.2.2.2.1) (I U b.2.2.2.2.1) (I U b.2.2.2.2.2);clear d a r h o p)
 obtain ⟨y0,y1,y2,y3,y4,y5,y6⟩:=xL u;have j:=hid i;have t:=hid l;clear i l u;refine bodyPost_ret (v:=.agg #[I U b.1.1,I U b.1.2,.slice a5 b.2.1.length c,I U b.2.2.1,I U b.2.2.2.1,I U b.2.2.2.2.1,I U b.2.2.2.2.2]) (by simp [results,results104,go_sem,y0,y1,y2,y3,y4,y5,y6]) rfl ?_;refine ⟨_,rfl,zN (Aa (Aa f j (own_far f (by omega))) t (own_far (Aa f j (own_far f (by omega))) (by omega))) (by omega),?_⟩;have B6:=m.grown j m.size fun k hk=>by cases hk;omega
 exact B6.grown t B6.size fun k hk=>by cases hk;omega
theorem l05Tree_s (ps:TL) (v:Value) (w:World) (hT:zID w v ps) (hk:okT (bks ps)) :
  Calls prog 101 #[v] w fun e w'=>∃ v' qs,e=.returned v'/\bks qs=bks ps/\xH w' w.heap.size v' qs/\Be w w':=by
 have HT:=hid hT;have HK:=hid hk;obtain ⟨a,cap,rfl,_,hr⟩:=tree_cells hT;have HR:=hid hr;have n:=yO ps;have hl:(ps.length:Int)<=1048576:=by have:=hk.1;rw [n] at this;exact this
 obtain ⟨i0,hi,ab,y,ad⟩:=info_parts infoBlk;clear hr hT hk;go_enter func101,ntmps101;go_wp2
 go_loopw [3,4] (fun o i wr=>∃ (k:Nat) (qs:TL),k<=ps.length/\i=I U (k:Int)/\Hid (bks qs=(bks ps).take k)/\Hid (xH wr w.heap.size o qs)/\Be w wr) (fun _ i _=>ps.length - (intOf i).toNat)
 case atStart=>exact ⟨0,[],Nat.zero_le _,rfl,rfl,ownT_nil w,ba (br _ _) _⟩
 case round=>
  obtain ⟨k,qs,hk,rfl,HS,HO,b⟩:=hrel;have t:=b.size;have ae:qs.length=k:=by have:=congrArg List.length HS;rw [yO,List.length_take,n] at this;omega
  by_cases hlt:(k:Int) < ps.length
  ·have c:k < ps.length:=by omega
   have q0:(0:Int)<=(k:Int):=by omega
   obtain ⟨g,f,rfl,hg,hc⟩:=HR (by omega);have c0:wr.cell? ⟨g,f+k * 7,none⟩=some (I U ps[k].1.1.1):=by rw [b.cell (by exact hg)];exact (hc k c).1
   have c1:wr.cell? ⟨g,f+k * 7+1,none⟩=some (I U ps[k].1.1.2):=by rw [b.cell (by exact hg)];exact (hc k c).2.1
   have c2:wr.cell? ⟨g,f+k * 7+2,none⟩=some ps[k].2:=by rw [b.cell (by exact hg)];exact (hc k c).2.2.1
   have c3:wr.cell? ⟨g,f+k * 7+3,none⟩=some (I U ps[k].1.2.2.1):=by rw [b.cell (by exact hg)];exact (hc k c).2.2.2.1
   have c4:wr.cell? ⟨g,f+k * 7+4,none⟩=some (I U ps[k].1.2.2.2.1):=by rw [b.cell (by exact hg)];exact (hc k c).2.2.2.2.1
   have c5:wr.cell? ⟨g,f+k * 7+5,none⟩=some (I U ps[k].1.2.2.2.2.1):=by rw [b.cell (by exact hg)];exact (hc k c).2.2.2.2.2.1
   have c6:wr.cell? ⟨g,f+k * 7+6,none⟩=some (I U ps[k].1.2.2.2.2.2):=by rw [b.cell (by exact hg)];exact (hc k c).2.2.2.2.2.2
   have HN:Hid ((bks ps).take (k+1)=(bks ps).take k ++ [ps[k].1]):=hid (by rw [Go.Proofs.YtfnneillakdopacGreatR.take_snoc (by rw [n];exact c),bks_at c]);clear hc;go_wp2_with fail
   refine (l05Block_s ps[k].1 ps[k].2 wr ((HT.cmds _ (List.getElem_mem c)).below b) (okT_at HK c).1).mono ?_;rintro e w2 ⟨cv,rfl,h,m⟩;obtain ⟨ac,l,rfl,_⟩:=yL h;have u:=hid h;have r:Hid (w2.ownsRow w.heap.size 88 7 u3 qs.length (zE yEE qs)):=zS HO.row m;have p:=hid m;have af:=m.size;unfold blkV;clear h m c0 c1 c2 c3 c4 c5 c6;go_wp2_with (at_builtin;refine wpList_append_own _ rfl _ _ 24 rfl w.heap.size 88 i0 _ 7 72 underlying24 hi ab y ad rfl (by decide) _ _ _ rfl (Ab r _) ⟨World.heap _ |>.size,0,none⟩ 1 1 (yEE (ps[k].1,.slice ac ps[k].1.2.1.length l)) rfl rfl (newsB _ ps[k].1 _ _) (onesB _ _ _ _) (by unfold maxLen;omega) (by omega) (by simp;omega) ?_;intro v3 w3 j d _)
   have aa:Hid (xH w3 w.heap.size v3 (qs ++ [(ps[k].1,.slice ac ps[k].1.2.1.length l)])):=HO.push p u j d t;have z:Be w w3:=(ba (bt b p) _).grown d (by simp;omega) fun x hx=>(r.lt x hx).1
   clear j d
   go_roundw
   case rel=>exact ⟨k+1,_,by omega,by go_num,(by rw [bks_snoc,HN.out,HS.out]:bks (qs ++ [(ps[k].1,.slice ac ps[k].1.2.1.length l)])=(bks ps).take (k+1)),aa,z⟩
   case measure=>simp [intOf];omega
  ·have s:k=ps.length:=by omega
   have HF:Hid (bks qs=bks ps):=hid (by rw [HS.out,s,<- n,List.take_length]);clear s;go_wp2;go_ret;exact ⟨_,rfl,qs,HF,HO,b⟩
theorem treeNew_s (w:World):Calls prog 138 #[] w fun e w'=>∃ v',e=.returned v'/\xH w' w.heap.size v' [(kE,.slice none 0 0)]/\Be w w':=by
 go_enter func138,ntmps138;go_wp2_with fail
 refine (first_s w).mono ?_;rintro e w1 ⟨rfl,a⟩;unfold blkV kE;go_wp2;go_ret;exact ⟨_,rfl,ownT_one (b:=kE) (cv:=.slice none 0 0) a.size (World.ownsRow_nil _ _ _ _),ba a _⟩
theorem ret_vi2 {v:Value} {a b:Int} (h:a=b):Ending.returned (.tuple #[v,I U a])=.returned (.tuple #[v,I U b]):=by rw [h]
theorem putBlock_s (ps:TL) (v:Value) (b:BK) (cv:Value) (w:World) (hT:zID w v ps) (hB:yM w cv 3 kL b.2.1) (hk:okT (bks ps)) (hkb:okB b) :
  Calls prog 140 #[v,blkV b cv] w fun e w'=>∃ v' qs,e=.returned (.tuple #[v',I U (zBE (bks ps) b)])/\bks qs=zGE (bks ps) b/\xH w' w.heap.size v' qs/\Be w w':=by
 have HT:=hid hT;have HB:=hid hB;have HK:=hid hk;have s:=hid hkb;obtain ⟨a,cap,rfl,_,hr⟩:=tree_cells hT;obtain ⟨ac,k,rfl,_⟩:=hB;have l:=yO ps;have hl:(ps.length:Int)<=1048576:=by have:=hk.1;rw [l] at this;exact this
 obtain ⟨i0,hi,al,aj,am⟩:=info_parts infoBlk;unfold blkV;obtain ⟨W1,u⟩:=nw (w.alloc (.cells (qD b (.slice ac b.2.1.length k)) 88))
 have HW:Hid (Bx W1 w.heap.size (qD b (.slice ac b.2.1.length k)) 88/\Be w W1):=by
  rw [u];exact ⟨heap_alloc_new w _,ba (br _ _) _⟩
 have l0:w.heap.size < W1.heap.size:=(gl HW.1);have HX:Hid (∀ w',Be W1 w'->Bx w' w.heap.size (qD b (.slice ac b.2.1.length k)) 88):=fun w' h'=>(h'.block _ l0).trans HW.1
 clear hr hT hk hkb;go_enter func140,ntmps140;go_wp2_with fail
 rw [<- u];clear u;refine (l05Tree_s ps _ W1 (HT.below HW.2) HK).mono ?_;rintro e w2 ⟨v2,qs,rfl,z,j,p⟩;have HQ:=hid z;have af:=hid j;have an:qs.length=ps.length:=by rw [<- yO,z,l]
 have B2:=bt HW.2 p;obtain ⟨y0,y1,y2,y3,y4,y5,y6⟩:=xL (HX _ p);have m:=HW.2.size;clear z j;go_wp2_with fail
 refine (blockAt_s ps _ b _ w2 (HT.below B2) (HB.below B2) HK s).mono ?_;rintro e w3 ⟨rfl,t⟩;have aa:Hid (xH w3 W1.heap.size v2 qs):=af.below t;have f:=bt p t;have B3:=bt HW.2 f;clear af p t B2 y0 y1 y2 y3 y4 y5 y6
 by_cases hat:0<=kI (bks ps) b
 ·have HP:Hid (zBE (bks ps) b=kI (bks ps) b/\zGE (bks ps) b=bks ps):=put_there hat;go_wp2
  go_ret2
  exact ⟨v2,qs,ret_vi2 HP.1.symm,by rw [HP.out.2];exact HQ.out,aa.base m,B3⟩
 ·obtain ⟨y0,y1,y2,y3,y4,y5,y6⟩:=xL (HX _ f);go_wp2_with fail
  refine (blockOk_s ps _ b _ w3 (HT.below B3) (HB.below B3) hl s).mono ?_;rintro e w4 ⟨rfl,y⟩;have o:Hid (xH w4 W1.heap.size v2 qs):=aa.below y;have g:=bt f y;have B4:=bt HW.2 g;clear aa y f B3 y0 y1 y2 y3 y4 y5 y6
  cases ad:xV (bks ps) b with
  | false=>
   have HP:Hid (zBE (bks ps) b=-1/\zGE (bks ps) b=bks ps):=put_not (Int.not_le.2 hat) (Or.inl ad);go_wp2
   go_ret2
   exact ⟨v2,qs,ret_vi2 HP.1.symm,by rw [HP.out.2];exact HQ.out,o.base m,B4⟩
  | true=>
   by_cases h60:(60:Int)<=ps.length
   ·have HP:Hid (zBE (bks ps) b=-1/\zGE (bks ps) b=bks ps):=put_not (Int.not_le.2 hat) (Or.inr (by rw [l];omega));go_wp2
    go_ret2
    exact ⟨v2,qs,ret_vi2 HP.1.symm,by rw [HP.out.2];exact HQ.out,o.base m,B4⟩
   ·have HP:Hid (zBE (bks ps) b=(ps.length:Int)/\zGE (bks ps) b=bks ps ++ [b]):=hid (by have:=put_new (Int.not_le.2 hat) (fun h=>h.elim (fun h=>by rw [ad] at h;cases h) (fun h=>by rw [l] at h;omega));rw [l] at this;exact this);obtain ⟨y0,y1,y2,y3,y4,y5,y6⟩:=xL (HX _ g);go_wp2_with fail
    refine (l05Block_s b _ w4 (HB.below B4) s.1).mono ?_;rintro e w5 ⟨ao,rfl,d,n⟩;obtain ⟨a5,r,rfl,_⟩:=yL d;have ak:=hid d;have ab:Hid (w5.ownsRow W1.heap.size 88 7 v2 qs.length (zE yEE qs)):=zS o.row n;have ae:=hid n;have ap:=n.size;have ai:=g.size;unfold blkV;clear d n y0 y1 y2 y3 y4 y5 y6;go_wp2_with (at_builtin;refine wpList_append_own _ rfl _ _ 24 rfl W1.heap.size 88 i0 _ 7 72 underlying24 hi al aj am rfl (by decide) _ _ _ rfl (Ab ab _) ⟨World.heap _ |>.size,0,none⟩ 1 1 (yEE (b,.slice a5 b.2.1.length r)) rfl rfl (newsB _ b _ _) (onesB _ _ _ _) (by unfold maxLen;omega) (by omega) (by simp;omega) ?_;intro v6 w6 i c _;have ah:Hid (xH w6 W1.heap.size v6 (qs ++ [(b,.slice a5 b.2.1.length r)])):=o.push ae ak i c ai;have ag:Be w w6:=(ba (bt B4 ae) _).grown c (by simp;omega) (fun x hx=>Nat.le_trans m (ab.lt x hx).1);clear i c)
    go_ret2
    exact ⟨v6,_,ret_vi2 HP.1.symm,by rw [bks_snoc,HP.out.2,HQ.out],ah.base m,ag⟩
end Go.Proofs.YtfnneillakdopacGreatR
