/-
  Texts of ours that later ones lean on, in one: EarN, ChainN, FarS.
-/
import Derived.Test.YtfnneillakdopacGreatREarSZ
import Derived.Test.YtfnneillakdopacGreatRK5
import Derived.Test.YtfnneillakdopacGreatRK4
import Derived.Test.YtfnneillakdopacGreatRK1
set_option maxRecDepth 100000
set_option maxHeartbeats 32000000
namespace Go.Proofs.YtfnneillakdopacGreatR
open Go.RowKit Num
variable {k:Int} {t:List BK} {p:PE}
def smC (t:List BK) (m:Nat):Nat:=((t.take m).map fun b=>b.2.1.length).sum
theorem smC_le (t:List BK) {m n:Nat} (h:m<=n):smC t m<=smC t n:=by
 have e:t.take n=t.take m ++ (t.take n).drop m:=by
  have:=(List.take_append_drop m (t.take n)).symm;rw [List.take_take,Nat.min_eq_left h] at this;exact this
 unfold smC;rw [e,List.map_append,List.sum_append];omega
theorem smC_step {m:Nat} (h:m < t.length):smC t (m+1)=smC t m+(kN t (m:Int)).length:=by
 have hc:kN t (m:Int)=t[m].2.1:=by unfold kN;rw [if_pos ⟨by omega,by omega⟩];simp [h]
 unfold smC;rw [List.take_add_one,List.getElem?_eq_getElem h,List.map_append,List.sum_append,hc];simp
theorem smC_all (t:List BK) (m:Nat):smC t m<=wtC t:=by
 have h1:smC t m<=smC t (m+t.length):=smC_le t (by omega);refine Nat.le_trans h1 ?_;unfold smC;rw [List.take_of_length_le (by omega)];clear h1
 induction t with
 | nil=>simp
 | cons b t ih=>simp only [List.map_cons,List.sum_cons,wtC];omega
def cmN (t:List BK):List Int->Nat
 | []=>0
 | x :: l=>(kN t x).length+cmN t l
theorem cmN_app (t:List BK) (l l':List Int):cmN t (l ++ l')=cmN t l+cmN t l':=by
 induction l with
 | nil=>simp [cmN]
 | cons x l ih=>simp only [List.cons_append,cmN,ih];omega
theorem cmN_rev (t:List BK) (l:List Int):cmN t l.reverse=cmN t l:=by
 induction l with
 | nil=>rfl
 | cons x l ih=>rw [List.reverse_cons,cmN_app,ih];simp only [cmN];omega
theorem cmN_filter (t:List BK) (f:Int->Bool) (l:List Int):cmN t (l.filter f)<=cmN t l:=by
 induction l with
 | nil=>exact nl _
 | cons x l ih=>
  rw [List.filter_cons]
  split
  ·simp only [cmN];omega
  ·simp only [cmN];omega
theorem downN_cm (t:List BK):∀ (n k:Nat) (l:List Nat),zAD t n k=some l->cmN t (qG l)<=smC t (k+1)
 | n,0,l,h=>by cases n <;> (simp [zAD] at h;subst h;simp [qG,cmN])
 | 0,k+1,l,h=>by simp [zAD] at h
 | n+1,k+1,l,h=>by
  unfold zAD at h
  split at h
  ·rename_i hc
   rw [Option.map_eq_some_iff] at h;obtain ⟨l',h1,rfl⟩:=h;have ih:=downN_cm t n _ l' h1;have a:=smC_le t (show (zDI t (k+1)).toNat+1<=k+1 by omega);rw [intsN_cons];simp only [cmN];rw [smC_step hc.1];omega
  ·cases h
theorem after_cm (t:List BK) (k u:Int):cmN t (kB t k u)<=wtC t:=by
 unfold kB
 split
 ·refine Nat.le_trans (cmN_filter t _ _) ?_
  cases hd:qH t k with
  | none=>rw [zJE hd];exact Nat.zero_le _
  | some l=>
   rw [zJF hd];have e:qG l.reverse=(qG l).reverse:=by unfold qG;rw [List.map_reverse]
   rw [e,cmN_rev];unfold qH at hd
   split at hd
   ·exact Nat.le_trans (downN_cm t _ _ l hd) (smC_all t _)
   ·cases hd
 ·exact Nat.zero_le _
theorem earU_cm (t:List BK):∀ (l:List Int) (cs:CL),(yDE t cs l).length=cmN t l
 | [],_=>rfl
 | k :: l,cs=>by simp only [yDE,List.length_append,zGI,cmN,earU_cm t l]
theorem okL_keys {t:List BK} (ht:okT t):∀ (l:List Int) (cs:CL),okL cs->∀ x∈yDE t cs l,(x.1.size:Int)<=1048576
 | [],_,_,x,hx=>by cases hx
 | k :: l,cs,h,x,hx=>by
  rcases List.mem_append.1 hx with hx | hx
  ·exact undos_keys cs _ (cmdsAt_ok ht k).1 x hx
  ·exact okL_keys ht l _ (okL_all _ h (cmdsAt_ok ht k).1) x hx
theorem early_small (hs:yC p) (hk:okT t) (hl:jZ p+wtB t<=1048576):yC (yDF t p k):=by
 have ha:=zDA t k (qS p.row);have hc:=rowC_ok hk (kB t k (qS p.row)) _ (okL_back hs);have hm:=after_cm t k (qS p.row);have hu:=earU_cm t (kB t k (qS p.row)) (jC p).cells;have hw:wtB t=t.length+wtC t:=rfl;refine ⟨hs.row,hc.1,?_,?_,hs.votes,hs.news,hc.2,okL_keys hk _ _ (okL_back hs)⟩
 ·show ((kB t k (qS p.row)).length:Int)<=1048576;omega
 ·show ((yDE t (jC p).cells (kB t k (qS p.row))).length:Int)<=1048576;omega
def yDI (t:List BK) (p:PE) (k b:Int):PE:={ p with high:=yF p.high (zIF t k),lock:=yF p.lock (zIF t b) }
def zGC (t:List BK) (p:PE) (k:Int):PE:=match zCH t k with
 | some d=>kO t p d
 | none=>p
def yDH (t:List BK) (p:PE) (b c:Int):PE:=if zFB t b c=true then yDF t p c else p
def jN (t:List BK) (p:PE) (k:Int):PE:=match zGG t k with
 | some (b,c,_)=>yDH t (zGC t (yDI t p k b) k) b c
 | none=>p
theorem learnQ_small {b:Int} (h:yC p):yC (yDI t p k b):=⟨h.row,h.cells,h.early,h.undos,h.votes,h.news,h.kcells,h.kundos⟩
theorem learnR_small (hs:yC p) (hk:okT t) (hl:jZ p+wtB t<=1048576):yC (zGC t p k):=by
 unfold zGC
 split
 ·exact through_small hs hk hl
 ·exact hs
theorem learnE_small {b c:Int} (hs:yC p) (hk:okT t) (hl:wtB t<=1048576):yC (yDH t p b c):=by
 unfold yDH
 split
 ·have ha:=zDA t c (qS p.row);have hc:=rowC_ok hk (kB t c (qS p.row)) _ (okL_back hs);have hm:=after_cm t c (qS p.row);have hu:=earU_cm t (kB t c (qS p.row)) (jC p).cells;have hw:wtB t=t.length+wtC t:=rfl;refine ⟨hs.row,hc.1,?_,?_,hs.votes,hs.news,hc.2,okL_keys hk _ _ (okL_back hs)⟩
  ·show ((kB t c (qS p.row)).length:Int)<=1048576;omega
  ·show ((yDE t (jC p).cells (kB t c (qS p.row))).length:Int)<=1048576;omega
 ·exact hs
theorem yCE (hs:yC p) (hk:okT t) (hl:jZ p+wtB t<=1048576):yC (jN t p k):=by
 unfold jN
 split
 ·exact learnE_small (learnR_small (learnQ_small hs) hk hl) hk (by omega)
 ·exact hs
def yEH:List PE->Int->Int
 | [],n=>n
 | p :: l,n=>yEH l (if n < p.view then p.view else n)
theorem farT_drop (l:List PE) (k:Nat) (h:k < l.length) (n:Int):yEH (l.drop k) n=yEH (l.drop (k+1)) (if n < l[k].view then l[k].view else n):=by rw [List.drop_eq_getElem_cons h];rfl
theorem far_s (ps:PL) (v:Value) (w:World) (hT:PeersR w v ps) (hl:(ps.length:Int)<=1048576) :
  Calls Tryz.prog 225 #[v] w fun e w'=>e=.returned (.int .i64 (yEH (pes ps) 0))/\Be w w':=by
 have h:=yCI ps;obtain ⟨a,cap,rfl,hr⟩:=hT.row;have HR:=hid hr;clear hr hT;go_enter Tryz.func225,Tryz.ntmps225;go_wp2
 go_loopw [3,4] (fun n i wr=>∃ (k:Nat) (q:Int),k<=ps.length/\i=.int .i64 (k:Int)/\n=.int .i64 q/\Hid (yEH (pes ps) 0=yEH ((pes ps).drop k) q)/\Be w wr) (fun _ i _=>ps.length - (intOf i).toNat)
 case atStart=>exact ⟨0,0,Nat.zero_le _,rfl,rfl,rfl,br _ _⟩
 case round=>
  obtain ⟨k,q,hk,rfl,rfl,HL,b⟩:=hrel
  by_cases hlt:(k:Int) < ps.length
  ·have d:k < ps.length:=by omega
   have q0:(0:Int)<=(k:Int):=by omega
   obtain ⟨g,j,rfl,hg,hc⟩:=HR (by omega);obtain ⟨z,hz⟩:=nw (ps[k].1.view);have c1:wr.cell? ⟨g,j+k * 21+1,none⟩=some (.int .i64 z):=by rw [hz,b.cell (by exact hg)];exact hc k d 1 (by omega)
   have HN:Hid (yEH (pes ps) 0=yEH ((pes ps).drop (k+1)) (if q < z then z else q)):=hid (by rw [HL.out,farT_drop _ k (by rw [h];exact d),pes_at d,<- hz]);clear hc hz
   by_cases hqz:q < z
   ·have c:Hid (yEH (pes ps) 0=yEH ((pes ps).drop (k+1)) z):=hid (by have:=HN.out;rw [if_pos hqz] at this;exact this);go_wp2
    go_roundw
    case rel=>exact ⟨k+1,z,by omega,by go_num,rfl,c,b⟩
    case measure=>simp [intOf];omega
   ·have c:Hid (yEH (pes ps) 0=yEH ((pes ps).drop (k+1)) q):=hid (by have:=HN.out;rw [if_neg hqz] at this;exact this);go_wp2
    go_roundw
    case rel=>exact ⟨k+1,q,by omega,by go_num,rfl,c,b⟩
    case measure=>simp [intOf];omega
  ·have f:k=ps.length:=by omega
   have HF:Hid (yEH (pes ps) 0=q):=hid (by rw [HL.out,f,List.drop_eq_nil_of_le (by rw [h];exact nl _)];rfl);clear f;go_wp2;go_ret;exact ⟨jD HF.symm,b⟩
end Go.Proofs.YtfnneillakdopacGreatR
