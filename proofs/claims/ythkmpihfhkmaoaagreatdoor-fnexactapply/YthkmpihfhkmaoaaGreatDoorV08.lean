import Derived.Test.YthkmpihfhkmaoaaGreatDoorV07
import Derived.Test.YthkmpihfhkmaoaaGreatDoorV05
import Derived.Test.YthkmpihfhkmaoaaGreatDoorV04
import Derived.Lib.BytesEntry
import Derived.Deep.RegionLaw
namespace Go.Proofs.YthkmpihfhkmaoaaGreatDoor
open Go.ChangeShapes Go.WideShapes Go.ChangeAt Go.RowKit
def kI (s:ByteArray):List Int:=[kB s 0,kB s 1,kB s 2,kB s 3,kB s 4,kB s 5,kB s 6,kB s 7]
def kCmp (s t:ByteArray):Int:=Lib.compareBytes (Lib.bytesOf (kI s)) (Lib.bytesOf (kI t))
theorem cb_refl (x:List UInt8):Lib.compareBytes x x=0:=by
 induction x with
 |nil=>rfl
 |cons a x ih=>unfold Lib.compareBytes;simp[ih,UInt8.lt_irrefl]
theorem cb_app (z:List UInt8):∀(x y:List UInt8),x.length=y.length->Lib.compareBytes (x++z) (y++z)=Lib.compareBytes x y
 |[],[],_=>by rw[List.nil_append,cb_refl];rfl
 |a::x,b::y,h=>by
  have ih:=cb_app z x y (by simpa using h);show Lib.compareBytes (a::(x++z)) (b::(y++z))=_;unfold Lib.compareBytes;rw[ih]
theorem cb_neg:∀(x y:List UInt8),x.length=y.length->(Lib.compareBytes x y<0↔x<y)
 |[],[],_=>by simp[Lib.compareBytes]
 |a::x,b::y,h=>by
  have ih:=cb_neg x y (by simpa using h);unfold Lib.compareBytes;rw[List.cons_lt_cons_iff,←ih];by_cases h1:a<b
  ·simp[h1]
  ·by_cases h2:b<a
   ·have:¬a=b:=fun e=>by subst e;exact absurd h2 (UInt8.lt_irrefl _)
    simp[h1,h2,this]
   ·have:a=b:=UInt8.le_antisymm (UInt8.not_lt.1 h2) (UInt8.not_lt.1 h1)
    simp[this]
theorem cb_zero:∀(x y:List UInt8),x.length=y.length->(Lib.compareBytes x y=0↔x=y)
 |[],[],_=>by simp[Lib.compareBytes]
 |a::x,b::y,h=>by
  have ih:=cb_zero x y (by simpa using h);unfold Lib.compareBytes;by_cases h1:a<b
  ·have:¬a=b:=fun e=>by subst e;exact absurd h1 (UInt8.lt_irrefl _)
   simp[h1,this]
  ·by_cases h2:b<a
   ·have:¬a=b:=fun e=>by subst e;exact absurd h2 (UInt8.lt_irrefl _)
    simp[h1,h2,this]
   ·have:a=b:=UInt8.le_antisymm (UInt8.not_lt.1 h2) (UInt8.not_lt.1 h1)
    simp[this,ih]
theorem kI_pad (s:ByteArray) (h:s.size<=8):Lib.bytesOf (kI s)=s.data.toList++List.replicate (8 -s.size) 0:=by
 have hl:s.data.toList.length=s.size:=data_length s;have hb:∀i,(kB s i).toNat.toUInt8=(s.data.toList[i]?).getD 0:=fun i=>by
  unfold kB;simp
 unfold kI Lib.bytesOf;simp only[List.map_cons,List.map_nil,hb];apply List.ext_getElem?;intro i;rw[List.getElem?_append];rw[hl];rcases Nat.lt_or_ge i 8 with h8|h8
 ·have e:([(s.data.toList[0]?).getD 0,(s.data.toList[1]?).getD 0,(s.data.toList[2]?).getD 0,(s.data.toList[3]?).getD 0,(s.data.toList[4]?).getD 0,(s.data.toList[5]?).getD 0,(s.data.toList[6]?).getD 0,(s.data.toList[7]?).getD 0]:List UInt8)[i]?=some ((s.data.toList[i]?).getD 0):=by
   rcases(show i=0∨i=1∨i=2∨i=3∨i=4∨i=5∨i=6∨i=7 by omega) with rfl|rfl|rfl|rfl|rfl|rfl|rfl|rfl<;>rfl
  rw[e];by_cases hi:i<s.size
  ·rw[if_pos hi,List.getElem?_eq_getElem (by omega)]
   rfl
  ·rw[if_neg hi,List.getElem?_eq_none (by omega),List.getElem?_replicate,if_pos (by omega)]
   rfl
 ·rw[List.getElem?_eq_none (by simp;omega),if_neg (by omega),List.getElem?_eq_none (by simp;omega)]
theorem kCmp_neg {s t:ByteArray} (hs:s.size<=8) (ht:t.size=s.size):kCmp s t<0↔less s t=true:=by
 unfold kCmp less;rw[kI_pad s hs,kI_pad t (by omega),ht,cb_app _ _ _ (by rw[data_length,data_length,ht]),cb_neg _ _ (by rw[data_length,data_length,ht]),ByteArray.toList_eq,ByteArray.toList_eq,bl_iff]
theorem kCmp_zero {s t:ByteArray} (hs:s.size<=8) (ht:t.size=s.size):kCmp s t=0↔s=t:=by
 unfold kCmp;rw[kI_pad s hs,kI_pad t (by omega),ht,cb_app _ _ _ (by rw[data_length,data_length,ht]),cb_zero _ _ (by rw[data_length,data_length,ht])];constructor
 ·intro h
  exact toList_inj (by rw[ByteArray.toList_eq,ByteArray.toList_eq];exact h)
 ·rintro rfl
  rfl
theorem kI_cells {w:World} {b:Nat} {s:ByteArray} (h:CellsAt w b (kCells s)):∀j x,(kI s)[j]?=some x->w.cell? ((⟨b,0,none⟩:Addr).add j)=some (.int .u8 x):=by
 intro j x hx;rw[Go.WideShapes.add_plain,Nat.zero_add];have hj:j<8:=(List.getElem?_eq_some_iff.1 hx).1;refine(h j (.int .u8 x) ?_).1;unfold kCells keyA;unfold kI at hx;rcases(show j=0∨j=1∨j=2∨j=3∨j=4∨j=5∨j=6∨j=7 by omega) with rfl|rfl|rfl|rfl|rfl|rfl|rfl|rfl<;>(simp at hx;subst hx;rfl)
theorem run_cmpKeys (w:World) (a b:Nat) (s t:ByteArray) (ha:CellsAt w a (kCells s)) (hb:CellsAt w b (kCells t)):
 (callFunc 239 #[.slice (some ⟨a,0,none⟩) 8 8,.slice (some ⟨b,0,none⟩) 8 8]).run Tryz.prog w=.ok (.value (.int .i64 (kCmp s t))) w:=by
 rw[run_callFunc_extern (fn:=Tryz.f239) (e:=Extern.BytealgCompare.compare) Tryz.func239 (by kernel_rfl) (by kernel_rfl) (by kernel_rfl) (by kernel_rfl)];have h1:=Lib.run_loadBytesX (P:=Tryz.prog) w (kI s) ⟨a,0,none⟩ .empty (kI_cells ha);have h2:=Lib.run_loadBytesX (P:=Tryz.prog) w (kI t) ⟨b,0,none⟩ .empty (kI_cells hb)
 have he:∀l:List UInt8,(⟨ByteArray.empty.data++l.toArray⟩:ByteArray)=⟨l.toArray⟩:=fun l=>by
  apply ByteArray.ext;show(#[]:Array UInt8)++l.toArray=l.toArray;simp
 rw[he] at h1 h2;change (Sem.run Tryz.prog (do pure (goInt (Extern.BytealgCompare.cmp (←Extern.Bytes.bytesOf (.slice (some ⟨a,0,none⟩) 8 8)) (←Extern.Bytes.bytesOf (.slice (some ⟨b,0,none⟩) 8 8))))) w).andThen _=_;simp only[Extern.Bytes.bytesOf,Sem.run_bind,Sem.run_pure];rw[show(8:Nat)=(kI s).length from rfl,h1];rw[Result.andThen_ok,show(kI s).length=(kI t).length from rfl,h2]
 simp only[Result.andThen];rw[Lib.cmp_eq];rfl
set_option maxHeartbeats 400000 in
theorem bytesCompare_any (w:World) (a b:Nat) (s t:ByteArray) (ha:CellsAt w a (kCells s)) (hb:CellsAt w b (kCells t)):
 Calls Tryz.prog 210 #[.slice (some ⟨a,0,none⟩) 8 8,.slice (some ⟨b,0,none⟩) 8 8] w fun e w'=>e=.returned (.int .i64 (kCmp s t))/\w'=w:=by
 have hr:=run_cmpKeys w a b s t ha hb;clear ha hb;go_enter Tryz.func210,Tryz.ntmps210;go_wp2;go_ret;exact⟨rfl,rfl⟩
set_option maxRecDepth 20000 in
set_option maxHeartbeats 1000000 in
theorem cmpKey_any (s t:ByteArray) (w:World):
 Calls Tryz.prog 209 #[keyV s,keyV t] w fun e w'=>e=.returned (.int .i64 (kCmp s t))/\Below w.heap.size w w':=by
 obtain⟨W,hW⟩:∃W,W=(w.alloc (.cells #[.int .u8 (kB s 0),.int .u8 (kB s 1),.int .u8 (kB s 2),.int .u8 (kB s 3),.int .u8 (kB s 4),.int .u8 (kB s 5),.int .u8 (kB s 6),.int .u8 (kB s 7)] 162)).alloc (.cells #[.int .u8 (kB t 0),.int .u8 (kB t 1),.int .u8 (kB t 2),.int .u8 (kB t 3),.int .u8 (kB t 4),.int .u8 (kB t 5),.int .u8 (kB t 6),.int .u8 (kB t 7)] 162):=⟨_,rfl⟩
 have hB:Below w.heap.size w W:=by rw[hW];exact((Below.refl _ _).alloc (Nat.le_refl _) _).alloc (by simp) _
 have ca:CellsAt W w.heap.size (kCells s):=by
  rw[hW];exact CellsAt.below (v:=.int .u8 (kB s 0)) (CellsAt.new w (kCells s) 162) ((Below.refl _ _).alloc (Nat.le_refl _) _)
 have cb:CellsAt W (w.heap.size+1) (kCells t):=by
  have:=CellsAt.new (w.alloc (.cells #[.int .u8 (kB s 0),.int .u8 (kB s 1),.int .u8 (kB s 2),.int .u8 (kB s 3),.int .u8 (kB s 4),.int .u8 (kB s 5),.int .u8 (kB s 6),.int .u8 (kB s 7)] 162)) (kCells t) 162;rw[World.size_alloc] at this;rw[hW];exact this
 have HC:Hid (CellsAt W.drew w.heap.size (kCells s)/\CellsAt W.drew (w.heap.size+1) (kCells t)):=⟨ca,cb⟩;have HW:Hid _:=hW;clear hW ca cb;unfold keyV keyA;go_enter Tryz.func209,Tryz.ntmps209;go_upto_region 1 with fail;rw[←HW.out];clear HW;go_region_with (go_at_call 210;refine(bytesCompare_any W.drew w.heap.size (w.heap.size+1) s t HC.out.1 HC.out.2).mono ?_;rintro e w1 ⟨rfl,rfl⟩)
 all_goals
  go_wp2;go_ret;exact⟨rfl,hB.drew⟩
structure PlaceAt (ss:List ByteArray) (s:ByteArray) (i:Nat):Prop where
 le:i<=ss.length
 lo:∀j x,j<i->ss[j]?=some x->less x s=true
 hi:∀j x,i<=j->ss[j]?=some x->less x s=false
theorem own_key {w:World} {base g cap:Nat} {ss:List ByteArray} (ho:w.ownsRow base 162 8 (.slice (some ⟨g,0,none⟩) ss.length cap) ss.length (cells8 ss)) {k:Nat} {s:ByteArray} (hs:ss[k]?=some s):∀j,j<8->w.cell? ⟨g,k *8+j,none⟩=some (.int .u8 (kB s j)):=fun j hj=>by
 have:=(List.getElem?_eq_some_iff.1 hs).1;exact(ho.cellAt _ (by omega)).trans (cells8_get hs hj)
theorem row8 {w:World} {base g cap:Nat} {ss:List ByteArray} (ho:w.ownsRow base 162 8 (.slice (some ⟨g,0,none⟩) ss.length cap) ss.length (cells8 ss)) {k:Nat} {s:ByteArray} (hs:ss[k]?=some s):
 w.cell? ⟨g,k *8,none⟩=some (.int .u8 (kB s 0))/\w.cell? ⟨g,k *8+1,none⟩=some (.int .u8 (kB s 1))/\w.cell? ⟨g,k *8+2,none⟩=some (.int .u8 (kB s 2))/\w.cell? ⟨g,k *8+3,none⟩=some (.int .u8 (kB s 3))/\w.cell? ⟨g,k *8+4,none⟩=some (.int .u8 (kB s 4))/\w.cell? ⟨g,k *8+5,none⟩=some (.int .u8 (kB s 5))/\w.cell? ⟨g,k *8+6,none⟩=some (.int .u8 (kB s 6))/\w.cell? ⟨g,k *8+7,none⟩=some (.int .u8 (kB s 7)):=
 have h:=own_key ho hs
 ⟨by simpa using h 0 (by decide),h 1 (by decide),h 2 (by decide),h 3 (by decide),h 4 (by decide),h 5 (by decide),h 6 (by decide),h 7 (by decide)⟩
theorem box8 {w:World} {g:Nat} {s:ByteArray} (h:CellsAt w g (kCells s)):
 w.cell? ⟨g,0,none⟩=some (.int .u8 (kB s 0))/\w.cell? ⟨g,1,none⟩=some (.int .u8 (kB s 1))/\w.cell? ⟨g,2,none⟩=some (.int .u8 (kB s 2))/\w.cell? ⟨g,3,none⟩=some (.int .u8 (kB s 3))/\w.cell? ⟨g,4,none⟩=some (.int .u8 (kB s 4))/\w.cell? ⟨g,5,none⟩=some (.int .u8 (kB s 5))/\w.cell? ⟨g,6,none⟩=some (.int .u8 (kB s 6))/\w.cell? ⟨g,7,none⟩=some (.int .u8 (kB s 7)):=
 ⟨(h 0 _ rfl).1,(h 1 _ rfl).1,(h 2 _ rfl).1,(h 3 _ rfl).1,(h 4 _ rfl).1,(h 5 _ rfl).1,(h 6 _ rfl).1,(h 7 _ rfl).1⟩
set_option maxRecDepth 20000 in
set_option maxHeartbeats 4000000 in
theorem search_any (g cap:Nat) (ss:List ByteArray) (s:ByteArray) (w:World) (base:Nat) (ho:w.ownsRow base 162 8 (.slice (some ⟨g,0,none⟩) ss.length cap) ss.length (cells8 ss)) (hl:ss.length<=600) (hs8:s.size<=8) (hsz:∀x∈ss,x.size=s.size) (hsort:ss.Pairwise (fun a b=>less a b=true)):
 Calls Tryz.prog 208 #[.slice (some ⟨g,0,none⟩) ss.length cap,keyV s,.func (.func 209) #[] #[]] w fun e w'=>∃i:Nat,e=.returned (.tuple #[.int .i64 i,.bool (decide (ss[i]?=some s))])/\PlaceAt ss s i/\Below w.heap.size w w':=by
 unfold keyV keyA;have hgl:g<w.heap.size:=(own_lt ho rfl).2;obtain⟨W,hW⟩:∃W,W=w.alloc (.cells #[.int .u8 (kB s 0),.int .u8 (kB s 1),.int .u8 (kB s 2),.int .u8 (kB s 3),.int .u8 (kB s 4),.int .u8 (kB s 5),.int .u8 (kB s 6),.int .u8 (kB s 7)] 162):=⟨_,rfl⟩;have hB:Below w.heap.size w W:=by rw[hW];exact(Below.refl _ _).alloc (Nat.le_refl _) _
 have cb:CellsAt W w.heap.size (kCells s):=by rw[hW];exact CellsAt.new w (kCells s) 162
 have hoW:=own_below ho hB;have HW:Hid _:=hW;have HO:Hid _:=hoW;have HC:Hid _:=cb;have hzW:w.heap.size<W.heap.size:=CellsAt.lt (v:=.int .u8 (kB s 0)) cb;clear hW hoW cb ho;go_enter Tryz.func208,Tryz.ntmps208;go_upto_region 1 with fail;rw[←HW.out];clear HW;have hef:∀args w,(callFunc 209 args).run Tryz.prog w=.ok (.enter 209 args) w:=enters_of Tryz.func209 (by kernel_rfl) rfl;go_wp2
 go_loopw [9,10] (fun i j wr=>∃lo hi:Nat,i=.int .i64 lo/\j=.int .i64 hi/\lo<=hi/\hi<=ss.length/\Hid ((∀j x,j<lo->ss[j]?=some x->less x s=true)/\(∀j x,hi<=j->ss[j]?=some x->less x s=false))/\Below W.heap.size W wr) (fun i j _=>(intOf j).toNat -(intOf i).toNat)
 case atStart=>exact⟨0,ss.length,rfl,rfl,Nat.zero_le _,Nat.le_refl _,⟨fun j x h=>by omega,fun j x h hx=>by have:=(List.getElem?_eq_some_iff.1 hx).1;omega⟩,Below.refl _ _⟩
 case round=>
  obtain⟨lo,hi,rfl,rfl,hlh,hin,HI,hbel⟩:=hrel;have hzr:=hbel.size;by_cases hlt:lo<hi
  ·have hml:(lo+hi)/2<ss.length:=by omega
   have HG:Hid (ss[(lo+hi)/2]?=some ss[(lo+hi)/2]):=List.getElem?_eq_getElem hml;have hxs:=hsz _ (List.getElem_mem hml);generalize ss[(lo+hi)/2]=x at *
   obtain⟨r0,r1,r2,r3,r4,r5,r6,r7⟩:=row8 (own_below HO.out hbel) HG.out;obtain⟨t0,t1,t2,t3,t4,t5,t6,t7⟩:=box8 (CellsAt.below (v:=.int .u8 (kB s 0)) HC.out hbel);have qr0:=Cls.cell r0 (show g<wr.heap.size by omega);have qr1:=Cls.cell r1 (show g<wr.heap.size by omega);have qr2:=Cls.cell r2 (show g<wr.heap.size by omega);have qr3:=Cls.cell r3 (show g<wr.heap.size by omega)
   have qr4:=Cls.cell r4 (show g<wr.heap.size by omega);have qr5:=Cls.cell r5 (show g<wr.heap.size by omega);have qr6:=Cls.cell r6 (show g<wr.heap.size by omega);have qr7:=Cls.cell r7 (show g<wr.heap.size by omega);have qt0:=Cls.cell t0 (show w.heap.size<wr.heap.size by omega);have qt1:=Cls.cell t1 (show w.heap.size<wr.heap.size by omega)
   have qt2:=Cls.cell t2 (show w.heap.size<wr.heap.size by omega);have qt3:=Cls.cell t3 (show w.heap.size<wr.heap.size by omega);have qt4:=Cls.cell t4 (show w.heap.size<wr.heap.size by omega);have qt5:=Cls.cell t5 (show w.heap.size<wr.heap.size by omega);have qt6:=Cls.cell t6 (show w.heap.size<wr.heap.size by omega);have qt7:=Cls.cell t7 (show w.heap.size<wr.heap.size by omega)
   have hne:=Cls.ne wr
   have HCC:Hid (∀m:Cls wr,Calls Tryz.prog 209 #[.agg #[.int .u8 (kB x 0),.int .u8 (kB x 1),.int .u8 (kB x 2),.int .u8 (kB x 3),.int .u8 (kB x 4),.int .u8 (kB x 5),.int .u8 (kB x 6),.int .u8 (kB x 7)],.agg #[.int .u8 (kB s 0),.int .u8 (kB s 1),.int .u8 (kB s 2),.int .u8 (kB s 3),.int .u8 (kB s 4),.int .u8 (kB s 5),.int .u8 (kB s 6),.int .u8 (kB s 7)]] m.w fun e w'=>e=.returned (.int .i64 (kCmp x s))/\Below m.w.heap.size m.w w'):=fun m=>cmpKey_any x s m.w
   clear r0 r1 r2 r3 r4 r5 r6 r7 t0 t1 t2 t3 t4 t5 t6 t7;have hcn:Hid (kCmp x s<0↔less x s=true):=kCmp_neg (s:=x) (t:=s) (by omega) (by omega);by_cases hc:kCmp x s<0
   ·have hd:decide (kCmp x s<0)=true:=by simpa using hc
    go_wp2;refine region_cls_lit (by kernel_rfl) (by kernel_rfl) ?_
    repeat (go_big_quiet_step (exact Cls.calls (HCC.out _)))
    refine wpQuiet_nil ?_;intro m;clear qr0 qr1 qr2 qr3 qr4 qr5 qr6 qr7 qt0 qt1 qt2 qt3 qt4 qt5 qt6 qt7 HCC;go_wp2;refine⟨⟨(lo+hi)/2+1,hi,by go_num,rfl,by omega,hin,⟨?_,HI.out.2⟩,hbel.trans (m.h.mono hzr)⟩,by simp[intOf];omega⟩;intro j y hj hy;rcases Nat.lt_or_ge j ((lo+hi)/2) with h|h
    ·have:=List.pairwise_iff_getElem.1 hsort j ((lo+hi)/2) (by omega) hml h
     obtain⟨_,rfl⟩:=List.getElem?_eq_some_iff.1 hy;obtain⟨_,e⟩:=List.getElem?_eq_some_iff.1 HG.out;rw[e] at this;exact less_trans this (hcn.out.1 hc)
    ·obtain rfl:j=(lo+hi)/2:=by omega
     rw[HG.out] at hy;cases hy;exact hcn.out.1 hc
   ·have hd:decide (kCmp x s<0)=false:=by simpa using hc
    have HNC:Hid _:=hc;clear hc;go_wp2;refine region_cls_lit (by kernel_rfl) (by kernel_rfl) ?_
    repeat (go_big_quiet_step (exact Cls.calls (HCC.out _)))
    refine wpQuiet_nil ?_;intro m;clear qr0 qr1 qr2 qr3 qr4 qr5 qr6 qr7 qt0 qt1 qt2 qt3 qt4 qt5 qt6 qt7 HCC;go_wp2;refine⟨⟨lo,(lo+hi)/2,rfl,by go_num,by omega,by omega,⟨HI.out.1,?_⟩,hbel.trans (m.h.mono hzr)⟩,by simp[intOf];omega⟩;have hxf:less x s=false:=by
     cases h:less x s with
     |false=>rfl
     |true=>exact absurd (hcn.out.2 h) HNC.out
    intro j y hj hy;rcases Nat.lt_or_ge ((lo+hi)/2) j with h|h
    ·have hjl:=(List.getElem?_eq_some_iff.1 hy).1
     have:=List.pairwise_iff_getElem.1 hsort ((lo+hi)/2) j hml hjl h;obtain⟨_,rfl⟩:=List.getElem?_eq_some_iff.1 hy;obtain⟨_,e⟩:=List.getElem?_eq_some_iff.1 HG.out;rw[e] at this;cases h':less ss[j] s with
     |false=>rfl
     |true=>rw[less_trans this h'] at hxf;cases hxf
    ·obtain rfl:j=(lo+hi)/2:=by omega
     rw[HG.out] at hy;cases hy;exact hxf
  ·obtain rfl:lo=hi:=by omega
   have HP:Hid (PlaceAt ss s lo):=⟨hin,HI.out.1,HI.out.2⟩;by_cases hn:lo<ss.length
   ·have HG:Hid (ss[lo]?=some ss[lo]):=List.getElem?_eq_getElem hn
    have hxs:=hsz _ (List.getElem_mem hn);generalize ss[lo]=x at *
    obtain⟨r0,r1,r2,r3,r4,r5,r6,r7⟩:=row8 (own_below HO.out hbel) HG.out;obtain⟨t0,t1,t2,t3,t4,t5,t6,t7⟩:=box8 (CellsAt.below (v:=.int .u8 (kB s 0)) HC.out hbel);have qr0:=Cls.cell r0 (show g<wr.heap.size by omega);have qr1:=Cls.cell r1 (show g<wr.heap.size by omega);have qr2:=Cls.cell r2 (show g<wr.heap.size by omega);have qr3:=Cls.cell r3 (show g<wr.heap.size by omega)
    have qr4:=Cls.cell r4 (show g<wr.heap.size by omega);have qr5:=Cls.cell r5 (show g<wr.heap.size by omega);have qr6:=Cls.cell r6 (show g<wr.heap.size by omega);have qr7:=Cls.cell r7 (show g<wr.heap.size by omega);have qt0:=Cls.cell t0 (show w.heap.size<wr.heap.size by omega);have qt1:=Cls.cell t1 (show w.heap.size<wr.heap.size by omega)
    have qt2:=Cls.cell t2 (show w.heap.size<wr.heap.size by omega);have qt3:=Cls.cell t3 (show w.heap.size<wr.heap.size by omega);have qt4:=Cls.cell t4 (show w.heap.size<wr.heap.size by omega);have qt5:=Cls.cell t5 (show w.heap.size<wr.heap.size by omega);have qt6:=Cls.cell t6 (show w.heap.size<wr.heap.size by omega);have qt7:=Cls.cell t7 (show w.heap.size<wr.heap.size by omega)
    have hne:=Cls.ne wr
    have HCC:Hid (∀m:Cls wr,Calls Tryz.prog 209 #[.agg #[.int .u8 (kB x 0),.int .u8 (kB x 1),.int .u8 (kB x 2),.int .u8 (kB x 3),.int .u8 (kB x 4),.int .u8 (kB x 5),.int .u8 (kB x 6),.int .u8 (kB x 7)],.agg #[.int .u8 (kB s 0),.int .u8 (kB s 1),.int .u8 (kB s 2),.int .u8 (kB s 3),.int .u8 (kB s 4),.int .u8 (kB s 5),.int .u8 (kB s 6),.int .u8 (kB s 7)]] m.w fun e w'=>e=.returned (.int .i64 (kCmp x s))/\Below m.w.heap.size m.w w'):=fun m=>cmpKey_any x s m.w
    clear r0 r1 r2 r3 r4 r5 r6 r7 t0 t1 t2 t3 t4 t5 t6 t7;have hcz:Hid (kCmp x s=0↔x=s):=kCmp_zero (s:=x) (t:=s) (by omega) (by omega);by_cases hc:kCmp x s=0
    ·have hd:(kCmp x s==0)=true:=by simpa using hc
     go_wp2;refine region_cls_lit (by kernel_rfl) (by kernel_rfl) ?_
     repeat (go_big_quiet_step (exact Cls.calls (HCC.out _)))
     refine wpQuiet_nil ?_;intro m;clear qr0 qr1 qr2 qr3 qr4 qr5 qr6 qr7 qt0 qt1 qt2 qt3 qt4 qt5 qt6 qt7 HCC;go_wp2
     go_ret2
     refine⟨lo,?_,HP.out,hB.trans ((hbel.trans (m.h.mono hzr)).mono hB.size)⟩;rw[HG.out,hcz.out.1 hc,decide_eq_true rfl];rfl
    ·have hd:(kCmp x s==0)=false:=by simpa using hc
     go_wp2;refine region_cls_lit (by kernel_rfl) (by kernel_rfl) ?_
     repeat (go_big_quiet_step (exact Cls.calls (HCC.out _)))
     refine wpQuiet_nil ?_;intro m;clear qr0 qr1 qr2 qr3 qr4 qr5 qr6 qr7 qt0 qt1 qt2 qt3 qt4 qt5 qt6 qt7 HCC;go_wp2
     go_ret2
     refine⟨lo,?_,HP.out,hB.trans ((hbel.trans (m.h.mono hzr)).mono hB.size)⟩;rw[HG.out,decide_eq_false (fun e=>hc (hcz.out.2 (Option.some.inj e)))];rfl
   ·have hne:=Cls.ne wr
    go_wp2;refine region_cls_lit (by kernel_rfl) (by kernel_rfl) ?_
    repeat (go_big_quiet_step (fail))
    refine wpQuiet_nil ?_;intro m;go_wp2
    go_ret2
    refine⟨lo,?_,HP.out,hB.trans ((hbel.trans (m.h.mono hzr)).mono hB.size)⟩;rw[List.getElem?_eq_none (by omega),decide_eq_false (by simp)];rfl
end Go.Proofs.YthkmpihfhkmaoaaGreatDoor
namespace Go.Proofs.YthkmpihfhkmaoaaGreatDoor
open Go.ChangeShapes Go.WideShapes Go.ChangeAt Go.RowKit
open Go.WideElems Go.MapKept Go.ChangeMaps
open Classical in
noncomputable def ers (f:Lit->Option Value) (kl:Lit):Lit->Option Value:=fun x=>if x=kl then none else f x
theorem KMap.del {w:World} {K t e:TypeId} {b n:Nat} {f:Lit->Option Value} (h:KMap w K b n f) (hK:Maps.Keyed Tryz.prog K) (ht:Tryz.prog.underlying t=some (.map K e)) {key:Value} {kl:Lit} (hkey:keyOf Tryz.prog K key=some kl) (ty:TypeId):
 ∃w',(Builtin.delete_ #[t,K] ty #[.map (some b),key]).run Tryz.prog w=.ok (.tuple #[]) w'/\KMap w' K b n (ers f kl)/\w.grownBy w' (some b):=by
 obtain⟨D,h1,h2,h3⟩:=h;obtain⟨w',hr,ho,es,clock,es',clock',hb,rfl⟩:=h1.drop hK ht hkey ty;refine⟨_,hr,⟨_,ho,fun x z=> ?_,fun x=> ?_⟩,?_⟩
 ·by_cases hx:x=kl
  ·subst hx;rw[Maps.atKey_del_same];simp[ers]
  ·rw[Maps.atKey_del_other hx,h2];simp[ers,hx]
 ·by_cases hx:x=kl
  ·subst hx;rw[Maps.has_del_same];simp[ers]
  ·rw[Maps.has_del_other hx,h3];simp[ers,hx]
 ·refine⟨rfl,rfl,rfl,by simp[setBlock],fun i _ hi=> ?_⟩
  simp only[setBlock];rw[Array.getElem?_setIfInBounds_ne (fun e=>hi (by rw[e]))]
theorem zeroKey (w:World):(zeroValue 162).run Tryz.prog w=.ok (.agg zero8) w:=by kernel_rfl
theorem run_clear_key (w:World) (ty:TypeId) (b o c:Nat) (hc:∀j,j<8->(w.cell? ⟨b,o+j,none⟩).isSome=true) (hf:∀j,j<8->w.frozen? ⟨b,o+j,none⟩=false):
 (Builtin.clear_ #[158] ty #[.slice (some ⟨b,o,none⟩) 1 c]).run Tryz.prog w=.ok (.tuple #[]) (w.setCells b o zero8.toList):=by
 have hzc:(Builtin.zeroCells (Value.agg zero8).cells 1).toList=zero8.toList:=by kernel_rfl
 have hst:=run_storeCells_cells (P:=Tryz.prog) b o zero8.toList 0 w (by simpa [zero8] using hc) (by simpa [zero8] using hf) (by intro v hv';simp[zero8] at hv';subst hv';rfl);simp only[Nat.add_zero] at hst;have hzk:=zeroKey;unfold zero8 at hzc hst hzk ⊢;simp[Builtin.clear_,run_underlying Tryz.underlying158,hzk,hzc,hst]
theorem own_past {base g cap n size:Nat} {e:TypeId} {xs:List Value}:∀(vs:List Value) (o:Nat) (w:World),w.ownsRow base e size (.slice (some ⟨g,0,none⟩) n cap) n xs->n *size<=o->(w.setCells g o vs).ownsRow base e size (.slice (some ⟨g,0,none⟩) n cap) n xs
 |[],_,_,h,_=>h
 |v::r,o,w,h,ho=>by
  rw[World.setCells];refine own_past r (o+1) _ ?_ (by omega);have:=(h.stored o v).1;rw[List.set_eq_of_length_le (by rw[h.1];exact ho)] at this;exact this
theorem grown_setC (g:Nat):∀(vs:List Value) (o:Nat) (w:World),w.grownBy (w.setCells g o vs) (some g)
 |[],_,w=>⟨rfl,rfl,rfl,Nat.le_refl _,fun _ _ _=>rfl⟩
 |v::r,o,w=>by
  rw[World.setCells];exact grown_trans (rd_grown w g o v) (grown_setC g r (o+1) _)
theorem grown_undrew {w w':World} {r:Option Nat} (h:w.drew.grownBy w' r):w.grownBy w' r:=⟨h.os,h.tape,h.output,h.size,h.block⟩
theorem own_cut {w:World} {base g cap:Nat} {ss:List ByteArray} (h:w.ownsRow base 162 8 (.slice (some ⟨g,0,none⟩) ss.length cap) ss.length (cells8 ss)) (i:Nat) (hi:i<=ss.length):w.ownsRow base 162 8 (.slice (some ⟨g,0,none⟩) i cap) i (cells8 (ss.take i)):=by
 refine⟨by rw[cells8_len,List.length_take];congr 1;omega,?_⟩;rcases h.2 with⟨e,_⟩|⟨g',cap',cur,e,hb,hg,h1,h2,h3,h4⟩
 ·cases e
 ·cases e
  refine .inr ⟨g,cap,cur,rfl,hb,hg,by omega,h2,h3,?_⟩;rw[cells8_flat,←row_take kC_len ss i hi,←cells8_flat,←h4,List.take_take];congr 1;omega
set_option maxRecDepth 20000 in
set_option maxHeartbeats 4000000 in
theorem deleteKey_any (g cap i:Nat) (ss:List ByteArray) (w:World) (base:Nat) (ho:w.ownsRow base 162 8 (.slice (some ⟨g,0,none⟩) ss.length cap) ss.length (cells8 ss)) (hl:ss.length<=600) (hi:i<ss.length):
 Calls Tryz.prog 182 #[.slice (some ⟨g,0,none⟩) ss.length cap,.int .i64 i,.int .i64 ((i:Int)+1)] w fun e w'=>e=.returned (.slice (some ⟨g,0,none⟩) (ss.length -1) cap)/\w'.ownsRow base 162 8 (.slice (some ⟨g,0,none⟩) (ss.length -1) cap) (ss.length -1) (cells8 (ss.eraseIdx i))/\w.grownBy w' (some g):=by
 obtain⟨i0,hinf,hz0,hz1,hz2⟩:=info_parts Tryz.infoKey;have hcap:ss.length<=cap/\cap<=maxLen:=by
  rcases ho.2 with⟨e,_⟩|⟨g',cap',cur,e,hb,hg,h1,h2,h3,h4⟩
  ·cases e
  ·cases e;exact⟨h1,h2⟩
 obtain⟨hc1,hc2⟩:=hcap;unfold maxLen at hc2;have hcut:=own_cut ho i (by omega);obtain⟨A,hA,hnews⟩:∃A,(if cap=i+1 then some (⟨g,0,none⟩:Addr) else some ⟨g,(i+1) *8,none⟩)=some A/\∀j u,(cells8 (ss.drop (i+1)))[j]?=some u->w.drew.cell? (A.add j)=some u:=by
  by_cases h:cap=i+1
  ·refine⟨⟨g,0,none⟩,by rw[if_pos h],fun j u hu=> ?_⟩
   rw[List.drop_of_length_le (by omega)] at hu;simp[cells8] at hu
  ·refine⟨⟨g,(i+1) *8,none⟩,by rw[if_neg h],fun j u hu=> ?_⟩
   rw[Go.WideShapes.add_plain];rw[cells8_flat,←row_drop kC_len ss (i+1) (by omega),←cells8_flat,List.getElem?_drop] at hu;have hlt:=(List.getElem?_eq_some_iff.1 hu).1;rw[cells8_len] at hlt;exact(ho.cellAt _ (by omega)).trans hu
 obtain⟨w1,hr,ho1,hg1⟩:=run_append_fits (P:=Tryz.prog) w.drew base 158 158 162 i0 8 Tryz.underlying158 hinf hz1 g i cap (cells8 (ss.take i)) hcut A (ss.length -(i+1)) (cap -(i+1)) (cells8 (ss.drop (i+1))) (by rw[cells8_len,List.length_drop]) hnews (cells8_one _) (by omega);rw[←cells8_append,show i+(ss.length -(i+1))=ss.length -1 by omega] at ho1
 rw[show i+(ss.length -(i+1))=ss.length -1 by omega] at hr;have hee:ss.take i++ss.drop (i+1)=ss.eraseIdx i:=(List.eraseIdx_eq_take_drop_succ ss i).symm;rw[hee] at ho1;have HO:Hid _:=And.intro ho1 hg1;clear hnews ho1 hcut hee;go_enter Tryz.func182,Tryz.ntmps182;have hi1:¬((i:Int)==(i:Int)+1)=true:=by simp;omega
 have hic:i<=cap:=by omega
 have hp0:(0:Int)<=(i:Int)+1:=by omega
 have hp1:(i:Int)+1<=(ss.length:Int):=by omega
 have hp2:((i:Int)+1).toNat=i+1:=by omega
 go_upto_region 5 with fail
 go_region_law (first
  |(refine step_append_run (by rfl) (.tmp 22) (.tmp 25) 158 158 (by rfl) (by rfl) (by simp[Act.eval,Act.put]) hr ?_))
 all_goals
  have hf1:∀j,j<8->(w1.cell? ⟨g,(ss.length -1) *8+j,none⟩).isSome=true/\w1.frozen? ⟨g,(ss.length -1) *8+j,none⟩=false:=fun j hj=>by
   obtain⟨ho1,hg1⟩:=HO.out;rcases ho1.2 with⟨e,_⟩|⟨g',cap',cur,e,hb,hg,h1,h2,h3,h4⟩
   ·cases e
   ·cases e
    constructor
    ·simp only[World.cell?,hg]
     rw[Array.getElem?_eq_getElem (by omega)];rfl
    ·exact ho1.frozenAt _
  have hclr:=run_clear_key w1 0 g ((ss.length -1) *8) (cap -(ss.length -1)) (fun j hj=>(hf1 j hj).1) (fun j hj=>(hf1 j hj).2);have e1:ss.length -(ss.length -1)=1:=by omega
  have e2:¬cap=ss.length -1:=by omega
  have e3:ss.length -1<=ss.length:=by omega
  go_wp2;go_ret;obtain⟨ho1,hg1⟩:=HO.out;exact⟨rfl,own_past _ _ _ ho1 (Nat.le_refl _),grown_trans (grown_undrew hg1) (grown_setC g _ _ _)⟩
set_option maxRecDepth 20000 in
set_option maxHeartbeats 2000000 in
theorem place_any (base d m g cap:Nat) (P L:Value) (wd now given births:Int) (ks:List Kd) (s:ByteArray) (w:World) (hbox:CellsAt w d [.int .i64 wd,.map (some m),.int .i64 now,.int .i64 given,.int .i64 births,.slice (some ⟨g,0,none⟩) ks.length cap,P,L]) (hord:w.ownsRow base 162 8 (.slice (some ⟨g,0,none⟩) ks.length cap) ks.length (cells8 (ks.map (·.sum))))
 (hk:ks.length<=600) (hs8:s.size<=8) (hsz:∀x∈ks,x.sum.size=s.size) (hsort:(ks.map (·.sum)).Pairwise (fun a b=>less a b=true)):
 Calls Tryz.prog 181 #[.pointer (some ⟨d,0,none⟩),keyV s] w fun e w'=>∃i:Nat,e=.returned (.tuple #[.int .i64 i,.bool (decide ((ks.map (·.sum))[i]?=some s))])/\PlaceAt (ks.map (·.sum)) s i/\Below w.heap.size w w':=by
 obtain⟨W,hW⟩:∃W,W=w.alloc (.cells #[.int .u8 (kB s 0),.int .u8 (kB s 1),.int .u8 (kB s 2),.int .u8 (kB s 3),.int .u8 (kB s 4),.int .u8 (kB s 5),.int .u8 (kB s 6),.int .u8 (kB s 7)] 162):=⟨_,rfl⟩;have hB:Below w.heap.size w W:=by rw[hW];exact(Below.refl _ _).alloc (Nat.le_refl _) _
 have cb:CellsAt W w.heap.size (kCells s):=by rw[hW];exact CellsAt.new w (kCells s) 162
 have hoW:W.drew.ownsRow base 162 8 (.slice (some ⟨g,0,none⟩) (ks.map (·.sum)).length cap) (ks.map (·.sum)).length (cells8 (ks.map (·.sum))):=by
  rw[List.length_map];exact own_below hord hB.drew
 have HS:Hid _:=search_any g cap (ks.map (·.sum)) s W.drew base hoW (by rw[List.length_map];exact hk) hs8 (fun x hx=>by obtain⟨y,hy,rfl⟩:=List.mem_map.1 hx;exact hsz y hy) hsort;rw[List.length_map] at HS
 have S0:W.drew.cell? ⟨d,5,none⟩=some (.slice (some ⟨g,0,none⟩) ks.length cap)/\(W.drew.cell? ⟨w.heap.size,0,none⟩=some (.int .u8 (kB s 0))/\W.drew.cell? ⟨w.heap.size,1,none⟩=some (.int .u8 (kB s 1))/\W.drew.cell? ⟨w.heap.size,2,none⟩=some (.int .u8 (kB s 2))/\W.drew.cell? ⟨w.heap.size,3,none⟩=some (.int .u8 (kB s 3))/\W.drew.cell? ⟨w.heap.size,4,none⟩=some (.int .u8 (kB s 4))/\W.drew.cell? ⟨w.heap.size,5,none⟩=some (.int .u8 (kB s 5))/\W.drew.cell? ⟨w.heap.size,6,none⟩=some (.int .u8 (kB s 6))/\W.drew.cell? ⟨w.heap.size,7,none⟩=some (.int .u8 (kB s 7))):=⟨(CellsAt.below hbox hB 5 _ rfl).1,box8 cb⟩
 have HW:Hid _:=hW;clear hW cb hoW hbox hord;unfold keyV keyA at *
 go_enter Tryz.func181,Tryz.ntmps181;go_upto_region 1 with fail;rw[←HW.out];clear HW;obtain⟨s5,s60,s61,s62,s63,s64,s65,s66,s67⟩:=S0;go_region_with (go_at_call 208;refine Calls.mono HS.out ?_;rintro e w1 ⟨i,rfl,hp,hb⟩)
 all_goals
  have HF:Hid _:=And.intro hp (hB.trans ((below_undrew hb).mono hB.size));clear hp hb s5 s60 s61 s62 s63 s64 s65 s66 s67 HS;go_wp2
  go_ret2
  exact⟨i,by first|rfl|simp[Act.put],HF.out.1,HF.out.2⟩
end Go.Proofs.YthkmpihfhkmaoaaGreatDoor
namespace Go.Proofs.YthkmpihfhkmaoaaGreatDoor
open Go.ChangeShapes Go.WideShapes Go.ChangeAt Go.RowKit
set_option maxHeartbeats 400000 in
theorem cNaN_any (x:ByteArray) (w:World):Calls Tryz.prog 230 #[.string x] w fun e w'=>e=.returned (.bool false)/\Below w.heap.size w w':=by
 go_enter Tryz.func230,Tryz.ntmps230;go_wp2;go_ret;exact⟨by simp,Below.refl _ _⟩
set_option maxHeartbeats 400000 in
theorem sNaN_any (x:ByteArray) (w:World):Calls Tryz.prog 249 #[.string x] w fun e w'=>e=.returned (.bool false)/\Below w.heap.size w w':=by
 go_enter Tryz.func249,Tryz.ntmps249;go_wp2;go_ret;exact⟨by simp,Below.refl _ _⟩
set_option maxHeartbeats 1000000 in
theorem lessS_any (x y:ByteArray) (w:World):Calls Tryz.prog 248 #[.string x,.string y] w fun e w'=>e=.returned (.bool (less x y))/\Below w.heap.size w w':=by
 go_enter Tryz.func248,Tryz.ntmps248;unfold less;go_wp2_with (go_at_call 230;refine(cNaN_any x w).mono ?_;rintro e w1 ⟨rfl,hb1⟩);go_wp2;go_ret;exact⟨by simp,hb1⟩
set_option maxRecDepth 20000 in
set_option maxHeartbeats 4000000 in
theorem searchS_any (a:Option Addr) (cap:Nat) (ss:List ByteArray) (s:ByteArray) (w:World) (hrow:SRow w w.heap.size a ss) (hl:ss.length<=1000) (hsort:ss.Pairwise (fun a b=>less a b=true)):
 Calls Tryz.prog 238 #[.slice a ss.length cap,.string s] w fun e w'=>∃(i:Int) (ok:Bool),e=.returned (.tuple #[.int .i64 i,.bool ok])/\(ok=true↔s∈ss)/\Below w.heap.size w w':=by
 have HL:Hid (∀x y w,Calls Tryz.prog 248 #[.string x,.string y] w fun e w'=>e=.returned (.bool (less x y))/\Below w.heap.size w w'):=lessS_any;go_enter Tryz.func238,Tryz.ntmps238;go_wp2
 go_loopw [7,8] (fun i j wr=>∃lo hi:Nat,i=.int .i64 lo/\j=.int .i64 hi/\lo<=hi/\hi<=ss.length/\Hid ((∀j x,j<lo->ss[j]?=some x->less x s=true)/\(∀j x,hi<=j->ss[j]?=some x->less x s=false))/\Below w.heap.size w wr) (fun i j _=>(intOf j).toNat -(intOf i).toNat)
 case atStart=>exact⟨0,ss.length,rfl,rfl,Nat.zero_le _,Nat.le_refl _,⟨fun j x h=>by omega,fun j x h hx=>by have:=(List.getElem?_eq_some_iff.1 hx).1;omega⟩,Below.refl _ _⟩
 case round=>
  obtain⟨lo,hi,rfl,rfl,hlh,hin,HI,hbel⟩:=hrel;have hzr:=hbel.size;by_cases hlt:lo<hi
  ·have hml:(lo+hi)/2<ss.length:=by omega
   have HG:Hid (ss[(lo+hi)/2]?=some ss[(lo+hi)/2]):=List.getElem?_eq_getElem hml;obtain⟨b,off,ha,hb,hc⟩:=(hrow.below hbel).at hml;subst ha;have hx:=hc _ _ HG.out;clear hc;generalize ss[(lo+hi)/2]=x at *
   go_wp2_with fail;refine(lessS_any x s wr).mono ?_;rintro e w1 ⟨rfl,hb1⟩;have hB1:=hbel.trans (hb1.mono hzr);by_cases hc:less x s=true
   ·rw[hc]
    go_wp2;refine⟨⟨(lo+hi)/2+1,hi,by go_num,rfl,by omega,hin,⟨?_,HI.out.2⟩,hB1⟩,by simp[intOf];omega⟩;intro j y hj hy;rcases Nat.lt_or_ge j ((lo+hi)/2) with h|h
    ·have:=List.pairwise_iff_getElem.1 hsort j ((lo+hi)/2) (by omega) hml h
     obtain⟨_,rfl⟩:=List.getElem?_eq_some_iff.1 hy;obtain⟨_,e⟩:=List.getElem?_eq_some_iff.1 HG.out;rw[e] at this;exact less_trans this hc
    ·obtain rfl:j=(lo+hi)/2:=by omega
     rw[HG.out] at hy;cases hy;exact hc
   ·have hxf:less x s=false:=by simpa using hc
    rw[hxf];go_wp2;refine⟨⟨lo,(lo+hi)/2,rfl,by go_num,by omega,by omega,⟨HI.out.1,?_⟩,hB1⟩,by simp[intOf];omega⟩;intro j y hj hy;rcases Nat.lt_or_ge ((lo+hi)/2) j with h|h
    ·have hjl:=(List.getElem?_eq_some_iff.1 hy).1
     have:=List.pairwise_iff_getElem.1 hsort ((lo+hi)/2) j hml hjl h;obtain⟨_,rfl⟩:=List.getElem?_eq_some_iff.1 hy;obtain⟨_,e⟩:=List.getElem?_eq_some_iff.1 HG.out;rw[e] at this;cases h':less ss[j] s with
     |false=>rfl
     |true=>rw[less_trans this h'] at hxf;cases hxf
    ·obtain rfl:j=(lo+hi)/2:=by omega
     rw[HG.out] at hy;cases hy;exact hxf
  ·obtain rfl:lo=hi:=by omega
   have hmem:s∈ss->ss[lo]?=some s:=fun hs=>by
    obtain⟨j,hj⟩:=List.getElem?_of_mem hs;rcases Nat.lt_or_ge j lo with h|h
    ·have:=HI.out.1 j s h hj
     rw[less_irrefl] at this;cases this
    ·rcases Nat.lt_or_ge lo j with h'|h'
     ·have hjl:=(List.getElem?_eq_some_iff.1 hj).1
      have h1:=List.pairwise_iff_getElem.1 hsort lo j (by omega) hjl h';have h2:=HI.out.2 lo _ (Nat.le_refl _) (List.getElem?_eq_getElem (by omega));obtain⟨_,e⟩:=List.getElem?_eq_some_iff.1 hj;rw[e] at h1;rw[h1] at h2;cases h2
     ·obtain rfl:j=lo:=by omega
      exact hj
   have HM:Hid _:=hmem;clear hmem;by_cases hn:lo<ss.length
   ·have HG:Hid (ss[lo]?=some ss[lo]):=List.getElem?_eq_getElem hn
    obtain⟨b,off,ha,hb,hc⟩:=(hrow.below hbel).at hn;subst ha;have hx:=hc _ _ HG.out;clear hc;generalize ss[lo]=x at *
    by_cases he:x=s
    ·subst he
     have hd:x∈ss:=List.mem_of_getElem? HG.out;have HDm:Hid _:=hd;clear hd;have hq:(x.toList==x.toList)=true:=by simp
     go_wp2
     go_ret2
     exact⟨_,true,by first|rfl|simp[Act.put],⟨fun _=>HDm.out,fun _=>rfl⟩,hbel⟩
    ·have hd:¬s∈ss:=by
      intro h;have:=HM.out h;rw[HG.out] at this;exact he (Option.some.inj this)
     have HDm:Hid _:=hd;clear hd;have hq:=beq_ne he;go_wp2_with (go_at_call 249;refine(sNaN_any x wr).mono ?_;rintro e w1 ⟨rfl,hb1⟩);go_wp2
     go_ret2
     exact⟨_,false,by first|rfl|simp[Act.put],⟨(fun h=>by cases h),(fun h=>absurd h HDm.out)⟩,hbel.trans (hb1.mono hzr)⟩
   ·have hd:¬s∈ss:=by
     intro h;have:=(List.getElem?_eq_some_iff.1 (HM.out h)).1;omega
    have HDm:Hid _:=hd;clear hd;go_wp2
    go_ret2
    exact⟨_,false,by first|rfl|simp[Act.put],⟨(fun h=>by cases h),(fun h=>absurd h HDm.out)⟩,hbel⟩
end Go.Proofs.YthkmpihfhkmaoaaGreatDoor
namespace Go.Proofs.YthkmpihfhkmaoaaGreatDoor
open Go.ChangeShapes Go.WideShapes Go.ChangeAt Go.RowKit
attribute [local go_sem↓] Go.wp_at_zero Go.wp_at_succ
set_option maxHeartbeats 400000 in
theorem eqPins_any (p:Pd) (s:ByteArray) (b:Nat) (w:World) (hc:w.cell? ⟨b,0,none⟩=some (.string s)):
 Calls Tryz.prog 233 #[.agg #[.string p.name,.string p.sum],.pointer (some ⟨b,0,none⟩)] w fun e w'=>e=.returned (.bool (decide (p.sum=s)))/\Below w.heap.size w w':=by
 have hb:b<w.heap.size:=World.block_lt_of_cell? w _ hc;have hne:¬w.heap.size=b:=by omega
 have hA:∀o,Below w.heap.size w (w.alloc o):=fun o=>(Below.refl _ _).alloc (Nat.le_refl _) _;by_cases h:p.sum=s
 ·have hq:(p.sum.toList==s.toList)=true:=by rw[h];simp
  have hd:decide (p.sum=s)=true:=by simpa using h
  clear h;go_enter Tryz.func233,Tryz.ntmps233;go_wp2;go_ret;exact⟨by rw[hd];rfl,hA _⟩
 ·have hq:(p.sum.toList==s.toList)=false:=beq_ne h
  have hd:decide (p.sum=s)=false:=by simpa using h
  clear h;go_enter Tryz.func233,Tryz.ntmps233;go_wp2;go_ret;exact⟨by rw[hd];rfl,hA _⟩
set_option maxHeartbeats 1000000 in
theorem indexPin_any (a:Option Addr) (cap b:Nat) (ps:List Pd) (s:ByteArray) (w:World) (hrow:PRow w w.heap.size a ps) (hl:ps.length<=1048576) (hc:w.cell? ⟨b,0,none⟩=some (.string s)):
 Calls Tryz.prog 246 #[.slice a ps.length cap,.func (.func 233) #[] #[.pointer (some ⟨b,0,none⟩)]] w fun e w'=>∃r:Int,e=.returned (.int .i64 r)/\(0<=r↔∃p∈ps,p.sum=s)/\Below w.heap.size w w':=by
 have hbl:b<w.heap.size:=World.block_lt_of_cell? w _ hc;go_enter Tryz.func246,Tryz.ntmps246;go_wp2
 go_loopw [8] (fun i wr=>∃k:Nat,k<=ps.length/\i=.int .i64 k/\Hid (∀j x,j<k->ps[j]?=some x->¬x.sum=s)/\Below w.heap.size w wr) (fun i _=>ps.length -(intOf i).toNat)
 case atStart=>exact⟨0,Nat.zero_le _,rfl,(fun j x h=>by omega),Below.refl _ _⟩
 case round=>
  obtain⟨k,hk,rfl,hall,hbel⟩:=hrel;have hzr:=hbel.size;by_cases hlt:k<ps.length
  ·obtain⟨b',off,ha,hb,hc'⟩:=(hrow.below hbel).at hlt
   subst ha;have hg:Hid (ps[k]?=some ps[k]):=List.getElem?_eq_getElem hlt;obtain⟨c0,c1⟩:=hc' k _ hg.out;have hcr:=(hbel.cell (p:=⟨b,0,none⟩) hbl).trans hc;clear hc' hrow;generalize ps[k]=x at *
   go_wp2_with fail;refine(eqPins_any x s b wr hcr).mono ?_;rintro e w1 ⟨rfl,hb1⟩;have hB1:=hbel.trans (hb1.mono hzr);by_cases h:x.sum=s
   ·have hd:decide (x.sum=s)=true:=by simpa using h
    rw[hd];go_wp2;go_ret;exact⟨_,rfl,⟨fun _=>⟨x,List.mem_of_getElem? hg.out,h⟩,fun _=>by omega⟩,hB1⟩
   ·have HA:Hid (∀j y,j<k+1->ps[j]?=some y->¬y.sum=s):=by
     intro j y hj hy;rcases Nat.lt_or_ge j k with h'|h'
     ·exact hall.out j y h' hy
     ·obtain rfl:j=k:=by omega
      rw[hg.out] at hy;cases hy;exact h
    have hd:decide (x.sum=s)=false:=by simpa using h
    rw[hd];clear h;go_wp2;exact⟨⟨k+1,by omega,by go_num,HA,hB1⟩,by simp[intOf];omega⟩
  ·go_wp2
   go_ret;refine⟨_,rfl,⟨fun h=>by omega,fun⟨p,hp,h⟩=> ?_⟩,hbel⟩;obtain⟨j,hj,rfl⟩:=List.getElem_of_mem hp;exact absurd h (hall.out j _ (by omega) (List.getElem?_eq_getElem hj))
set_option maxHeartbeats 400000 in
theorem containsPin_any (a:Option Addr) (cap b:Nat) (ps:List Pd) (s:ByteArray) (w:World) (hrow:PRow w w.heap.size a ps) (hl:ps.length<=1048576) (hc:w.cell? ⟨b,0,none⟩=some (.string s)):
 Calls Tryz.prog 232 #[.slice a ps.length cap,.func (.func 233) #[] #[.pointer (some ⟨b,0,none⟩)]] w fun e w'=>∃ok,e=.returned (.bool ok)/\(ok=true↔∃p∈ps,p.sum=s)/\Below w.heap.size w w':=by
 go_enter Tryz.func232,Tryz.ntmps232;go_wp2_with fail;refine(indexPin_any a cap b ps s w hrow hl hc).mono ?_;rintro e w1 ⟨r,rfl,hr,hb1⟩;have HR:Hid _:=hr;clear hr;by_cases h:0<=r
 ·have hd:decide ((0:Int)<=r)=true:=by simpa using h
  go_wp2;go_ret;exact⟨true,rfl,⟨(fun _=>HR.out.1 h),(fun _=>rfl)⟩,hb1⟩
 ·have hd:decide ((0:Int)<=r)=false:=by simpa using h
  go_wp2;go_ret;exact⟨false,rfl,⟨(fun e=>by cases e),(fun e=>absurd (HR.out.2 e) (by omega))⟩,hb1⟩
set_option maxHeartbeats 400000 in
theorem eqLeases_any (p:Ld) (s:ByteArray) (b:Nat) (w:World) (hc:w.cell? ⟨b,0,none⟩=some (.string s)):
 Calls Tryz.prog 235 #[.agg #[.int .i64 p.num,.string p.sum,.int .i64 p.til],.pointer (some ⟨b,0,none⟩)] w fun e w'=>e=.returned (.bool (decide (p.sum=s)))/\Below w.heap.size w w':=by
 have hb:b<w.heap.size:=World.block_lt_of_cell? w _ hc;have hne:¬w.heap.size=b:=by omega
 have hA:∀o,Below w.heap.size w (w.alloc o):=fun o=>(Below.refl _ _).alloc (Nat.le_refl _) _;by_cases h:p.sum=s
 ·have hq:(p.sum.toList==s.toList)=true:=by rw[h];simp
  have hd:decide (p.sum=s)=true:=by simpa using h
  clear h;go_enter Tryz.func235,Tryz.ntmps235;go_wp2;go_ret;exact⟨by rw[hd];rfl,hA _⟩
 ·have hq:(p.sum.toList==s.toList)=false:=beq_ne h
  have hd:decide (p.sum=s)=false:=by simpa using h
  clear h;go_enter Tryz.func235,Tryz.ntmps235;go_wp2;go_ret;exact⟨by rw[hd];rfl,hA _⟩
set_option maxHeartbeats 1000000 in
theorem indexLease_any (a:Option Addr) (cap b:Nat) (ps:List Ld) (s:ByteArray) (w:World) (hrow:LRow w w.heap.size a ps) (hl:ps.length<=1048576) (hc:w.cell? ⟨b,0,none⟩=some (.string s)):
 Calls Tryz.prog 205 #[.slice a ps.length cap,.func (.func 235) #[] #[.pointer (some ⟨b,0,none⟩)]] w fun e w'=>∃r:Int,e=.returned (.int .i64 r)/\(0<=r↔∃p∈ps,p.sum=s)/\Below w.heap.size w w':=by
 have hbl:b<w.heap.size:=World.block_lt_of_cell? w _ hc;go_enter Tryz.func205,Tryz.ntmps205;go_wp2
 go_loopw [8] (fun i wr=>∃k:Nat,k<=ps.length/\i=.int .i64 k/\Hid (∀j x,j<k->ps[j]?=some x->¬x.sum=s)/\Below w.heap.size w wr) (fun i _=>ps.length -(intOf i).toNat)
 case atStart=>exact⟨0,Nat.zero_le _,rfl,(fun j x h=>by omega),Below.refl _ _⟩
 case round=>
  obtain⟨k,hk,rfl,hall,hbel⟩:=hrel;have hzr:=hbel.size;by_cases hlt:k<ps.length
  ·obtain⟨b',off,ha,hb,hc'⟩:=(hrow.below hbel).at hlt
   subst ha;have hg:Hid (ps[k]?=some ps[k]):=List.getElem?_eq_getElem hlt;obtain⟨c0,c1,c2⟩:=hc' k _ hg.out;have hcr:=(hbel.cell (p:=⟨b,0,none⟩) hbl).trans hc;clear hc' hrow;generalize ps[k]=x at *
   go_wp2_with fail;refine(eqLeases_any x s b wr hcr).mono ?_;rintro e w1 ⟨rfl,hb1⟩;have hB1:=hbel.trans (hb1.mono hzr);by_cases h:x.sum=s
   ·have hd:decide (x.sum=s)=true:=by simpa using h
    rw[hd];go_wp2;go_ret;exact⟨_,rfl,⟨fun _=>⟨x,List.mem_of_getElem? hg.out,h⟩,fun _=>by omega⟩,hB1⟩
   ·have HA:Hid (∀j y,j<k+1->ps[j]?=some y->¬y.sum=s):=by
     intro j y hj hy;rcases Nat.lt_or_ge j k with h'|h'
     ·exact hall.out j y h' hy
     ·obtain rfl:j=k:=by omega
      rw[hg.out] at hy;cases hy;exact h
    have hd:decide (x.sum=s)=false:=by simpa using h
    rw[hd];clear h;go_wp2;exact⟨⟨k+1,by omega,by go_num,HA,hB1⟩,by simp[intOf];omega⟩
  ·go_wp2
   go_ret;refine⟨_,rfl,⟨fun h=>by omega,fun⟨p,hp,h⟩=> ?_⟩,hbel⟩;obtain⟨j,hj,rfl⟩:=List.getElem_of_mem hp;exact absurd h (hall.out j _ (by omega) (List.getElem?_eq_getElem hj))
set_option maxHeartbeats 400000 in
theorem containsLease_any (a:Option Addr) (cap b:Nat) (ps:List Ld) (s:ByteArray) (w:World) (hrow:LRow w w.heap.size a ps) (hl:ps.length<=1048576) (hc:w.cell? ⟨b,0,none⟩=some (.string s)):
 Calls Tryz.prog 234 #[.slice a ps.length cap,.func (.func 235) #[] #[.pointer (some ⟨b,0,none⟩)]] w fun e w'=>∃ok,e=.returned (.bool ok)/\(ok=true↔∃p∈ps,p.sum=s)/\Below w.heap.size w w':=by
 go_enter Tryz.func234,Tryz.ntmps234;go_wp2_with fail;refine(indexLease_any a cap b ps s w hrow hl hc).mono ?_;rintro e w1 ⟨r,rfl,hr,hb1⟩;have HR:Hid _:=hr;clear hr;by_cases h:0<=r
 ·have hd:decide ((0:Int)<=r)=true:=by simpa using h
  go_wp2;go_ret;exact⟨true,rfl,⟨(fun _=>HR.out.1 h),(fun _=>rfl)⟩,hb1⟩
 ·have hd:decide ((0:Int)<=r)=false:=by simpa using h
  go_wp2;go_ret;exact⟨false,rfl,⟨(fun e=>by cases e),(fun e=>absurd (HR.out.2 e) (by omega))⟩,hb1⟩
set_option maxRecDepth 20000 in
set_option maxHeartbeats 1000000 in
theorem isHeld_any (base d m:Nat) (O P L:Value) (wd now given births:Int) (ks:List Kd) (ps:List Pd) (ls:List Ld) (s:ByteArray) (w:World) (hd:Dr w base d m O P L wd now given births ks ps ls) (hp:ps.length<=100) (hl:ls.length<=200):
 Calls Tryz.prog 206 #[.pointer (some ⟨d,0,none⟩),.string s] w fun e w'=>∃ok,e=.returned (.bool ok)/\(ok=true↔(∃p∈ps,p.sum=s)∨∃l∈ls,l.sum=s)/\Below w.heap.size w w':=by
 have hmf:∀(fn:Fn) (first cap:Array Value) (w:World),(Instr.makeFunc fn first cap).run Tryz.prog w=.ok (.func fn first cap) w:=fun _ _ _ _=>rfl;obtain⟨pa,pcp,rfl⟩:=own_val hd.pin;obtain⟨la,lcp,rfl⟩:=own_val hd.lea;have HD:Hid _:=hd;obtain⟨W,hW⟩:∃W,W=w.alloc (.cells #[.string s] 9):=⟨_,rfl⟩;have hB:Below w.heap.size w W:=by rw[hW];exact(Below.refl _ _).alloc (Nat.le_refl _) _
 have c0:W.cell? ⟨w.heap.size,0,none⟩=some (.string s):=by rw[hW];simp
 have hDW:=hd.below hB;obtain⟨c6,_⟩:=hDW.box 6 _ rfl;obtain⟨c7,_⟩:=hDW.box 7 _ rfl;have HDW:Hid _:=hDW;have HW:Hid _:=hW;clear hW hd hDW;go_enter Tryz.func206,Tryz.ntmps206;go_upto_region 1 with fail;rw[←HW.out];clear HW;go_wp2_with fail;refine(containsPin_any pa pcp _ ps s W (PRow.own HDW.out.pin) (by omega) c0).mono ?_;rintro e w1 ⟨ok1,rfl,h1,hb1⟩;have HD1:Hid _:=Dr.below HDW.out hb1
 obtain⟨d7,_⟩:=HD1.out.box 7 _ rfl;have c1:w1.cell? ⟨w.heap.size,0,none⟩=some (.string s):=(hb1.cell (p:=⟨w.heap.size,0,none⟩) (World.block_lt_of_cell? W _ c0)).trans c0;have H1:Hid _:=h1;clear h1 c6 c7 c0;go_wp2_with fail;refine(containsLease_any la lcp _ ls s w1 (LRow.own HD1.out.lea) (by omega) c1).mono ?_;rintro e w2 ⟨ok2,rfl,h2,hb2⟩;have H2:Hid _:=h2
 have hbb:Below w.heap.size w w2:=(hB.trans (hb1.mono hB.size)).trans (hb2.mono (Nat.le_trans hB.size hb1.size));clear h2 d7 c1;cases ok1
 ·go_wp2
  go_ret;exact⟨ok2,rfl,⟨(fun e=> .inr (H2.out.1 e)),(fun e=>e.elim (fun e=>by have:=H1.out.2 e;cases this) H2.out.2)⟩,hbb⟩
 ·go_wp2
  go_ret;exact⟨true,rfl,⟨(fun _=> .inl (H1.out.1 trivial)),(fun _=>rfl)⟩,hbb⟩
end Go.Proofs.YthkmpihfhkmaoaaGreatDoor
