import Derived.Test.YtpekbmegopfhfaaGreatDoorK05
import Derived.Lib.BytesEntry
set_option maxRecDepth 100000
set_option maxHeartbeats 16000000
namespace Go.Proofs.YtpekbmegopfhfaaGreatDoor
open Go.ChangeShapes Go.WideShapes Go.ChangeAt Go.RowKit _root_.Go.Proofs.Tryz
def kI (s:ByteArray):List Int:=[kB s 0,kB s 1,kB s 2,kB s 3,kB s 4,kB s 5,kB s 6,kB s 7]
def Ez (s t:ByteArray):Int:=Lib.compareBytes (Lib.bytesOf (kI s)) (Lib.bytesOf (kI t))
theorem Uw (x:List UInt8):Lib.compareBytes x x=0:=by
 induction x with
 |nil=>rfl
 |cons a x ih=>unfold Lib.compareBytes;simp[ih,UInt8.lt_irrefl]
theorem My (z:List UInt8):∀(x y:List UInt8),x.length=y.length->Lib.compareBytes (x++z) (y++z)=Lib.compareBytes x y
 |[],[],_=>by rw[List.nil_append,Uw];rfl
 |a::x,b::y,h=>by
  have ih:=My z x y (by simpa using h);show Lib.compareBytes (a::(x++z)) (b::(y++z))=_;unfold Lib.compareBytes;rw[ih]
theorem QI:∀(x y:List UInt8),x.length=y.length->(Lib.compareBytes x y<0↔x<y)
 |[],[],_=>by simp[Lib.compareBytes]
 |a::x,b::y,h=>by
  have ih:=QI x y (by simpa using h);unfold Lib.compareBytes;rw[List.cons_lt_cons_iff,←ih];by_cases h1:a<b
  ·simp[h1]
  ·by_cases h2:b<a
   ·have:¬a=b:=fun e=>by subst e;exact absurd h2 (UInt8.lt_irrefl _)
    simp[h1,h2,this]
   ·have:a=b:=UInt8.le_antisymm (UInt8.not_lt.1 h2) (UInt8.not_lt.1 h1)
    simp[this]
theorem OB:∀(x y:List UInt8),x.length=y.length->(Lib.compareBytes x y=0↔x=y)
 |[],[],_=>by simp[Lib.compareBytes]
 |a::x,b::y,h=>by
  have ih:=OB x y (by simpa using h);unfold Lib.compareBytes;by_cases h1:a<b
  ·have:¬a=b:=fun e=>by subst e;exact absurd h1 (UInt8.lt_irrefl _)
   simp[h1,this]
  ·by_cases h2:b<a
   ·have:¬a=b:=fun e=>by subst e;exact absurd h2 (UInt8.lt_irrefl _)
    simp[h1,h2,this]
   ·have:a=b:=UInt8.le_antisymm (UInt8.not_lt.1 h2) (UInt8.not_lt.1 h1)
    simp[this,ih]
theorem JG (s:ByteArray) (h:s.size<=8):Lib.bytesOf (kI s)=s.data.toList++List.replicate (8 -s.size) 0:=by
 have hl:=Bv s;have hb:∀i,(kB s i).toNat.toUInt8=(s.data.toList[i]?).getD 0:=fun i=>by
  unfold kB;simp
 unfold kI Lib.bytesOf;simp only[List.map_cons,List.map_nil,hb];apply List.ext_getElem?;intro i;rw[List.getElem?_append];rw[hl];rcases Nat.lt_or_ge i 8 with h8|h8
 ·have e:([(s.data.toList[0]?).getD 0,(s.data.toList[1]?).getD 0,(s.data.toList[2]?).getD 0,(s.data.toList[3]?).getD 0,(s.data.toList[4]?).getD 0,(s.data.toList[5]?).getD 0,(s.data.toList[6]?).getD 0,(s.data.toList[7]?).getD 0]:List UInt8)[i]?=some ((s.data.toList[i]?).getD 0):=by
   rcases(show i=0∨i=1∨i=2∨i=3∨i=4∨i=5∨i=6∨i=7 by omega) with rfl|rfl|rfl|rfl|rfl|rfl|rfl|rfl<;>rfl
  rw[e];by_cases hi:i<s.size
  ·rw[if_pos hi,XD (by omega)]
   rfl
  ·rw[if_neg hi,List.getElem?_eq_none (by omega),List.getElem?_replicate,if_pos (by omega)]
   rfl
 ·rw[List.getElem?_eq_none (by simp;omega),if_neg (by omega),List.getElem?_eq_none (by simp;omega)]
theorem SH {s t:ByteArray} (hs:s.size<=8) (ht:t.size=s.size):Ez s t<0↔less s t=true:=by
 unfold Ez less;rw[JG s hs,JG t (by omega),ht,My _ _ _ (by rw[Bv,Bv,ht]),QI _ _ (by rw[Bv,Bv,ht]),ByteArray.toList_eq,ByteArray.toList_eq,Mv]
theorem QJ {s t:ByteArray} (hs:s.size<=8) (ht:t.size=s.size):Ez s t=0↔s=t:=by
 unfold Ez;rw[JG s hs,JG t (by omega),ht,My _ _ _ (by rw[Bv,Bv,ht]),OB _ _ (by rw[Bv,Bv,ht])];constructor
 ·intro h
  exact toList_inj (by rw[ByteArray.toList_eq,ByteArray.toList_eq];exact h)
 ·rintro rfl
  rfl
theorem Mz {w:World} {b:Nat} {s:ByteArray} (h:Aa w b (Aj s)):∀j x,(kI s)[j]?=some x->w.cell? ((⟨b,0,none⟩:Addr).add j)=some (.int .u8 x):=by
 intro j x hx;rw[Go.WideShapes.add_plain,Nat.zero_add];have hj:j<8:=(XC hx).1;refine(h j (.int .u8 x) ?_).1;unfold Aj CF;unfold kI at hx;rcases(show j=0∨j=1∨j=2∨j=3∨j=4∨j=5∨j=6∨j=7 by omega) with rfl|rfl|rfl|rfl|rfl|rfl|rfl|rfl<;>(simp at hx;subst hx;rfl)
theorem NB (w:World) (a b:Nat) (s t:ByteArray) (ha:Aa w a (Aj s)) (hb:Aa w b (Aj t)):
 (callFunc 255 #[.slice (some ⟨a,0,none⟩) 8 8,.slice (some ⟨b,0,none⟩) 8 8]).run prog w=.ok (.value (XJ (Ez s t))) w:=by
 rw[run_callFunc_extern (fn:=f255) (e:=Extern.BytealgCompare.compare) func255 (by kernel_rfl) (by kernel_rfl) (by kernel_rfl) (by kernel_rfl)];have h1:=Lib.run_loadBytesX (P:=prog) w (kI s) ⟨a,0,none⟩ .empty (Mz ha);have h2:=Lib.run_loadBytesX (P:=prog) w (kI t) ⟨b,0,none⟩ .empty (Mz hb);have he:∀l:List UInt8,(⟨ByteArray.empty.data++l.toArray⟩:ByteArray)=⟨l.toArray⟩:=fun l=>by
  apply ByteArray.ext;show(#[]:Array UInt8)++l.toArray=l.toArray;simp
 rw[he] at h1 h2;change (Sem.run prog (do pure (goInt (Extern.BytealgCompare.cmp (←Extern.Bytes.bytesOf (.slice (some ⟨a,0,none⟩) 8 8)) (←Extern.Bytes.bytesOf (.slice (some ⟨b,0,none⟩) 8 8))))) w).andThen _=_;simp only[Extern.Bytes.bytesOf,Sem.run_bind,Sem.run_pure];rw[show(8:Nat)=(kI s).length from rfl,h1];rw[Result.andThen_ok,show(kI s).length=(kI t).length from rfl,h2];simp only[Result.andThen]
 rw[Lib.cmp_eq];rfl
theorem Jk (w:World) (a b:Nat) (s t:ByteArray) (ha:Aa w a (Aj s)) (hb:Aa w b (Aj t)):
 Calls prog 241 #[.slice (some ⟨a,0,none⟩) 8 8,.slice (some ⟨b,0,none⟩) 8 8] w fun e w'=>e=.returned (XJ (Ez s t))/\w'=w:=by
 have hr:=NB w a b s t ha hb;clear ha hb;go_enter func241,ntmps241;go_wp2;go_ret;exact⟨rfl,rfl⟩
theorem JH (s t:ByteArray) (w:World):
 Calls prog 240 #[Cc s,Cc t] w fun e w'=>e=.returned (XJ (Ez s t))/\Xz w w':=by
 obtain⟨W,hW⟩:∃W,W=(w.alloc (.cells #[.int .u8 (kB s 0),.int .u8 (kB s 1),.int .u8 (kB s 2),.int .u8 (kB s 3),.int .u8 (kB s 4),.int .u8 (kB s 5),.int .u8 (kB s 6),.int .u8 (kB s 7)] 139)).alloc (.cells #[.int .u8 (kB t 0),.int .u8 (kB t 1),.int .u8 (kB t 2),.int .u8 (kB t 3),.int .u8 (kB t 4),.int .u8 (kB t 5),.int .u8 (kB t 6),.int .u8 (kB t 7)] 139):=⟨_,rfl⟩;have hB:=(AP hW).1
 have ca:Aa W w.heap.size (Aj s):=by
  rw[hW];exact Aa.below (v:=.int .u8 (kB s 0)) (Aa.new w (Aj s) 139) (XA)
 have cb:Aa W (w.heap.size+1) (Aj t):=by
  have:=Aa.new (w.alloc (.cells #[.int .u8 (kB s 0),.int .u8 (kB s 1),.int .u8 (kB s 2),.int .u8 (kB s 3),.int .u8 (kB s 4),.int .u8 (kB s 5),.int .u8 (kB s 6),.int .u8 (kB s 7)] 139)) (Aj t) 139;rw[World.size_alloc] at this;rw[hW];exact this
 have HC:Hid (Aa W.drew w.heap.size (Aj s)/\Aa W.drew (w.heap.size+1) (Aj t)):=⟨ca,cb⟩;have HW:Hid _:=hW;clear hW ca cb;unfold Cc CF;go_enter func240,ntmps240;go_upto_region 1 with fail;rw[←HW.o];clear HW;go_region_with (go_at_call 241;refine(Jk W.drew w.heap.size (w.heap.size+1) s t HC.o.1 HC.o.2).mono ?_;rintro e w1 ⟨rfl,rfl⟩)
 all_goals
  go_wp2;go_ret;exact⟨rfl,hB.drew⟩
structure EE (ss:List ByteArray) (s:ByteArray) (i:Nat):Prop where
 le:i<=ss.length
 lo:∀j x,j<i->ss[j]?=some x->less x s=true
 hi:∀j x,i<=j->ss[j]?=some x->less x s=false
theorem Ux {w:World} {base g cap:Nat} {ss:List ByteArray} (ho:w.ownsRow base 139 8 (.slice (some ⟨g,0,none⟩) ss.length cap) ss.length (AM ss)) {k:Nat} {s:ByteArray} (hs:ss[k]?=some s):∀j,j<8->w.cell? (XL g (k *8+j))=some (.int .u8 (kB s j)):=fun j hj=>by
 have:=(XC hs).1;exact(ho.cellAt _ (by omega)).trans (FN hs hj)
theorem Vv {w:World} {base g cap:Nat} {ss:List ByteArray} (ho:w.ownsRow base 139 8 (.slice (some ⟨g,0,none⟩) ss.length cap) ss.length (AM ss)) {k:Nat} {s:ByteArray} (hs:ss[k]?=some s):
 w.cell? (XL g (k *8))=some (.int .u8 (kB s 0))/\w.cell? (XL g (k *8+1))=some (.int .u8 (kB s 1))/\w.cell? (XL g (k *8+2))=some (.int .u8 (kB s 2))/\w.cell? (XL g (k *8+3))=some (.int .u8 (kB s 3))/\w.cell? (XL g (k *8+4))=some (.int .u8 (kB s 4))/\w.cell? (XL g (k *8+5))=some (.int .u8 (kB s 5))/\w.cell? (XL g (k *8+6))=some (.int .u8 (kB s 6))/\w.cell? (XL g (k *8+7))=some (.int .u8 (kB s 7)):=
 have h:=Ux ho hs
 ⟨by simpa using h 0 (by decide),h 1 (by decide),h 2 (by decide),h 3 (by decide),h 4 (by decide),h 5 (by decide),h 6 (by decide),h 7 (by decide)⟩
theorem Gf {w:World} {g:Nat} {s:ByteArray} (h:Aa w g (Aj s)):
 w.cell? (XL g 0)=some (.int .u8 (kB s 0))/\w.cell? (XL g 1)=some (.int .u8 (kB s 1))/\w.cell? (XL g 2)=some (.int .u8 (kB s 2))/\w.cell? (XL g 3)=some (.int .u8 (kB s 3))/\w.cell? (XL g 4)=some (.int .u8 (kB s 4))/\w.cell? (XL g 5)=some (.int .u8 (kB s 5))/\w.cell? (XL g 6)=some (.int .u8 (kB s 6))/\w.cell? (XL g 7)=some (.int .u8 (kB s 7)):=
 ⟨(h 0 _ rfl).1,(h 1 _ rfl).1,(h 2 _ rfl).1,(h 3 _ rfl).1,(h 4 _ rfl).1,(h 5 _ rfl).1,(h 6 _ rfl).1,(h 7 _ rfl).1⟩
theorem JI (g cap:Nat) (ss:List ByteArray) (s:ByteArray) (w:World) (base:Nat) (ho:w.ownsRow base 139 8 (.slice (some ⟨g,0,none⟩) ss.length cap) ss.length (AM ss)) (hl:ss.length<=600) (yM:s.size<=8) (yC:∀x∈ss,x.size=s.size) (zC:ss.Pairwise (fun a b=>less a b=true)):
 Calls prog 239 #[.slice (some ⟨g,0,none⟩) ss.length cap,Cc s,.func (.func 240) #[] #[]] w fun e w'=>∃i:Nat,e=.returned (.tuple #[XJ i,.bool (decide (ss[i]?=some s))])/\EE ss s i/\Xz w w':=by
 unfold Cc CF;have yJ:=(Ac ho rfl).2;obtain⟨W,hW⟩:∃W,W=w.alloc (.cells #[.int .u8 (kB s 0),.int .u8 (kB s 1),.int .u8 (kB s 2),.int .u8 (kB s 3),.int .u8 (kB s 4),.int .u8 (kB s 5),.int .u8 (kB s 6),.int .u8 (kB s 7)] 139):=⟨_,rfl⟩;have hB:=(Aq hW).1;have cb:Aa W w.heap.size (Aj s):=by rw[hW];exact Aa.new w (Aj s) 139
 have yA:=Ad ho hB;have HW:Hid _:=hW;have HO:Hid _:=yA;have HC:Hid _:=cb;have yK:=Aa.lt (v:=.int .u8 (kB s 0)) cb;clear hW yA cb ho;go_enter func239,ntmps239;go_upto_region 1 with fail;rw[←HW.o];clear HW;have yL:=enters_of func240 (by kernel_rfl) rfl;go_wp2
 go_loopw [9,10] (fun i j wr=>∃lo hi:Nat,i=XJ lo/\j=XJ hi/\lo<=hi/\hi<=ss.length/\Hid ((∀j x,j<lo->ss[j]?=some x->less x s=true)/\(∀j x,hi<=j->ss[j]?=some x->less x s=false))/\Xz W wr) (fun i j _=>(intOf j).toNat -(intOf i).toNat)
 case atStart=>exact⟨0,ss.length,rfl,rfl,Nat.zero_le _,XB,⟨fun j x h=>by omega,fun j x h hx=>by have:=(XC hx).1;omega⟩,Below.refl _ _⟩
 case round=>
  obtain⟨lo,hi,rfl,rfl,yI,yD,HI,zA⟩:=hrel;have zI:=zA.size;by_cases hlt:lo<hi
  ·have zX:(lo+hi)/2<ss.length:=by omega
   have HG:Hid _:=XD zX;have yH:=yC _ (List.getElem_mem zX);generalize ss[(lo+hi)/2]=x at *
   obtain⟨r0,r1,r2,r3,r4,r5,r6,r7⟩:=Vv (Ad HO.o zA) HG.o;obtain⟨t0,t1,t2,t3,t4,t5,t6,t7⟩:=Gf (Aa.below (v:=.int .u8 (kB s 0)) HC.o zA);have zF:=AB.cell r0 (show g<wr.heap.size by omega);have zG:=AB.cell r1 (show g<wr.heap.size by omega);have zR:=AB.cell r2 (show g<wr.heap.size by omega);have zS:=AB.cell r3 (show g<wr.heap.size by omega);have zM:=AB.cell r4 (show g<wr.heap.size by omega)
   have zW:=AB.cell r5 (show g<wr.heap.size by omega);have zN:=AB.cell r6 (show g<wr.heap.size by omega);have zU:=AB.cell r7 (show g<wr.heap.size by omega);have zP:=AB.cell t0 (show w.heap.size<wr.heap.size by omega);have zO:=AB.cell t1 (show w.heap.size<wr.heap.size by omega);have zT:=AB.cell t2 (show w.heap.size<wr.heap.size by omega)
   have zE:=AB.cell t3 (show w.heap.size<wr.heap.size by omega);have zK:=AB.cell t4 (show w.heap.size<wr.heap.size by omega);have zJ:=AB.cell t5 (show w.heap.size<wr.heap.size by omega);have zH:=AB.cell t6 (show w.heap.size<wr.heap.size by omega);have zV:=AB.cell t7 (show w.heap.size<wr.heap.size by omega);have yE:=AB.ne wr
   have zB:Hid (∀m:AB wr,Calls prog 240 #[.agg #[.int .u8 (kB x 0),.int .u8 (kB x 1),.int .u8 (kB x 2),.int .u8 (kB x 3),.int .u8 (kB x 4),.int .u8 (kB x 5),.int .u8 (kB x 6),.int .u8 (kB x 7)],.agg #[.int .u8 (kB s 0),.int .u8 (kB s 1),.int .u8 (kB s 2),.int .u8 (kB s 3),.int .u8 (kB s 4),.int .u8 (kB s 5),.int .u8 (kB s 6),.int .u8 (kB s 7)]] m.w fun e w'=>e=.returned (XJ (Ez x s))/\Below m.w.heap.size m.w w'):=fun m=>JH x s m.w
   clear r0 r1 r2 r3 r4 r5 r6 r7 t0 t1 t2 t3 t4 t5 t6 t7;have zY:Hid _:=SH (s:=x) (t:=s) (by omega) (by omega);by_cases hc:Ez x s<0
   ·have hd:decide (Ez x s<0)=true:=by simpa using hc
    go_wp2;refine AE (by kernel_rfl) (by kernel_rfl) ?_
    repeat (go_big_quiet_step (exact AB.calls (zB.o _)))
    refine wpQuiet_nil ?_;intro m;clear zF zG zR zS zM zW zN zU zP zO zT zE zK zJ zH zV zB;go_wp2;refine⟨⟨(lo+hi)/2+1,hi,by go_num,rfl,by omega,yD,⟨?_,HI.o.2⟩,zA.trans (m.h.mono zI)⟩,by simp[intOf];omega⟩;intro j y hj hy;rcases Nat.lt_or_ge j ((lo+hi)/2) with h|h
    ·have:=List.pairwise_iff_getElem.1 zC j ((lo+hi)/2) (by omega) zX h
     obtain⟨_,rfl⟩:=XC hy;obtain⟨_,e⟩:=XC HG.o;rw[e] at this;exact Cl this (zY.o.1 hc)
    ·obtain rfl:j=(lo+hi)/2:=by omega
     rw[HG.o] at hy;cases hy;exact zY.o.1 hc
   ·have hd:decide (Ez x s<0)=false:=by simpa using hc
    have yG:Hid _:=hc;clear hc;go_wp2;refine AE (by kernel_rfl) (by kernel_rfl) ?_
    repeat (go_big_quiet_step (exact AB.calls (zB.o _)))
    refine wpQuiet_nil ?_;intro m;clear zF zG zR zS zM zW zN zU zP zO zT zE zK zJ zH zV zB;go_wp2;refine⟨⟨lo,(lo+hi)/2,rfl,by go_num,by omega,by omega,⟨HI.o.1,?_⟩,zA.trans (m.h.mono zI)⟩,by simp[intOf];omega⟩;have zZ:less x s=false:=by
     cases h:less x s with
     |false=>rfl
     |true=>exact absurd (zY.o.2 h) yG.o
    intro j y hj hy;rcases Nat.lt_or_ge ((lo+hi)/2) j with h|h
    ·have yF:=(XC hy).1
     have:=List.pairwise_iff_getElem.1 zC ((lo+hi)/2) j zX yF h;obtain⟨_,rfl⟩:=XC hy;obtain⟨_,e⟩:=XC HG.o;rw[e] at this;cases h':less ss[j] s with
     |false=>rfl
     |true=>rw[Cl this h'] at zZ;cases zZ
    ·obtain rfl:j=(lo+hi)/2:=by omega
     rw[HG.o] at hy;cases hy;exact zZ
  ·obtain rfl:lo=hi:=by omega
   have HP:Hid (EE ss s lo):=⟨yD,HI.o.1,HI.o.2⟩;by_cases hn:lo<ss.length
   ·have HG:Hid _:=XD hn
    have yH:=yC _ (List.getElem_mem hn);generalize ss[lo]=x at *
    obtain⟨r0,r1,r2,r3,r4,r5,r6,r7⟩:=Vv (Ad HO.o zA) HG.o;obtain⟨t0,t1,t2,t3,t4,t5,t6,t7⟩:=Gf (Aa.below (v:=.int .u8 (kB s 0)) HC.o zA);have zF:=AB.cell r0 (show g<wr.heap.size by omega);have zG:=AB.cell r1 (show g<wr.heap.size by omega);have zR:=AB.cell r2 (show g<wr.heap.size by omega);have zS:=AB.cell r3 (show g<wr.heap.size by omega);have zM:=AB.cell r4 (show g<wr.heap.size by omega)
    have zW:=AB.cell r5 (show g<wr.heap.size by omega);have zN:=AB.cell r6 (show g<wr.heap.size by omega);have zU:=AB.cell r7 (show g<wr.heap.size by omega);have zP:=AB.cell t0 (show w.heap.size<wr.heap.size by omega);have zO:=AB.cell t1 (show w.heap.size<wr.heap.size by omega);have zT:=AB.cell t2 (show w.heap.size<wr.heap.size by omega)
    have zE:=AB.cell t3 (show w.heap.size<wr.heap.size by omega);have zK:=AB.cell t4 (show w.heap.size<wr.heap.size by omega);have zJ:=AB.cell t5 (show w.heap.size<wr.heap.size by omega);have zH:=AB.cell t6 (show w.heap.size<wr.heap.size by omega);have zV:=AB.cell t7 (show w.heap.size<wr.heap.size by omega);have yE:=AB.ne wr
    have zB:Hid (∀m:AB wr,Calls prog 240 #[.agg #[.int .u8 (kB x 0),.int .u8 (kB x 1),.int .u8 (kB x 2),.int .u8 (kB x 3),.int .u8 (kB x 4),.int .u8 (kB x 5),.int .u8 (kB x 6),.int .u8 (kB x 7)],.agg #[.int .u8 (kB s 0),.int .u8 (kB s 1),.int .u8 (kB s 2),.int .u8 (kB s 3),.int .u8 (kB s 4),.int .u8 (kB s 5),.int .u8 (kB s 6),.int .u8 (kB s 7)]] m.w fun e w'=>e=.returned (XJ (Ez x s))/\Below m.w.heap.size m.w w'):=fun m=>JH x s m.w
    clear r0 r1 r2 r3 r4 r5 r6 r7 t0 t1 t2 t3 t4 t5 t6 t7;have yB:Hid _:=QJ (s:=x) (t:=s) (by omega) (by omega);by_cases hc:Ez x s=0
    ·have hd:(Ez x s==0)=true:=by simpa using hc
     go_wp2;refine AE (by kernel_rfl) (by kernel_rfl) ?_
     repeat (go_big_quiet_step (exact AB.calls (zB.o _)))
     refine wpQuiet_nil ?_;intro m;clear zF zG zR zS zM zW zN zU zP zO zT zE zK zJ zH zV zB;go_wp2
     go_ret2
     refine⟨lo,?_,HP.o,hB.trans ((zA.trans (m.h.mono zI)).mono hB.size)⟩;rw[HG.o,yB.o.1 hc,decide_eq_true rfl];rfl
    ·have hd:(Ez x s==0)=false:=by simpa using hc
     go_wp2;refine AE (by kernel_rfl) (by kernel_rfl) ?_
     repeat (go_big_quiet_step (exact AB.calls (zB.o _)))
     refine wpQuiet_nil ?_;intro m;clear zF zG zR zS zM zW zN zU zP zO zT zE zK zJ zH zV zB;go_wp2
     go_ret2
     refine⟨lo,?_,HP.o,hB.trans ((zA.trans (m.h.mono zI)).mono hB.size)⟩;rw[HG.o,decide_eq_false (fun e=>hc (yB.o.2 (Option.some.inj e)))];rfl
   ·have yE:=AB.ne wr
    go_wp2;refine AE (by kernel_rfl) (by kernel_rfl) ?_
    repeat (go_big_quiet_step (fail))
    refine wpQuiet_nil ?_;intro m;go_wp2
    go_ret2
    refine⟨lo,?_,HP.o,hB.trans ((zA.trans (m.h.mono zI)).mono hB.size)⟩;rw[List.getElem?_eq_none (by omega),decide_eq_false (by simp)];rfl
section
open Go.WideElems Go.MapKept Go.ChangeMaps
open Classical in
noncomputable def ers (f:Lit->Option Value) (kl:Lit):Lit->Option Value:=fun x=>if x=kl then none else f x
theorem Bb.del {w:World} {K t e:TypeId} {b n:Nat} {f:Lit->Option Value} (h:Bb w K b n f) (hK:Maps.Keyed prog K) (ht:prog.underlying t=some (.map K e)) {key:Value} {kl:Lit} (zB:keyOf prog K key=some kl) (ty:TypeId):
 ∃w',(Builtin.delete_ #[t,K] ty #[.map (some b),key]).run prog w=.ok (.tuple #[]) w'/\Bb w' K b n (ers f kl)/\w.grownBy w' (some b):=by
 obtain⟨D,h1,h2,h3⟩:=h;obtain⟨w',hr,ho,es,clock,zC,zA,hb,rfl⟩:=h1.drop hK ht zB ty;refine⟨_,hr,⟨_,ho,fun x z=> ?_,fun x=> ?_⟩,?_⟩
 ·by_cases hx:x=kl
  ·subst hx;rw[Maps.atKey_del_same];simp[ers]
  ·rw[Maps.atKey_del_other hx,h2];simp[ers,hx]
 ·by_cases hx:x=kl
  ·subst hx;rw[Maps.has_del_same];simp[ers]
  ·rw[Maps.has_del_other hx,h3];simp[ers,hx]
 ·refine⟨rfl,rfl,rfl,by simp[setBlock],fun i _ hi=> ?_⟩
  simp only[setBlock];rw[Array.getElem?_setIfInBounds_ne (fun e=>hi (by rw[e]))]
theorem Uy (w:World):(zeroValue 139).run prog w=.ok (.agg Ca) w:=by kernel_rfl
theorem LD (w:World) (ty:TypeId) (b o c:Nat) (hc:∀j,j<8->(w.cell? (XL b (o+j))).isSome=true) (hf:∀j,j<8->w.frozen? ⟨b,o+j,none⟩=false):
 (Builtin.clear_ #[129] ty #[.slice (some ⟨b,o,none⟩) 1 c]).run prog w=.ok (.tuple #[]) (w.setCells b o Ca.toList):=by
 have zE:(Builtin.zeroCells (Value.agg Ca).cells 1).toList=Ca.toList:=by kernel_rfl
 have zA:=run_storeCells_cells (P:=prog) b o Ca.toList 0 w (by simpa [Ca] using hc) (by simpa [Ca] using hf) (by intro v zC;simp[Ca] at zC;subst zC;rfl);simp only[Nat.add_zero] at zA;have zB:=Uy;unfold Ca at zE zA zB ⊢;simp[Builtin.clear_,run_underlying underlying129,zB,zE,zA]
theorem Gg {base g cap n size:Nat} {e:TypeId} {xs:List Value}:∀(vs:List Value) (o:Nat) (w:World),w.ownsRow base e size (.slice (some ⟨g,0,none⟩) n cap) n xs->n *size<=o->(w.setCells g o vs).ownsRow base e size (.slice (some ⟨g,0,none⟩) n cap) n xs
 |[],_,_,h,_=>h
 |v::r,o,w,h,ho=>by
  rw[World.setCells];refine Gg r (o+1) _ ?_ (by omega);have:=(h.stored o v).1;rw[List.set_eq_of_length_le (by rw[h.1];exact ho)] at this;exact this
theorem BM (g:Nat):∀(vs:List Value) (o:Nat) (w:World),w.grownBy (w.setCells g o vs) (some g)
 |[],_,w=>⟨rfl,rfl,rfl,XB,fun _ _ _=>rfl⟩
 |v::r,o,w=>by
  rw[World.setCells];exact Ap (Av w g o v) (BM g r (o+1) _)
theorem CQ {w w':World} {r:Option Nat} (h:w.drew.grownBy w' r):w.grownBy w' r:=⟨h.os,h.tape,h.output,h.size,h.block⟩
theorem Uz {w:World} {base g cap:Nat} {ss:List ByteArray} (h:w.ownsRow base 139 8 (.slice (some ⟨g,0,none⟩) ss.length cap) ss.length (AM ss)) (i:Nat) (hi:i<=ss.length):w.ownsRow base 139 8 (.slice (some ⟨g,0,none⟩) i cap) i (AM (ss.take i)):=by
 refine⟨by rw[EM,List.length_take];congr 1;omega,?_⟩;rcases h.2 with⟨e,_⟩|⟨g',zA,zB,e,hb,hg,h1,h2,h3,h4⟩
 ·cases e
 ·cases e
  refine .inr ⟨g,cap,zB,rfl,hb,hg,by omega,h2,h3,?_⟩;rw[Ft,←EZ DO ss i hi,←Ft,←h4,List.take_take];congr 1;omega
theorem LF (g cap i:Nat) (ss:List ByteArray) (w:World) (base:Nat) (ho:w.ownsRow base 139 8 (.slice (some ⟨g,0,none⟩) ss.length cap) ss.length (AM ss)) (hl:ss.length<=600) (hi:i<ss.length):
 Calls prog 212 #[.slice (some ⟨g,0,none⟩) ss.length cap,XJ i,XJ ((i:Int)+1)] w fun e w'=>e=.returned (.slice (some ⟨g,0,none⟩) (ss.length -1) cap)/\w'.ownsRow base 139 8 (.slice (some ⟨g,0,none⟩) (ss.length -1) cap) (ss.length -1) (AM (ss.eraseIdx i))/\w.grownBy w' (some g):=by
 obtain⟨i0,zG,zU,zJ,zX⟩:=info_parts Kt;have zF:ss.length<=cap/\cap<=maxLen:=by
  rcases ho.2 with⟨e,_⟩|⟨g',zE,zM,e,hb,hg,h1,h2,h3,h4⟩
  ·cases e
  ·cases e;exact⟨h1,h2⟩
 obtain⟨zW,zK⟩:=zF;unfold maxLen at zK;have hcut:=Uz ho i (by omega);obtain⟨A,hA,zB⟩:∃A,(if cap=i+1 then some (⟨g,0,none⟩:Addr) else some ⟨g,(i+1) *8,none⟩)=some A/\∀j u,(AM (ss.drop (i+1)))[j]?=some u->w.drew.cell? (A.add j)=some u:=by
  by_cases h:cap=i+1
  ·refine⟨⟨g,0,none⟩,by rw[if_pos h],fun j u hu=> ?_⟩
   rw[List.drop_of_length_le (by omega)] at hu;simp[AM] at hu
  ·refine⟨⟨g,(i+1) *8,none⟩,by rw[if_neg h],fun j u hu=> ?_⟩
   rw[Go.WideShapes.add_plain];rw[Ft,←Ex DO ss (i+1) (by omega),←Ft,List.getElem?_drop] at hu;have zO:=(XC hu).1;rw[EM] at zO;exact(ho.cellAt _ (by omega)).trans hu
 obtain⟨w1,hr,zA,zC⟩:=run_append_fits (P:=prog) w.drew base 129 129 139 i0 8 underlying129 zG zJ g i cap (AM (ss.take i)) hcut A (ss.length -(i+1)) (cap -(i+1)) (AM (ss.drop (i+1))) (by rw[EM,List.length_drop]) zB (Dt _) (by omega);rw[←Hy,show i+(ss.length -(i+1))=ss.length -1 by omega] at zA;rw[show i+(ss.length -(i+1))=ss.length -1 by omega] at hr
 have zH:=(List.eraseIdx_eq_take_drop_succ ss i).symm;rw[zH] at zA;have HO:Hid _:=And.intro zA zC;clear zB zA hcut zH;go_enter func212,ntmps212;have zS:¬((i:Int)==(i:Int)+1)=true:=by simp;omega
 have zR:i<=cap:=by omega
 have zV:(0:Int)<=(i:Int)+1:=by omega
 have zT:(i:Int)+1<=(ss.length:Int):=by omega
 have zP:((i:Int)+1).toNat=i+1:=by omega
 go_upto_region 5 with fail
 go_region_law (first
  |(refine BU (by rfl) (.tmp 22) (.tmp 25) 129 129 (by rfl) (by rfl) (by simp[Act.eval,Act.put]) hr ?_))
 all_goals
  have zI:∀j,j<8->(w1.cell? (XL g ((ss.length -1) *8+j))).isSome=true/\w1.frozen? ⟨g,(ss.length -1) *8+j,none⟩=false:=fun j hj=>by
   obtain⟨zA,zC⟩:=HO.o;rcases zA.2 with⟨e,_⟩|⟨g',zE,zM,e,hb,hg,h1,h2,h3,h4⟩
   ·cases e
   ·cases e
    constructor
    ·simp only[World.cell?,hg]
     rw[Array.getElem?_eq_getElem (by omega)];rfl
    ·exact zA.frozenAt _
  have zN:=LD w1 0 g ((ss.length -1) *8) (cap -(ss.length -1)) (fun j hj=>(zI j hj).1) (fun j hj=>(zI j hj).2);have e1:ss.length -(ss.length -1)=1:=by omega
  have e2:¬cap=ss.length -1:=by omega
  have e3:ss.length -1<=ss.length:=by omega
  go_wp2;go_ret;obtain⟨zA,zC⟩:=HO.o;exact⟨rfl,Gg _ _ _ zA (XB),Ap (CQ zC) (BM g _ _ _)⟩
theorem QM (base d m g cap:Nat) (P L:Value) (wd now given births:Int) (ks:List Kd) (s:ByteArray) (w:World) (zA:Aa w d [XJ wd,.map (some m),XJ now,XJ given,XJ births,.slice (some ⟨g,0,none⟩) ks.length cap,P,L]) (zC:w.ownsRow base 139 8 (.slice (some ⟨g,0,none⟩) ks.length cap) ks.length (AM (ks.map (·.sum))))
 (hk:ks.length<=600) (zM:s.size<=8) (zN:∀x∈ks,x.sum.size=s.size) (zB:(ks.map (·.sum)).Pairwise (fun a b=>less a b=true)):
 Calls prog 211 #[.pointer (some ⟨d,0,none⟩),Cc s] w fun e w'=>∃i:Nat,e=.returned (.tuple #[XJ i,.bool (decide ((ks.map (·.sum))[i]?=some s))])/\EE (ks.map (·.sum)) s i/\Xz w w':=by
 obtain⟨W,hW⟩:∃W,W=w.alloc (.cells #[.int .u8 (kB s 0),.int .u8 (kB s 1),.int .u8 (kB s 2),.int .u8 (kB s 3),.int .u8 (kB s 4),.int .u8 (kB s 5),.int .u8 (kB s 6),.int .u8 (kB s 7)] 139):=⟨_,rfl⟩;have hB:=(Aq hW).1;have cb:Aa W w.heap.size (Aj s):=by rw[hW];exact Aa.new w (Aj s) 139
 have zE:W.drew.ownsRow base 139 8 (.slice (some ⟨g,0,none⟩) (ks.map (·.sum)).length cap) (ks.map (·.sum)).length (AM (ks.map (·.sum))):=by
  rw[List.length_map];exact Ad zC hB.drew
 have HS:Hid _:=JI g cap (ks.map (·.sum)) s W.drew base zE (by rw[List.length_map];exact hk) zM (fun x hx=>by obtain⟨y,hy,rfl⟩:=List.mem_map.1 hx;exact zN y hy) zB;rw[List.length_map] at HS
 have S0:W.drew.cell? (XL d 5)=some (.slice (some ⟨g,0,none⟩) ks.length cap)/\(W.drew.cell? (XL (w.heap.size) 0)=some (.int .u8 (kB s 0))/\W.drew.cell? (XL (w.heap.size) 1)=some (.int .u8 (kB s 1))/\W.drew.cell? (XL (w.heap.size) 2)=some (.int .u8 (kB s 2))/\W.drew.cell? (XL (w.heap.size) 3)=some (.int .u8 (kB s 3))/\W.drew.cell? (XL (w.heap.size) 4)=some (.int .u8 (kB s 4))/\W.drew.cell? (XL (w.heap.size) 5)=some (.int .u8 (kB s 5))/\W.drew.cell? (XL (w.heap.size) 6)=some (.int .u8 (kB s 6))/\W.drew.cell? (XL (w.heap.size) 7)=some (.int .u8 (kB s 7))):=⟨(Aa.below zA hB 5 _ rfl).1,Gf cb⟩
 have HW:Hid _:=hW;clear hW cb zE zA zC;unfold Cc CF at *
 go_enter func211,ntmps211;go_upto_region 1 with fail;rw[←HW.o];clear HW;obtain⟨s5,zJ,zI,zF,zG,zH,zO,zK,zP⟩:=S0;go_region_with (go_at_call 239;refine Calls.mono HS.o ?_;rintro e w1 ⟨i,rfl,hp,hb⟩)
 all_goals
  have HF:Hid _:=And.intro hp (hB.trans ((Dd hb).mono hB.size));clear hp hb s5 zJ zI zF zG zH zO zK zP HS;go_wp2
  go_ret2
  exact⟨i,by first|rfl|simp[Act.put],HF.o.1,HF.o.2⟩
end
theorem SI (x:ByteArray) (w:World):Calls prog 246 #[.string x] w fun e w'=>e=.returned (.bool false)/\Xz w w':=by
 go_enter func246,ntmps246;go_wp2;go_ret;exact⟨by simp,Below.refl _ _⟩
theorem SJ (x:ByteArray) (w:World):Calls prog 262 #[.string x] w fun e w'=>e=.returned (.bool false)/\Xz w w':=by
 go_enter func262,ntmps262;go_wp2;go_ret;exact⟨by simp,Below.refl _ _⟩
theorem La (x y:ByteArray) (w:World):Calls prog 261 #[.string x,.string y] w fun e w'=>e=.returned (.bool (less x y))/\Xz w w':=by
 go_enter func261,ntmps261;unfold less;go_wp2_with (go_at_call 246;refine(SI x w).mono ?_;rintro e w1 ⟨rfl,zA⟩);go_wp2;go_ret;exact⟨by simp,zA⟩
theorem NC (a:Option Addr) (cap:Nat) (ss:List ByteArray) (s:ByteArray) (w:World) (zE:Ae w w.heap.size a ss) (hl:ss.length<=1000) (zB:ss.Pairwise (fun a b=>less a b=true)):
 Calls prog 254 #[.slice a ss.length cap,.string s] w fun e w'=>∃(i:Int) (ok:Bool),e=.returned (.tuple #[XJ i,.bool ok])/\(ok=true↔s∈ss)/\Xz w w':=by
 have HL:Hid _:=La;go_enter func254,ntmps254;go_wp2
 go_loopw [7,8] (fun i j wr=>∃lo hi:Nat,i=XJ lo/\j=XJ hi/\lo<=hi/\hi<=ss.length/\Hid ((∀j x,j<lo->ss[j]?=some x->less x s=true)/\(∀j x,hi<=j->ss[j]?=some x->less x s=false))/\Xz w wr) (fun i j _=>(intOf j).toNat -(intOf i).toNat)
 case atStart=>exact⟨0,ss.length,rfl,rfl,Nat.zero_le _,XB,⟨fun j x h=>by omega,fun j x h hx=>by have:=(XC hx).1;omega⟩,Below.refl _ _⟩
 case round=>
  obtain⟨lo,hi,rfl,rfl,zO,zN,HI,zA⟩:=hrel;have zK:=zA.size;by_cases hlt:lo<hi
  ·have zG:(lo+hi)/2<ss.length:=by omega
   have HG:Hid _:=XD zG;obtain⟨b,off,ha,hb,hc⟩:=(zE.below zA).at zG;subst ha;have hx:=hc _ _ HG.o;clear hc;generalize ss[(lo+hi)/2]=x at *
   go_wp2_with fail;refine(La x s wr).mono ?_;rintro e w1 ⟨rfl,zI⟩;have zM:=zA.trans (zI.mono zK);by_cases hc:less x s=true
   ·rw[hc]
    go_wp2;refine⟨⟨(lo+hi)/2+1,hi,by go_num,rfl,by omega,zN,⟨?_,HI.o.2⟩,zM⟩,by simp[intOf];omega⟩;intro j y hj hy;rcases Nat.lt_or_ge j ((lo+hi)/2) with h|h
    ·have:=List.pairwise_iff_getElem.1 zB j ((lo+hi)/2) (by omega) zG h
     obtain⟨_,rfl⟩:=XC hy;obtain⟨_,e⟩:=XC HG.o;rw[e] at this;exact Cl this hc
    ·obtain rfl:j=(lo+hi)/2:=by omega
     rw[HG.o] at hy;cases hy;exact hc
   ·have zH:less x s=false:=by simpa using hc
    rw[zH];go_wp2;refine⟨⟨lo,(lo+hi)/2,rfl,by go_num,by omega,by omega,⟨HI.o.1,?_⟩,zM⟩,by simp[intOf];omega⟩;intro j y hj hy;rcases Nat.lt_or_ge ((lo+hi)/2) j with h|h
    ·have zJ:=(XC hy).1
     have:=List.pairwise_iff_getElem.1 zB ((lo+hi)/2) j zG zJ h;obtain⟨_,rfl⟩:=XC hy;obtain⟨_,e⟩:=XC HG.o;rw[e] at this;cases h':less ss[j] s with
     |false=>rfl
     |true=>rw[Cl this h'] at zH;cases zH
    ·obtain rfl:j=(lo+hi)/2:=by omega
     rw[HG.o] at hy;cases hy;exact zH
  ·obtain rfl:lo=hi:=by omega
   have zC:s∈ss->ss[lo]?=some s:=fun hs=>by
    obtain⟨j,hj⟩:=List.getElem?_of_mem hs;rcases Nat.lt_or_ge j lo with h|h
    ·have:=HI.o.1 j s h hj
     rw[BX] at this;cases this
    ·rcases Nat.lt_or_ge lo j with h'|h'
     ·have zJ:=(XC hj).1
      have h1:=List.pairwise_iff_getElem.1 zB lo j (by omega) zJ h';have h2:=HI.o.2 lo _ (XB) (XD (by omega));obtain⟨_,e⟩:=XC hj;rw[e] at h1;rw[h1] at h2;cases h2
     ·obtain rfl:j=lo:=by omega
      exact hj
   have HM:Hid _:=zC;clear zC;by_cases hn:lo<ss.length
   ·have HG:Hid _:=XD hn
    obtain⟨b,off,ha,hb,hc⟩:=(zE.below zA).at hn;subst ha;have hx:=hc _ _ HG.o;clear hc;generalize ss[lo]=x at *
    by_cases he:x=s
    ·subst he
     have hd:=XG HG.o;have zF:Hid _:=hd;clear hd;have hq:(x.toList==x.toList)=true:=by simp
     go_wp2
     go_ret2
     exact⟨_,true,by first|rfl|simp[Act.put],⟨fun _=>zF.o,fun _=>rfl⟩,zA⟩
    ·have hd:¬s∈ss:=by
      intro h;have:=HM.o h;rw[HG.o] at this;exact he (Option.some.inj this)
     have zF:Hid _:=hd;clear hd;have hq:=BJ he;go_wp2_with (go_at_call 262;refine(SJ x wr).mono ?_;rintro e w1 ⟨rfl,zI⟩);go_wp2
     go_ret2
     exact⟨_,false,by first|rfl|simp[Act.put],⟨(fun h=>by cases h),(fun h=>absurd h zF.o)⟩,zA.trans (zI.mono zK)⟩
   ·have hd:¬s∈ss:=by
     intro h;have:=(XC (HM.o h)).1;omega
    have zF:Hid _:=hd;clear hd;go_wp2
    go_ret2
    exact⟨_,false,by first|rfl|simp[Act.put],⟨(fun h=>by cases h),(fun h=>absurd h zF.o)⟩,zA⟩
section
attribute [local go_sem↓] Go.wp_at_zero Go.wp_at_succ
theorem Po (p:Pd) (s:ByteArray) (b:Nat) (w:World) (hc:w.cell? (XL b 0)=some (.string s)):
 Calls prog 249 #[.agg #[.string p.name,.string p.sum],.pointer (some ⟨b,0,none⟩)] w fun e w'=>e=.returned (.bool (decide (p.sum=s)))/\Xz w w':=by
 have hb:b<w.heap.size:=World.block_lt_of_cell? w _ hc;have zA:¬w.heap.size=b:=by omega
 have hA:∀o,Xz w (w.alloc o):=fun o=>XA;by_cases h:p.sum=s
 ·have hq:(p.sum.toList==s.toList)=true:=by rw[h];simp
  have hd:decide (p.sum=s)=true:=by simpa using h
  clear h;go_enter func249,ntmps249;go_wp2;go_ret;exact⟨by rw[hd];rfl,hA _⟩
 ·have hq:(p.sum.toList==s.toList)=false:=BJ h
  have hd:decide (p.sum=s)=false:=by simpa using h
  clear h;go_enter func249,ntmps249;go_wp2;go_ret;exact⟨by rw[hd];rfl,hA _⟩
theorem MB (a:Option Addr) (cap b:Nat) (ps:List Pd) (s:ByteArray) (w:World) (zC:AQ w w.heap.size a ps) (hl:ps.length<=1048576) (hc:w.cell? (XL b 0)=some (.string s)):
 Calls prog 259 #[.slice a ps.length cap,.func (.func 249) #[] #[.pointer (some ⟨b,0,none⟩)]] w fun e w'=>∃r:Int,e=.returned (XJ r)/\(0<=r↔∃p∈ps,p.sum=s)/\Xz w w':=by
 have zI:=World.block_lt_of_cell? w _ hc;go_enter func259,ntmps259;go_wp2
 go_loopw [8] (fun i wr=>∃k:Nat,k<=ps.length/\i=XJ k/\Hid (∀j x,j<k->ps[j]?=some x->¬x.sum=s)/\Xz w wr) (fun i _=>ps.length -(intOf i).toNat)
 case atStart=>exact⟨0,Nat.zero_le _,rfl,(fun j x h=>by omega),Below.refl _ _⟩
 case round=>
  obtain⟨k,hk,rfl,zB,zA⟩:=hrel;have zH:=zA.size;by_cases hlt:k<ps.length
  ·obtain⟨b',off,ha,hb,zE⟩:=(zC.below zA).at hlt
   subst ha;have hg:Hid _:=XD hlt;obtain⟨c0,c1⟩:=zE k _ hg.o;have zJ:=(zA.cell (p:=⟨b,0,none⟩) zI).trans hc;clear zE zC;generalize ps[k]=x at *
   go_wp2_with fail;refine(Po x s b wr zJ).mono ?_;rintro e w1 ⟨rfl,zG⟩;have zF:=zA.trans (zG.mono zH);by_cases h:x.sum=s
   ·have hd:decide (x.sum=s)=true:=by simpa using h
    rw[hd];go_wp2;go_ret;exact⟨_,rfl,⟨fun _=>⟨x,XG hg.o,h⟩,fun _=>by omega⟩,zF⟩
   ·have HA:Hid (∀j y,j<k+1->ps[j]?=some y->¬y.sum=s):=by
     intro j y hj hy;rcases Nat.lt_or_ge j k with h'|h'
     ·exact zB.o j y h' hy
     ·obtain rfl:j=k:=by omega
      rw[hg.o] at hy;cases hy;exact h
    have hd:decide (x.sum=s)=false:=by simpa using h
    rw[hd];clear h;go_wp2;exact⟨⟨k+1,by omega,by go_num,HA,zF⟩,by simp[intOf];omega⟩
  ·go_wp2
   go_ret;refine⟨_,rfl,⟨fun h=>by omega,fun⟨p,hp,h⟩=> ?_⟩,zA⟩;obtain⟨j,hj,rfl⟩:=List.getElem_of_mem hp;exact absurd h (zB.o j _ (by omega) (XD hj))
theorem JJ (a:Option Addr) (cap b:Nat) (ps:List Pd) (s:ByteArray) (w:World) (zA:AQ w w.heap.size a ps) (hl:ps.length<=1048576) (hc:w.cell? (XL b 0)=some (.string s)):
 Calls prog 248 #[.slice a ps.length cap,.func (.func 249) #[] #[.pointer (some ⟨b,0,none⟩)]] w fun e w'=>∃ok,e=.returned (.bool ok)/\(ok=true↔∃p∈ps,p.sum=s)/\Xz w w':=by
 go_enter func248,ntmps248;go_wp2_with fail;refine(MB a cap b ps s w zA hl hc).mono ?_;rintro e w1 ⟨r,rfl,hr,zB⟩;have HR:Hid _:=hr;clear hr;by_cases h:0<=r
 ·have hd:decide ((0:Int)<=r)=true:=by simpa using h
  go_wp2;go_ret;exact⟨true,rfl,⟨(fun _=>HR.o.1 h),(fun _=>rfl)⟩,zB⟩
 ·have hd:decide ((0:Int)<=r)=false:=by simpa using h
  go_wp2;go_ret;exact⟨false,rfl,⟨(fun e=>by cases e),(fun e=>absurd (HR.o.2 e) (by omega))⟩,zB⟩
theorem MC (p:Ld) (s:ByteArray) (b:Nat) (w:World) (hc:w.cell? (XL b 0)=some (.string s)):
 Calls prog 251 #[.agg #[XJ p.num,.string p.sum,XJ p.til],.pointer (some ⟨b,0,none⟩)] w fun e w'=>e=.returned (.bool (decide (p.sum=s)))/\Xz w w':=by
 have hb:b<w.heap.size:=World.block_lt_of_cell? w _ hc;have zA:¬w.heap.size=b:=by omega
 have hA:∀o,Xz w (w.alloc o):=fun o=>XA;by_cases h:p.sum=s
 ·have hq:(p.sum.toList==s.toList)=true:=by rw[h];simp
  have hd:decide (p.sum=s)=true:=by simpa using h
  clear h;go_enter func251,ntmps251;go_wp2;go_ret;exact⟨by rw[hd];rfl,hA _⟩
 ·have hq:(p.sum.toList==s.toList)=false:=BJ h
  have hd:decide (p.sum=s)=false:=by simpa using h
  clear h;go_enter func251,ntmps251;go_wp2;go_ret;exact⟨by rw[hd];rfl,hA _⟩
theorem Ku (a:Option Addr) (cap b:Nat) (ps:List Ld) (s:ByteArray) (w:World) (zC:AR w w.heap.size a ps) (hl:ps.length<=1048576) (hc:w.cell? (XL b 0)=some (.string s)):
 Calls prog 236 #[.slice a ps.length cap,.func (.func 251) #[] #[.pointer (some ⟨b,0,none⟩)]] w fun e w'=>∃r:Int,e=.returned (XJ r)/\(0<=r↔∃p∈ps,p.sum=s)/\Xz w w':=by
 have zI:=World.block_lt_of_cell? w _ hc;go_enter func236,ntmps236;go_wp2
 go_loopw [8] (fun i wr=>∃k:Nat,k<=ps.length/\i=XJ k/\Hid (∀j x,j<k->ps[j]?=some x->¬x.sum=s)/\Xz w wr) (fun i _=>ps.length -(intOf i).toNat)
 case atStart=>exact⟨0,Nat.zero_le _,rfl,(fun j x h=>by omega),Below.refl _ _⟩
 case round=>
  obtain⟨k,hk,rfl,zB,zA⟩:=hrel;have zH:=zA.size;by_cases hlt:k<ps.length
  ·obtain⟨b',off,ha,hb,zE⟩:=(zC.below zA).at hlt
   subst ha;have hg:Hid _:=XD hlt;obtain⟨c0,c1,c2⟩:=zE k _ hg.o;have zJ:=(zA.cell (p:=⟨b,0,none⟩) zI).trans hc;clear zE zC;generalize ps[k]=x at *
   go_wp2_with fail;refine(MC x s b wr zJ).mono ?_;rintro e w1 ⟨rfl,zG⟩;have zF:=zA.trans (zG.mono zH);by_cases h:x.sum=s
   ·have hd:decide (x.sum=s)=true:=by simpa using h
    rw[hd];go_wp2;go_ret;exact⟨_,rfl,⟨fun _=>⟨x,XG hg.o,h⟩,fun _=>by omega⟩,zF⟩
   ·have HA:Hid (∀j y,j<k+1->ps[j]?=some y->¬y.sum=s):=by
     intro j y hj hy;rcases Nat.lt_or_ge j k with h'|h'
     ·exact zB.o j y h' hy
     ·obtain rfl:j=k:=by omega
      rw[hg.o] at hy;cases hy;exact h
    have hd:decide (x.sum=s)=false:=by simpa using h
    rw[hd];clear h;go_wp2;exact⟨⟨k+1,by omega,by go_num,HA,zF⟩,by simp[intOf];omega⟩
  ·go_wp2
   go_ret;refine⟨_,rfl,⟨fun h=>by omega,fun⟨p,hp,h⟩=> ?_⟩,zA⟩;obtain⟨j,hj,rfl⟩:=List.getElem_of_mem hp;exact absurd h (zB.o j _ (by omega) (XD hj))
theorem IR (a:Option Addr) (cap b:Nat) (ps:List Ld) (s:ByteArray) (w:World) (zA:AR w w.heap.size a ps) (hl:ps.length<=1048576) (hc:w.cell? (XL b 0)=some (.string s)):
 Calls prog 250 #[.slice a ps.length cap,.func (.func 251) #[] #[.pointer (some ⟨b,0,none⟩)]] w fun e w'=>∃ok,e=.returned (.bool ok)/\(ok=true↔∃p∈ps,p.sum=s)/\Xz w w':=by
 go_enter func250,ntmps250;go_wp2_with fail;refine(Ku a cap b ps s w zA hl hc).mono ?_;rintro e w1 ⟨r,rfl,hr,zB⟩;have HR:Hid _:=hr;clear hr;by_cases h:0<=r
 ·have hd:decide ((0:Int)<=r)=true:=by simpa using h
  go_wp2;go_ret;exact⟨true,rfl,⟨(fun _=>HR.o.1 h),(fun _=>rfl)⟩,zB⟩
 ·have hd:decide ((0:Int)<=r)=false:=by simpa using h
  go_wp2;go_ret;exact⟨false,rfl,⟨(fun e=>by cases e),(fun e=>absurd (HR.o.2 e) (by omega))⟩,zB⟩
theorem Pp (base d m:Nat) (O P L:Value) (wd now given births:Int) (ks:List Kd) (ps:List Pd) (ls:List Ld) (s:ByteArray) (w:World) (hd:Dr w base d m O P L wd now given births ks ps ls) (hp:ps.length<=100) (hl:ls.length<=200):
 Calls prog 237 #[.pointer (some ⟨d,0,none⟩),.string s] w fun e w'=>∃ok,e=.returned (.bool ok)/\(ok=true↔(∃p∈ps,p.sum=s)∨∃l∈ls,l.sum=s)/\Xz w w':=by
 have zM:∀(fn:Fn) (first cap:Array Value) (w:World),(Instr.makeFunc fn first cap).run prog w=.ok (.func fn first cap) w:=fun _ _ _ _=>rfl;obtain⟨pa,zJ,rfl⟩:=Ay hd.pin;obtain⟨la,zI,rfl⟩:=Ay hd.lea;have HD:Hid _:=hd;obtain⟨W,hW⟩:∃W,W=w.alloc (.cells #[.string s] 9):=⟨_,rfl⟩;have hB:=(Aq hW).1;have c0:W.cell? (XL (w.heap.size) 0)=some (.string s):=by rw[hW];simp
 have zB:=hd.below hB;obtain⟨c6,c7⟩:=Aa.c2 zB.box 6 7;have zE:Hid _:=zB;have HW:Hid _:=hW;clear hW hd zB;go_enter func237,ntmps237;go_upto_region 1 with fail;rw[←HW.o];clear HW;go_wp2_with fail;refine(JJ pa zJ _ ps s W (AQ.own zE.o.pin) (by omega) c0).mono ?_;rintro e w1 ⟨zK,rfl,h1,zA⟩;have zC:Hid _:=Dr.below zE.o zA;obtain⟨d7,_⟩:=zC.o.box 7 _ rfl
 have c1:=(zA.cell (p:=⟨w.heap.size,0,none⟩) (World.block_lt_of_cell? W _ c0)).trans c0;have H1:Hid _:=h1;clear h1 c6 c7 c0;go_wp2_with fail;refine(IR la zI _ ls s w1 (AR.own zC.o.lea) (by omega) c1).mono ?_;rintro e w2 ⟨zH,rfl,h2,zG⟩;have H2:Hid _:=h2;have zF:=(hB.trans (zA.mono hB.size)).trans (zG.mono (XI hB.size zA.size));clear h2 d7 c1;cases zK
 ·go_wp2
  go_ret;exact⟨zH,rfl,⟨(fun e=> .inr (H2.o.1 e)),(fun e=>e.elim (fun e=>by have:=H1.o.2 e;cases this) H2.o.2)⟩,zF⟩
 ·go_wp2
  go_ret;exact⟨true,rfl,⟨(fun _=> .inl (H1.o.1 trivial)),(fun _=>rfl)⟩,zF⟩
end
end Go.Proofs.YtpekbmegopfhfaaGreatDoor
