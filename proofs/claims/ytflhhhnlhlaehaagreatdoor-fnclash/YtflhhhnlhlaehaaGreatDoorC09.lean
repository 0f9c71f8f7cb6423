import Derived.Test.YtflhhhnlhlaehaaGreatDoorC08
import Derived.Lib.BytesEntry
set_option maxRecDepth 100000
set_option maxHeartbeats 16000000
namespace Go.Proofs.YtflhhhnlhlaehaaGreatDoor
open Go.ChangeShapes Go.WideShapes Go.ChangeAt Go.RowKit _root_.Go.Proofs.Tryz
def kI (s:ByteArray):List Int:=[kB s 0,kB s 1,kB s 2,kB s 3,kB s 4,kB s 5,kB s 6,kB s 7]
def DJ (s t:ByteArray):Int:=Lib.compareBytes (Lib.bytesOf (kI s)) (Lib.bytesOf (kI t))
theorem QU (x:List UInt8):Lib.compareBytes x x=0:=by
 induction x with
 |nil=>rfl
 |cons a x ih=>unfold Lib.compareBytes;simp[ih,UInt8.lt_irrefl]
theorem Lc (z:List UInt8):∀(x y:List UInt8),x.length=y.length->Lib.compareBytes (x++z) (y++z)=Lib.compareBytes x y
 |[],[],_=>by rw[List.nil_append,QU];rfl
 |a::x,b::y,h=>by
  have ih:=Lc z x y (by simpa using h);show Lib.compareBytes (a::(x++z)) (b::(y++z))=_;unfold Lib.compareBytes;rw[ih]
theorem Od:∀(x y:List UInt8),x.length=y.length->(Lib.compareBytes x y<0↔x<y)
 |[],[],_=>by simp[Lib.compareBytes]
 |a::x,b::y,h=>by
  have ih:=Od x y (by simpa using h);unfold Lib.compareBytes;rw[List.cons_lt_cons_iff,←ih];by_cases h1:a<b
  ·simp[h1]
  ·by_cases h2:b<a
   ·have:¬a=b:=fun e=>by subst e;exact absurd h2 (UInt8.lt_irrefl _)
    simp[h1,h2,this]
   ·have:a=b:=UInt8.le_antisymm (UInt8.not_lt.1 h2) (UInt8.not_lt.1 h1)
    simp[this]
theorem MC:∀(x y:List UInt8),x.length=y.length->(Lib.compareBytes x y=0↔x=y)
 |[],[],_=>by simp[Lib.compareBytes]
 |a::x,b::y,h=>by
  have ih:=MC x y (by simpa using h);unfold Lib.compareBytes;by_cases h1:a<b
  ·have:¬a=b:=fun e=>by subst e;exact absurd h1 (UInt8.lt_irrefl _)
   simp[h1,this]
  ·by_cases h2:b<a
   ·have:¬a=b:=fun e=>by subst e;exact absurd h2 (UInt8.lt_irrefl _)
    simp[h1,h2,this]
   ·have:a=b:=UInt8.le_antisymm (UInt8.not_lt.1 h2) (UInt8.not_lt.1 h1)
    simp[this,ih]
theorem Iu (s:ByteArray) (h:s.size<=8):Lib.bytesOf (kI s)=s.data.toList++List.replicate (8 -s.size) 0:=by
 have hl:=AZ s;have hb:∀i,(kB s i).toNat.toUInt8=(s.data.toList[i]?).getD 0:=fun i=>by
  unfold kB;simp
 unfold kI Lib.bytesOf;simp only[List.map_cons,List.map_nil,hb];apply List.ext_getElem?;intro i;rw[List.getElem?_append];rw[hl];rcases Nat.lt_or_ge i 8 with h8|h8
 ·have e:([(s.data.toList[0]?).getD 0,(s.data.toList[1]?).getD 0,(s.data.toList[2]?).getD 0,(s.data.toList[3]?).getD 0,(s.data.toList[4]?).getD 0,(s.data.toList[5]?).getD 0,(s.data.toList[6]?).getD 0,(s.data.toList[7]?).getD 0]:List UInt8)[i]?=some ((s.data.toList[i]?).getD 0):=by
   rcases(show i=0∨i=1∨i=2∨i=3∨i=4∨i=5∨i=6∨i=7 by omega) with rfl|rfl|rfl|rfl|rfl|rfl|rfl|rfl<;>rfl
  rw[e];by_cases hi:i<s.size
  ·rw[if_pos hi,Uu (by omega)]
   rfl
  ·rw[if_neg hi,List.getElem?_eq_none (by omega),List.getElem?_replicate,if_pos (by omega)]
   rfl
 ·rw[List.getElem?_eq_none (by simp;omega),if_neg (by omega),List.getElem?_eq_none (by simp;omega)]
theorem Pu {s t:ByteArray} (hs:s.size<=8) (ht:t.size=s.size):DJ s t<0↔less s t=true:=by
 unfold DJ less;rw[Iu s hs,Iu t (by omega),ht,Lc _ _ _ (by rw[AZ,AZ,ht]),Od _ _ (by rw[AZ,AZ,ht]),ByteArray.toList_eq,ByteArray.toList_eq,KX]
theorem Oe {s t:ByteArray} (hs:s.size<=8) (ht:t.size=s.size):DJ s t=0↔s=t:=by
 unfold DJ;rw[Iu s hs,Iu t (by omega),ht,Lc _ _ _ (by rw[AZ,AZ,ht]),MC _ _ (by rw[AZ,AZ,ht])];constructor
 ·intro h
  exact toList_inj (by rw[ByteArray.toList_eq,ByteArray.toList_eq];exact h)
 ·rintro rfl
  rfl
theorem Le {w:World} {b:Nat} {s:ByteArray} (h:Aa w b (Ah s)):∀j x,(kI s)[j]?=some x->w.cell? ((⟨b,0,none⟩:Addr).add j)=some (.int .u8 x):=by
 intro j x hx;rw[Go.WideShapes.add_plain,Nat.zero_add];have hj:j<8:=(Ut hx).1;refine(h j (.int .u8 x) ?_).1;unfold Ah BW;unfold kI at hx;rcases(show j=0∨j=1∨j=2∨j=3∨j=4∨j=5∨j=6∨j=7 by omega) with rfl|rfl|rfl|rfl|rfl|rfl|rfl|rfl<;>(simp at hx;subst hx;rfl)
theorem LY (w:World) (a b:Nat) (s t:ByteArray) (ha:Aa w a (Ah s)) (hb:Aa w b (Ah t)):
 (callFunc 177 #[.slice (some ⟨a,0,none⟩) 8 8,.slice (some ⟨b,0,none⟩) 8 8]).run prog w=.ok (.value (.int .i64 (DJ s t))) w:=by
 rw[run_callFunc_extern (fn:=f177) (e:=Extern.BytealgCompare.compare) func177 (by kernel_rfl) (by kernel_rfl) (by kernel_rfl) (by kernel_rfl)];have h1:=Lib.run_loadBytesX (P:=prog) w (kI s) ⟨a,0,none⟩ .empty (Le ha);have h2:=Lib.run_loadBytesX (P:=prog) w (kI t) ⟨b,0,none⟩ .empty (Le hb);have he:∀l:List UInt8,(⟨ByteArray.empty.data++l.toArray⟩:ByteArray)=⟨l.toArray⟩:=fun l=>by
  apply ByteArray.ext;show(#[]:Array UInt8)++l.toArray=l.toArray;simp
 rw[he] at h1 h2;change (Sem.run prog (do pure (goInt (Extern.BytealgCompare.cmp (←Extern.Bytes.bytesOf (.slice (some ⟨a,0,none⟩) 8 8)) (←Extern.Bytes.bytesOf (.slice (some ⟨b,0,none⟩) 8 8))))) w).andThen _=_;simp only[Extern.Bytes.bytesOf,Sem.run_bind,Sem.run_pure];rw[show(8:Nat)=(kI s).length from rfl,h1];rw[Result.andThen_ok,show(kI s).length=(kI t).length from rfl,h2];simp only[Result.andThen]
 rw[Lib.cmp_eq];rfl
theorem Hv (w:World) (a b:Nat) (s t:ByteArray) (ha:Aa w a (Ah s)) (hb:Aa w b (Ah t)):
 Calls prog 163 #[.slice (some ⟨a,0,none⟩) 8 8,.slice (some ⟨b,0,none⟩) 8 8] w fun e w'=>e=.returned (.int .i64 (DJ s t))/\w'=w:=by
 have hr:=LY w a b s t ha hb;clear ha hb;go_enter func163,ntmps163;go_wp2;go_ret;exact⟨rfl,rfl⟩
theorem Iv (s t:ByteArray) (w:World):
 Calls prog 162 #[Bt s,Bt t] w fun e w'=>e=.returned (.int .i64 (DJ s t))/\Uq w w':=by
 obtain⟨W,hW⟩:∃W,W=(w.alloc (.cells #[.int .u8 (kB s 0),.int .u8 (kB s 1),.int .u8 (kB s 2),.int .u8 (kB s 3),.int .u8 (kB s 4),.int .u8 (kB s 5),.int .u8 (kB s 6),.int .u8 (kB s 7)] 113)).alloc (.cells #[.int .u8 (kB t 0),.int .u8 (kB t 1),.int .u8 (kB t 2),.int .u8 (kB t 3),.int .u8 (kB t 4),.int .u8 (kB t 5),.int .u8 (kB t 6),.int .u8 (kB t 7)] 113):=⟨_,rfl⟩;have hB:=(Ba hW).1
 have ca:Aa W w.heap.size (Ah s):=by
  rw[hW];exact Aa.below (v:=.int .u8 (kB s 0)) (Aa.new w (Ah s) 113) (Ur)
 have cb:Aa W (w.heap.size+1) (Ah t):=by
  have:=Aa.new (w.alloc (.cells #[.int .u8 (kB s 0),.int .u8 (kB s 1),.int .u8 (kB s 2),.int .u8 (kB s 3),.int .u8 (kB s 4),.int .u8 (kB s 5),.int .u8 (kB s 6),.int .u8 (kB s 7)] 113)) (Ah t) 113;rw[World.size_alloc] at this;rw[hW];exact this
 have HC:Hid (Aa W.drew w.heap.size (Ah s)/\Aa W.drew (w.heap.size+1) (Ah t)):=⟨ca,cb⟩;have HW:Hid _:=hW;clear hW ca cb;unfold Bt BW;go_enter func162,ntmps162;go_upto_region 1 with fail;rw[←HW.o];clear HW;go_region_with (go_at_call 163;refine(Hv W.drew w.heap.size (w.heap.size+1) s t HC.o.1 HC.o.2).mono ?_;rintro e w1 ⟨rfl,rfl⟩)
 all_goals
  go_wp2;go_ret;exact⟨rfl,hB.drew⟩
structure DP (ss:List ByteArray) (s:ByteArray) (i:Nat):Prop where
 le:i<=ss.length
 lo:∀j x,j<i->ss[j]?=some x->less x s=true
 hi:∀j x,i<=j->ss[j]?=some x->less x s=false
theorem QV {w:World} {base g cap:Nat} {ss:List ByteArray} (ho:w.ownsRow base 113 8 (.slice (some ⟨g,0,none⟩) ss.length cap) ss.length (AA ss)) {k:Nat} {s:ByteArray} (hs:ss[k]?=some s):∀j,j<8->w.cell? ⟨g,k *8+j,none⟩=some (.int .u8 (kB s j)):=fun j hj=>by
 have:=(Ut hs).1;exact(ho.cellAt _ (by omega)).trans (EK hs hj)
theorem Sd {w:World} {base g cap:Nat} {ss:List ByteArray} (ho:w.ownsRow base 113 8 (.slice (some ⟨g,0,none⟩) ss.length cap) ss.length (AA ss)) {k:Nat} {s:ByteArray} (hs:ss[k]?=some s):
 w.cell? ⟨g,k *8,none⟩=some (.int .u8 (kB s 0))/\w.cell? ⟨g,k *8+1,none⟩=some (.int .u8 (kB s 1))/\w.cell? ⟨g,k *8+2,none⟩=some (.int .u8 (kB s 2))/\w.cell? ⟨g,k *8+3,none⟩=some (.int .u8 (kB s 3))/\w.cell? ⟨g,k *8+4,none⟩=some (.int .u8 (kB s 4))/\w.cell? ⟨g,k *8+5,none⟩=some (.int .u8 (kB s 5))/\w.cell? ⟨g,k *8+6,none⟩=some (.int .u8 (kB s 6))/\w.cell? ⟨g,k *8+7,none⟩=some (.int .u8 (kB s 7)):=
 have h:=QV ho hs
 ⟨by simpa using h 0 (by decide),h 1 (by decide),h 2 (by decide),h 3 (by decide),h 4 (by decide),h 5 (by decide),h 6 (by decide),h 7 (by decide)⟩
theorem EV {w:World} {g:Nat} {s:ByteArray} (h:Aa w g (Ah s)):
 w.cell? ⟨g,0,none⟩=some (.int .u8 (kB s 0))/\w.cell? ⟨g,1,none⟩=some (.int .u8 (kB s 1))/\w.cell? ⟨g,2,none⟩=some (.int .u8 (kB s 2))/\w.cell? ⟨g,3,none⟩=some (.int .u8 (kB s 3))/\w.cell? ⟨g,4,none⟩=some (.int .u8 (kB s 4))/\w.cell? ⟨g,5,none⟩=some (.int .u8 (kB s 5))/\w.cell? ⟨g,6,none⟩=some (.int .u8 (kB s 6))/\w.cell? ⟨g,7,none⟩=some (.int .u8 (kB s 7)):=
 ⟨(h 0 _ rfl).1,(h 1 _ rfl).1,(h 2 _ rfl).1,(h 3 _ rfl).1,(h 4 _ rfl).1,(h 5 _ rfl).1,(h 6 _ rfl).1,(h 7 _ rfl).1⟩
theorem Iw (g cap:Nat) (ss:List ByteArray) (s:ByteArray) (w:World) (base:Nat) (ho:w.ownsRow base 113 8 (.slice (some ⟨g,0,none⟩) ss.length cap) ss.length (AA ss)) (hl:ss.length<=600) (yI:s.size<=8) (yB:∀x∈ss,x.size=s.size) (zC:ss.Pairwise (fun a b=>less a b=true)):
 Calls prog 161 #[.slice (some ⟨g,0,none⟩) ss.length cap,Bt s,.func (.func 162) #[] #[]] w fun e w'=>∃i:Nat,e=.returned (.tuple #[.int .i64 i,.bool (decide (ss[i]?=some s))])/\DP ss s i/\Uq w w':=by
 unfold Bt BW;have yG:=(Af ho rfl).2;obtain⟨W,hW⟩:∃W,W=w.alloc (.cells #[.int .u8 (kB s 0),.int .u8 (kB s 1),.int .u8 (kB s 2),.int .u8 (kB s 3),.int .u8 (kB s 4),.int .u8 (kB s 5),.int .u8 (kB s 6),.int .u8 (kB s 7)] 113):=⟨_,rfl⟩;have hB:=(AC hW).1;have cb:Aa W w.heap.size (Ah s):=by rw[hW];exact Aa.new w (Ah s) 113
 have yA:=Ag ho hB;have HW:Hid _:=hW;have HO:Hid _:=yA;have HC:Hid _:=cb;have yJ:=Aa.lt (v:=.int .u8 (kB s 0)) cb;clear hW yA cb ho;go_enter func161,ntmps161;go_upto_region 1 with fail;rw[←HW.o];clear HW;have yF:=enters_of func162 (by kernel_rfl) rfl;go_wp2
 go_loopw [9,10] (fun i j wr=>∃lo hi:Nat,i=.int .i64 lo/\j=.int .i64 hi/\lo<=hi/\hi<=ss.length/\Hid ((∀j x,j<lo->ss[j]?=some x->less x s=true)/\(∀j x,hi<=j->ss[j]?=some x->less x s=false))/\Uq W wr) (fun i j _=>(intOf j).toNat -(intOf i).toNat)
 case atStart=>exact⟨0,ss.length,rfl,rfl,Nat.zero_le _,Us,⟨fun j x h=>by omega,fun j x h hx=>by have:=(Ut hx).1;omega⟩,Below.refl _ _⟩
 case round=>
  obtain⟨lo,hi,rfl,rfl,yH,zY,HI,zA⟩:=hrel;have zD:=zA.size;by_cases hlt:lo<hi
  ·have zU:(lo+hi)/2<ss.length:=by omega
   have HG:Hid _:=Uu zU;have yE:=yB _ (List.getElem_mem zU);generalize ss[(lo+hi)/2]=x at *
   obtain⟨r0,r1,r2,r3,r4,r5,r6,r7⟩:=Sd (Ag HO.o zA) HG.o;obtain⟨t0,t1,t2,t3,t4,t5,t6,t7⟩:=EV (Aa.below (v:=.int .u8 (kB s 0)) HC.o zA);have zE:=AE.cell r0 (show g<wr.heap.size by omega);have zF:=AE.cell r1 (show g<wr.heap.size by omega);have zG:=AE.cell r2 (show g<wr.heap.size by omega);have zH:=AE.cell r3 (show g<wr.heap.size by omega);have zI:=AE.cell r4 (show g<wr.heap.size by omega)
   have zJ:=AE.cell r5 (show g<wr.heap.size by omega);have zK:=AE.cell r6 (show g<wr.heap.size by omega);have zL:=AE.cell r7 (show g<wr.heap.size by omega);have zM:=AE.cell t0 (show w.heap.size<wr.heap.size by omega);have zN:=AE.cell t1 (show w.heap.size<wr.heap.size by omega);have zO:=AE.cell t2 (show w.heap.size<wr.heap.size by omega)
   have zP:=AE.cell t3 (show w.heap.size<wr.heap.size by omega);have zQ:=AE.cell t4 (show w.heap.size<wr.heap.size by omega);have zR:=AE.cell t5 (show w.heap.size<wr.heap.size by omega);have zS:=AE.cell t6 (show w.heap.size<wr.heap.size by omega);have zT:=AE.cell t7 (show w.heap.size<wr.heap.size by omega);have zZ:=AE.ne wr
   have zB:Hid (∀m:AE wr,Calls prog 162 #[.agg #[.int .u8 (kB x 0),.int .u8 (kB x 1),.int .u8 (kB x 2),.int .u8 (kB x 3),.int .u8 (kB x 4),.int .u8 (kB x 5),.int .u8 (kB x 6),.int .u8 (kB x 7)],.agg #[.int .u8 (kB s 0),.int .u8 (kB s 1),.int .u8 (kB s 2),.int .u8 (kB s 3),.int .u8 (kB s 4),.int .u8 (kB s 5),.int .u8 (kB s 6),.int .u8 (kB s 7)]] m.w fun e w'=>e=.returned (.int .i64 (DJ x s))/\Below m.w.heap.size m.w w'):=fun m=>Iv x s m.w
   clear r0 r1 r2 r3 r4 r5 r6 r7 t0 t1 t2 t3 t4 t5 t6 t7;have zV:Hid _:=Pu (s:=x) (t:=s) (by omega) (by omega);by_cases hc:DJ x s<0
   ·have hd:decide (DJ x s<0)=true:=by simpa using hc
    go_wp2;refine Bf (by kernel_rfl) (by kernel_rfl) ?_
    repeat (go_big_quiet_step (exact AE.calls (zB.o _)))
    refine wpQuiet_nil ?_;intro m;clear zE zF zG zH zI zJ zK zL zM zN zO zP zQ zR zS zT zB;go_wp2;refine⟨⟨(lo+hi)/2+1,hi,by go_num,rfl,by omega,zY,⟨?_,HI.o.2⟩,zA.trans (m.h.mono zD)⟩,by simp[intOf];omega⟩;intro j y hj hy;rcases Nat.lt_or_ge j ((lo+hi)/2) with h|h
    ·have:=List.pairwise_iff_getElem.1 zC j ((lo+hi)/2) (by omega) zU h
     obtain⟨_,rfl⟩:=Ut hy;obtain⟨_,e⟩:=Ut HG.o;rw[e] at this;exact BX this (zV.o.1 hc)
    ·obtain rfl:j=(lo+hi)/2:=by omega
     rw[HG.o] at hy;cases hy;exact zV.o.1 hc
   ·have hd:decide (DJ x s<0)=false:=by simpa using hc
    have yC:Hid _:=hc;clear hc;go_wp2;refine Bf (by kernel_rfl) (by kernel_rfl) ?_
    repeat (go_big_quiet_step (exact AE.calls (zB.o _)))
    refine wpQuiet_nil ?_;intro m;clear zE zF zG zH zI zJ zK zL zM zN zO zP zQ zR zS zT zB;go_wp2;refine⟨⟨lo,(lo+hi)/2,rfl,by go_num,by omega,by omega,⟨HI.o.1,?_⟩,zA.trans (m.h.mono zD)⟩,by simp[intOf];omega⟩;have zW:less x s=false:=by
     cases h:less x s with
     |false=>rfl
     |true=>exact absurd (zV.o.2 h) yC.o
    intro j y hj hy;rcases Nat.lt_or_ge ((lo+hi)/2) j with h|h
    ·have yD:=(Ut hy).1
     have:=List.pairwise_iff_getElem.1 zC ((lo+hi)/2) j zU yD h;obtain⟨_,rfl⟩:=Ut hy;obtain⟨_,e⟩:=Ut HG.o;rw[e] at this;cases h':less ss[j] s with
     |false=>rfl
     |true=>rw[BX this h'] at zW;cases zW
    ·obtain rfl:j=(lo+hi)/2:=by omega
     rw[HG.o] at hy;cases hy;exact zW
  ·obtain rfl:lo=hi:=by omega
   have HP:Hid (DP ss s lo):=⟨zY,HI.o.1,HI.o.2⟩;by_cases hn:lo<ss.length
   ·have HG:Hid _:=Uu hn
    have yE:=yB _ (List.getElem_mem hn);generalize ss[lo]=x at *
    obtain⟨r0,r1,r2,r3,r4,r5,r6,r7⟩:=Sd (Ag HO.o zA) HG.o;obtain⟨t0,t1,t2,t3,t4,t5,t6,t7⟩:=EV (Aa.below (v:=.int .u8 (kB s 0)) HC.o zA);have zE:=AE.cell r0 (show g<wr.heap.size by omega);have zF:=AE.cell r1 (show g<wr.heap.size by omega);have zG:=AE.cell r2 (show g<wr.heap.size by omega);have zH:=AE.cell r3 (show g<wr.heap.size by omega);have zI:=AE.cell r4 (show g<wr.heap.size by omega)
    have zJ:=AE.cell r5 (show g<wr.heap.size by omega);have zK:=AE.cell r6 (show g<wr.heap.size by omega);have zL:=AE.cell r7 (show g<wr.heap.size by omega);have zM:=AE.cell t0 (show w.heap.size<wr.heap.size by omega);have zN:=AE.cell t1 (show w.heap.size<wr.heap.size by omega);have zO:=AE.cell t2 (show w.heap.size<wr.heap.size by omega)
    have zP:=AE.cell t3 (show w.heap.size<wr.heap.size by omega);have zQ:=AE.cell t4 (show w.heap.size<wr.heap.size by omega);have zR:=AE.cell t5 (show w.heap.size<wr.heap.size by omega);have zS:=AE.cell t6 (show w.heap.size<wr.heap.size by omega);have zT:=AE.cell t7 (show w.heap.size<wr.heap.size by omega);have zZ:=AE.ne wr
    have zB:Hid (∀m:AE wr,Calls prog 162 #[.agg #[.int .u8 (kB x 0),.int .u8 (kB x 1),.int .u8 (kB x 2),.int .u8 (kB x 3),.int .u8 (kB x 4),.int .u8 (kB x 5),.int .u8 (kB x 6),.int .u8 (kB x 7)],.agg #[.int .u8 (kB s 0),.int .u8 (kB s 1),.int .u8 (kB s 2),.int .u8 (kB s 3),.int .u8 (kB s 4),.int .u8 (kB s 5),.int .u8 (kB s 6),.int .u8 (kB s 7)]] m.w fun e w'=>e=.returned (.int .i64 (DJ x s))/\Below m.w.heap.size m.w w'):=fun m=>Iv x s m.w
    clear r0 r1 r2 r3 r4 r5 r6 r7 t0 t1 t2 t3 t4 t5 t6 t7;have zX:Hid _:=Oe (s:=x) (t:=s) (by omega) (by omega);by_cases hc:DJ x s=0
    ·have hd:(DJ x s==0)=true:=by simpa using hc
     go_wp2;refine Bf (by kernel_rfl) (by kernel_rfl) ?_
     repeat (go_big_quiet_step (exact AE.calls (zB.o _)))
     refine wpQuiet_nil ?_;intro m;clear zE zF zG zH zI zJ zK zL zM zN zO zP zQ zR zS zT zB;go_wp2
     go_ret2
     refine⟨lo,?_,HP.o,hB.trans ((zA.trans (m.h.mono zD)).mono hB.size)⟩;rw[HG.o,zX.o.1 hc,decide_eq_true rfl];rfl
    ·have hd:(DJ x s==0)=false:=by simpa using hc
     go_wp2;refine Bf (by kernel_rfl) (by kernel_rfl) ?_
     repeat (go_big_quiet_step (exact AE.calls (zB.o _)))
     refine wpQuiet_nil ?_;intro m;clear zE zF zG zH zI zJ zK zL zM zN zO zP zQ zR zS zT zB;go_wp2
     go_ret2
     refine⟨lo,?_,HP.o,hB.trans ((zA.trans (m.h.mono zD)).mono hB.size)⟩;rw[HG.o,decide_eq_false (fun e=>hc (zX.o.2 (Option.some.inj e)))];rfl
   ·have zZ:=AE.ne wr
    go_wp2;refine Bf (by kernel_rfl) (by kernel_rfl) ?_
    repeat (go_big_quiet_step (fail))
    refine wpQuiet_nil ?_;intro m;go_wp2
    go_ret2
    refine⟨lo,?_,HP.o,hB.trans ((zA.trans (m.h.mono zD)).mono hB.size)⟩;rw[List.getElem?_eq_none (by omega),decide_eq_false (by simp)];rfl
section
open Go.WideElems Go.MapKept Go.ChangeMaps
open Classical in
noncomputable def ers (f:Lit->Option Value) (kl:Lit):Lit->Option Value:=fun x=>if x=kl then none else f x
theorem AM.del {w:World} {K t e:TypeId} {b n:Nat} {f:Lit->Option Value} (h:AM w K b n f) (hK:Maps.Keyed prog K) (ht:prog.underlying t=some (.map K e)) {key:Value} {kl:Lit} (zB:keyOf prog K key=some kl) (ty:TypeId):
 ∃w',(Builtin.delete_ #[t,K] ty #[.map (some b),key]).run prog w=.ok (.tuple #[]) w'/\AM w' K b n (ers f kl)/\w.grownBy w' (some b):=by
 obtain⟨D,h1,h2,h3⟩:=h;obtain⟨w',hr,ho,es,clock,zC,zA,hb,rfl⟩:=h1.drop hK ht zB ty;refine⟨_,hr,⟨_,ho,fun x z=> ?_,fun x=> ?_⟩,?_⟩
 ·by_cases hx:x=kl
  ·subst hx;rw[Maps.atKey_del_same];simp[ers]
  ·rw[Maps.atKey_del_other hx,h2];simp[ers,hx]
 ·by_cases hx:x=kl
  ·subst hx;rw[Maps.has_del_same];simp[ers]
  ·rw[Maps.has_del_other hx,h3];simp[ers,hx]
 ·refine⟨rfl,rfl,rfl,by simp[setBlock],fun i _ hi=> ?_⟩
  simp only[setBlock];rw[Array.getElem?_setIfInBounds_ne (fun e=>hi (by rw[e]))]
theorem QW (w:World):(zeroValue 113).run prog w=.ok (.agg Bs) w:=by kernel_rfl
theorem Kk (w:World) (ty:TypeId) (b o c:Nat) (hc:∀j,j<8->(w.cell? ⟨b,o+j,none⟩).isSome=true) (hf:∀j,j<8->w.frozen? ⟨b,o+j,none⟩=false):
 (Builtin.clear_ #[103] ty #[.slice (some ⟨b,o,none⟩) 1 c]).run prog w=.ok (.tuple #[]) (w.setCells b o Bs.toList):=by
 have zC:(Builtin.zeroCells (Value.agg Bs).cells 1).toList=Bs.toList:=by kernel_rfl
 have zA:=run_storeCells_cells (P:=prog) b o Bs.toList 0 w (by simpa [Bs] using hc) (by simpa [Bs] using hf) (by intro v zB;simp[Bs] at zB;subst zB;rfl);simp only[Nat.add_zero] at zA;have zD:=QW;unfold Bs at zC zA zD ⊢;simp[Builtin.clear_,run_underlying underlying103,zD,zC,zA]
theorem EX {base g cap n size:Nat} {e:TypeId} {xs:List Value}:∀(vs:List Value) (o:Nat) (w:World),w.ownsRow base e size (.slice (some ⟨g,0,none⟩) n cap) n xs->n *size<=o->(w.setCells g o vs).ownsRow base e size (.slice (some ⟨g,0,none⟩) n cap) n xs
 |[],_,_,h,_=>h
 |v::r,o,w,h,ho=>by
  rw[World.setCells];refine EX r (o+1) _ ?_ (by omega);have:=(h.stored o v).1;rw[List.set_eq_of_length_le (by rw[h.1];exact ho)] at this;exact this
theorem Bl (g:Nat):∀(vs:List Value) (o:Nat) (w:World),w.grownBy (w.setCells g o vs) (some g)
 |[],_,w=>⟨rfl,rfl,rfl,Us,fun _ _ _=>rfl⟩
 |v::r,o,w=>by
  rw[World.setCells];exact Aw (Ae w g o v) (Bl g r (o+1) _)
theorem Cl {w w':World} {r:Option Nat} (h:w.drew.grownBy w' r):w.grownBy w' r:=⟨h.os,h.tape,h.output,h.size,h.block⟩
theorem QX {w:World} {base g cap:Nat} {ss:List ByteArray} (h:w.ownsRow base 113 8 (.slice (some ⟨g,0,none⟩) ss.length cap) ss.length (AA ss)) (i:Nat) (hi:i<=ss.length):w.ownsRow base 113 8 (.slice (some ⟨g,0,none⟩) i cap) i (AA (ss.take i)):=by
 refine⟨by rw[DV,List.length_take];congr 1;omega,?_⟩;rcases h.2 with⟨e,_⟩|⟨g',zA,zB,e,hb,hg,h1,h2,h3,h4⟩
 ·cases e
 ·cases e
  refine .inr ⟨g,cap,zB,rfl,hb,hg,by omega,h2,h3,?_⟩;rw[Ey,←El Dh ss i hi,←Ey,←h4,List.take_take];congr 1;omega
theorem Kl (g cap i:Nat) (ss:List ByteArray) (w:World) (base:Nat) (ho:w.ownsRow base 113 8 (.slice (some ⟨g,0,none⟩) ss.length cap) ss.length (AA ss)) (hl:ss.length<=600) (hi:i<ss.length):
 Calls prog 135 #[.slice (some ⟨g,0,none⟩) ss.length cap,.int .i64 i,.int .i64 ((i:Int)+1)] w fun e w'=>e=.returned (.slice (some ⟨g,0,none⟩) (ss.length -1) cap)/\w'.ownsRow base 113 8 (.slice (some ⟨g,0,none⟩) (ss.length -1) cap) (ss.length -1) (AA (ss.eraseIdx i))/\w.grownBy w' (some g):=by
 obtain⟨i0,zF,zT,zM,zU⟩:=info_parts Je;have zE:ss.length<=cap/\cap<=maxLen:=by
  rcases ho.2 with⟨e,_⟩|⟨g',zD,zI,e,hb,hg,h1,h2,h3,h4⟩
  ·cases e
  ·cases e;exact⟨h1,h2⟩
 obtain⟨zN,zJ⟩:=zE;unfold maxLen at zJ;have hcut:=QX ho i (by omega);obtain⟨A,hA,zB⟩:∃A,(if cap=i+1 then some (⟨g,0,none⟩:Addr) else some ⟨g,(i+1) *8,none⟩)=some A/\∀j u,(AA (ss.drop (i+1)))[j]?=some u->w.drew.cell? (A.add j)=some u:=by
  by_cases h:cap=i+1
  ·refine⟨⟨g,0,none⟩,by rw[if_pos h],fun j u hu=> ?_⟩
   rw[List.drop_of_length_le (by omega)] at hu;simp[AA] at hu
  ·refine⟨⟨g,(i+1) *8,none⟩,by rw[if_neg h],fun j u hu=> ?_⟩
   rw[Go.WideShapes.add_plain];rw[Ey,←DH Dh ss (i+1) (by omega),←Ey,List.getElem?_drop] at hu;have zL:=(Ut hu).1;rw[DV] at zL;exact(ho.cellAt _ (by omega)).trans hu
 obtain⟨w1,hr,zA,zC⟩:=run_append_fits (P:=prog) w.drew base 103 103 113 i0 8 underlying103 zF zM g i cap (AA (ss.take i)) hcut A (ss.length -(i+1)) (cap -(i+1)) (AA (ss.drop (i+1))) (by rw[DV,List.length_drop]) zB (CL _) (by omega);rw[←FZ,show i+(ss.length -(i+1))=ss.length -1 by omega] at zA;rw[show i+(ss.length -(i+1))=ss.length -1 by omega] at hr
 have zG:=(List.eraseIdx_eq_take_drop_succ ss i).symm;rw[zG] at zA;have HO:Hid _:=And.intro zA zC;clear zB zA hcut zG;go_enter func135,ntmps135;have zO:¬((i:Int)==(i:Int)+1)=true:=by simp;omega
 have zP:i<=cap:=by omega
 have zQ:(0:Int)<=(i:Int)+1:=by omega
 have zR:(i:Int)+1<=(ss.length:Int):=by omega
 have zS:((i:Int)+1).toNat=i+1:=by omega
 go_upto_region 5 with fail
 go_region_law (first
  |(refine BB (by rfl) (.tmp 22) (.tmp 25) 103 103 (by rfl) (by rfl) (by simp[Act.eval,Act.put]) hr ?_))
 all_goals
  have zH:∀j,j<8->(w1.cell? ⟨g,(ss.length -1) *8+j,none⟩).isSome=true/\w1.frozen? ⟨g,(ss.length -1) *8+j,none⟩=false:=fun j hj=>by
   obtain⟨zA,zC⟩:=HO.o;rcases zA.2 with⟨e,_⟩|⟨g',zD,zI,e,hb,hg,h1,h2,h3,h4⟩
   ·cases e
   ·cases e
    constructor
    ·simp only[World.cell?,hg]
     rw[Array.getElem?_eq_getElem (by omega)];rfl
    ·exact zA.frozenAt _
  have zK:=Kk w1 0 g ((ss.length -1) *8) (cap -(ss.length -1)) (fun j hj=>(zH j hj).1) (fun j hj=>(zH j hj).2);have e1:ss.length -(ss.length -1)=1:=by omega
  have e2:¬cap=ss.length -1:=by omega
  have e3:ss.length -1<=ss.length:=by omega
  go_wp2;go_ret;obtain⟨zA,zC⟩:=HO.o;exact⟨rfl,EX _ _ _ zA (Us),Aw (Cl zC) (Bl g _ _ _)⟩
theorem Og (base d m g cap:Nat) (P L:Value) (wd now given births:Int) (ks:List Kd) (s:ByteArray) (w:World) (zA:Aa w d [.int .i64 wd,.map (some m),.int .i64 now,.int .i64 given,.int .i64 births,.slice (some ⟨g,0,none⟩) ks.length cap,P,L]) (zB:w.ownsRow base 113 8 (.slice (some ⟨g,0,none⟩) ks.length cap) ks.length (AA (ks.map (·.sum))))
 (hk:ks.length<=600) (zE:s.size<=8) (zF:∀x∈ks,x.sum.size=s.size) (zC:(ks.map (·.sum)).Pairwise (fun a b=>less a b=true)):
 Calls prog 134 #[.pointer (some ⟨d,0,none⟩),Bt s] w fun e w'=>∃i:Nat,e=.returned (.tuple #[.int .i64 i,.bool (decide ((ks.map (·.sum))[i]?=some s))])/\DP (ks.map (·.sum)) s i/\Uq w w':=by
 obtain⟨W,hW⟩:∃W,W=w.alloc (.cells #[.int .u8 (kB s 0),.int .u8 (kB s 1),.int .u8 (kB s 2),.int .u8 (kB s 3),.int .u8 (kB s 4),.int .u8 (kB s 5),.int .u8 (kB s 6),.int .u8 (kB s 7)] 113):=⟨_,rfl⟩;have hB:=(AC hW).1;have cb:Aa W w.heap.size (Ah s):=by rw[hW];exact Aa.new w (Ah s) 113
 have zD:W.drew.ownsRow base 113 8 (.slice (some ⟨g,0,none⟩) (ks.map (·.sum)).length cap) (ks.map (·.sum)).length (AA (ks.map (·.sum))):=by
  rw[List.length_map];exact Ag zB hB.drew
 have HS:Hid _:=Iw g cap (ks.map (·.sum)) s W.drew base zD (by rw[List.length_map];exact hk) zE (fun x hx=>by obtain⟨y,hy,rfl⟩:=List.mem_map.1 hx;exact zF y hy) zC;rw[List.length_map] at HS
 have S0:W.drew.cell? ⟨d,5,none⟩=some (.slice (some ⟨g,0,none⟩) ks.length cap)/\(W.drew.cell? ⟨w.heap.size,0,none⟩=some (.int .u8 (kB s 0))/\W.drew.cell? ⟨w.heap.size,1,none⟩=some (.int .u8 (kB s 1))/\W.drew.cell? ⟨w.heap.size,2,none⟩=some (.int .u8 (kB s 2))/\W.drew.cell? ⟨w.heap.size,3,none⟩=some (.int .u8 (kB s 3))/\W.drew.cell? ⟨w.heap.size,4,none⟩=some (.int .u8 (kB s 4))/\W.drew.cell? ⟨w.heap.size,5,none⟩=some (.int .u8 (kB s 5))/\W.drew.cell? ⟨w.heap.size,6,none⟩=some (.int .u8 (kB s 6))/\W.drew.cell? ⟨w.heap.size,7,none⟩=some (.int .u8 (kB s 7))):=⟨(Aa.below zA hB 5 _ rfl).1,EV cb⟩
 have HW:Hid _:=hW;clear hW cb zD zA zB;unfold Bt BW at *
 go_enter func134,ntmps134;go_upto_region 1 with fail;rw[←HW.o];clear HW;obtain⟨s5,zG,zH,zI,zJ,zK,zL,zM,zN⟩:=S0;go_region_with (go_at_call 161;refine Calls.mono HS.o ?_;rintro e w1 ⟨i,rfl,hp,hb⟩)
 all_goals
  have HF:Hid _:=And.intro hp (hB.trans ((DW hb).mono hB.size));clear hp hb s5 zG zH zI zJ zK zL zM zN HS;go_wp2
  go_ret2
  exact⟨i,by first|rfl|simp[Act.put],HF.o.1,HF.o.2⟩
end
theorem Pv (x:ByteArray) (w:World):Calls prog 168 #[.string x] w fun e w'=>e=.returned (.bool false)/\Uq w w':=by
 go_enter func168,ntmps168;go_wp2;go_ret;exact⟨by simp,Below.refl _ _⟩
theorem Pw (x:ByteArray) (w:World):Calls prog 183 #[.string x] w fun e w'=>e=.returned (.bool false)/\Uq w w':=by
 go_enter func183,ntmps183;go_wp2;go_ret;exact⟨by simp,Below.refl _ _⟩
theorem JN (x y:ByteArray) (w:World):Calls prog 182 #[.string x,.string y] w fun e w'=>e=.returned (.bool (less x y))/\Uq w w':=by
 go_enter func182,ntmps182;unfold less;go_wp2_with (go_at_call 168;refine(Pv x w).mono ?_;rintro e w1 ⟨rfl,zA⟩);go_wp2;go_ret;exact⟨by simp,zA⟩
theorem LZ (a:Option Addr) (cap:Nat) (ss:List ByteArray) (s:ByteArray) (w:World) (zE:Ad w w.heap.size a ss) (hl:ss.length<=1000) (zB:ss.Pairwise (fun a b=>less a b=true)):
 Calls prog 176 #[.slice a ss.length cap,.string s] w fun e w'=>∃(i:Int) (ok:Bool),e=.returned (.tuple #[.int .i64 i,.bool ok])/\(ok=true↔s∈ss)/\Uq w w':=by
 have HL:Hid _:=JN;go_enter func176,ntmps176;go_wp2
 go_loopw [7,8] (fun i j wr=>∃lo hi:Nat,i=.int .i64 lo/\j=.int .i64 hi/\lo<=hi/\hi<=ss.length/\Hid ((∀j x,j<lo->ss[j]?=some x->less x s=true)/\(∀j x,hi<=j->ss[j]?=some x->less x s=false))/\Uq w wr) (fun i j _=>(intOf j).toNat -(intOf i).toNat)
 case atStart=>exact⟨0,ss.length,rfl,rfl,Nat.zero_le _,Us,⟨fun j x h=>by omega,fun j x h hx=>by have:=(Ut hx).1;omega⟩,Below.refl _ _⟩
 case round=>
  obtain⟨lo,hi,rfl,rfl,zM,zL,HI,zA⟩:=hrel;have zK:=zA.size;by_cases hlt:lo<hi
  ·have zF:(lo+hi)/2<ss.length:=by omega
   have HG:Hid _:=Uu zF;obtain⟨b,off,ha,hb,hc⟩:=(zE.below zA).at zF;subst ha;have hx:=hc _ _ HG.o;clear hc;generalize ss[(lo+hi)/2]=x at *
   go_wp2_with fail;refine(JN x s wr).mono ?_;rintro e w1 ⟨rfl,zH⟩;have zJ:=zA.trans (zH.mono zK);by_cases hc:less x s=true
   ·rw[hc]
    go_wp2;refine⟨⟨(lo+hi)/2+1,hi,by go_num,rfl,by omega,zL,⟨?_,HI.o.2⟩,zJ⟩,by simp[intOf];omega⟩;intro j y hj hy;rcases Nat.lt_or_ge j ((lo+hi)/2) with h|h
    ·have:=List.pairwise_iff_getElem.1 zB j ((lo+hi)/2) (by omega) zF h
     obtain⟨_,rfl⟩:=Ut hy;obtain⟨_,e⟩:=Ut HG.o;rw[e] at this;exact BX this hc
    ·obtain rfl:j=(lo+hi)/2:=by omega
     rw[HG.o] at hy;cases hy;exact hc
   ·have zG:less x s=false:=by simpa using hc
    rw[zG];go_wp2;refine⟨⟨lo,(lo+hi)/2,rfl,by go_num,by omega,by omega,⟨HI.o.1,?_⟩,zJ⟩,by simp[intOf];omega⟩;intro j y hj hy;rcases Nat.lt_or_ge ((lo+hi)/2) j with h|h
    ·have zI:=(Ut hy).1
     have:=List.pairwise_iff_getElem.1 zB ((lo+hi)/2) j zF zI h;obtain⟨_,rfl⟩:=Ut hy;obtain⟨_,e⟩:=Ut HG.o;rw[e] at this;cases h':less ss[j] s with
     |false=>rfl
     |true=>rw[BX this h'] at zG;cases zG
    ·obtain rfl:j=(lo+hi)/2:=by omega
     rw[HG.o] at hy;cases hy;exact zG
  ·obtain rfl:lo=hi:=by omega
   have zD:s∈ss->ss[lo]?=some s:=fun hs=>by
    obtain⟨j,hj⟩:=List.getElem?_of_mem hs;rcases Nat.lt_or_ge j lo with h|h
    ·have:=HI.o.1 j s h hj
     rw[BL] at this;cases this
    ·rcases Nat.lt_or_ge lo j with h'|h'
     ·have zI:=(Ut hj).1
      have h1:=List.pairwise_iff_getElem.1 zB lo j (by omega) zI h';have h2:=HI.o.2 lo _ (Us) (Uu (by omega));obtain⟨_,e⟩:=Ut hj;rw[e] at h1;rw[h1] at h2;cases h2
     ·obtain rfl:j=lo:=by omega
      exact hj
   have HM:Hid _:=zD;clear zD;by_cases hn:lo<ss.length
   ·have HG:Hid _:=Uu hn
    obtain⟨b,off,ha,hb,hc⟩:=(zE.below zA).at hn;subst ha;have hx:=hc _ _ HG.o;clear hc;generalize ss[lo]=x at *
    by_cases he:x=s
    ·subst he
     have hd:=Ux HG.o;have zC:Hid _:=hd;clear hd;have hq:(x.toList==x.toList)=true:=by simp
     go_wp2
     go_ret2
     exact⟨_,true,by first|rfl|simp[Act.put],⟨fun _=>zC.o,fun _=>rfl⟩,zA⟩
    ·have hd:¬s∈ss:=by
      intro h;have:=HM.o h;rw[HG.o] at this;exact he (Option.some.inj this)
     have zC:Hid _:=hd;clear hd;have hq:=Ck he;go_wp2_with (go_at_call 183;refine(Pw x wr).mono ?_;rintro e w1 ⟨rfl,zH⟩);go_wp2
     go_ret2
     exact⟨_,false,by first|rfl|simp[Act.put],⟨(fun h=>by cases h),(fun h=>absurd h zC.o)⟩,zA.trans (zH.mono zK)⟩
   ·have hd:¬s∈ss:=by
     intro h;have:=(Ut (HM.o h)).1;omega
    have zC:Hid _:=hd;clear hd;go_wp2
    go_ret2
    exact⟨_,false,by first|rfl|simp[Act.put],⟨(fun h=>by cases h),(fun h=>absurd h zC.o)⟩,zA⟩
section
attribute [local go_sem↓] Go.wp_at_zero Go.wp_at_succ
theorem MX (p:Pd) (s:ByteArray) (b:Nat) (w:World) (hc:w.cell? ⟨b,0,none⟩=some (.string s)):
 Calls prog 171 #[.agg #[.string p.name,.string p.sum],.pointer (some ⟨b,0,none⟩)] w fun e w'=>e=.returned (.bool (decide (p.sum=s)))/\Uq w w':=by
 have hb:b<w.heap.size:=World.block_lt_of_cell? w _ hc;have zA:¬w.heap.size=b:=by omega
 have hA:∀o,Uq w (w.alloc o):=fun o=>Ur;by_cases h:p.sum=s
 ·have hq:(p.sum.toList==s.toList)=true:=by rw[h];simp
  have hd:decide (p.sum=s)=true:=by simpa using h
  clear h;go_enter func171,ntmps171;go_wp2;go_ret;exact⟨by rw[hd];rfl,hA _⟩
 ·have hq:(p.sum.toList==s.toList)=false:=Ck h
  have hd:decide (p.sum=s)=false:=by simpa using h
  clear h;go_enter func171,ntmps171;go_wp2;go_ret;exact⟨by rw[hd];rfl,hA _⟩
theorem Lf (a:Option Addr) (cap b:Nat) (ps:List Pd) (s:ByteArray) (w:World) (zC:Bo w w.heap.size a ps) (hl:ps.length<=1048576) (hc:w.cell? ⟨b,0,none⟩=some (.string s)):
 Calls prog 180 #[.slice a ps.length cap,.func (.func 171) #[] #[.pointer (some ⟨b,0,none⟩)]] w fun e w'=>∃r:Int,e=.returned (.int .i64 r)/\(0<=r↔∃p∈ps,p.sum=s)/\Uq w w':=by
 have zG:=World.block_lt_of_cell? w _ hc;go_enter func180,ntmps180;go_wp2
 go_loopw [8] (fun i wr=>∃k:Nat,k<=ps.length/\i=.int .i64 k/\Hid (∀j x,j<k->ps[j]?=some x->¬x.sum=s)/\Uq w wr) (fun i _=>ps.length -(intOf i).toNat)
 case atStart=>exact⟨0,Nat.zero_le _,rfl,(fun j x h=>by omega),Below.refl _ _⟩
 case round=>
  obtain⟨k,hk,rfl,zB,zA⟩:=hrel;have zI:=zA.size;by_cases hlt:k<ps.length
  ·obtain⟨b',off,ha,hb,zE⟩:=(zC.below zA).at hlt
   subst ha;have hg:Hid _:=Uu hlt;obtain⟨c0,c1⟩:=zE k _ hg.o;have zH:=(zA.cell (p:=⟨b,0,none⟩) zG).trans hc;clear zE zC;generalize ps[k]=x at *
   go_wp2_with fail;refine(MX x s b wr zH).mono ?_;rintro e w1 ⟨rfl,zF⟩;have zD:=zA.trans (zF.mono zI);by_cases h:x.sum=s
   ·have hd:decide (x.sum=s)=true:=by simpa using h
    rw[hd];go_wp2;go_ret;exact⟨_,rfl,⟨fun _=>⟨x,Ux hg.o,h⟩,fun _=>by omega⟩,zD⟩
   ·have HA:Hid (∀j y,j<k+1->ps[j]?=some y->¬y.sum=s):=by
     intro j y hj hy;rcases Nat.lt_or_ge j k with h'|h'
     ·exact zB.o j y h' hy
     ·obtain rfl:j=k:=by omega
      rw[hg.o] at hy;cases hy;exact h
    have hd:decide (x.sum=s)=false:=by simpa using h
    rw[hd];clear h;go_wp2;exact⟨⟨k+1,by omega,by go_num,HA,zD⟩,by simp[intOf];omega⟩
  ·go_wp2
   go_ret;refine⟨_,rfl,⟨fun h=>by omega,fun⟨p,hp,h⟩=> ?_⟩,zA⟩;obtain⟨j,hj,rfl⟩:=List.getElem_of_mem hp;exact absurd h (zB.o j _ (by omega) (Uu hj))
theorem Iy (a:Option Addr) (cap b:Nat) (ps:List Pd) (s:ByteArray) (w:World) (zA:Bo w w.heap.size a ps) (hl:ps.length<=1048576) (hc:w.cell? ⟨b,0,none⟩=some (.string s)):
 Calls prog 170 #[.slice a ps.length cap,.func (.func 171) #[] #[.pointer (some ⟨b,0,none⟩)]] w fun e w'=>∃ok,e=.returned (.bool ok)/\(ok=true↔∃p∈ps,p.sum=s)/\Uq w w':=by
 go_enter func170,ntmps170;go_wp2_with fail;refine(Lf a cap b ps s w zA hl hc).mono ?_;rintro e w1 ⟨r,rfl,hr,zB⟩;have HR:Hid _:=hr;clear hr;by_cases h:0<=r
 ·have hd:decide ((0:Int)<=r)=true:=by simpa using h
  go_wp2;go_ret;exact⟨true,rfl,⟨(fun _=>HR.o.1 h),(fun _=>rfl)⟩,zB⟩
 ·have hd:decide ((0:Int)<=r)=false:=by simpa using h
  go_wp2;go_ret;exact⟨false,rfl,⟨(fun e=>by cases e),(fun e=>absurd (HR.o.2 e) (by omega))⟩,zB⟩
theorem Lg (p:Ld) (s:ByteArray) (b:Nat) (w:World) (hc:w.cell? ⟨b,0,none⟩=some (.string s)):
 Calls prog 173 #[.agg #[.int .i64 p.num,.string p.sum,.int .i64 p.til],.pointer (some ⟨b,0,none⟩)] w fun e w'=>e=.returned (.bool (decide (p.sum=s)))/\Uq w w':=by
 have hb:b<w.heap.size:=World.block_lt_of_cell? w _ hc;have zA:¬w.heap.size=b:=by omega
 have hA:∀o,Uq w (w.alloc o):=fun o=>Ur;by_cases h:p.sum=s
 ·have hq:(p.sum.toList==s.toList)=true:=by rw[h];simp
  have hd:decide (p.sum=s)=true:=by simpa using h
  clear h;go_enter func173,ntmps173;go_wp2;go_ret;exact⟨by rw[hd];rfl,hA _⟩
 ·have hq:(p.sum.toList==s.toList)=false:=Ck h
  have hd:decide (p.sum=s)=false:=by simpa using h
  clear h;go_enter func173,ntmps173;go_wp2;go_ret;exact⟨by rw[hd];rfl,hA _⟩
theorem Jh (a:Option Addr) (cap b:Nat) (ps:List Ld) (s:ByteArray) (w:World) (zC:Bj w w.heap.size a ps) (hl:ps.length<=1048576) (hc:w.cell? ⟨b,0,none⟩=some (.string s)):
 Calls prog 158 #[.slice a ps.length cap,.func (.func 173) #[] #[.pointer (some ⟨b,0,none⟩)]] w fun e w'=>∃r:Int,e=.returned (.int .i64 r)/\(0<=r↔∃p∈ps,p.sum=s)/\Uq w w':=by
 have zG:=World.block_lt_of_cell? w _ hc;go_enter func158,ntmps158;go_wp2
 go_loopw [8] (fun i wr=>∃k:Nat,k<=ps.length/\i=.int .i64 k/\Hid (∀j x,j<k->ps[j]?=some x->¬x.sum=s)/\Uq w wr) (fun i _=>ps.length -(intOf i).toNat)
 case atStart=>exact⟨0,Nat.zero_le _,rfl,(fun j x h=>by omega),Below.refl _ _⟩
 case round=>
  obtain⟨k,hk,rfl,zB,zA⟩:=hrel;have zI:=zA.size;by_cases hlt:k<ps.length
  ·obtain⟨b',off,ha,hb,zE⟩:=(zC.below zA).at hlt
   subst ha;have hg:Hid _:=Uu hlt;obtain⟨c0,c1,c2⟩:=zE k _ hg.o;have zH:=(zA.cell (p:=⟨b,0,none⟩) zG).trans hc;clear zE zC;generalize ps[k]=x at *
   go_wp2_with fail;refine(Lg x s b wr zH).mono ?_;rintro e w1 ⟨rfl,zF⟩;have zD:=zA.trans (zF.mono zI);by_cases h:x.sum=s
   ·have hd:decide (x.sum=s)=true:=by simpa using h
    rw[hd];go_wp2;go_ret;exact⟨_,rfl,⟨fun _=>⟨x,Ux hg.o,h⟩,fun _=>by omega⟩,zD⟩
   ·have HA:Hid (∀j y,j<k+1->ps[j]?=some y->¬y.sum=s):=by
     intro j y hj hy;rcases Nat.lt_or_ge j k with h'|h'
     ·exact zB.o j y h' hy
     ·obtain rfl:j=k:=by omega
      rw[hg.o] at hy;cases hy;exact h
    have hd:decide (x.sum=s)=false:=by simpa using h
    rw[hd];clear h;go_wp2;exact⟨⟨k+1,by omega,by go_num,HA,zD⟩,by simp[intOf];omega⟩
  ·go_wp2
   go_ret;refine⟨_,rfl,⟨fun h=>by omega,fun⟨p,hp,h⟩=> ?_⟩,zA⟩;obtain⟨j,hj,rfl⟩:=List.getElem_of_mem hp;exact absurd h (zB.o j _ (by omega) (Uu hj))
theorem GY (a:Option Addr) (cap b:Nat) (ps:List Ld) (s:ByteArray) (w:World) (zA:Bj w w.heap.size a ps) (hl:ps.length<=1048576) (hc:w.cell? ⟨b,0,none⟩=some (.string s)):
 Calls prog 172 #[.slice a ps.length cap,.func (.func 173) #[] #[.pointer (some ⟨b,0,none⟩)]] w fun e w'=>∃ok,e=.returned (.bool ok)/\(ok=true↔∃p∈ps,p.sum=s)/\Uq w w':=by
 go_enter func172,ntmps172;go_wp2_with fail;refine(Jh a cap b ps s w zA hl hc).mono ?_;rintro e w1 ⟨r,rfl,hr,zB⟩;have HR:Hid _:=hr;clear hr;by_cases h:0<=r
 ·have hd:decide ((0:Int)<=r)=true:=by simpa using h
  go_wp2;go_ret;exact⟨true,rfl,⟨(fun _=>HR.o.1 h),(fun _=>rfl)⟩,zB⟩
 ·have hd:decide ((0:Int)<=r)=false:=by simpa using h
  go_wp2;go_ret;exact⟨false,rfl,⟨(fun e=>by cases e),(fun e=>absurd (HR.o.2 e) (by omega))⟩,zB⟩
theorem MY (base d m:Nat) (O P L:Value) (wd now given births:Int) (ks:List Kd) (ps:List Pd) (ls:List Ld) (s:ByteArray) (w:World) (hd:Dr w base d m O P L wd now given births ks ps ls) (hp:ps.length<=100) (hl:ls.length<=200):
 Calls prog 159 #[.pointer (some ⟨d,0,none⟩),.string s] w fun e w'=>∃ok,e=.returned (.bool ok)/\(ok=true↔(∃p∈ps,p.sum=s)∨∃l∈ls,l.sum=s)/\Uq w w':=by
 have zK:∀(fn:Fn) (first cap:Array Value) (w:World),(Instr.makeFunc fn first cap).run prog w=.ok (.func fn first cap) w:=fun _ _ _ _=>rfl;obtain⟨pa,zJ,rfl⟩:=AK hd.pin;obtain⟨la,zG,rfl⟩:=AK hd.lea;have HD:Hid _:=hd;obtain⟨W,hW⟩:∃W,W=w.alloc (.cells #[.string s] 9):=⟨_,rfl⟩;have hB:=(AC hW).1;have c0:W.cell? ⟨w.heap.size,0,none⟩=some (.string s):=by rw[hW];simp
 have zB:=hd.below hB;obtain⟨c6,c7⟩:=Aa.c2 zB.box 6 7;have zD:Hid _:=zB;have HW:Hid _:=hW;clear hW hd zB;go_enter func159,ntmps159;go_upto_region 1 with fail;rw[←HW.o];clear HW;go_wp2_with fail;refine(Iy pa zJ _ ps s W (Bo.own zD.o.pin) (by omega) c0).mono ?_;rintro e w1 ⟨zH,rfl,h1,zA⟩;have zC:Hid _:=Dr.below zD.o zA;obtain⟨d7,_⟩:=zC.o.box 7 _ rfl
 have c1:=(zA.cell (p:=⟨w.heap.size,0,none⟩) (World.block_lt_of_cell? W _ c0)).trans c0;have H1:Hid _:=h1;clear h1 c6 c7 c0;go_wp2_with fail;refine(GY la zG _ ls s w1 (Bj.own zC.o.lea) (by omega) c1).mono ?_;rintro e w2 ⟨zI,rfl,h2,zF⟩;have H2:Hid _:=h2;have zE:=(hB.trans (zA.mono hB.size)).trans (zF.mono (Uz hB.size zA.size));clear h2 d7 c1;cases zH
 ·go_wp2
  go_ret;exact⟨zI,rfl,⟨(fun e=> .inr (H2.o.1 e)),(fun e=>e.elim (fun e=>by have:=H1.o.2 e;cases this) H2.o.2)⟩,zE⟩
 ·go_wp2
  go_ret;exact⟨true,rfl,⟨(fun _=> .inl (H1.o.1 trivial)),(fun _=>rfl)⟩,zE⟩
end
end Go.Proofs.YtflhhhnlhlaehaaGreatDoor
