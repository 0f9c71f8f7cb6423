import Derived.Test.YtflhhhnlhlaehaaGreatDoorProg
import Derived.WalkKit
import Derived.ProofKit
import Derived.Deep.AppendLies
import Derived.Deep.QuietTactic
import Derived.BigQuiet
import Derived.Deep.Onto
import Derived.Laws.Cover1
import Derived.Shelf.Strings.Builder1
import Derived.Lib.AppendStr
set_option maxRecDepth 100000
set_option maxHeartbeats 16000000
namespace Go.Proofs.YtflhhhnlhlaehaaGreatDoor
open Go.ChangeShapes Go.WideShapes Go.ChangeAt Go.RowKit _root_.Go.Proofs.Tryz
abbrev Uq (w w':World):Prop:=Below w.heap.size w w'
theorem Ur {w:World} {o:Obj}:Below w.heap.size w (w.alloc o):=(Below.refl _ _).alloc (Nat.le_refl _) _
theorem Us {n:Nat}:n<=n:=Nat.le_refl n
theorem Ut {α:Type _} {l:List α} {i:Nat} {a:α} (h:l[i]?=some a):∃h:i<l.length,l[i]=a:=List.getElem?_eq_some_iff.1 h
theorem Uu {α:Type _} {l:List α} {i:Nat} (h:i<l.length):l[i]?=some l[i]:=List.getElem?_eq_getElem h
theorem Uv {α:Type _} {i:Nat} {l:List α} (h:i<l.length):l.take (i+1)=l.take i++[l[i]]:=List.take_succ_eq_append_getElem h
theorem Uw {α:Type _} {i:Nat} {l:List α} (h:l.length<=i):l.take i=l:=List.take_of_length_le h
theorem Ux {α:Type _} {l:List α} {i:Nat} {a:α} (h:l[i]?=some a):a∈l:=List.mem_of_getElem? h
theorem Uy {a b c:Nat} (h:a<b) (k:b<=c):a<c:=Nat.lt_of_lt_of_le h k
theorem Uz {a b c:Nat} (h:a<=b) (k:b<=c):a<=c:=Nat.le_trans h k
theorem _root_.Go.RowKit.Hid.o {p:Prop} (h:Hid p):p:=h
theorem Su {k:IntKind} {a b:Int} (h:a=b):Ending.returned (.int k a)=.returned (.int k b):=by rw[h]
def Ad (w:World) (B:Nat) (a:Option Addr) (ss:List ByteArray):Prop:=
 ss=[]∨∃b off,a=some ⟨b,off,none⟩/\b<B/\∀i s,ss[i]?=some s->w.cell? ⟨b,off+i,none⟩=some (.string s)
theorem Ad.below {w w':World} {B:Nat} {a:Option Addr} {ss:List ByteArray} (h:Ad w B a ss) (hb:Below B w w'):Ad w' B a ss:=by
 rcases h with h|⟨b,off,ha,zA,hc⟩
 ·exact .inl h
 ·exact .inr ⟨b,off,ha,zA,fun i s hs=>(hb.cell (p:=⟨b,off+i,none⟩) zA).trans (hc i s hs)⟩
theorem Ad.mono {w:World} {B B':Nat} {a:Option Addr} {ss:List ByteArray} (h:Ad w B a ss) (hb:B<=B'):Ad w B' a ss:=by
 rcases h with h|⟨b,off,ha,zA,hc⟩
 ·exact .inl h
 ·exact .inr ⟨b,off,ha,by omega,hc⟩
theorem Ad.at {w:World} {B:Nat} {a:Option Addr} {ss:List ByteArray} (h:Ad w B a ss) {k:Nat} (hk:k<ss.length):
 ∃b off,a=some ⟨b,off,none⟩/\b<B/\∀i s,ss[i]?=some s->w.cell? ⟨b,off+i,none⟩=some (.string s):=by
 rcases h with h|h
 ·subst h;simp at hk
 ·exact h
def bulk (ss:List ByteArray):Nat:=(ss.map ByteArray.size).sum
theorem Jz (ss:List ByteArray) (k:Nat) (s:ByteArray) (h:ss[k]?=some s):bulk (ss.take (k+1))=bulk (ss.take k)+s.size:=by
 obtain⟨zA,rfl⟩:=Ut h;unfold bulk;rw[Uv zA,List.map_append,List.sum_append];simp
theorem bulk_le (ss:List ByteArray) (k:Nat):bulk (ss.take k)<=bulk ss:=by
 have h:bulk ss=bulk (ss.take k)+bulk (ss.drop k):=by
  unfold bulk;rw[←List.sum_append,←List.map_append,List.take_append_drop]
 omega
theorem Cv:(prog.info? 9).map (fun i=>(i.zero,i.size,i.bytes))=some (some (.string ⟨#[]⟩),1,16):=by kernel_rfl
theorem Ad.own {w:World} {base:Nat} {g c:Nat} {ss:List ByteArray} (h:w.ownsRow base 9 1 (.slice (some ⟨g,0,none⟩) ss.length c) ss.length (ss.map Value.string)):Ad w w.heap.size (some ⟨g,0,none⟩) ss:=by
 refine .inr ⟨g,0,rfl,(h.lt g rfl).2,fun i s hs=> ?_⟩;obtain⟨zA,rfl⟩:=Ut hs;rw[Nat.zero_add,h.cellAt i (by omega)];simp[zA]
theorem Ad.below' {w w':World} {a:Option Addr} {ss:List ByteArray} (h:Ad w w.heap.size a ss) (hb:Uq w w'):Ad w' w'.heap.size a ss:=(h.below hb).mono hb.size
theorem BN {B:Nat} {a w:World} (h:Below B a w) (n:Nat):Below B a (w.drewN n):=⟨h.os,h.tape,h.output,h.size,h.block⟩
theorem Qi {W w1:World} (hb:Uq W w1):(∀b o,b<W.heap.size->w1.cell? ⟨b,o,none⟩=W.cell? ⟨b,o,none⟩)/\(∀b o,b<W.heap.size->w1.frozen? ⟨b,o,none⟩=W.frozen? ⟨b,o,none⟩):=
 ⟨fun b o h=>hb.cell (p:=⟨b,o,none⟩) h,fun b o h=>hb.frozen (p:=⟨b,o,none⟩) h⟩
def Ev (wd:Int) (ss:List ByteArray) (i:Nat):Bool:=
 match ss[i]? with
 |none=>true
 |some s=>decide ((s.size:Int)=wd)&&(match i with
  |0=>true
  |j+1=>match ss[j]? with
   |none=>true
   |some r=>Op.bytesLess r.toList s.toList)
def Cw (wd:Int) (ss:List ByteArray):Bool:=(List.range ss.length).all (Ev wd ss)
theorem EI {wd:Int} {ss:List ByteArray} {s:ByteArray} (h:ss[0]?=some s):Ev wd ss 0=decide ((s.size:Int)=wd):=by simp[Ev,h]
theorem CI {wd:Int} {ss:List ByteArray} {j:Nat} {s r:ByteArray} (h:ss[j+1]?=some s) (h':ss[j]?=some r):Ev wd ss (j+1)=(decide ((s.size:Int)=wd)&&Op.bytesLess r.toList s.toList):=by simp[Ev,h,h']
theorem DN {wd:Int} {ss:List ByteArray} {k:Nat} (hk:k<ss.length) (h:Ev wd ss k=false):Cw wd ss=false:=by
 unfold Cw;rw[List.all_eq_false];exact⟨k,by simpa using hk,by simp[h]⟩
theorem Ii {wd:Int} {ss:List ByteArray} (h:∀i,i<ss.length->Ev wd ss i=true):Cw wd ss=true:=by
 unfold Cw;rw[List.all_eq_true];intro i hi;exact h i (by simpa using hi)
theorem Fb {p:Nat->Prop} {k:Nat} (h:∀i,i<k->p i) (hk:p k):∀i,i<k+1->p i:=by
 intro i hi;rcases Nat.lt_or_ge i k with h'|h'
 ·exact h i h'
 ·obtain rfl:i=k:=by omega
  exact hk
theorem AH {a b:Bool} (h:a=b):Ending.returned (.bool a)=.returned (.bool b):=by rw[h]
theorem Jb (a:Option Addr) (cap:Nat) (ss:List ByteArray) (wd:Int) (w:World) (B:Nat) (zD:Ad w B a ss) (hl:ss.length<=1048576):
 Calls prog 164 #[.slice a ss.length cap,.int .i64 wd] w fun e w'=>e=.returned (.bool (decide (ss.length<=30)&&Cw wd ss))/\w'=w:=by
 by_cases hn:30<ss.length
 ·go_enter func164,ntmps164
  go_wp2;go_ret;exact⟨AH (by simp;omega),rfl⟩
 ·have zH:Hid (decide (ss.length<=30)=true):=by show _=_;simp;omega
  go_enter func164,ntmps164;go_wp2
  go_loop [12] (fun i=>∃k:Nat,k<=ss.length/\i=.int .i64 k/\Hid (∀i,i<k->Ev wd ss i=true)) (fun i=>ss.length -(intOf i).toNat)
  case atStart=>exact⟨0,Nat.zero_le _,rfl,fun i h=>by omega⟩
  case round=>
   obtain⟨k,hk,rfl,zB⟩:=hrel;by_cases hlt:k<ss.length
   ·obtain⟨b,off,ha,hb,hc⟩:=zD.at hlt
    subst ha;have zC:Hid _:=Uu hlt;have zE:=hc k ss[k] zC
    match k,hk,hlt,zB,zC,zE with
    |0,hk,hlt,zB,zC,zE=>
     rw[Nat.add_zero] at zE;clear hc zD;generalize ss[0]=s at *
     by_cases hsz:(s.size:Int)=wd
     ·have hz:((s.size:Int)==wd)=true:=by simpa using hsz
      have HZ:Hid _:=hsz;clear hsz;go_wp2;exact⟨⟨1,by omega,rfl,Fb zB (by rw[EI zC];simpa using HZ.o)⟩,by simp[intOf];omega⟩
     ·have hz:((s.size:Int)==wd)=false:=by simpa using hsz
      have HZ:Hid _:=hsz;clear hsz;go_wp2;go_ret;exact⟨AH (by rw[DN hlt (by rw[EI zC,decide_eq_false HZ.o])];simp),rfl⟩
    |j+1,hk,hlt,zB,zC,zE=>
     have zF:Hid (ss[j]?=some ss[j]):=Uu (by omega);have zG:=hc j ss[j] zF;clear hc zD;generalize ss[j+1]=s at *
     generalize ss[j]=r at *
     by_cases hsz:(s.size:Int)=wd
     ·have hz:((s.size:Int)==wd)=true:=by simpa using hsz
      have HZ:Hid _:=hsz;clear hsz;by_cases zA:Op.bytesLess r.toList s.toList=true
      ·go_wp2
       exact⟨⟨j+1+1,by omega,by go_num,Fb zB (by rw[CI zC zF];simp[HZ.o,zA])⟩,by simp[intOf];omega⟩
      ·have zA:Op.bytesLess r.toList s.toList=false:=by simpa using zA
       go_wp2;go_ret;exact⟨AH (by rw[DN hlt (by rw[CI zC zF];simp[zA])];simp),rfl⟩
     ·have hz:((s.size:Int)==wd)=false:=by simpa using hsz
      have HZ:Hid _:=hsz;clear hsz;go_wp2;go_ret;exact⟨AH (by rw[DN hlt (by rw[CI zC zF,decide_eq_false HZ.o];rfl)];simp),rfl⟩
   ·go_wp2
    go_ret;exact⟨AH (by rw[Ii (fun i hi=>zB i (by omega)),zH.o];rfl),rfl⟩
def As (t:ByteArray) (ss:List ByteArray) (wd:Int):Bool:=decide (1<=wd/\wd<=8)&&(decide (t.size<=2000)&&(decide (ss.length<=30)&&Cw wd ss))
theorem Ew {t:ByteArray} {ss:List ByteArray} {wd:Int} (h:¬(1<=wd/\wd<=8)):As t ss wd=false:=by
 unfold As;rw[decide_eq_false h];rfl
theorem Hc {t:ByteArray} {ss:List ByteArray} {wd:Int} (h:¬t.size<=2000):As t ss wd=false:=by
 unfold As;rw[decide_eq_false h];simp
theorem LM {t:ByteArray} {ss:List ByteArray} {wd:Int} (h:¬ss.length<=30):As t ss wd=false:=by
 unfold As;rw[decide_eq_false h];simp
theorem Ft {t:ByteArray} {ss:List ByteArray} {wd:Int} (h:Cw wd ss=false):As t ss wd=false:=by
 unfold As;rw[h];simp
theorem LN {t:ByteArray} {ss:List ByteArray} {wd:Int} (h1:1<=wd) (h2:wd<=8) (h3:t.size<=2000) (h4:ss.length<=30) (h5:Cw wd ss=true):As t ss wd=true:=by
 unfold As;rw[h5];simp[h1,h2,h3,h4]
theorem Db (t:ByteArray) (a:Option Addr) (cap:Nat) (ss:List ByteArray) (wd:Int) (w:World) (zA:Ad w w.heap.size a ss) (hl:ss.length<=1048576) (ht:t.size<=maxLen):
 Calls prog 137 #[.agg #[.string t,.slice a ss.length cap],.int .i64 wd] w fun e w'=>e=.returned (.bool (As t ss wd))/\w'=w.alloc (.cells #[.string t,.slice a ss.length cap] 40):=by
 have hb:Below w.heap.size w (w.alloc (.cells #[.string t,.slice a ss.length cap] 40)):=Ur;unfold maxLen at ht;by_cases h1:1<=wd
 ·by_cases h2:wd<=8
  ·by_cases h3:t.size<=2000
   ·go_enter func137,ntmps137
    go_wp2_with (first
     |(go_at_call 164;refine(Jb a cap ss wd _ w.heap.size (zA.below hb) hl).mono ?_;rintro e w' ⟨rfl,rfl⟩)
     |go_in)
    go_ret;exact⟨AH (by simp[As,h1,h2,h3]),rfl⟩
   ·have zC:decide ((t.size:Int)<=2000)=false:=by simp;omega
    go_enter func137,ntmps137;go_wp2;go_ret;exact⟨AH (Hc (by omega)).symm,rfl⟩
  ·have zB:decide (wd<=8)=false:=by simp;omega
   go_enter func137,ntmps137;go_wp2;go_ret;exact⟨AH (Ew (by omega)).symm,rfl⟩
 ·go_enter func137,ntmps137
  go_wp2;go_ret;exact⟨AH (Ew (by omega)).symm,rfl⟩
theorem Gh (t:ByteArray) (a:Option Addr) (cap:Nat) (ss:List ByteArray) (wd:Int) (w:World) (zD:Ad w w.heap.size a ss) (hl:ss.length<=1048576) (ht:t.size<=maxLen):
 Calls prog 27 #[.agg #[.string t,.slice a ss.length cap],.int .i64 wd] w fun e w'=>e=.returned (.bool (As t ss wd))/\Uq w w':=by
 have hb:Below w.heap.size w (w.alloc (.cells #[.string t,.slice a ss.length cap] 40)):=Ur;unfold maxLen at ht;by_cases h1:1<=wd
 ·by_cases h2:wd<=8
  ·by_cases h3:t.size<=2000
   ·have zG:decide (2000<(t.size:Int))=false:=by simp;omega
    by_cases h4:ss.length<=30
    ·have zH:decide (30<(ss.length:Int))=false:=by simp;omega
     go_enter func27,ntmps27;go_wp2
     go_loopw [5] (fun i wr=>∃k n:Nat,k<=ss.length/\i=.int .i64 k/\Hid (∀i,i<k->Ev wd ss i=true)/\wr=(w.alloc (.cells #[.string t,.slice a ss.length cap] 40)).drewN n) (fun i _=>ss.length -(intOf i).toNat)
     case atStart=>exact⟨0,0,Nat.zero_le _,rfl,fun i h=>by omega,rfl⟩
     case round=>
      obtain⟨k,n,hk,rfl,zB,rfl⟩:=hrel;by_cases hlt:k<ss.length
      ·obtain⟨b,off,ha,zK,hc⟩:=zD.at hlt
       subst ha;have zC:Hid (ss[k]?=some ss[k]):=Uu hlt;have zE:=hc k ss[k] zC
       match k,hk,hlt,zB,zC,zE with
       |0,hk,hlt,zB,zC,zE=>
        rw[Nat.add_zero] at zE;clear hc zD;generalize ss[0]=s at *
        by_cases hsz:(s.size:Int)=wd
        ·have hz:((s.size:Int) !=wd)=false:=by simpa using hsz
         have HZ:Hid _:=hsz;clear hsz;go_wp2;go_quiet (fail);go_wp2;exact⟨⟨1,_,by omega,rfl,Fb zB (by rw[EI zC];simpa using HZ.o),rfl⟩,by simp[intOf];omega⟩
        ·have hz:((s.size:Int) !=wd)=true:=by simpa using hsz
         have HZ:Hid _:=hsz;clear hsz;go_wp2;go_quiet (fail);go_wp2;go_ret;exact⟨AH (Ft (DN hlt (by rw[EI zC,decide_eq_false HZ.o]))).symm,BN (BN hb _) _⟩
       |j+1,hk,hlt,zB,zC,zE=>
        have zF:Hid (ss[j]?=some ss[j]):=Uu (by omega);have zI:=hc j ss[j] zF;clear hc zD;generalize ss[j+1]=s at *
        generalize ss[j]=r at *
        by_cases hsz:(s.size:Int)=wd
        ·have hz:((s.size:Int) !=wd)=false:=by simpa using hsz
         have HZ:Hid _:=hsz;clear hsz;by_cases zA:Op.bytesLess r.toList s.toList=true
         ·go_wp2
          go_quiet (fail);go_wp2;exact⟨⟨j+1+1,_,by omega,by go_num,Fb zB (by rw[CI zC zF];simp[HZ.o,zA]),rfl⟩,by simp[intOf];omega⟩
         ·have zA:Op.bytesLess r.toList s.toList=false:=by simpa using zA
          go_wp2;go_quiet (fail);go_wp2;go_ret;exact⟨AH (Ft (DN hlt (by rw[CI zC zF];simp[zA]))).symm,BN (BN hb _) _⟩
        ·have hz:((s.size:Int) !=wd)=true:=by simpa using hsz
         have HZ:Hid _:=hsz;clear hsz;go_wp2;go_quiet (fail);go_wp2;go_ret;exact⟨AH (Ft (DN hlt (by rw[CI zC zF,decide_eq_false HZ.o];rfl))).symm,BN (BN hb _) _⟩
      ·go_wp2
       go_ret;exact⟨AH (LN h1 h2 h3 h4 (Ii (fun i hi=>zB i (by omega)))).symm,BN hb _⟩
    ·have zH:decide (30<(ss.length:Int))=true:=by simp;omega
     go_enter func27,ntmps27;go_wp2;go_ret;exact⟨AH (LM (by omega)).symm,hb⟩
   ·have zG:decide (2000<(t.size:Int))=true:=by simp;omega
    go_enter func27,ntmps27;go_wp2;go_ret;exact⟨AH (Hc (by omega)).symm,hb⟩
  ·have zJ:decide (wd<=8)=false:=by simp;omega
   go_enter func27,ntmps27;go_wp2;go_ret;exact⟨AH (Ew (by omega)).symm,hb⟩
 ·go_enter func27,ntmps27
  go_wp2;go_ret;exact⟨AH (Ew (by omega)).symm,hb⟩
end Go.Proofs.YtflhhhnlhlaehaaGreatDoor
namespace Go.Proofs
open Go.Shelf Go.RowKit
def Tryz.lays169_ren:Go.Shelf.Ren:=⟨fun|169=>102|n=>n,fun|70=>190|9=>9|0=>0|72=>192|37=>22|127=>239|3=>3|5=>5|n=>n,fun|n=>n⟩
theorem Tryz.lays169:Go.Proofs.Lays.n169 Tryz.prog Tryz.lays169_ren:={
 mixed:=by kernel_rfl
 f169:=Tryz.func102.trans (congrArg some (by kernel_rfl))
 t0:=Tryz.underlying0
 a0:=Tryz.isAgg0
 z0:=Tryz.sizeOf0
 v0:=Tryz.zeroValue0
 t3:=Tryz.underlying3
 a3:=Tryz.isAgg3
 z3:=Tryz.sizeOf3
 v3:=Tryz.zeroValue3
 t9:=Tryz.underlying9
 a9:=Tryz.isAgg9
 z9:=Tryz.sizeOf9
 v9:=Tryz.zeroValue9
 t37:=Tryz.underlying22
 a37:=Tryz.isAgg22
 z37:=Tryz.sizeOf22
 v37:=Tryz.zeroValue22
 t70:=Tryz.underlying190
 a70:=Tryz.isAgg190
 z70:=Tryz.sizeOf190
 v70:=Tryz.zeroValue190
 t72:=Tryz.underlying192
 a72:=Tryz.isAgg192
 z72:=Tryz.sizeOf192
 v72:=Tryz.zeroValue192
 t127:=Tryz.underlying239
 a127:=Tryz.isAgg239
 z127:=Tryz.sizeOf239
 v127:=Tryz.zeroValue239}
theorem Tryz.Builder_Extra_169:Builder.Extra Tryz.prog Tryz.lays169_ren:={
 sizeBuilder:=by kernel_rfl
 liesBuilder:=by kernel_rfl
 t5:=Tryz.underlying5
 a5:=Tryz.isAgg5
 z5:=Tryz.sizeOf5
 v5:=Tryz.zeroValue5
 infoByte:=by kernel_rfl
 cellsByte:=by kernel_rfl
 sizeByte:=by kernel_rfl
 neB5:=by decide}
theorem Tryz.Builder_String_any (B b:Nat) (l:List UInt8) (w:World) (h:Lib.IsBuilder 192 5 B b (Lib.byteCells l) w) (zA:B<=w.heap.size):
 Calls Tryz.prog 102 #[.pointer (some ⟨b,0,none⟩)] w fun e w'=>e=.returned (.string ⟨l.toArray⟩)/\Below B w w':=
 Any.Builder_String_any Tryz.lays169 Tryz.Builder_Extra_169 B b l w h zA
namespace YtflhhhnlhlaehaaGreatDoor
open Go.ChangeShapes Go.WideShapes Go.ChangeAt
theorem FY (B b:Nat) (bs:List Value) (w:World) (h:Lib.IsBuilder 192 5 B b bs w):
 Calls Tryz.prog 139 #[.pointer (some ⟨b,0,none⟩)] w fun e w'=>e=.returned (.tuple #[])/\Lib.BuilderAt 192 5 B b (.pointer (some ⟨b,0,none⟩)) bs w'/\Below B w w':=by
 have X:=Tryz.Builder_Extra_169;obtain⟨j,hj,zB⟩:=Option.map_eq_some_iff.1 X.sizeBuilder;rcases h with h|h
 ·have h0:=h.cell0
  have zA:=h.shape;have zC:=h.frozen0;go_enter Tryz.func139,Tryz.ntmps139;go_wp2;rw[Lib.run_to_unsafe w ⟨b,0,none⟩ Tryz.underlying190 Tryz.underlying167 hj (by rw[zB];decide) zA (Nat.zero_lt_succ 1)];simp only[Result.andThen];rw[Oper.upon_value];go_wp2;rw[run_callFunc_extern Tryz.func165 (by kernel_rfl) (by kernel_rfl) (by kernel_rfl) (e:=Extern.AbiNoEscape.same) (by kernel_rfl)]
  rw[Lib.run_noEscape];simp only[Result.andThen];rw[Oper.upon_value];go_wp2;rw[Lib.run_from_unsafe w ⟨b,0,none⟩ Tryz.underlying167 Tryz.underlying190 hj zA X.liesBuilder];simp only[Result.andThen];rw[Oper.upon_value];go_wp2
  go_end0
  exact⟨rfl,h.used _,(Below.refl B w).setCell (p:=⟨b,0,none⟩) h.1 _⟩
 ·have h0:=h.cell0
  go_enter Tryz.func139,Tryz.ntmps139;go_wp2;rw[Lib.run_neq_ptr_same w _ Tryz.underlying190 hj];go_wp2
  go_end0
  exact⟨rfl,h,Below.refl B _⟩
theorem DE (B b:Nat) (bs:List Value) (c:Int) (w:World) (h:Lib.IsBuilder 192 5 B b bs w) (zG:bs.length+1<=140737488355328) (zN:B<=w.heap.size):
 Calls Tryz.prog 100 #[.pointer (some ⟨b,0,none⟩),.int .u8 c] w fun e w'=>e=.returned .nilIface/\Lib.IsBuilder 192 5 B b (bs++[.int .u8 c]) w'/\Below B w w':=by
 have X:=Tryz.Builder_Extra_169;obtain⟨i0,hi,zJ,zK,zL⟩:=info_parts X.infoByte;go_enter Tryz.func100,Tryz.ntmps100;go_wp2_with (go_at_call 139;refine(FY B b bs _ h).mono ?_);rintro e w1 ⟨rfl,h1,zD⟩;obtain⟨hB,v,zF,zC,zI⟩:=h1;have c1:w1.cell? ⟨b,1,none⟩=some v:=by rw[Lib.cell_of_heap zF];rfl
 go_wp2_with (at_builtin;refine wpList_append_own _ rfl _ _ 22 rfl B 5 i0 (.int .u8 0) 1 1 Tryz.underlying22 hi zJ zK zL rfl (by decide) _ _ _ rfl (zC.alloc _) ⟨w1.heap.size,0,none⟩ 1 1 [.int .u8 c] rfl rfl ?c1 ?c2 ?c3 ?c4 ?c5 ?_)
 case c1=>
  intro j u hj
  match j,hj with
  |0,hj=>simp at hj;subst hj;simp[Addr.add]
 case c2=>intro u hu;simp at hu;subst hu;rfl
 case c3=>unfold maxLen;omega
 case c4=>omega
 case c5=>have:=zD.size;simp;omega
 intro v' w2 zB zA _;have zH:b<w1.heap.size:=by
  rcases Nat.lt_or_ge b w1.heap.size with h'|h'
  ·exact h'
  ·simp[Array.getElem?_eq_none h'] at zF
 have zE:w2.heap[b]?=some (.cells #[.pointer (some ⟨b,0,none⟩),v] 192 (0,0)):=by
  rw[zA.block b (by simp;omega) (fun e=>zI e.symm),Lib.alloc_old _ _ _ zH];exact zF
 have d1:w2.cell? ⟨b,1,none⟩=some v:=by rw[Lib.cell_of_heap zE];rfl
 have f1:=Lib.frozen_of_heap zE 1;obtain⟨ao,n',cap,rfl⟩:∃ao n' cap,v'=.slice ao n' cap:=by
  rcases zB.2 with⟨hv,_⟩|⟨g,cap,zM,hv,_⟩
  ·exact⟨_,_,_,hv⟩
  ·exact⟨_,_,_,hv⟩
 go_wp2;go_ret;refine⟨rfl,.inr ?_,?_⟩
 ·exact Lib.BuilderAt.put (T:=192) (e:=5) hB zE (bs':=bs++[.int .u8 c]) (by simpa using zB) X.neB5
 ·exact((zD.alloc (by have:=zD.size;omega) _).grown zA (by have:=zD.size;simp;omega) (fun k hk=>(zC.lt k hk).1)).setCell (p:=⟨b,1,none⟩) hB _
theorem Cp (B b:Nat) (bs:List Value) (s:ByteArray) (w:World) (h:Lib.IsBuilder 192 5 B b bs w) (zH:bs.length+s.size<=140737488355328) (zO:B<=w.heap.size):
 Calls Tryz.prog 101 #[.pointer (some ⟨b,0,none⟩),.string s] w fun e w'=>e=.returned (.tuple #[.int .i64 s.size,.nilIface])/\Lib.IsBuilder 192 5 B b (bs++Lib.byteCells s.data.toList) w'/\Below B w w':=by
 have X:=Tryz.Builder_Extra_169;obtain⟨i0,hi,zK,zL,zM⟩:=info_parts X.infoByte;go_enter Tryz.func101,Tryz.ntmps101;go_wp2_with (go_at_call 139;refine(FY B b bs _ h).mono ?_);rintro e w1 ⟨rfl,h1,zD⟩;obtain⟨hB,v,zF,zC,zJ⟩:=h1;have c1:w1.cell? ⟨b,1,none⟩=some v:=by rw[Lib.cell_of_heap zF];rfl
 go_wp2_with (at_builtin;refine Lib.wpList_append_own_string _ rfl _ _ 22 9 rfl B 5 i0 Tryz.underlying22 Tryz.underlying9 hi zK zL zM _ _ _ rfl zC s rfl ?c3 ?c4 ?c5 ?_)
 case c3=>unfold maxLen;omega
 case c4=>omega
 case c5=>have:=zD.size;omega
 intro v' w2 zB zA _;have zI:b<w1.heap.size:=by
  rcases Nat.lt_or_ge b w1.heap.size with h'|h'
  ·exact h'
  ·simp[Array.getElem?_eq_none h'] at zF
 have zE:w2.heap[b]?=some (.cells #[.pointer (some ⟨b,0,none⟩),v] 192 (0,0)):=by
  rw[zA.block b zI (fun e=>zJ e.symm)];exact zF
 have d1:w2.cell? ⟨b,1,none⟩=some v:=by rw[Lib.cell_of_heap zE];rfl
 have f1:=Lib.frozen_of_heap zE 1;obtain⟨ao,n',cap,rfl⟩:∃ao n' cap,v'=.slice ao n' cap:=by
  rcases zB.2 with⟨hv,_⟩|⟨g,cap,zN,hv,_⟩
  ·exact⟨_,_,_,hv⟩
  ·exact⟨_,_,_,hv⟩
 go_wp2
 go_ret2
 refine⟨rfl,.inr ?_,?_⟩
 ·have zG:Lib.strCells s=Lib.byteCells s.data.toList:=rfl
  rw[←zG];exact Lib.BuilderAt.put (T:=192) (e:=5) hB zE (bs':=bs++Lib.strCells s) (by simpa [Lib.strCells_length] using zB) X.neB5
 ·exact(zD.grown zA (by have:=zD.size;omega) (fun k hk=>(zC.lt k hk).1)).setCell (p:=⟨b,1,none⟩) hB _
end YtflhhhnlhlaehaaGreatDoor
end Go.Proofs
namespace Go.Proofs.YtflhhhnlhlaehaaGreatDoor
open Go.ChangeShapes Go.WideShapes Go.ChangeAt Go.RowKit _root_.Go.Proofs.Tryz
def flat (ss:List ByteArray):List UInt8:=ss.flatMap (fun s=>s.data.toList)
theorem NF (ss:List ByteArray) (k:Nat) (s:ByteArray) (h:ss[k]?=some s):flat (ss.take (k+1))=flat (ss.take k)++s.data.toList:=by
 obtain⟨zA,rfl⟩:=Ut h;unfold flat;rw[Uv zA,List.flatMap_append];simp
theorem Cc (ss:List ByteArray):(flat ss).length=bulk ss:=by
 induction ss with
 |nil=>rfl
 |cons s r ih=>
  unfold flat bulk at *
  rw[List.flatMap_cons,List.length_append,ih];simp
def AS (t:ByteArray) (ss:List ByteArray):List UInt8:=UInt8.ofNat ss.length::(flat ss++t.data.toList)
theorem NG {wd:Int} {ss:List ByteArray} (h:Cw wd ss=true) {i:Nat} {s:ByteArray} (hs:ss[i]?=some s):(s.size:Int)=wd:=by
 unfold Cw at h;rw[List.all_eq_true] at h;have zA:=(Ut hs).1;have:=h i (by simpa using zA);unfold Ev at this;rw[hs] at this;simp at this;exact this.1
theorem ML (ss:List ByteArray) (n:Nat) (h:∀s∈ss,s.size=n):bulk ss=ss.length *n:=by
 induction ss with
 |nil=>simp[bulk]
 |cons s r ih=>
  have h1:=h s (by simp);have h2:=ih (fun s hs=>h s (by simp[hs]));unfold bulk at *
  rw[List.map_cons,List.sum_cons,h2,h1,List.length_cons,Nat.add_mul,Nat.one_mul,Nat.add_comm]
structure Ei (t:ByteArray) (ss:List ByteArray) (wd:Int):Prop where
 lo:1<=wd
 hi:wd<=8
 text:t.size<=2000
 refs:ss.length<=30
 all:Cw wd ss=true
theorem AY {t:ByteArray} {ss:List ByteArray} {wd:Int} (h:As t ss wd=true):Ei t ss wd:=by
 unfold As at h;simp at h;exact⟨h.1.1,h.1.2,h.2.1,h.2.2.1,h.2.2.2⟩
theorem Ei.size {t:ByteArray} {ss:List ByteArray} {wd:Int} (h:Ei t ss wd) {i:Nat} {s:ByteArray} (hs:ss[i]?=some s):(s.size:Int)=wd:=NG h.all hs
theorem Ei.bulk {t:ByteArray} {ss:List ByteArray} {wd:Int} (h:Ei t ss wd):bulk ss=ss.length *wd.toNat:=by
 refine ML ss _ fun s hs=> ?_;obtain⟨i,hi⟩:=List.getElem?_of_mem hs;have:=h.size hi;omega
theorem Ei.bulk_le {t:ByteArray} {ss:List ByteArray} {wd:Int} (h:Ei t ss wd):YtflhhhnlhlaehaaGreatDoor.bulk ss<=240:=by
 have h1:=h.bulk;have h2:ss.length *wd.toNat<=30 *8:=Nat.mul_le_mul h.refs (by have:=h.hi;omega);omega
theorem JA:(prog.info? 5).map (fun i=>(i.zero,i.size,i.bytes))=some (some (.int .u8 0),1,1):=by kernel_rfl
theorem Gi (n:Nat) (h:n<=30):Value.int .u8 (n:Int)=.int .u8 ((UInt8.ofNat n).toNat:Int):=by
 have:(UInt8.ofNat n).toNat=n:=by simp;omega
 rw[this]
theorem JB (ss:List ByteArray) (k:Nat) (s:ByteArray) (h:ss[k]?=some s) (c:UInt8):
 Lib.byteCells (c::flat (ss.take k))++Lib.strCells s=Lib.byteCells (c::flat (ss.take (k+1))):=by
 rw[NF ss k s h,Lib.strCells_eq,←Lib.byteCells_append];rfl
theorem NH (t:ByteArray) (a:Option Addr) (cap:Nat) (ss:List ByteArray) (wd:Int) (w:World) (zG:Ad w w.heap.size a ss) (zT:As t ss wd=true):
 Calls prog 8 #[.agg #[.string t,.slice a ss.length cap],.int .i64 wd] w fun e w'=>e=.returned (.string ⟨(AS t ss).toArray⟩)/\Uq w w':=by
 have hp:=AY zT;have yH:=hp.bulk_le;have zR:=hp.refs;have zQ:=hp.text;have yJ:Hid _:=Gi ss.length zR;obtain⟨i0,hi,zU,zV,zW⟩:=info_parts JA;have zS:Below w.heap.size w (w.alloc (.cells #[.string t,.slice a ss.length cap] 40)):=Ur;go_enter func8,ntmps8;go_wp2_with fail;refine(Gh t a cap ss wd _ (zG.below' zS) (by omega) (by unfold maxLen;omega)).mono ?_;rintro e w1 ⟨rfl,zJ⟩;rw[zT]
 obtain⟨zZ,yC⟩:=Qi zJ;have hz:=zJ.size;simp at hz;go_wp2;have zF:(w1.alloc (.cells #[.int .u8 ss.length] 5)).ownsRow (w.heap.size+1) 5 1 (.slice (some ⟨w1.heap.size,0,none⟩) 1 1) 1 (Lib.byteCells (UInt8.ofNat ss.length::flat (ss.take 0))):=by
  have:=World.ownsRow_lit (base:=w.heap.size+1) (e:=5) (size:=1) w1 #[.int .u8 ss.length] 1 hz (by simp[maxLen]) rfl;simpa [Lib.byteCells,flat,Gi ss.length zR] using this
 have zE:Below (w.heap.size+1) (w.alloc (.cells #[.string t,.slice a ss.length cap] 40)) (w1.alloc (.cells #[.int .u8 ss.length] 5)):=by
  have:=zJ.alloc (by simpa using hz) (.cells #[.int .u8 ss.length] 5);simpa using this
 go_loopw [5,6] (fun out i wr=>∃(k g c:Nat),k<=ss.length/\i=.int .i64 k/\out=.slice (some ⟨g,0,none⟩) (1+bulk (ss.take k)) c/\
  wr.ownsRow (w.heap.size+1) 5 1 (.slice (some ⟨g,0,none⟩) (1+bulk (ss.take k)) c) (1+bulk (ss.take k)) (Lib.byteCells (UInt8.ofNat ss.length::flat (ss.take k)))/\
  Below (w.heap.size+1) (w.alloc (.cells #[.string t,.slice a ss.length cap] 40)) wr) (fun _ i _=>ss.length -(intOf i).toNat)
 case atStart=>exact⟨0,w1.heap.size,1,Nat.zero_le _,rfl,by simp[bulk],by simpa [bulk] using zF,zE⟩
 case round=>
  clear zF zE zZ yC zJ;obtain⟨k,g,c,hk,rfl,rfl,zD,zB⟩:=hrel;have zH:wr.cell? ⟨w.heap.size,1,none⟩=some (.slice a ss.length cap):=by
   rw[zB.cell (p:=⟨w.heap.size,1,none⟩) (by simp)];simp
  have yG:=zB.size;simp at yG;have zX:=bulk_le ss k;by_cases hlt:k<ss.length
  ·obtain⟨b,off,ha,zY,hc⟩:=zG.at hlt
   subst ha;have zM:Hid (ss[k]?=some ss[k]):=Uu hlt;have yA:wr.cell? ⟨b,off+k,none⟩=some (.string ss[k]):=by
    rw[zB.cell (p:=⟨b,off+k,none⟩) (by simp;omega),World.cell?_alloc_past _ _ _ zY];exact hc k _ zM
   have zL:Hid _:=Jz ss k _ zM;have yD:Hid _:=JB ss k _ zM (UInt8.ofNat ss.length);have zN:=bulk_le ss (k+1);rw[zL.o] at zN;clear hc zG;generalize ss[k]=s at *
   go_wp2_with (at_builtin;refine Lib.wpList_append_own_string _ rfl _ _ 22 9 rfl (w.heap.size+1) 5 i0 underlying22 underlying9 hi zU zV zW _ _ _ rfl zD s rfl ?c3 ?c4 ?c5 ?_)
   case c3=>unfold maxLen;omega
   case c4=>omega
   case c5=>omega
   intro v' w2 zA zC _;obtain⟨g',c',zP,yE,yF⟩:=zA.form (by omega);subst zP;have zK:=zB.grown zC (by omega) (fun k hk=>(zD.lt k hk).1);rw[yD.o] at zA;clear zD zB zC zH yA;go_wp2;refine⟨⟨k+1,g',c',by omega,by go_num,?_,?_,zK⟩,by simp[intOf];omega⟩
   ·rw[zL.o,Nat.add_assoc]
   ·rw[zL.o,←Nat.add_assoc];exact zA
  ·have zI:wr.cell? ⟨w.heap.size,0,none⟩=some (.string t):=by
    rw[zB.cell (p:=⟨w.heap.size,0,none⟩) (by simp)];simp
   rw[Uw (by omega)] at zD ⊢;go_wp2_with (at_builtin;refine Lib.wpList_append_own_string _ rfl _ _ 22 9 rfl (w.heap.size+1) 5 i0 underlying22 underlying9 hi zU zV zW _ _ _ rfl zD t rfl ?c3 ?c4 ?c5 ?_)
   case c3=>unfold maxLen;omega
   case c4=>omega
   case c5=>omega
   intro v' w2 zA zC _;obtain⟨g',c',zP,yE,yF⟩:=zA.form (by omega);subst zP;have zK:=zB.grown zC (by omega) (fun k hk=>(zD.lt k hk).1);have yB:Lib.byteCells (UInt8.ofNat ss.length::flat ss)++Lib.strCells t=Lib.byteCells (AS t ss):=by
    rw[Lib.strCells_eq,←Lib.byteCells_append];rfl
   rw[yB] at zA;have zO:1+bulk ss+t.size=(AS t ss).length:=by
    have:=Cc ss;simp[AS,this];omega
   rw[zO] at zA ⊢;have yI:=run_convert_bytes_back (P:=prog) w2 22 9 5 ⟨g',0,none⟩ c' (AS t ss) underlying22 underlying5 underlying9 (fun j hj=>zA.cells rfl j _ (by simp[Lib.byteCells,hj]));clear zD zB zC zH zI zA;go_wp2;go_ret;refine⟨rfl,?_⟩;exact zS.trans (zK.mono (by omega))
theorem OV (t:ByteArray) (a:Option Addr) (cap:Nat) (ss:List ByteArray) (wd:Int) (w:World) (zA:Ad w w.heap.size a ss) (zD:As t ss wd=false) (hl:ss.length<=1048576) (ht:t.size<=maxLen):
 Calls prog 8 #[.agg #[.string t,.slice a ss.length cap],.int .i64 wd] w fun e w'=>e=.returned (.string ByteArray.empty)/\Uq w w':=by
 have zB:Below w.heap.size w (w.alloc (.cells #[.string t,.slice a ss.length cap] 40)):=Ur;go_enter func8,ntmps8;go_wp2_with fail;refine(Gh t a cap ss wd _ (zA.below' zB) hl ht).mono ?_;rintro e w1 ⟨rfl,zC⟩;rw[zD];go_wp2;go_ret;exact⟨rfl,zB.trans (zC.mono (by simp))⟩
theorem OW (t:ByteArray) (a:Option Addr) (cap:Nat) (ss:List ByteArray) (wd:Int) (w:World) (zA:Ad w w.heap.size a ss) (zC:As t ss wd=false) (hl:ss.length<=1048576) (ht:t.size<=maxLen):
 Calls prog 98 #[.agg #[.string t,.slice a ss.length cap],.int .i64 wd] w fun e w'=>e=.returned (.string ByteArray.empty)/\Uq w w':=by
 have zB:Below w.heap.size w (w.alloc (.cells #[.string t,.slice a ss.length cap] 40)):=Ur;go_enter func98,ntmps98;go_wp2_with fail;refine(Db t a cap ss wd _ (zA.below' zB) hl ht).mono ?_;rintro e w1 ⟨rfl,rfl⟩;rw[zC];go_wp2;go_ret;exact⟨rfl,zB.alloc (by simp) _⟩
theorem JC (t:ByteArray) (a:Option Addr) (cap:Nat) (ss:List ByteArray) (wd:Int) (w:World) (zF:Ad w w.heap.size a ss) (zY:As t ss wd=true):
 Calls prog 98 #[.agg #[.string t,.slice a ss.length cap],.int .i64 wd] w fun e w'=>e=.returned (.string ⟨(AS t ss).toArray⟩)/\Uq w w':=by
 have hp:=AY zY;have yI:=hp.bulk_le;have yA:=hp.refs;have zQ:=hp.text;have zT:Below w.heap.size w (w.alloc (.cells #[.string t,.slice a ss.length cap] 40)):=Ur;obtain⟨W,hW⟩:∃W,W=(w.alloc (.cells #[.string t,.slice a ss.length cap] 40)).alloc (.cells #[.string t,.slice a ss.length cap] 40):=⟨_,rfl⟩;have zR:Below w.heap.size w W:=by rw[hW];exact zT.alloc (by simp) _
 have zS:W.heap.size=w.heap.size+1+1:=by rw[hW];simp
 have yB:W.cell? ⟨w.heap.size,0,none⟩=some (.string t):=by rw[hW];simp
 have yC:W.cell? ⟨w.heap.size,1,none⟩=some (.slice a ss.length cap):=by rw[hW];simp
 have zD:=zF.below zR;have HW:Hid _:=hW;go_enter func98,ntmps98;go_wp2_with fail;refine(Db t a cap ss wd _ (zF.below' zT) (by omega) (by unfold maxLen;omega)).mono ?_;rintro e w1 ⟨rfl,zZ⟩;rw[←HW.o] at zZ;subst zZ;clear hW;rw[zY];have zC:=Lib.fresh_isBuilder 192 5 w1;have zK:Below w1.heap.size w1 (w1.alloc (.cells #[.pointer none,.slice none 0 0] 192)):=Ur;rw[zS] at zC zK;go_wp2_with fail
 refine(DE (w.heap.size+1+1) (w.heap.size+1+1) [] _ _ zC (by simp) (by simp[zS])).mono ?_;rintro e w2 ⟨rfl,zE,zU⟩;have zI:=zK.trans zU;have zN:w2.cell? ⟨w.heap.size,1,none⟩=some (.slice a ss.length cap):=(zI.cell (p:=⟨w.heap.size,1,none⟩) (by simp;omega)).trans yC;have zX:[]++[Value.int .u8 (ss.length:Int)]=Lib.byteCells (UInt8.ofNat ss.length::flat (ss.take 0)):=by
  simp[Lib.byteCells,flat,Gi ss.length yA]
 rw[zX] at zE;clear zC zK zU zX;go_wp2
 go_loopw [20] (fun i wr=>∃(k:Nat),k<=ss.length/\i=.int .i64 k/\Lib.IsBuilder 192 5 (w.heap.size+1+1) (w.heap.size+1+1) (Lib.byteCells (UInt8.ofNat ss.length::flat (ss.take k))) wr/\
  Below (w.heap.size+1+1) w1 wr) (fun i _=>ss.length -(intOf i).toNat)
 case atStart=>exact⟨0,Nat.zero_le _,rfl,zE,zI⟩
 case round=>
  clear zE zI zN;obtain⟨k,hk,rfl,zC,zA⟩:=hrel;have yJ:=zA.size;have zL:=bulk_le ss k;have zW:=Cc (ss.take k);have zJ:Hid ((Lib.byteCells (UInt8.ofNat ss.length::flat (ss.take k))).length=1+bulk (ss.take k)):=by
   show _=_;rw[Lib.byteCells_length,List.length_cons,zW];omega
  clear zW;by_cases hlt:k<ss.length
  ·obtain⟨b,off,ha,zI,hc⟩:=zD.at hlt
   subst ha;have zO:Hid (ss[k]?=some ss[k]):=Uu hlt;have yF:wr.cell? ⟨b,off+k,none⟩=some (.string ss[k]):=by
    rw[zA.cell (p:=⟨b,off+k,none⟩) (by simp;omega)];exact hc k _ zO
   have yE:Hid _:=Jz ss k _ zO;have yG:Hid _:=JB ss k _ zO (UInt8.ofNat ss.length);have zP:=bulk_le ss (k+1);rw[yE.o] at zP;clear hc zF zD;generalize ss[k]=s at *
   go_wp2_with fail;refine(Cp (w.heap.size+1+1) (w.heap.size+1+1) _ s _ zC (by rw[zJ.o];omega) (by omega)).mono ?_;rintro e w3 ⟨rfl,zB,zG⟩;rw[←Lib.strCells_eq,yG.o] at zB;have zH:=zA.trans zG;clear zC zA zG yF;go_wp2;exact⟨⟨k+1,by omega,by go_num,zB,zH⟩,by simp[intOf];omega⟩
  ·have zM:wr.cell? ⟨w.heap.size,0,none⟩=some (.string t):=(zA.cell (p:=⟨w.heap.size,0,none⟩) (by simp;omega)).trans yB
   rw[Uw (by omega)] at zC zJ zL;go_wp2_with fail;refine(Cp (w.heap.size+1+1) (w.heap.size+1+1) _ t _ zC (by rw[zJ.o];omega) (by omega)).mono ?_;rintro e w3 ⟨rfl,zB,zG⟩;have zV:Lib.byteCells (UInt8.ofNat ss.length::flat ss)++Lib.byteCells t.data.toList=Lib.byteCells (AS t ss):=by
    rw[←Lib.byteCells_append];rfl
   rw[zV] at zB;have zH:=zA.trans zG;have yH:=zH.size;clear zC zA zG zV zJ zM;go_wp2_with fail;refine(Tryz.Builder_String_any (w.heap.size+1+1) (w.heap.size+1+1) _ _ zB (by omega)).mono ?_;rintro e w4 ⟨rfl,yD⟩;go_wp2;go_ret;exact⟨rfl,zR.trans ((zH.trans yD).mono (by omega))⟩
def Am (t:ByteArray) (ss:List ByteArray) (wd:Int):ByteArray:=if As t ss wd=true then ⟨(AS t ss).toArray⟩ else ByteArray.empty
theorem JD (t:ByteArray) (a:Option Addr) (cap:Nat) (ss:List ByteArray) (wd:Int) (w:World) (zA:Ad w w.heap.size a ss) (hl:ss.length<=1048576) (ht:t.size<=maxLen):
 Calls prog 8 #[.agg #[.string t,.slice a ss.length cap],.int .i64 wd] w fun e w'=>e=.returned (.string (Am t ss wd))/\Uq w w':=by
 cases hok:As t ss wd with
 |true=>rw[show Am t ss wd=⟨(AS t ss).toArray⟩ from by unfold Am;rw[if_pos hok]];exact NH t a cap ss wd w zA hok
 |false=>rw[show Am t ss wd=ByteArray.empty from by unfold Am;rw[if_neg (by rw[hok];decide)]];exact OV t a cap ss wd w zA hok hl ht
theorem Gj (t:ByteArray) (a:Option Addr) (cap:Nat) (ss:List ByteArray) (wd:Int) (w:World) (zA:Ad w w.heap.size a ss) (hl:ss.length<=1048576) (ht:t.size<=maxLen):
 Calls prog 98 #[.agg #[.string t,.slice a ss.length cap],.int .i64 wd] w fun e w'=>e=.returned (.string (Am t ss wd))/\Uq w w':=by
 cases hok:As t ss wd with
 |true=>rw[show Am t ss wd=⟨(AS t ss).toArray⟩ from by unfold Am;rw[if_pos hok]];exact JC t a cap ss wd w zA hok
 |false=>rw[show Am t ss wd=ByteArray.empty from by unfold Am;rw[if_neg (by rw[hok];decide)]];exact OW t a cap ss wd w zA hok hl ht
def KK (b:UInt8):Bool:=decide ((33:Int)<=(b.toNat:Int)/\(b.toNat:Int)<=126)
def nameBytes (s:ByteArray):Bool:=s.data.toList.all KK
def DR (s:ByteArray):Bool:=decide (1<=s.size/\s.size<=40)&&nameBytes s
theorem Gk {s:ByteArray} {k:Nat} (hk:k<s.size) (h:¬((33:Int)<=(s[k].toNat:Int)/\(s[k].toNat:Int)<=126)):nameBytes s=false:=by
 unfold nameBytes;rw[List.all_eq_false];refine⟨s[k],?_,by unfold KK;simpa using h⟩;exact List.mem_of_getElem (l:=s.data.toList) (i:=k) (h:=by simpa using hk) rfl
theorem Kg {s:ByteArray} (h:∀k (hk:k<s.size),(33:Int)<=(s[k].toNat:Int)/\(s[k].toNat:Int)<=126):nameBytes s=true:=by
 unfold nameBytes;rw[List.all_eq_true];intro b hb;obtain⟨k,hk,rfl⟩:=List.getElem_of_mem hb;exact decide_eq_true (h k (by simpa using hk))
def OY (s:ByteArray) (k:Nat):Prop:=∀i (hi:i<s.size),i<k->(33:Int)<=(s[i].toNat:Int)/\(s[i].toNat:Int)<=126
theorem NI {s:ByteArray} {k:Nat} (h:OY s k) (hk:k<s.size) (h1:(33:Int)<=(s[k].toNat:Int)) (h2:(s[k].toNat:Int)<=126):OY s (k+1):=by
 intro i hi zA;rcases Nat.lt_or_ge i k with h'|h'
 ·exact h i hi h'
 ·obtain rfl:i=k:=by omega
  exact⟨h1,h2⟩
theorem NJ (s:ByteArray) (w:World) (hs:s.size<=maxLen):
 Calls prog 136 #[.string s] w fun e w'=>e=.returned (.bool (DR s))/\w'=w:=by
 unfold maxLen at hs;by_cases h1:1<=s.size
 ·by_cases h2:s.size<=40
  ·have zB:decide ((s.size:Int)<1)=false:=by simp;omega
   have zF:decide ((40:Int)<(s.size:Int))=false:=by simp;omega
   have zG:Hid (decide (1<=s.size/\s.size<=40)=true):=by show _=_;simp;omega
   go_enter func136,ntmps136;go_wp2
   go_loop [14] (fun i=>∃k:Nat,k<=s.size/\i=.int .i64 k/\Hid (OY s k)) (fun i=>s.size -(intOf i).toNat)
   case atStart=>exact⟨0,Nat.zero_le _,rfl,fun i _ h=>by omega⟩
   case round=>
    obtain⟨k,hk,rfl,zC⟩:=hrel;by_cases hlt:k<s.size
    ·by_cases b1:(s[k].toNat:Int)<33
     ·have zD:decide ((s[k].toNat:Int)<33)=true:=by simpa using b1
      go_wp2;go_ret;exact⟨AH (by unfold DR;rw[Gk hlt (by omega)];simp),rfl⟩
     ·have zD:decide ((s[k].toNat:Int)<33)=false:=by simpa using b1
      by_cases b2:(126:Int)<(s[k].toNat:Int)
      ·have zE:decide ((126:Int)<(s[k].toNat:Int))=true:=by simpa using b2
       go_wp2;go_ret;exact⟨AH (by unfold DR;rw[Gk hlt (by omega)];simp),rfl⟩
      ·have zE:decide ((126:Int)<(s[k].toNat:Int))=false:=by simpa using b2
       have HU:Hid _:=NI zC hlt (by omega) (by omega);go_wp2;exact⟨⟨k+1,by omega,by go_num,HU⟩,by simp[intOf];omega⟩
    ·have zA:=Kg (s:=s) (fun i hi=>zC i hi (by omega))
     go_wp2;go_ret;exact⟨AH (by unfold DR;rw[zA,zG.o];rfl),rfl⟩
  ·have zB:decide ((s.size:Int)<1)=false:=by simp;omega
   have zF:decide ((40:Int)<(s.size:Int))=true:=by simp;omega
   go_enter func136,ntmps136;go_wp2;go_ret;exact⟨AH (by unfold DR;rw[decide_eq_false (by omega)];rfl),rfl⟩
 ·have zB:decide ((s.size:Int)<1)=true:=by simp;omega
  go_enter func136,ntmps136;go_wp2;go_ret;exact⟨AH (by unfold DR;rw[decide_eq_false (by omega)];rfl),rfl⟩
def CY (k:Nat):Bool:=k==2||k==4||k==7
def CJ (k:Nat):Bool:=k==2||k==3
def BO (k:Nat):Bool:=k==1
def Cq (k:Nat):Int:=if k=1∨k=4∨k=6 then 100000 else if k=5 then 1000000000 else 0
def Fc (u:Bool) (s:ByteArray) (wd:Int):Bool:=if u then decide ((s.size:Int)=wd) else decide (s.size=0)
def MM (u:Bool) (s:ByteArray):Bool:=if u then DR s else decide (s.size=0)
def Fe (m n:Int):Bool:=if m=0 then decide (n=0) else decide (1<=n/\n<=m)
def Hq (u:Bool) (t:ByteArray) (ss:List ByteArray) (wd:Int):Bool:=if u then As t ss wd else decide (t.size=0/\ss.length=0)
theorem NK {s:ByteArray}:s.toList.isEmpty=decide (s.size=0):=by
 have:s.toList.length=s.size:=by rw[ByteArray.toList_eq];simp
 rw[←this];cases s.toList<;>simp
theorem LO (s:ByteArray) (a b c:Bool) (m wd:Int) (w:World):
 Calls prog 94 #[.string s,.agg #[.bool a,.bool b,.bool c,.int .i64 m],.int .i64 wd] w fun e w'=>e=.returned (.bool (Fc b s wd))/\Uq w w':=by
 cases b with
 |true=>
  go_enter func94,ntmps94;go_wp2;go_ret;exact⟨AH rfl,Ur⟩
 |false=>
  have he:=NK (s:=s);have HE:Hid _:=he;clear he;go_enter func94,ntmps94;go_wp2;go_ret;exact⟨AH HE.o,Ur⟩
theorem KL (s:ByteArray) (a b c:Bool) (m:Int) (w:World) (hs:s.size<=maxLen):
 Calls prog 95 #[.string s,.agg #[.bool a,.bool b,.bool c,.int .i64 m]] w fun e w'=>e=.returned (.bool (MM a s))/\Uq w w':=by
 cases a with
 |true=>
  go_enter func95,ntmps95;go_wp2_with fail;refine(NJ s _ hs).mono ?_;rintro e w1 ⟨rfl,rfl⟩;go_wp2;go_ret;exact⟨AH rfl,Ur⟩
 |false=>
  have HE:Hid _:=NK (s:=s);go_enter func95,ntmps95;go_wp2;go_ret;exact⟨AH HE.o,Ur⟩
theorem LP (n:Int) (a b c:Bool) (m:Int) (w:World):
 Calls prog 96 #[.int .i64 n,.agg #[.bool a,.bool b,.bool c,.int .i64 m]] w fun e w'=>e=.returned (.bool (Fe m n))/\Uq w w':=by
 by_cases hm:m=0
 ·subst hm
  go_enter func96,ntmps96;go_wp2;go_ret;exact⟨AH (by unfold Fe;rw[if_pos rfl];rfl),Ur⟩
 ·have zB:(m==0)=false:=by simpa using hm
  have HM:Hid _:=hm;clear hm;by_cases h1:1<=n
  ·go_enter func96,ntmps96
   go_wp2;go_ret;exact⟨AH (by unfold Fe;rw[if_neg HM.o];simp[h1]),Ur⟩
  ·have zA:decide (1<=n)=false:=by simpa using h1
   go_enter func96,ntmps96;go_wp2;go_ret;exact⟨AH (by unfold Fe;rw[if_neg HM.o,decide_eq_false (by omega)]),Ur⟩
theorem Kh (t:ByteArray) (ad:Option Addr) (cap:Nat) (ss:List ByteArray) (a b c:Bool) (m wd:Int) (w:World) (zB:Ad w w.heap.size ad ss) (hl:ss.length<=1048576) (ht:t.size<=maxLen):
 Calls prog 97 #[.agg #[.string t,.slice ad ss.length cap],.agg #[.bool a,.bool b,.bool c,.int .i64 m],.int .i64 wd] w fun e w'=>e=.returned (.bool (Hq c t ss wd))/\Uq w w':=by
 have zA:Below w.heap.size w ((w.alloc (.cells #[.string t,.slice ad ss.length cap] 40)).alloc (.cells #[.bool a,.bool b,.bool c,.int .i64 m] 162)):=(Ur).alloc (by simp) _;cases c with
 |true=>
  go_enter func97,ntmps97;go_wp2_with fail;refine(Db t ad cap ss wd _ (zB.below' zA) hl ht).mono ?_;rintro e w1 ⟨rfl,rfl⟩;go_wp2;go_ret;exact⟨AH rfl,zA.alloc (by simp;omega) _⟩
 |false=>
  by_cases h1:t.size=0
  ·have he:t.toList.isEmpty=true:=by rw[NK];simpa using h1
   have HE:Hid _:=h1;clear h1;go_enter func97,ntmps97;go_wp2;go_ret;refine⟨AH ?_,zA⟩;unfold Hq;rw[if_neg (by decide)];have h0:=HE.o;by_cases hs0:ss.length=0
   ·rw[decide_eq_true ⟨h0,hs0⟩]
    simp[hs0]
   ·rw[decide_eq_false (fun h=>hs0 h.2)]
    simp;intro h;exact hs0 (by rw[h];rfl)
  ·have he:t.toList.isEmpty=false:=by rw[NK];simpa using h1
   have HE:Hid _:=h1;clear h1;go_enter func97,ntmps97;go_wp2;go_ret;refine⟨AH ?_,zA⟩;unfold Hq;rw[if_neg (by decide),decide_eq_false (fun h=>HE.o h.1)]
def Gl (w:World):Prop:=∀k,1<=k->k<=7->w.cell? ⟨5,k *4,none⟩=some (.bool (CJ k))/\w.cell? ⟨5,k *4+1,none⟩=some (.bool (CY k))/\w.cell? ⟨5,k *4+2,none⟩=some (.bool (BO k))/\w.cell? ⟨5,k *4+3,none⟩=some (.int .i64 (Cq k))
theorem Gl.below {w w':World} (h:Gl w) (hb:Uq w w'):Gl w':=by
 intro k h1 h2;obtain⟨a,b,c,d⟩:=h k h1 h2;have zA:=World.block_lt_of_cell? w _ a;exact⟨(hb.cell (p:=⟨5,k *4,none⟩) zA).trans a,(hb.cell (p:=⟨5,k *4+1,none⟩) zA).trans b,(hb.cell (p:=⟨5,k *4+2,none⟩) zA).trans c,(hb.cell (p:=⟨5,k *4+3,none⟩) zA).trans d⟩
theorem Hd (k:Nat) (w:World) (hT:Gl w) (h1:1<=k) (h2:k<=7):
 Calls prog 80 #[.int .i64 k] w fun e w'=>e=.returned (.tuple #[.agg #[.bool (CJ k),.bool (CY k),.bool (BO k),.int .i64 (Cq k)],.bool true])/\Uq w w':=by
 obtain⟨c0,c1,c2,c3⟩:=hT k h1 h2;have zA:=World.block_lt_of_cell? w _ c0;have e1:decide ((k:Int)<1)=false:=by simp;omega
 have e2:decide ((7:Int)<k)=false:=by simp;omega
 have e3:(k:Int)<8:=by omega
 go_enter func80,ntmps80;go_wp2;exact bodyPost_ret (v:=.tuple #[.agg #[.bool (CJ k),.bool (CY k),.bool (BO k),.int .i64 (Cq k)],.bool true]) (by simp[results,results80,go_sem]) rfl ⟨rfl,Ur⟩
theorem Ij (k:Int) (w:World) (h:¬(1<=k/\k<=7)):
 Calls prog 80 #[.int .i64 k] w fun e w'=>e=.returned (.tuple #[.agg #[.bool false,.bool false,.bool false,.int .i64 0],.bool false])/\Uq w w':=by
 by_cases h1:k<1
 ·have e1:decide (k<1)=true:=by simpa using h1
  go_enter func80,ntmps80;go_wp2;exact bodyPost_ret (v:=.tuple #[.agg #[.bool false,.bool false,.bool false,.int .i64 0],.bool false]) (by simp[results,results80,go_sem]) rfl ⟨rfl,Ur⟩
 ·have e1:decide (k<1)=false:=by simpa using h1
  have e2:decide (7<k)=true:=by simp;omega
  go_enter func80,ntmps80;go_wp2;exact bodyPost_ret (v:=.tuple #[.agg #[.bool false,.bool false,.bool false,.int .i64 0],.bool false]) (by simp[results,results80,go_sem]) rfl ⟨rfl,Ur⟩
def Ct (k:Nat) (sum name:ByteArray) (n:Int) (t:ByteArray) (ss:List ByteArray) (wd:Int):Bool:=
 decide (1<=wd/\wd<=8)&&(Fc (CY k) sum wd&&(MM (CJ k) name&&(Fe (Cq k) n&&Hq (BO k) t ss wd)))
abbrev Gm (k:Int) (sum name:ByteArray) (n:Int) (t:ByteArray) (ad:Option Addr) (len cap:Nat):Array Value:= #[.int .i64 k,.string sum,.string name,.int .i64 n,.string t,.slice ad len cap]
theorem LQ (k:Int) (sum name:ByteArray) (n:Int) (t:ByteArray) (ad:Option Addr) (cap:Nat) (ss:List ByteArray) (wd:Int) (w:World) (hk:¬(1<=k/\k<=7)):
 Calls prog 63 #[.agg (Gm k sum name n t ad ss.length cap),.int .i64 wd] w fun e w'=>e=.returned (.bool false)/\Uq w w':=by
 go_enter func63,ntmps63;go_wp2_with fail;refine(Ij k _ hk).mono ?_;rintro e w1 ⟨rfl,zA⟩;go_wp2;go_ret;exact⟨rfl,((Ur).trans (zA.mono (by simp))).alloc (by have:=zA.size;simp at this;omega) _⟩
structure EB (W:World) (B P:Nat) (sum name:ByteArray) (n:Int) (t:ByteArray) (v:Value) (a b c:Bool) (m:Int):Prop where
 x1:W.cell? ⟨B,1,none⟩=some (.string sum)
 x2:W.cell? ⟨B,2,none⟩=some (.string name)
 x3:W.cell? ⟨B,3,none⟩=some (.int .i64 n)
 x4:W.cell? ⟨B,4,none⟩=some (.string t)
 x5:W.cell? ⟨B,5,none⟩=some v
 y0:W.cell? ⟨P,0,none⟩=some (.bool a)
 y1:W.cell? ⟨P,1,none⟩=some (.bool b)
 y2:W.cell? ⟨P,2,none⟩=some (.bool c)
 y3:W.cell? ⟨P,3,none⟩=some (.int .i64 m)
theorem EB.below {W W':World} {B P:Nat} {sum name:ByteArray} {n:Int} {t:ByteArray} {v:Value} {a b c:Bool} {m:Int} (h:EB W B P sum name n t v a b c m) (hb:Uq W W'):EB W' B P sum name n t v a b c m:=by
 have k1:=World.block_lt_of_cell? W _ h.x1;have k2:=World.block_lt_of_cell? W _ h.y0;exact⟨(hb.cell (p:=⟨B,1,none⟩) k1).trans h.x1,(hb.cell (p:=⟨B,2,none⟩) k1).trans h.x2,(hb.cell (p:=⟨B,3,none⟩) k1).trans h.x3,(hb.cell (p:=⟨B,4,none⟩) k1).trans h.x4,(hb.cell (p:=⟨B,5,none⟩) k1).trans h.x5,
  (hb.cell (p:=⟨P,0,none⟩) k2).trans h.y0,(hb.cell (p:=⟨P,1,none⟩) k2).trans h.y1,(hb.cell (p:=⟨P,2,none⟩) k2).trans h.y2,(hb.cell (p:=⟨P,3,none⟩) k2).trans h.y3⟩
theorem Ik (k:Nat) (sum name:ByteArray) (n:Int) (t:ByteArray) (ad:Option Addr) (cap:Nat) (ss:List ByteArray) (wd:Int) (w:World) (hT:Gl w) (h1:1<=k) (h7:k<=7)
 (zO:Ad w w.heap.size ad ss) (hl:ss.length<=1048576) (ht:t.size<=maxLen) (hn:name.size<=maxLen):
 Calls prog 63 #[.agg (Gm k sum name n t ad ss.length cap),.int .i64 wd] w fun e w'=>e=.returned (.bool (Ct k sum name n t ss wd))/\Uq w w':=by
 have zQ:Below w.heap.size w (w.alloc (.cells (Gm k sum name n t ad ss.length cap) 92)):=Ur;go_enter func63,ntmps63;go_wp2_with fail;refine(Hd k _ (hT.below zQ) h1 h7).mono ?_;rintro e w1 ⟨rfl,zB⟩;have zW:=zB.size;simp at zW;have zA:w.heap.size<w1.heap.size:=by omega
 have zP:=zQ.trans (zB.mono (by simp));obtain⟨zU,zV⟩:=Qi zB;have x1:w1.cell? ⟨w.heap.size,1,none⟩=some (.string sum):=by rw[zB.cell (p:=⟨w.heap.size,1,none⟩) (by simp)];simp
 have x2:w1.cell? ⟨w.heap.size,2,none⟩=some (.string name):=by rw[zB.cell (p:=⟨w.heap.size,2,none⟩) (by simp)];simp
 have x3:w1.cell? ⟨w.heap.size,3,none⟩=some (.int .i64 n):=by rw[zB.cell (p:=⟨w.heap.size,3,none⟩) (by simp)];simp
 have x4:w1.cell? ⟨w.heap.size,4,none⟩=some (.string t):=by rw[zB.cell (p:=⟨w.heap.size,4,none⟩) (by simp)];simp
 have x5:w1.cell? ⟨w.heap.size,5,none⟩=some (.slice ad ss.length cap):=by rw[zB.cell (p:=⟨w.heap.size,5,none⟩) (by simp)];simp
 clear zU zV;obtain⟨W2,zH⟩:∃W,W=w1.alloc (.cells #[.bool (CJ k),.bool (CY k),.bool (BO k),.int .i64 (Cq k)] 162):=⟨_,rfl⟩;have zC:Below w1.heap.size w1 W2:=by rw[zH];exact Ur
 have E2:EB W2 w.heap.size w1.heap.size sum name n t (.slice ad ss.length cap) (CJ k) (CY k) (BO k) (Cq k):=by
  refine⟨(zC.cell (p:=⟨w.heap.size,1,none⟩) zA).trans x1,(zC.cell (p:=⟨w.heap.size,2,none⟩) zA).trans x2,(zC.cell (p:=⟨w.heap.size,3,none⟩) zA).trans x3,(zC.cell (p:=⟨w.heap.size,4,none⟩) zA).trans x4,(zC.cell (p:=⟨w.heap.size,5,none⟩) zA).trans x5,?_,?_,?_,?_⟩<;>(rw[zH];simp)
 have zF:=zP.trans (zC.mono zP.size);have zI:Hid _:=zH;clear zH;by_cases hw:1<=wd/\wd<=8
 ·obtain⟨zR,zS⟩:=hw
  have zD:decide (1<=wd/\wd<=8)=true:=by simp[zR,zS]
  have zE:Hid _:=zD;clear zD;go_wp2_with (go_at_call 16;go_in);rw[←zI.o];refine(LO sum (CJ k) (CY k) (BO k) (Cq k) wd W2).mono ?_;rintro e w3 ⟨rfl,zL⟩;have E3:=E2.below zL;have zJ:=zF.trans (zL.mono zF.size);clear E2 zL;cases hs:Fc (CY k) sum wd with
  |false=>
   go_wp2;go_ret;exact⟨AH (by unfold Ct;rw[hs];simp),zJ⟩
  |true=>
   have HS:Hid _:=hs;clear hs;obtain⟨x1,x2,x3,x4,x5,y0,y1,y2,y3⟩:=E3;go_wp2_with fail;refine(KL name (CJ k) (CY k) (BO k) (Cq k) _ hn).mono ?_;rintro e w4 ⟨rfl,zM⟩;have E4:=(EB.mk x1 x2 x3 x4 x5 y0 y1 y2 y3).below zM;have zK:=zJ.trans (zM.mono zJ.size);clear x1 x2 x3 x4 x5 y0 y1 y2 y3 zM;cases hnm:MM (CJ k) name with
   |false=>
    go_wp2;go_ret;exact⟨AH (by unfold Ct;rw[hnm];simp),zK⟩
   |true=>
    have HN:Hid _:=hnm;clear hnm;obtain⟨x1,x2,x3,x4,x5,y0,y1,y2,y3⟩:=E4;go_wp2_with fail;refine(LP n (CJ k) (CY k) (BO k) (Cq k) _).mono ?_;rintro e w5 ⟨rfl,zN⟩;have E5:=(EB.mk x1 x2 x3 x4 x5 y0 y1 y2 y3).below zN;have zG:=zK.trans (zN.mono zK.size);clear x1 x2 x3 x4 x5 y0 y1 y2 y3 zN;cases hnu:Fe (Cq k) n with
    |false=>
     go_wp2;go_ret;exact⟨AH (by unfold Ct;rw[hnu];simp),zG⟩
    |true=>
     have HU:Hid _:=hnu;clear hnu;obtain⟨x1,x2,x3,x4,x5,y0,y1,y2,y3⟩:=E5;go_wp2_with fail;refine(Kh t ad cap ss (CJ k) (CY k) (BO k) (Cq k) wd _ (zO.below' zG) hl ht).mono ?_;rintro e w6 ⟨rfl,zT⟩;go_wp2;go_ret;exact⟨AH (by unfold Ct;rw[zE.o,HS.o,HN.o,HU.o];rfl),zG.trans (zT.mono zG.size)⟩
 ·have zD:decide (1<=wd/\wd<=8)=false:=by simpa using hw
  have zE:Hid _:=zD;clear zD;by_cases zR:1<=wd
  ·have zS:decide (wd<=8)=false:=by simp;omega
   go_wp2;go_ret;refine⟨AH (by unfold Ct;rw[zE.o];rfl),?_⟩;rw[←zI.o];exact zF
  ·go_wp2
   go_ret;refine⟨AH (by unfold Ct;rw[zE.o];rfl),?_⟩;rw[←zI.o];exact zF
end Go.Proofs.YtflhhhnlhlaehaaGreatDoor
