import Derived.Test.YtpekbmegopfhfaaGreatDoorProg
import Derived.WalkKit
import Derived.ProofKit
import Derived.Deep.AppendLies
import Derived.Deep.QuietTactic
import Derived.BigQuiet
import Derived.Deep.Onto
import Derived.Laws.Cover1
import Derived.Deep.RegionWith
import Derived.Maps.AppendAt
import Derived.Maps.Range
import Derived.Shelf.Strings.Builder1
import Derived.Lib.AppendStr
set_option maxRecDepth 100000
set_option maxHeartbeats 16000000
namespace Go.Proofs.YtpekbmegopfhfaaGreatDoor
open Go.ChangeShapes Go.WideShapes Go.ChangeAt Go.RowKit _root_.Go.Proofs.Tryz
abbrev Xz (w w':World):Prop:=Below w.heap.size w w'
theorem XA {w:World} {o:Obj}:Below w.heap.size w (w.alloc o):=(Below.refl _ _).alloc (Nat.le_refl _) _
theorem XB {n:Nat}:n<=n:=Nat.le_refl n
theorem XC {α:Type _} {l:List α} {i:Nat} {a:α} (h:l[i]?=some a):∃h:i<l.length,l[i]=a:=List.getElem?_eq_some_iff.1 h
theorem XD {α:Type _} {l:List α} {i:Nat} (h:i<l.length):l[i]?=some l[i]:=List.getElem?_eq_getElem h
theorem XE {α:Type _} {i:Nat} {l:List α} (h:i<l.length):l.take (i+1)=l.take i++[l[i]]:=List.take_succ_eq_append_getElem h
theorem XF {α:Type _} {i:Nat} {l:List α} (h:l.length<=i):l.take i=l:=List.take_of_length_le h
theorem XG {α:Type _} {l:List α} {i:Nat} {a:α} (h:l[i]?=some a):a∈l:=List.mem_of_getElem? h
theorem XH {a b c:Nat} (h:a<b) (k:b<=c):a<c:=Nat.lt_of_lt_of_le h k
theorem XI {a b c:Nat} (h:a<=b) (k:b<=c):a<=c:=Nat.le_trans h k
theorem _root_.Go.RowKit.Hid.o {p:Prop} (h:Hid p):p:=h
abbrev XJ (n:Int):Value:=.int .i64 n
abbrev XK:Value:=.int .i64 0
abbrev XL (b k:Nat):Addr:=⟨b,k,none⟩
abbrev XM:Value:=.string ⟨#[]⟩
abbrev XN:Value:=.slice none 0 0
theorem OR {k:IntKind} {a b:Int} (h:a=b):Ending.returned (.int k a)=.returned (.int k b):=by rw[h]
def Ae (w:World) (B:Nat) (a:Option Addr) (ss:List ByteArray):Prop:=
 ss=[]∨∃b off,a=some ⟨b,off,none⟩/\b<B/\∀i s,ss[i]?=some s->w.cell? (XL b (off+i))=some (.string s)
theorem Ae.below {w w':World} {B:Nat} {a:Option Addr} {ss:List ByteArray} (h:Ae w B a ss) (hb:Below B w w'):Ae w' B a ss:=by
 rcases h with h|⟨b,off,ha,zA,hc⟩
 ·exact .inl h
 ·exact .inr ⟨b,off,ha,zA,fun i s hs=>(hb.cell (p:=⟨b,off+i,none⟩) zA).trans (hc i s hs)⟩
theorem Ae.mono {w:World} {B B':Nat} {a:Option Addr} {ss:List ByteArray} (h:Ae w B a ss) (hb:B<=B'):Ae w B' a ss:=by
 rcases h with h|⟨b,off,ha,zA,hc⟩
 ·exact .inl h
 ·exact .inr ⟨b,off,ha,by omega,hc⟩
theorem Ae.at {w:World} {B:Nat} {a:Option Addr} {ss:List ByteArray} (h:Ae w B a ss) {k:Nat} (hk:k<ss.length):
 ∃b off,a=some ⟨b,off,none⟩/\b<B/\∀i s,ss[i]?=some s->w.cell? (XL b (off+i))=some (.string s):=by
 rcases h with h|h
 ·subst h;simp at hk
 ·exact h
def bulk (ss:List ByteArray):Nat:=(ss.map ByteArray.size).sum
theorem Fz (ss:List ByteArray) (k:Nat) (s:ByteArray) (h:ss[k]?=some s):bulk (ss.take (k+1))=bulk (ss.take k)+s.size:=by
 obtain⟨zA,rfl⟩:=XC h;unfold bulk;rw[XE zA,List.map_append,List.sum_append];simp
theorem bulk_le (ss:List ByteArray) (k:Nat):bulk (ss.take k)<=bulk ss:=by
 have h:bulk ss=bulk (ss.take k)+bulk (ss.drop k):=by
  unfold bulk;rw[←List.sum_append,←List.map_append,List.take_append_drop]
 omega
theorem Ow (ss:List ByteArray) (k:Nat) (s:ByteArray) (h:ss[k]?=some s):s.size<=bulk ss:=by
 have:=Fz ss k s h;have:=bulk_le ss (k+1);omega
theorem GP (a:Option Addr) (cap:Nat) (ss:List ByteArray) (left:Int) (w:World) (B:Nat) (zA:Ae w B a ss)
 (h2:left<=1048576) (zE:(ss.length:Int)+bulk ss<=left):
 Calls prog 9 #[.slice a ss.length cap,XJ left] w fun e w'=>e=.returned (XJ (left -ss.length -bulk ss))/\w'=w:=by
 go_enter func9,ntmps9;go_wp2
 go_loop [1,5] (fun l i=>∃k:Nat,k<=ss.length/\i=XJ k/\l=XJ (left -ss.length -bulk (ss.take k))) (fun _ i=>ss.length -(intOf i).toNat)
 case atStart=>exact⟨0,Nat.zero_le _,rfl,by simp[bulk]⟩
 case round=>
  obtain⟨k,hk,rfl,rfl⟩:=hrel;by_cases hlt:k<ss.length
  ·obtain⟨b,off,ha,hb,hc⟩:=zA.at hlt
   subst ha;have zF:=hc k ss[k] (XD hlt);have zB:Hid _:=Fz ss k _ (XD hlt);have zC:=bulk_le ss (k+1);rw[zB.o] at zC;clear hc zA;generalize ss[k]=s at *
   go_wp2;refine⟨⟨k+1,by omega,by go_num,?_⟩,by simp[intOf];omega⟩;rw[zB.o];go_num
  ·go_wp2
   go_ret;exact⟨OR (by rw[XF (by omega)]),rfl⟩
theorem Jv (a:Option Addr) (cap:Nat) (ss:List ByteArray) (left:Int) (w:World) (B:Nat) (zA:Ae w B a ss)
 (hl:ss.length<=maxLen) (hs:∀s∈ss,s.size<=maxLen)
 (h1:0<=left) (h2:left<=1048576) (zE:left<(ss.length:Int)+bulk ss):
 Calls prog 9 #[.slice a ss.length cap,XJ left] w fun e w'=>e=.returned (XJ (-1))/\w'=w:=by
 unfold maxLen at hl hs;by_cases hn:left<ss.length
 ·go_enter func9,ntmps9
  go_wp2;go_ret;exact⟨rfl,rfl⟩
 ·go_enter func9,ntmps9
  go_wp2
  go_loop [1,5] (fun l i=>∃k:Nat,k<=ss.length/\i=XJ k/\l=XJ (left -ss.length -bulk (ss.take k))/\(ss.length:Int)+bulk (ss.take k)<=left) (fun _ i=>ss.length -(intOf i).toNat)
  case atStart=>exact⟨0,Nat.zero_le _,rfl,by simp[bulk],by simp[bulk];omega⟩
  case round=>
   obtain⟨k,hk,rfl,rfl,zC⟩:=hrel;by_cases hlt:k<ss.length
   ·obtain⟨b,off,ha,hb,hc⟩:=zA.at hlt
    subst ha;have zG:=hc k ss[k] (XD hlt);have zB:Hid _:=Fz ss k _ (XD hlt);have zF:=hs ss[k] (List.getElem_mem hlt);clear hc zA hs;generalize ss[k]=s at *
    by_cases hgo:left -ss.length -bulk (ss.take k) -s.size<0
    ·go_wp2
     go_ret;exact⟨rfl,rfl⟩
    ·go_wp2
     refine⟨⟨k+1,by omega,by go_num,?_,?_⟩,by simp[intOf];omega⟩
     ·rw[zB.o];go_num
     ·rw[zB.o];omega
   ·exfalso
    rw[XF (by omega)] at zC;omega
theorem CO:(prog.info? 9).map (fun i=>(i.zero,i.size,i.bytes))=some (some XM,1,16):=by kernel_rfl
theorem Ae.own {w:World} {base:Nat} {g c:Nat} {ss:List ByteArray} (h:w.ownsRow base 9 1 (.slice (some ⟨g,0,none⟩) ss.length c) ss.length (ss.map Value.string)):Ae w w.heap.size (some ⟨g,0,none⟩) ss:=by
 refine .inr ⟨g,0,rfl,(h.lt g rfl).2,fun i s hs=> ?_⟩;obtain⟨zA,rfl⟩:=XC hs;rw[Nat.zero_add,h.cellAt i (by omega)];simp[zA]
theorem Sw (ss:List ByteArray) (k:Nat) (z:Value) (h:k<ss.length):
 ((ss.take k).map Value.string++List.replicate (ss.length -k) z).set k (.string ss[k])=(ss.take (k+1)).map Value.string++List.replicate (ss.length -(k+1)) z:=by
 have hl:((ss.take k).map Value.string).length=k:=by simp;omega
 obtain⟨m,hm⟩:∃m,ss.length -k=m+1:=⟨ss.length -k -1,by omega⟩;rw[hm,show ss.length -(k+1)=m from by omega,List.set_append_right _ _ (by omega),hl,Nat.sub_self,List.replicate_succ,List.set_cons_zero,XE h,List.map_append,List.append_assoc];rfl
theorem GQ (a:Option Addr) (cap:Nat) (ss:List ByteArray) (w:World) (zG:Ae w w.heap.size a ss) (hl:ss.length<=1048576):
 Calls prog 11 #[.slice a ss.length cap] w fun e w'=>∃g,e=.returned (.slice (some ⟨g,0,none⟩) ss.length ss.length)/\w.heap.size<=g/\
  w'.ownsRow w.heap.size 9 1 (.slice (some ⟨g,0,none⟩) ss.length ss.length) ss.length (ss.map Value.string)/\Xz w w':=by
 obtain⟨i0,hi,zN,zK,zO⟩:=info_parts CO;go_enter func11,ntmps11;go_wp2_with (at_make;refine wpList_make_full _ rfl _ _ 22 rfl w.heap.size 9 i0 XM 1 underlying22 hi zN zK .i64 .i64 _ _ ss.length rfl rfl rfl rfl ?c1 ?c2 ?c3 ?_)
 case c1=>rw[zO];omega
 case c2=>unfold maxLen;omega
 case c3=>exact XB
 intro w1 zA zB;have zM:=(Below.refl _ _).grown zB (XB) (by simp);rw[toList_madeCells_one] at zA;clear zB;go_wp2
 go_loopw [4] (fun i wr=>∃k:Nat,k<=ss.length/\i=XJ k/\wr.ownsRow w.heap.size 9 1 (.slice (some ⟨w.heap.size,0,none⟩) ss.length ss.length) ss.length ((ss.take k).map Value.string++List.replicate (ss.length -k) XM)/\Xz w wr) (fun i _=>ss.length -(intOf i).toNat)
 case atStart=>exact⟨0,Nat.zero_le _,rfl,by simpa using zA,zM⟩
 case round=>
  obtain⟨k,hk,rfl,zA,zC⟩:=hrel;by_cases hlt:k<ss.length
  ·obtain⟨b,off,ha,hb,hc⟩:=zG.at hlt
   subst ha;have zS:=(zC.cell (p:=⟨b,off+k,none⟩) hb).trans (hc k ss[k] (XD hlt));have zE:Hid (((ss.take k).map Value.string++List.replicate (ss.length -k) (Value.string ⟨#[]⟩)).set k (.string ss[k])=(ss.take (k+1)).map Value.string++List.replicate (ss.length -(k+1)) XM):=Sw ss k _ hlt;have zJ:=zA.stored k (.string ss[k]);have zR:wr.cell? (XL (w.heap.size) k)=some XM:=by
    have hl:((ss.take k).map Value.string).length=k:=by simp;omega
    rw[zA.cellAt k (by omega),List.getElem?_append_right (by omega),hl,Nat.sub_self,List.getElem?_replicate,if_pos (by omega)]
   have zP:=zA.frozenAt k;rw[zE.o] at zJ;obtain⟨zF,zH⟩:=zJ;have zI:=zC.setCell (p:=⟨w.heap.size,k,none⟩) (XB) (.string ss[k]);have HS:Hid (_/\_):=And.intro zF zI;clear hc zG zF zH zI zA zE;generalize ss[k]=s at *
   go_wp2;exact⟨⟨k+1,by omega,by go_num,HS.o.1,HS.o.2⟩,by simp[intOf];omega⟩
  ·go_wp2
   go_ret;refine⟨_,rfl,XB,?_,zC⟩;rw[XF (by omega),show ss.length -k=0 from by omega] at zA;simpa using zA
theorem GR (a a':Option Addr) (cap zC:Nat) (ss:List ByteArray) (w:World) (B B':Nat) (zB:Ae w B a ss) (zA:Ae w B' a' ss) (hl:ss.length<=1048576):
 Calls prog 14 #[.slice a ss.length cap,.slice a' ss.length zC] w fun e w'=>e=.returned (.bool true)/\∃n,w'=w.drewN n:=by
 go_enter func14,ntmps14;go_wp2
 go_loopw [5] (fun i wr=>∃k n:Nat,k<=ss.length/\i=XJ k/\wr=w.drewN n) (fun i _=>ss.length -(intOf i).toNat)
 case atStart=>exact⟨0,0,Nat.zero_le _,rfl,rfl⟩
 case round=>
  obtain⟨k,n,hk,rfl,rfl⟩:=hrel;by_cases hlt:k<ss.length
  ·obtain⟨b,off,ha,hb,hc⟩:=zB.at hlt
   obtain⟨b',zH,zG,zI,zE⟩:=zA.at hlt;subst ha zG;have zJ:=hc k ss[k] (XD hlt);have zF:=zE k ss[k] (XD hlt);clear hc zE zB zA;generalize ss[k]=s at *
   go_wp2;go_quiet (fail);go_wp2;exact⟨⟨k+1,_,by omega,by go_num,rfl⟩,by simp[intOf];omega⟩
  ·go_wp2
   go_ret;exact⟨rfl,_,rfl⟩
theorem Ae.below' {w w':World} {a:Option Addr} {ss:List ByteArray} (h:Ae w w.heap.size a ss) (hb:Xz w w'):Ae w' w'.heap.size a ss:=(h.below hb).mono hb.size
theorem BP {B:Nat} {a w:World} (h:Below B a w) (n:Nat):Below B a (w.drewN n):=⟨h.os,h.tape,h.output,h.size,h.block⟩
theorem IE {W w1:World} (hb:Xz W w1):(∀b o,b<W.heap.size->w1.cell? (XL b o)=W.cell? (XL b o))/\(∀b o,b<W.heap.size->w1.frozen? ⟨b,o,none⟩=W.frozen? ⟨b,o,none⟩):=
 ⟨fun b o h=>hb.cell (p:=⟨b,o,none⟩) h,fun b o h=>hb.frozen (p:=⟨b,o,none⟩) h⟩
def Jw:Nat->Nat->ByteArray->ByteArray
 |0,_,o=>o
 |f+1,j,o=>if j=0 then o else Jw f (j/10) (strOfNums [48+(j:Int)%10]++o)
def BH (k:Nat):ByteArray:=⟨#[109]⟩++Jw k k ByteArray.empty
theorem Sx (f:Nat) (o:ByteArray):Jw f 0 o=o:=by
 cases f<;>simp[Jw]
theorem Vo (x:Int):(strOfNums [x]).size=1:=by
 rfl
theorem EK (k:Nat) (w:World) (hk:1<=k) (zH:k<=1000000000):
 Calls prog 49 #[XJ k] w fun e w'=>e=.returned (.string (BH k))/\Xz w w':=by
 have zJ:¬((k:Int)<=0):=by omega
 go_enter func49,ntmps49;go_wp2
 go_loopw [0,3] (fun v out wr=>∃(f j:Nat) (o:ByteArray),v=XJ j/\out=.string o/\j<=f/\o.size+j<=k/\Hid (Jw f j o=Jw k k ByteArray.empty)/\Xz w wr) (fun v _ _=>(intOf v).toNat)
 case atStart=>exact⟨k,k,ByteArray.empty,rfl,rfl,XB,by simp,rfl,Below.refl _ _⟩
 case round=>
  obtain⟨f,j,o,rfl,rfl,zG,hj,zB,hb⟩:=hrel;by_cases hlt:0<j
  ·have zI:(0:Int)<j:=by omega
   have zF:=run_convert_bytes_arg (P:=prog) (wr.alloc (Obj.cells #[Value.int IntKind.u8 (48+(j:Int)%10)] 5)) 143 5 underlying143 underlying5 wr.heap.size 0 1 1 [48+(j:Int)%10] rfl (fun i hi=>by
    obtain rfl:i=0:=by omega
    simp) 9 underlying9
   obtain⟨f',rfl⟩:∃f',f=f'+1:=⟨f -1,by omega⟩;have zE:Hid (Jw f' (j/10) (strOfNums [48+(j:Int)%10]++o)=Jw k k ByteArray.empty):=by
    have:=zB.o;rw[Jw,if_neg (by omega)] at this;exact this
   have h1:=Vo (48+(j:Int)%10);have zA:(strOfNums [48+(j:Int)%10]++o).size=1+o.size:=by rw[ByteArray.size_append,h1]
   have zC:Hid _:=zA;clear zA;generalize strOfNums [48+(j:Int)%10]=x at *
   go_wp2;refine⟨⟨f',j/10,x++o,by go_num,rfl,by omega,by rw[zC.o];omega,zE,hb.alloc hb.size _⟩,by simp[intOf];omega⟩
  ·obtain rfl:j=0:=by omega
   have zA:¬9223372036854775807<1+o.size:=by omega
   go_wp2;go_ret;refine⟨?_,hb⟩;have:=zB.o;rw[Sx] at this;unfold BH;rw[←this];rfl
theorem Ap {a b c:World} {row:Option Nat} (h1:a.grownBy b row) (h2:b.grownBy c row):a.grownBy c row:=
 ⟨h2.os.trans h1.os,h2.tape.trans h1.tape,h2.output.trans h1.output,XI h1.size h2.size,fun k hk hne=>(h2.block k (XH hk h1.size) hne).trans (h1.block k hk hne)⟩
theorem Ax {a b:World} (row:Option Nat) (h:Xz a b):a.grownBy b row:=⟨h.os,h.tape,h.output,h.size,fun k hk _=>h.block k hk⟩
theorem Eb (a:World) (row:Option Nat):a.grownBy a row:=⟨rfl,rfl,rfl,XB,fun _ _ _=>rfl⟩
def marks (k n:Nat):List ByteArray:=(List.range n).map fun i=>BH (k+i)
theorem BA (k n:Nat):(marks k n).length=n:=by simp[marks]
theorem Qu (k n i:Nat) (h:i<n):(marks k n)[i]?=some (BH (k+i)):=by simp[marks,h]
theorem Qv (k i:Nat) (xs:List Value) (h:i<xs.length):((marks k i).map Value.string++xs.drop i).set i (.string (BH (k+i)))=(marks k (i+1)).map Value.string++xs.drop (i+1):=by
 have hl:((marks k i).map Value.string).length=i:=by simp[BA]
 rw[List.set_append_right _ _ (by omega),hl,Nat.sub_self,List.drop_eq_getElem_cons h,List.set_cons_zero];simp[marks,List.range_succ]
theorem Qw (a:Option Addr) (n cap k base:Nat) (xs:List Value) (w:World) (zA:w.ownsRow base 9 1 (.slice a n cap) n xs) (hk:1<=k) (zM:k+n<=100000000):
 Calls prog 15 #[.slice a n cap,XJ k] w fun e w'=>e=.returned (XJ (k+n))/\w'.ownsRow base 9 1 (.slice a n cap) n ((marks k n).map Value.string)/\w.grownBy w' (Value.slice a n cap).ownBlock:=by
 go_enter func15,ntmps15;go_wp2
 go_loopw [1,5] (fun v i wr=>∃(j:Nat),j<=n/\i=XJ j/\v=XJ (k+j)/\wr.ownsRow base 9 1 (.slice a n cap) n ((marks k j).map Value.string++xs.drop j)/\w.grownBy wr (Value.slice a n cap).ownBlock) (fun _ i _=>n -(intOf i).toNat)
 case atStart=>exact⟨0,Nat.zero_le _,rfl,by simp,by simpa [marks] using zA,Eb _ _⟩
 case round=>
  have zO:=zA.1;clear zA;obtain⟨j,hj,rfl,rfl,zA,zC⟩:=hrel;by_cases hlt:j<n
  ·obtain⟨g,zI,hv,zN,zP⟩:=zA.form (by omega)
   simp at hv;obtain⟨rfl,rfl⟩:=hv;have zE:=EK (k+j) wr (by omega) (by omega);rw[show((k+j:Nat):Int)=(k:Int)+j from by omega] at zE;have zJ:(j:Int)<n:=by omega
   go_wp2_with fail;refine zE.mono ?_;rintro e w2 ⟨rfl,zG⟩;have zB:=zA.kept (Ax none zG) (.inr (by simp[Value.ownBlock]));have zF:=zB.stored j (.string (BH (k+j)));rw[Qv k j xs (by omega)] at zF;have zK:=zB.cellAt j (by omega);rw[XD (by simp[BA];omega)] at zK;have zR:=zB.frozenAt j;have zH:=Ap zC (Ap (Ax _ zG) zF.2);have HH:Hid _:=And.intro zF.1 zH;clear zF zH zA zB zC zE;go_wp2
   exact⟨⟨j+1,by omega,by go_num,by go_num,HH.o.1,HH.o.2⟩,by simp[intOf];omega⟩
  ·obtain rfl:j=n:=by omega
   go_wp2;go_ret;refine⟨rfl,?_,zC⟩;rw[List.drop_of_length_le (by omega),List.append_nil] at zA;exact zA
theorem FA (a:Option Addr) (n cap k B:Nat) (w:World) (zC:Ae w B a (marks k n)) (hB:B<=w.heap.size) (hk:1<=k) (zM:k+n<=100000000):
 Calls prog 75 #[.slice a n cap,XJ k] w fun e w'=>e=.returned (XJ (k+n))/\Xz w w':=by
 go_enter func75,ntmps75;go_wp2
 go_loopw [1,5] (fun v i wr=>∃(j:Nat),j<=n/\i=XJ j/\v=XJ (k+j)/\Xz w wr) (fun _ i _=>n -(intOf i).toNat)
 case atStart=>exact⟨0,Nat.zero_le _,rfl,by simp,Below.refl _ _⟩
 case round=>
  obtain⟨j,hj,rfl,rfl,zB⟩:=hrel;by_cases hlt:j<n
  ·obtain⟨b,off,ha,zJ,hc⟩:=zC.at (k:=j) (by rw[BA];exact hlt)
   subst ha;have zI:=(zB.cell (p:=⟨b,off+j,none⟩) (by simp;omega)).trans (hc j _ (Qu k n j hlt));have zA:=fun W=>EK (k+j) W (by omega) (by omega);rw[show((k+j:Nat):Int)=(k:Int)+j from by omega] at zA;have zH:(j:Int)<n:=by omega
   have zK:=zB.size;have HC:Hid _:=zA;clear zA hc zC;go_wp2;go_region_with (go_at_call 49;refine(HC.o _).mono ?_;rintro e w2 ⟨rfl,zE⟩;have zF:w2.cell? (XL b (off+j))=some (.string (BH (k+j))):=(zE.cell (p:=⟨b,off+j,none⟩) (by simp;omega)).trans zI;have zG:=zB.drew.trans (zE.mono (by simp;omega)))
   all_goals go_wp2
   all_goals exact⟨⟨j+1,by omega,by go_num,by go_num,zG⟩,by simp[intOf];omega⟩
  ·obtain rfl:j=n:=by omega
   go_wp2;go_ret;exact⟨rfl,zB⟩
theorem Hv {a b:Nat} (h:b<a):some a≠some b:=fun e=>by have:=Option.some.inj e;omega
theorem Av (w:World) (g p:Nat) (v:Value):w.grownBy (w.setCell (XL g p) v) (some g):=
 ⟨rfl,rfl,rfl,by simp,fun i _ hi=>Below.heap_setCell _ _ _ _ (fun e=>hi (by rw[e]))⟩
def Aa (w:World) (B:Nat) (l:List Value):Prop:=∀j v,l[j]?=some v->w.cell? (XL B j)=some v/\w.frozen? ⟨B,j,none⟩=false
theorem Aa.lt {w:World} {B:Nat} {v:Value} {l:List Value} (h:Aa w B (v::l)):B<w.heap.size:=World.block_lt_of_cell? w _ (h 0 v rfl).1
theorem Aa.far {w w':World} {B b:Nat} {v:Value} {l:List Value} (h:Aa w B (v::l)) (hg:w.grownBy w' (some b)) (hb:b<B):Aa w' B (v::l):=by
 intro j x hx;have hl:=h.lt;exact⟨(hg.cell_far ⟨B,j,none⟩ hl (Hv hb)).trans (h j x hx).1,(hg.frozen_far ⟨B,j,none⟩ hl (Hv hb)).trans (h j x hx).2⟩
theorem Aa.below {w w':World} {B:Nat} {v:Value} {l:List Value} (h:Aa w B (v::l)) (hb:Xz w w'):Aa w' B (v::l):=by
 intro j x hx;have hl:=h.lt;exact⟨(hb.cell (p:=⟨B,j,none⟩) hl).trans (h j x hx).1,(hb.frozen (p:=⟨B,j,none⟩) hl).trans (h j x hx).2⟩
theorem Aa.new (w:World) (l:List Value) (T:TypeId):Aa (w.alloc (.cells l.toArray T)) w.heap.size l:=by
 intro j v hv;refine⟨?_,by simp⟩;rw[World.cell?_alloc_at _ _ _ _ rfl];simpa using hv
theorem Aa.far' {w w':World} {B c:Nat} {v:Value} {l:List Value} (h:Aa w B (v::l)) (hg:w.grownBy w' (some c)) (hc:c≠B):Aa w' B (v::l):=by
 intro j x hx;have hl:=h.lt;have hn:some B≠some c:=fun e=>hc (Option.some.inj e).symm;exact⟨(hg.cell_far ⟨B,j,none⟩ hl hn).trans (h j x hx).1,(hg.frozen_far ⟨B,j,none⟩ hl hn).trans (h j x hx).2⟩
theorem Aa.set {w:World} {B:Nat} {l:List Value} (h:Aa w B l) (j:Nat) (v:Value):Aa (w.setCell (XL B j) v) B (l.set j v):=by
 intro i x hx;by_cases hij:i=j
 ·subst hij
  have zA:i<l.length:=by
   rcases Nat.lt_or_ge i l.length with h'|h'
   ·exact h'
   ·rw[List.getElem?_eq_none (by simpa using h')] at hx;cases hx
  rw[List.getElem?_set_self zA] at hx;injection hx with hx;subst hx;obtain⟨h1,h2⟩:=h i _ (XD zA);exact⟨by simp[go_sem,h1],by simpa [go_sem] using h2⟩
 ·rw[List.getElem?_set_ne (fun e=>hij e.symm)] at hx
  obtain⟨h1,h2⟩:=h i x hx;refine⟨?_,by simpa [go_sem] using h2⟩;rw[World.cell?_setCell_other _ _ _ _ (by intro e;injection e;omega)];exact h1
theorem Aq {w W:World} {l:List Value} {T:TypeId} (h:W=w.alloc (.cells l.toArray T)):Below w.heap.size w W/\W.heap.size=w.heap.size+1/\Aa W w.heap.size l:=by
 subst h;exact⟨XA,by simp,Aa.new w l T⟩
theorem Aa.alloc {w:World} {B:Nat} {l:List Value} (h:Aa w B l) (hB:B<w.heap.size) (o:Obj):Aa (w.alloc o) B l:=fun j v hv=>
 ⟨(((Below.refl w.heap.size w).alloc (XB) o).cell (p:=⟨B,j,none⟩) hB).trans (h j v hv).1,(((Below.refl w.heap.size w).alloc (XB) o).frozen (p:=⟨B,j,none⟩) hB).trans (h j v hv).2⟩
theorem AP {w W:World} {l k:List Value} {T U:TypeId} (h:W=(w.alloc (.cells l.toArray T)).alloc (.cells k.toArray U)):Below w.heap.size w W/\W.heap.size=w.heap.size+2/\Aa W w.heap.size l/\Aa W (w.heap.size+1) k:=by
 obtain⟨h1,h2,h3⟩:=Aq (w:=w) (l:=l) (T:=T) rfl;obtain⟨k1,k2,k3⟩:=Aq h;rw[h2] at k2 k3;subst h;exact⟨h1.trans (k1.mono h1.size),k2,h3.alloc (by omega) _,k3⟩
theorem Bp {w W:World} {l k m:List Value} {T U V:TypeId} (h:W=((w.alloc (.cells l.toArray T)).alloc (.cells k.toArray U)).alloc (.cells m.toArray V)):Below w.heap.size w W/\W.heap.size=w.heap.size+3/\Aa W w.heap.size l/\Aa W (w.heap.size+1) k/\Aa W (w.heap.size+2) m:=by
 obtain⟨h1,h2,h3,h4⟩:=AP (w:=w) (l:=l) (T:=T) (k:=k) (U:=U) rfl;obtain⟨k1,k2,k3⟩:=Aq h;rw[h2] at k2 k3;subst h;exact⟨h1.trans (k1.mono h1.size),k2,h3.alloc (by omega) _,h4.alloc (by omega) _,k3⟩
theorem Wv {w W:World} {l k m n:List Value} {T U V R:TypeId} (h:W=(((w.alloc (.cells l.toArray T)).alloc (.cells k.toArray U)).alloc (.cells m.toArray V)).alloc (.cells n.toArray R)):Below w.heap.size w W/\W.heap.size=w.heap.size+4/\Aa W w.heap.size l/\Aa W (w.heap.size+1) k/\Aa W (w.heap.size+2) m/\Aa W (w.heap.size+3) n:=by
 obtain⟨h1,h2,h3,h4,h5⟩:=Bp (w:=w) (l:=l) (T:=T) (k:=k) (U:=U) (m:=m) (V:=V) rfl;obtain⟨k1,k2,k3⟩:=Aq h;rw[h2] at k2 k3;subst h;exact⟨h1.trans (k1.mono h1.size),k2,h3.alloc (by omega) _,h4.alloc (by omega) _,h5.alloc (by omega) _,k3⟩
theorem Aa.c2 {w:World} {B:Nat} {t:List Value} {a b:Value} (h:Aa w B t) (i j:Nat) (h0:t[i]?=some a:=by rfl) (h1:t[j]?=some b:=by rfl):w.cell? (XL B i)=some a/\w.cell? (XL B j)=some b:=
 ⟨(h i _ h0).1,(h j _ h1).1⟩
theorem Aa.c3 {w:World} {B:Nat} {t:List Value} {a b c:Value} (h:Aa w B t) (i j k:Nat) (h0:t[i]?=some a:=by rfl) (h1:t[j]?=some b:=by rfl) (h2:t[k]?=some c:=by rfl):w.cell? (XL B i)=some a/\w.cell? (XL B j)=some b/\w.cell? (XL B k)=some c:=
 ⟨(h i _ h0).1,(h j _ h1).1,(h k _ h2).1⟩
theorem Aa.c4 {w:World} {B:Nat} {t:List Value} {a b c d:Value} (h:Aa w B t) (i j k l:Nat) (h0:t[i]?=some a:=by rfl) (h1:t[j]?=some b:=by rfl) (h2:t[k]?=some c:=by rfl) (h3:t[l]?=some d:=by rfl):w.cell? (XL B i)=some a/\w.cell? (XL B j)=some b/\w.cell? (XL B k)=some c/\w.cell? (XL B l)=some d:=
 ⟨(h i _ h0).1,(h j _ h1).1,(h k _ h2).1,(h l _ h3).1⟩
theorem Aa.c6 {w:World} {B:Nat} {t:List Value} {a b c d e f:Value} (h:Aa w B t) (i j k l m n:Nat) (h0:t[i]?=some a:=by rfl) (h1:t[j]?=some b:=by rfl) (h2:t[k]?=some c:=by rfl) (h3:t[l]?=some d:=by rfl) (h4:t[m]?=some e:=by rfl) (h5:t[n]?=some f:=by rfl):w.cell? (XL B i)=some a/\w.cell? (XL B j)=some b/\w.cell? (XL B k)=some c/\w.cell? (XL B l)=some d/\w.cell? (XL B m)=some e/\w.cell? (XL B n)=some f:=
 ⟨(h i _ h0).1,(h j _ h1).1,(h k _ h2).1,(h l _ h3).1,(h m _ h4).1,(h n _ h5).1⟩
theorem Aa.c7 {w:World} {B:Nat} {t:List Value} {a b c d e f g:Value} (h:Aa w B t) (i j k l m n o:Nat) (h0:t[i]?=some a:=by rfl) (h1:t[j]?=some b:=by rfl) (h2:t[k]?=some c:=by rfl) (h3:t[l]?=some d:=by rfl) (h4:t[m]?=some e:=by rfl) (h5:t[n]?=some f:=by rfl) (h6:t[o]?=some g:=by rfl):w.cell? (XL B i)=some a/\w.cell? (XL B j)=some b/\w.cell? (XL B k)=some c/\w.cell? (XL B l)=some d/\w.cell? (XL B m)=some e/\w.cell? (XL B n)=some f/\w.cell? (XL B o)=some g:=
 ⟨(h i _ h0).1,(h j _ h1).1,(h k _ h2).1,(h l _ h3).1,(h m _ h4).1,(h n _ h5).1,(h o _ h6).1⟩
structure Xi (a b:World) (p q:Option Nat):Prop where
 os:b.os=a.os
 tape:b.tape=a.tape
 output:b.output=a.output
 size:a.heap.size<=b.heap.size
 block:∀k,k<a.heap.size->some k≠p->some k≠q->b.heap[k]?=a.heap[k]?
theorem Mj {w w':World} {base:Nat} {v:Value} {n:Nat} {xs:List Value} (h:w.ownsRow base 9 1 v n xs) (hb:Xz w w'):w'.ownsRow base 9 1 v n xs:=by
 cases hv:v.ownBlock with
 |none=>exact h.kept (Ax none hb) (.inl hv)
 |some g=>exact h.kept (Ax none hb) (.inr (by rw[hv];simp))
theorem Nq (t:ByteArray) (a:Option Addr) (cap:Nat) (ss:List ByteArray) (left:Int) (w:World) (zA:Ae w w.heap.size a ss)
 (h2:left<=1048576) (zB:(t.size:Int)+ss.length+bulk ss<=left):
 Calls prog 175 #[.agg #[.string t,.slice a ss.length cap],XJ left] w fun e w'=>e=.returned (XJ (left -t.size -ss.length -bulk ss))/\Xz w w':=by
 have hb:Below w.heap.size w (w.alloc (.cells #[.string t,.slice a ss.length cap] 192)):=XA;go_enter func175,ntmps175;go_wp2_with (go_at_call 9;refine(GP a cap ss _ _ w.heap.size (zA.below hb) (by omega) (by omega)).mono ?_;rintro e w' ⟨rfl,rfl⟩);go_ret;exact⟨rfl,hb⟩
theorem OS (t:ByteArray) (a:Option Addr) (cap:Nat) (ss:List ByteArray) (left:Int) (w:World) (zA:Ae w w.heap.size a ss)
 (ht:t.size<=maxLen) (hl:ss.length<=maxLen) (hs:∀s∈ss,s.size<=maxLen)
 (h1:0<=left) (h2:left<=1048576) (zB:left<(t.size:Int)+ss.length+bulk ss):
 Calls prog 175 #[.agg #[.string t,.slice a ss.length cap],XJ left] w fun e w'=>e=.returned (XJ (-1))/\Xz w w':=by
 have hb:Below w.heap.size w (w.alloc (.cells #[.string t,.slice a ss.length cap] 192)):=XA;have zC:=ht;unfold maxLen at zC;by_cases hn:left<t.size
 ·go_enter func175,ntmps175
  go_wp2;go_ret;exact⟨rfl,hb⟩
 ·go_enter func175,ntmps175
  go_wp2_with (go_at_call 9;refine(Jv a cap ss _ _ w.heap.size (zA.below hb) hl hs (by omega) (by omega) (by omega)).mono ?_;rintro e w' ⟨rfl,rfl⟩);go_ret;exact⟨rfl,hb⟩
theorem Nr (t:ByteArray) (a:Option Addr) (cap:Nat) (ss:List ByteArray) (w:World) (zB:Ae w w.heap.size a ss) (hl:ss.length<=1048576):
 Calls prog 176 #[.agg #[.string t,.slice a ss.length cap]] w fun e w'=>∃g,e=.returned (.agg #[.string t,.slice (some ⟨g,0,none⟩) ss.length ss.length])/\w.heap.size<=g/\
  w'.ownsRow w.heap.size 9 1 (.slice (some ⟨g,0,none⟩) ss.length ss.length) ss.length (ss.map Value.string)/\Xz w w':=by
 go_enter func176,ntmps176;go_wp2_with fail;refine(GQ a cap ss _ (zB.below' (((XA).alloc (by simp) _).alloc (by simp;omega) _)) hl).mono ?_;rintro e w1 ⟨g,rfl,hg,zA,hb⟩;obtain⟨hc,hf⟩:=IE hb;have hz:=hb.size;simp at hz hg;go_wp2;refine bodyPost_ret (v:=.agg #[.string t,.slice (some ⟨g,0,none⟩) ss.length ss.length]) (by simp[results,results176,go_sem,hc]) rfl ⟨g,rfl,by omega,?_,?_⟩
 ·exact(ownsRow_setCell_below (ownsRow_setCell_below (ownsRow_setCell_below zA (by simp) _) (by simp) _) (by simp) _).mono (by simp;omega)
 ·exact(((((XA).alloc (by simp) _).alloc (by simp;omega) _).trans (hb.mono (by simp;omega))).setCell (by simp;omega) _|>.setCell (by simp) _|>.setCell (by simp) _)
theorem Ns (t:ByteArray) (a a':Option Addr) (cap zA:Nat) (ss:List ByteArray) (w:World) (zC:Ae w w.heap.size a ss) (zB:Ae w w.heap.size a' ss) (hl:ss.length<=1048576):
 Calls prog 33 #[.agg #[.string t,.slice a ss.length cap],.agg #[.string t,.slice a' ss.length zA]] w fun e w'=>e=.returned (.bool true)/\Xz w w':=by
 have hb:Below w.heap.size w ((w.alloc (.cells #[.string t,.slice a ss.length cap] 66)).alloc (.cells #[.string t,.slice a' ss.length zA] 66)):=(XA).alloc (by simp) _;go_enter func33,ntmps33;go_wp2_with (go_at_call 14;refine(GR a a' cap zA ss _ _ _ (zC.below hb) (zB.below hb) hl).mono ?_;rintro e w' ⟨rfl,n,rfl⟩);go_ret;exact⟨rfl,BP hb n⟩
def Fq (wd:Int) (ss:List ByteArray) (i:Nat):Bool:=
 match ss[i]? with
 |none=>true
 |some s=>decide ((s.size:Int)=wd)&&(match i with
  |0=>true
  |j+1=>match ss[j]? with
   |none=>true
   |some r=>Op.bytesLess r.toList s.toList)
def Da (wd:Int) (ss:List ByteArray):Bool:=(List.range ss.length).all (Fq wd ss)
theorem FM {wd:Int} {ss:List ByteArray} {s:ByteArray} (h:ss[0]?=some s):Fq wd ss 0=decide ((s.size:Int)=wd):=by simp[Fq,h]
theorem Dq {wd:Int} {ss:List ByteArray} {j:Nat} {s r:ByteArray} (h:ss[j+1]?=some s) (h':ss[j]?=some r):Fq wd ss (j+1)=(decide ((s.size:Int)=wd)&&Op.bytesLess r.toList s.toList):=by simp[Fq,h,h']
theorem ED {wd:Int} {ss:List ByteArray} {k:Nat} (hk:k<ss.length) (h:Fq wd ss k=false):Da wd ss=false:=by
 unfold Da;rw[List.all_eq_false];exact⟨k,by simpa using hk,by simp[h]⟩
theorem Jy {wd:Int} {ss:List ByteArray} (h:∀i,i<ss.length->Fq wd ss i=true):Da wd ss=true:=by
 unfold Da;rw[List.all_eq_true];intro i hi;exact h i (by simpa using hi)
theorem Gt {p:Nat->Prop} {k:Nat} (h:∀i,i<k->p i) (hk:p k):∀i,i<k+1->p i:=by
 intro i hi;rcases Nat.lt_or_ge i k with h'|h'
 ·exact h i h'
 ·obtain rfl:i=k:=by omega
  exact hk
theorem Ao {a b:Bool} (h:a=b):Ending.returned (.bool a)=.returned (.bool b):=by rw[h]
theorem Kr (a:Option Addr) (cap:Nat) (ss:List ByteArray) (wd:Int) (w:World) (B:Nat) (zE:Ae w B a ss) (hl:ss.length<=1048576):
 Calls prog 242 #[.slice a ss.length cap,XJ wd] w fun e w'=>e=.returned (.bool (decide (ss.length<=30)&&Da wd ss))/\w'=w:=by
 by_cases hn:30<ss.length
 ·go_enter func242,ntmps242
  go_wp2;go_ret;exact⟨Ao (by simp;omega),rfl⟩
 ·have zH:Hid (decide (ss.length<=30)=true):=by show _=_;simp;omega
  go_enter func242,ntmps242;go_wp2
  go_loop [12] (fun i=>∃k:Nat,k<=ss.length/\i=XJ k/\Hid (∀i,i<k->Fq wd ss i=true)) (fun i=>ss.length -(intOf i).toNat)
  case atStart=>exact⟨0,Nat.zero_le _,rfl,fun i h=>by omega⟩
  case round=>
   obtain⟨k,hk,rfl,zB⟩:=hrel;by_cases hlt:k<ss.length
   ·obtain⟨b,off,ha,hb,hc⟩:=zE.at hlt
    subst ha;have zC:Hid _:=XD hlt;have zG:=hc k ss[k] zC
    match k,hk,hlt,zB,zC,zG with
    |0,hk,hlt,zB,zC,zG=>
     rw[Nat.add_zero] at zG;clear hc zE;generalize ss[0]=s at *
     by_cases hsz:(s.size:Int)=wd
     ·have hz:((s.size:Int)==wd)=true:=by simpa using hsz
      have HZ:Hid _:=hsz;clear hsz;go_wp2;exact⟨⟨1,by omega,rfl,Gt zB (by rw[FM zC];simpa using HZ.o)⟩,by simp[intOf];omega⟩
     ·have hz:((s.size:Int)==wd)=false:=by simpa using hsz
      have HZ:Hid _:=hsz;clear hsz;go_wp2;go_ret;exact⟨Ao (by rw[ED hlt (by rw[FM zC,decide_eq_false HZ.o])];simp),rfl⟩
    |j+1,hk,hlt,zB,zC,zG=>
     have zF:Hid (ss[j]?=some ss[j]):=XD (by omega);have zI:=hc j ss[j] zF;clear hc zE;generalize ss[j+1]=s at *
     generalize ss[j]=r at *
     by_cases hsz:(s.size:Int)=wd
     ·have hz:((s.size:Int)==wd)=true:=by simpa using hsz
      have HZ:Hid _:=hsz;clear hsz;by_cases zA:Op.bytesLess r.toList s.toList=true
      ·go_wp2
       exact⟨⟨j+1+1,by omega,by go_num,Gt zB (by rw[Dq zC zF];simp[HZ.o,zA])⟩,by simp[intOf];omega⟩
      ·have zA:Op.bytesLess r.toList s.toList=false:=by simpa using zA
       go_wp2;go_ret;exact⟨Ao (by rw[ED hlt (by rw[Dq zC zF];simp[zA])];simp),rfl⟩
     ·have hz:((s.size:Int)==wd)=false:=by simpa using hsz
      have HZ:Hid _:=hsz;clear hsz;go_wp2;go_ret;exact⟨Ao (by rw[ED hlt (by rw[Dq zC zF,decide_eq_false HZ.o];rfl)];simp),rfl⟩
   ·go_wp2
    go_ret;exact⟨Ao (by rw[Jy (fun i hi=>zB i (by omega)),zH.o];rfl),rfl⟩
def AH (t:ByteArray) (ss:List ByteArray) (wd:Int):Bool:=decide (1<=wd/\wd<=8)&&(decide (t.size<=2000)&&(decide (ss.length<=30)&&Da wd ss))
theorem Fs {t:ByteArray} {ss:List ByteArray} {wd:Int} (h:¬(1<=wd/\wd<=8)):AH t ss wd=false:=by
 unfold AH;rw[decide_eq_false h];rfl
theorem IS {t:ByteArray} {ss:List ByteArray} {wd:Int} (h:¬t.size<=2000):AH t ss wd=false:=by
 unfold AH;rw[decide_eq_false h];simp
theorem Nt {t:ByteArray} {ss:List ByteArray} {wd:Int} (h:¬ss.length<=30):AH t ss wd=false:=by
 unfold AH;rw[decide_eq_false h];simp
theorem GI {t:ByteArray} {ss:List ByteArray} {wd:Int} (h:Da wd ss=false):AH t ss wd=false:=by
 unfold AH;rw[h];simp
theorem Nu {t:ByteArray} {ss:List ByteArray} {wd:Int} (h1:1<=wd) (h2:wd<=8) (h3:t.size<=2000) (h4:ss.length<=30) (h5:Da wd ss=true):AH t ss wd=true:=by
 unfold AH;rw[h5];simp[h1,h2,h3,h4]
theorem DJ (t:ByteArray) (a:Option Addr) (cap:Nat) (ss:List ByteArray) (wd:Int) (w:World) (zA:Ae w w.heap.size a ss) (hl:ss.length<=1048576) (ht:t.size<=maxLen):
 Calls prog 221 #[.agg #[.string t,.slice a ss.length cap],XJ wd] w fun e w'=>e=.returned (.bool (AH t ss wd))/\w'=w.alloc (.cells #[.string t,.slice a ss.length cap] 66):=by
 have hb:Below w.heap.size w (w.alloc (.cells #[.string t,.slice a ss.length cap] 66)):=XA;unfold maxLen at ht;by_cases h1:1<=wd
 ·by_cases h2:wd<=8
  ·by_cases h3:t.size<=2000
   ·go_enter func221,ntmps221
    go_wp2_with (first
     |(go_at_call 242;refine(Kr a cap ss wd _ w.heap.size (zA.below hb) hl).mono ?_;rintro e w' ⟨rfl,rfl⟩)
     |go_in)
    go_ret;exact⟨Ao (by simp[AH,h1,h2,h3]),rfl⟩
   ·have zB:decide ((t.size:Int)<=2000)=false:=by simp;omega
    go_enter func221,ntmps221;go_wp2;go_ret;exact⟨Ao (IS (by omega)).symm,rfl⟩
  ·have zC:decide (wd<=8)=false:=by simp;omega
   go_enter func221,ntmps221;go_wp2;go_ret;exact⟨Ao (Fs (by omega)).symm,rfl⟩
 ·go_enter func221,ntmps221
  go_wp2;go_ret;exact⟨Ao (Fs (by omega)).symm,rfl⟩
theorem CP (t:ByteArray) (a:Option Addr) (cap:Nat) (ss:List ByteArray) (wd:Int) (w:World) (zE:Ae w w.heap.size a ss) (hl:ss.length<=1048576) (ht:t.size<=maxLen):
 Calls prog 127 #[.agg #[.string t,.slice a ss.length cap],XJ wd] w fun e w'=>e=.returned (.bool (AH t ss wd))/\Xz w w':=by
 have hb:Below w.heap.size w (w.alloc (.cells #[.string t,.slice a ss.length cap] 66)):=XA;unfold maxLen at ht;by_cases h1:1<=wd
 ·by_cases h2:wd<=8
  ·by_cases h3:t.size<=2000
   ·have zI:decide (2000<(t.size:Int))=false:=by simp;omega
    by_cases h4:ss.length<=30
    ·have zH:decide (30<(ss.length:Int))=false:=by simp;omega
     go_enter func127,ntmps127;go_wp2
     go_loopw [5] (fun i wr=>∃k n:Nat,k<=ss.length/\i=XJ k/\Hid (∀i,i<k->Fq wd ss i=true)/\wr=(w.alloc (.cells #[.string t,.slice a ss.length cap] 66)).drewN n) (fun i _=>ss.length -(intOf i).toNat)
     case atStart=>exact⟨0,0,Nat.zero_le _,rfl,fun i h=>by omega,rfl⟩
     case round=>
      obtain⟨k,n,hk,rfl,zB,rfl⟩:=hrel;by_cases hlt:k<ss.length
      ·obtain⟨b,off,ha,zK,hc⟩:=zE.at hlt
       subst ha;have zC:Hid (ss[k]?=some ss[k]):=XD hlt;have zG:=hc k ss[k] zC
       match k,hk,hlt,zB,zC,zG with
       |0,hk,hlt,zB,zC,zG=>
        rw[Nat.add_zero] at zG;clear hc zE;generalize ss[0]=s at *
        by_cases hsz:(s.size:Int)=wd
        ·have hz:((s.size:Int) !=wd)=false:=by simpa using hsz
         have HZ:Hid _:=hsz;clear hsz;go_wp2;go_quiet (fail);go_wp2;exact⟨⟨1,_,by omega,rfl,Gt zB (by rw[FM zC];simpa using HZ.o),rfl⟩,by simp[intOf];omega⟩
        ·have hz:((s.size:Int) !=wd)=true:=by simpa using hsz
         have HZ:Hid _:=hsz;clear hsz;go_wp2;go_quiet (fail);go_wp2;go_ret;exact⟨Ao (GI (ED hlt (by rw[FM zC,decide_eq_false HZ.o]))).symm,BP (BP hb _) _⟩
       |j+1,hk,hlt,zB,zC,zG=>
        have zF:Hid (ss[j]?=some ss[j]):=XD (by omega);have zJ:=hc j ss[j] zF;clear hc zE;generalize ss[j+1]=s at *
        generalize ss[j]=r at *
        by_cases hsz:(s.size:Int)=wd
        ·have hz:((s.size:Int) !=wd)=false:=by simpa using hsz
         have HZ:Hid _:=hsz;clear hsz;by_cases zA:Op.bytesLess r.toList s.toList=true
         ·go_wp2
          go_quiet (fail);go_wp2;exact⟨⟨j+1+1,_,by omega,by go_num,Gt zB (by rw[Dq zC zF];simp[HZ.o,zA]),rfl⟩,by simp[intOf];omega⟩
         ·have zA:Op.bytesLess r.toList s.toList=false:=by simpa using zA
          go_wp2;go_quiet (fail);go_wp2;go_ret;exact⟨Ao (GI (ED hlt (by rw[Dq zC zF];simp[zA]))).symm,BP (BP hb _) _⟩
        ·have hz:((s.size:Int) !=wd)=true:=by simpa using hsz
         have HZ:Hid _:=hsz;clear hsz;go_wp2;go_quiet (fail);go_wp2;go_ret;exact⟨Ao (GI (ED hlt (by rw[Dq zC zF,decide_eq_false HZ.o];rfl))).symm,BP (BP hb _) _⟩
      ·go_wp2
       go_ret;exact⟨Ao (Nu h1 h2 h3 h4 (Jy (fun i hi=>zB i (by omega)))).symm,BP hb _⟩
    ·have zH:decide (30<(ss.length:Int))=true:=by simp;omega
     go_enter func127,ntmps127;go_wp2;go_ret;exact⟨Ao (Nt (by omega)).symm,hb⟩
   ·have zI:decide (2000<(t.size:Int))=true:=by simp;omega
    go_enter func127,ntmps127;go_wp2;go_ret;exact⟨Ao (IS (by omega)).symm,hb⟩
  ·have zM:decide (wd<=8)=false:=by simp;omega
   go_enter func127,ntmps127;go_wp2;go_ret;exact⟨Ao (Fs (by omega)).symm,hb⟩
 ·go_enter func127,ntmps127
  go_wp2;go_ret;exact⟨Ao (Fs (by omega)).symm,hb⟩
end Go.Proofs.YtpekbmegopfhfaaGreatDoor
namespace Go.Proofs
open Go.Shelf Go.RowKit
def Tryz.lays169_ren:Go.Shelf.Ren:=⟨fun|169=>226|n=>n,fun|70=>283|9=>9|0=>0|72=>285|37=>143|127=>302|3=>3|5=>5|n=>n,fun|n=>n⟩
theorem Tryz.lays169:Go.Proofs.Lays.n169 Tryz.prog Tryz.lays169_ren:={
 mixed:=by kernel_rfl
 f169:=Tryz.func226.trans (congrArg some (by kernel_rfl))
 t0:=Tryz.underlying0
 a0:=Tryz.isAgg0
 z0:=Tryz.sizeOf0
 v0:=Tryz.zeroValue0
 t3:=Tryz.underlying3
 a3:=Tryz.isAgg3
 z3:=Tryz.sizeOf3
 v3:=Tryz.zeroValue3
 t9:=Tryz.underlying9
 a9:=Tryz.isAgg9
 z9:=Tryz.sizeOf9
 v9:=Tryz.zeroValue9
 t37:=Tryz.underlying143
 a37:=Tryz.isAgg143
 z37:=Tryz.sizeOf143
 v37:=Tryz.zeroValue143
 t70:=Tryz.underlying283
 a70:=Tryz.isAgg283
 z70:=Tryz.sizeOf283
 v70:=Tryz.zeroValue283
 t72:=Tryz.underlying285
 a72:=Tryz.isAgg285
 z72:=Tryz.sizeOf285
 v72:=Tryz.zeroValue285
 t127:=Tryz.underlying302
 a127:=Tryz.isAgg302
 z127:=Tryz.sizeOf302
 v127:=Tryz.zeroValue302}
theorem Tryz.Builder_Extra_169:Builder.Extra Tryz.prog Tryz.lays169_ren:={
 sizeBuilder:=by kernel_rfl
 liesBuilder:=by kernel_rfl
 t5:=Tryz.underlying5
 a5:=Tryz.isAgg5
 z5:=Tryz.sizeOf5
 v5:=Tryz.zeroValue5
 infoByte:=by kernel_rfl
 cellsByte:=by kernel_rfl
 sizeByte:=by kernel_rfl
 neB5:=by decide}
theorem Tryz.Builder_String_any (B b:Nat) (l:List UInt8) (w:World) (h:Lib.IsBuilder 285 5 B b (Lib.byteCells l) w) (zA:B<=w.heap.size):
 Calls Tryz.prog 226 #[.pointer (some ⟨b,0,none⟩)] w fun e w'=>e=.returned (.string ⟨l.toArray⟩)/\Below B w w':=
 Any.Builder_String_any Tryz.lays169 Tryz.Builder_Extra_169 B b l w h zA
namespace YtpekbmegopfhfaaGreatDoor
open Go.ChangeShapes Go.WideShapes Go.ChangeAt
theorem Hw (B b:Nat) (bs:List Value) (w:World) (h:Lib.IsBuilder 285 5 B b bs w):
 Calls Tryz.prog 243 #[.pointer (some ⟨b,0,none⟩)] w fun e w'=>e=.returned (.tuple #[])/\Lib.BuilderAt 285 5 B b (.pointer (some ⟨b,0,none⟩)) bs w'/\Below B w w':=by
 have X:=Tryz.Builder_Extra_169;obtain⟨j,hj,zB⟩:=Option.map_eq_some_iff.1 X.sizeBuilder;rcases h with h|h
 ·have h0:=h.cell0
  have zA:=h.shape;have zC:=h.frozen0;go_enter Tryz.func243,Tryz.ntmps243;go_wp2;rw[Lib.run_to_unsafe w ⟨b,0,none⟩ Tryz.underlying283 Tryz.underlying215 hj (by rw[zB];decide) zA (Nat.zero_lt_succ 1)];simp only[Result.andThen];rw[Oper.upon_value];go_wp2;rw[run_callFunc_extern Tryz.func256 (by kernel_rfl) (by kernel_rfl) (by kernel_rfl) (e:=Extern.AbiNoEscape.same) (by kernel_rfl)]
  rw[Lib.run_noEscape];simp only[Result.andThen];rw[Oper.upon_value];go_wp2;rw[Lib.run_from_unsafe w ⟨b,0,none⟩ Tryz.underlying215 Tryz.underlying283 hj zA X.liesBuilder];simp only[Result.andThen];rw[Oper.upon_value];go_wp2
  go_end0
  exact⟨rfl,h.used _,(Below.refl B w).setCell (p:=⟨b,0,none⟩) h.1 _⟩
 ·have h0:=h.cell0
  go_enter Tryz.func243,Tryz.ntmps243;go_wp2;rw[Lib.run_neq_ptr_same w _ Tryz.underlying283 hj];go_wp2
  go_end0
  exact⟨rfl,h,Below.refl B _⟩
theorem LB (B b:Nat) (bs:List Value) (c:Int) (w:World) (h:Lib.IsBuilder 285 5 B b bs w) (zN:bs.length+1<=140737488355328) (zO:B<=w.heap.size):
 Calls Tryz.prog 224 #[.pointer (some ⟨b,0,none⟩),.int .u8 c] w fun e w'=>e=.returned .nilIface/\Lib.IsBuilder 285 5 B b (bs++[.int .u8 c]) w'/\Below B w w':=by
 have X:=Tryz.Builder_Extra_169;obtain⟨i0,hi,zK,zH,zM⟩:=info_parts X.infoByte;go_enter Tryz.func224,Tryz.ntmps224;go_wp2_with (go_at_call 243;refine(Hw B b bs _ h).mono ?_);rintro e w1 ⟨rfl,h1,zE⟩;obtain⟨hB,v,zG,zC,zJ⟩:=h1;have c1:w1.cell? (XL b 1)=some v:=by rw[Lib.cell_of_heap zG];rfl
 go_wp2_with (at_builtin;refine wpList_append_own _ rfl _ _ 143 rfl B 5 i0 (.int .u8 0) 1 1 Tryz.underlying143 hi zK zH zM rfl (by decide) _ _ _ rfl (zC.alloc _) ⟨w1.heap.size,0,none⟩ 1 1 [.int .u8 c] rfl rfl ?c1 ?c2 ?c3 ?c4 ?c5 ?_)
 case c1=>
  intro j u hj
  match j,hj with
  |0,hj=>simp at hj;subst hj;simp[Addr.add]
 case c2=>intro u hu;simp at hu;subst hu;rfl
 case c3=>unfold maxLen;omega
 case c4=>omega
 case c5=>have:=zE.size;simp;omega
 intro v' w2 zB zA _;have zI:b<w1.heap.size:=by
  rcases Nat.lt_or_ge b w1.heap.size with h'|h'
  ·exact h'
  ·simp[Array.getElem?_eq_none h'] at zG
 have zF:w2.heap[b]?=some (.cells #[.pointer (some ⟨b,0,none⟩),v] 285 (0,0)):=by
  rw[zA.block b (by simp;omega) (fun e=>zJ e.symm),Lib.alloc_old _ _ _ zI];exact zG
 have d1:w2.cell? (XL b 1)=some v:=by rw[Lib.cell_of_heap zF];rfl
 have f1:=Lib.frozen_of_heap zF 1;obtain⟨ao,n',cap,rfl⟩:∃ao n' cap,v'=.slice ao n' cap:=by
  rcases zB.2 with⟨hv,_⟩|⟨g,cap,zP,hv,_⟩
  ·exact⟨_,_,_,hv⟩
  ·exact⟨_,_,_,hv⟩
 go_wp2;go_ret;refine⟨rfl,.inr ?_,?_⟩
 ·exact Lib.BuilderAt.put (T:=285) (e:=5) hB zF (bs':=bs++[.int .u8 c]) (by simpa using zB) X.neB5
 ·exact((zE.alloc (by have:=zE.size;omega) _).grown zA (by have:=zE.size;simp;omega) (fun k hk=>(zC.lt k hk).1)).setCell (p:=⟨b,1,none⟩) hB _
theorem Gu (B b:Nat) (bs:List Value) (s:ByteArray) (w:World) (h:Lib.IsBuilder 285 5 B b bs w) (zO:bs.length+s.size<=140737488355328) (zP:B<=w.heap.size):
 Calls Tryz.prog 225 #[.pointer (some ⟨b,0,none⟩),.string s] w fun e w'=>e=.returned (.tuple #[XJ s.size,.nilIface])/\Lib.IsBuilder 285 5 B b (bs++Lib.byteCells s.data.toList) w'/\Below B w w':=by
 have X:=Tryz.Builder_Extra_169;obtain⟨i0,hi,zM,zI,zN⟩:=info_parts X.infoByte;go_enter Tryz.func225,Tryz.ntmps225;go_wp2_with (go_at_call 243;refine(Hw B b bs _ h).mono ?_);rintro e w1 ⟨rfl,h1,zF⟩;obtain⟨hB,v,zG,zC,zK⟩:=h1;have c1:w1.cell? (XL b 1)=some v:=by rw[Lib.cell_of_heap zG];rfl
 go_wp2_with (at_builtin;refine Lib.wpList_append_own_string _ rfl _ _ 143 9 rfl B 5 i0 Tryz.underlying143 Tryz.underlying9 hi zM zI zN _ _ _ rfl zC s rfl ?c3 ?c4 ?c5 ?_)
 case c3=>unfold maxLen;omega
 case c4=>omega
 case c5=>have:=zF.size;omega
 intro v' w2 zB zA _;have zJ:b<w1.heap.size:=by
  rcases Nat.lt_or_ge b w1.heap.size with h'|h'
  ·exact h'
  ·simp[Array.getElem?_eq_none h'] at zG
 have zE:w2.heap[b]?=some (.cells #[.pointer (some ⟨b,0,none⟩),v] 285 (0,0)):=by
  rw[zA.block b zJ (fun e=>zK e.symm)];exact zG
 have d1:w2.cell? (XL b 1)=some v:=by rw[Lib.cell_of_heap zE];rfl
 have f1:=Lib.frozen_of_heap zE 1;obtain⟨ao,n',cap,rfl⟩:∃ao n' cap,v'=.slice ao n' cap:=by
  rcases zB.2 with⟨hv,_⟩|⟨g,cap,zR,hv,_⟩
  ·exact⟨_,_,_,hv⟩
  ·exact⟨_,_,_,hv⟩
 go_wp2
 go_ret2
 refine⟨rfl,.inr ?_,?_⟩
 ·have zH:Lib.strCells s=Lib.byteCells s.data.toList:=rfl
  rw[←zH];exact Lib.BuilderAt.put (T:=285) (e:=5) hB zE (bs':=bs++Lib.strCells s) (by simpa [Lib.strCells_length] using zB) X.neB5
 ·exact(zF.grown zA (by have:=zF.size;omega) (fun k hk=>(zC.lt k hk).1)).setCell (p:=⟨b,1,none⟩) hB _
end YtpekbmegopfhfaaGreatDoor
end Go.Proofs
namespace Go.Proofs.YtpekbmegopfhfaaGreatDoor
open Go.ChangeShapes Go.WideShapes Go.ChangeAt Go.RowKit _root_.Go.Proofs.Tryz
end Go.Proofs.YtpekbmegopfhfaaGreatDoor
