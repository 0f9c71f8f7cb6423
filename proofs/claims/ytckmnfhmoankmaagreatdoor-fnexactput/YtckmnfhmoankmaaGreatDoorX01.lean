import Derived.Test.YtckmnfhmoankmaaGreatDoorProg
import Derived.WalkKit
import Derived.ProofKit
import Derived.Deep.AppendLies
import Derived.Deep.QuietTactic
import Derived.BigQuiet
import Derived.Deep.Onto
import Derived.Laws.Cover1
import Derived.Deep.RegionWith
import Derived.Shelf.Strings.Builder1
import Derived.Lib.AppendStr
set_option maxRecDepth 100000
set_option maxHeartbeats 16000000
namespace Go.Proofs.YtckmnfhmoankmaaGreatDoor
open Go.ChangeShapes Go.WideShapes Go.ChangeAt Go.RowKit _root_.Go.Proofs.Tryz
abbrev Zz (w w':World):Prop:=Below w.heap.size w w'
theorem Zy {w:World} {o:Obj}:Below w.heap.size w (w.alloc o):=(Below.refl _ _).alloc (Nat.le_refl _) _
theorem Zx {n:Nat}:n<=n:=Nat.le_refl n
theorem Zw {α:Type _} {l:List α} {i:Nat} {a:α} (h:l[i]?=some a):∃h:i<l.length,l[i]=a:=List.getElem?_eq_some_iff.1 h
theorem Zv {α:Type _} {l:List α} {i:Nat} (h:i<l.length):l[i]?=some l[i]:=List.getElem?_eq_getElem h
theorem Zu {α:Type _} {i:Nat} {l:List α} (h:i<l.length):l.take (i+1)=l.take i++[l[i]]:=List.take_succ_eq_append_getElem h
theorem Zt {α:Type _} {i:Nat} {l:List α} (h:l.length<=i):l.take i=l:=List.take_of_length_le h
theorem Zs {α:Type _} {l:List α} {i:Nat} {a:α} (h:l[i]?=some a):a∈l:=List.mem_of_getElem? h
theorem Zr {a b c:Nat} (h:a<b) (k:b<=c):a<c:=Nat.lt_of_lt_of_le h k
theorem Zq {α:Type _} (l:List α) (i:Nat) (a:α):l.toArray.setIfInBounds i a=(l.set i a).toArray:=List.setIfInBounds_toArray l i a
theorem Zp {α:Type _} {x a:α} {l:List α}:(x::l).set 0 a=a::l:=List.set_cons_zero
theorem Zo {α:Type _} {x a:α} {l:List α} {i:Nat}:(x::l).set (i+1) a=x::l.set i a:=List.set_cons_succ
theorem Zn {a b:Prop} (x:a) (y:b):a/\b:=⟨x,y⟩
theorem Zm {a b c:Nat} (h:a<=b) (k:b<=c):a<=c:=Nat.le_trans h k
theorem _root_.Go.RowKit.Hid.o {p:Prop} (h:Hid p):p:=h
abbrev _root_.Go.Proofs.Zl:=List ByteArray
abbrev _root_.Go.Proofs.Zk:=Option Addr
abbrev _root_.Go.Proofs.Zj:=List Value
abbrev _root_.Go.Proofs.Zi:=ByteArray
abbrev _root_.Go.Proofs.Zh:=World
abbrev Zg (n:Int):Value:=.int .i64 n
abbrev Zf:Value:=.int .i64 0
abbrev Ze (b k:Nat):Addr:=⟨b,k,none⟩
abbrev Zd:Value:=.string ⟨#[]⟩
abbrev Zc:Value:=.slice none 0 0
theorem Zb {a b:Prop} (x:a) (y:b):a/\b:=⟨x,y⟩
abbrev _root_.Go.Proofs.Za(b n c:Nat):Value:=.slice (some ⟨b,0,none⟩) n c
abbrev _root_.Go.Proofs.Yz(b:Nat):Value:=.pointer (some ⟨b,0,none⟩)
abbrev _root_.Go.Proofs.Yy(b k:Nat):Value:=.pointer (some ⟨b,k,none⟩)
theorem _root_.Go.Proofs.Yx{p:Prop}(h:p):Hid p:=h
abbrev Yw(f:Nat->Int):Array Value:=#[.int .u8 (f 0),.int .u8 (f 1),.int .u8 (f 2),.int .u8 (f 3),.int .u8 (f 4),.int .u8 (f 5),.int .u8 (f 6),.int .u8 (f 7)]
abbrev Yv(f:Nat->Int):List Value:=[.int .u8 (f 0),.int .u8 (f 1),.int .u8 (f 2),.int .u8 (f 3),.int .u8 (f 4),.int .u8 (f 5),.int .u8 (f 6),.int .u8 (f 7)]
abbrev Yu:Array Value:=#[.int .i64 0,.int .i64 0,.int .i64 0,.int .i64 0,.slice none 0 0,.slice none 0 0,.slice none 0 0]
abbrev Yt(a b c d:Int)(e:Option Addr)(f g:Nat)(h:Option Addr)(i j:Nat)(k:Option Addr)(l m:Nat):List Value:=[.int .i64 a,.int .i64 b,.int .i64 c,.int .i64 d,.slice e f g,.slice h i j,.slice k l m]
abbrev Ys(a b c d:Int)(e:Option Addr)(f g:Nat)(h:Option Addr)(i j:Nat)(k:Option Addr)(l m:Nat):Array Value:=#[.int .i64 a,.int .i64 b,.int .i64 c,.int .i64 d,.slice e f g,.slice h i j,.slice k l m]
abbrev Yr(a:Int)(e:Option Addr)(f g:Nat)(h:Option Addr)(i j:Nat)(b c d:Int):Array Value:=#[.int .i64 a,.slice e f g,.slice h i j,.int .i64 b,.int .i64 c,.int .i64 d]
abbrev Yq:Array Value:=#[.int .i64 0,.slice none 0 0,.slice none 0 0,.int .i64 0,.int .i64 0,.int .i64 0]
abbrev Yp:Array Value:=#[.int .i64 0,.string ⟨#[]⟩,.string ⟨#[]⟩,.int .i64 0,.string ⟨#[]⟩,.slice none 0 0]
abbrev Yo:List Value:=[.int .i64 0,.string ⟨#[]⟩,.string ⟨#[]⟩,.int .i64 0,.string ⟨#[]⟩,.slice none 0 0]
abbrev Yn(a:Int)(b c:ByteArray)(d:Int)(e:ByteArray)(f:Option Addr)(g h:Nat):List Value:=[.int .i64 a,.string b,.string c,.int .i64 d,.string e,.slice f g h]
abbrev Ym(a:Int)(b c:ByteArray)(d:Int)(e:ByteArray)(f:Option Addr)(g h:Nat):Array Value:=#[.int .i64 a,.string b,.string c,.int .i64 d,.string e,.slice f g h]
abbrev Yl:Array Value:=#[.int .i64 0,.int .i64 0,.int .i64 0,.int .i64 0,.int .i64 0,.slice none 0 0,.slice none 0 0,.slice none 0 0,.string ⟨#[]⟩,.int .i64 0,.string ⟨#[]⟩,.string ⟨#[]⟩]
abbrev Yk(a:Int):Array Value:=#[.int .i64 a,.int .i64 0,.int .i64 0,.int .i64 0,.int .i64 0,.slice none 0 0,.slice none 0 0,.slice none 0 0,.string ⟨#[]⟩,.int .i64 0,.string ⟨#[]⟩,.string ⟨#[]⟩]
abbrev Yj(a:Int)(e:Option Addr)(f g:Nat)(h:Option Addr)(i j:Nat)(b c d:Int):List Value:=[.int .i64 a,.slice e f g,.slice h i j,.int .i64 b,.int .i64 c,.int .i64 d]
abbrev Yi:List Value:=[.int .i64 0,.int .i64 0,.int .i64 0,.int .i64 0,.slice none 0 0,.slice none 0 0,.slice none 0 0]
abbrev Yh(a:Int):List Value:=[.int .i64 a,.int .i64 0,.int .i64 0,.int .i64 0,.int .i64 0,.slice none 0 0,.slice none 0 0,.slice none 0 0,.string ⟨#[]⟩,.int .i64 0,.string ⟨#[]⟩,.string ⟨#[]⟩]
abbrev Yb:List Value:=[.int .i64 0,.int .i64 0,.slice none 0 0,.slice none 0 0,.int .i64 0,.int .i64 0,.int .i64 0,.int .i64 0,.slice none 0 0,.slice none 0 0,.slice none 0 0,.int .i64 0,.slice none 0 0,.slice none 0 0,.int .i64 0,.int .i64 0,.int .i64 0]
abbrev Ya:Array Value:=#[.int .i64 0,.int .i64 0,.int .i64 0,.slice none 0 0,.slice none 0 0,.int .i64 0,.int .i64 0,.int .i64 0,.int .i64 0,.slice none 0 0,.slice none 0 0,.slice none 0 0,.int .i64 0,.slice none 0 0,.slice none 0 0,.int .i64 0,.int .i64 0,.int .i64 0,.string ⟨#[]⟩,.int .i64 0,.string ⟨#[]⟩,.string ⟨#[]⟩]
abbrev Xz(a:Int):List Value:=[.int .i64 a,.int .i64 0,.int .i64 0,.slice none 0 0,.slice none 0 0,.int .i64 0,.int .i64 0,.int .i64 0,.int .i64 0,.slice none 0 0,.slice none 0 0,.slice none 0 0,.int .i64 0,.slice none 0 0,.slice none 0 0,.int .i64 0,.int .i64 0,.int .i64 0,.string ⟨#[]⟩,.int .i64 0,.string ⟨#[]⟩,.string ⟨#[]⟩]
abbrev Xy(a:Int):Array Value:=#[.int .i64 a,.int .i64 0,.int .i64 0,.slice none 0 0,.slice none 0 0,.int .i64 0,.int .i64 0,.int .i64 0,.int .i64 0,.slice none 0 0,.slice none 0 0,.slice none 0 0,.int .i64 0,.slice none 0 0,.slice none 0 0,.int .i64 0,.int .i64 0,.int .i64 0,.string ⟨#[]⟩,.int .i64 0,.string ⟨#[]⟩,.string ⟨#[]⟩]
abbrev Xx:Array Value:=#[.int .i64 0,.int .i64 0,.slice none 0 0,.slice none 0 0,.int .i64 0,.int .i64 0,.int .i64 0,.int .i64 0,.slice none 0 0,.slice none 0 0,.slice none 0 0,.int .i64 0,.slice none 0 0,.slice none 0 0,.int .i64 0,.int .i64 0,.int .i64 0]
abbrev Xw:List Value:=[.int .i64 0,.slice none 0 0,.slice none 0 0,.int .i64 0,.int .i64 0,.int .i64 0]
abbrev Xv:List Value:=[.int .i64 0,.int .i64 0,.int .i64 0,.slice none 0 0,.slice none 0 0,.int .i64 0,.int .i64 0,.int .i64 0,.int .i64 0,.slice none 0 0,.slice none 0 0,.slice none 0 0,.int .i64 0,.slice none 0 0,.slice none 0 0,.int .i64 0,.int .i64 0,.int .i64 0,.string ⟨#[]⟩,.int .i64 0,.string ⟨#[]⟩,.string ⟨#[]⟩]
theorem Kz{k:IntKind}{a b:Int}(h:a=b):Ending.returned (.int k a)=.returned (.int k b):=by rw[h]
def Ad(w:Zh)(B:Nat)(a:Zk)(ss:Zl):Prop:=
 ss=[]∨∃b off,a=some ⟨b,off,none⟩/\b<B/\∀i s,ss[i]?=some s->w.cell? (Ze b (off+i))=some (.string s)
theorem Ad.below{w f:Zh}{B:Nat}{a:Zk}{e:Zl}(h:Ad w B a e)(j:Below B w f):Ad f B a e:=by
 rcases h with h|⟨b,d,g,c,k⟩
 ·exact .inl h
 ·exact .inr ⟨b,d,g,c,fun i s l=>(j.cell (p:=⟨b,d+i,none⟩) c).trans (k i s l)⟩
theorem Ad.mono{w:Zh}{B B':Nat}{a:Zk}{c:Zl}(h:Ad w B a c)(i:B<=B'):Ad w B' a c:=by
 rcases h with h|⟨b,d,e,g,f⟩
 ·exact .inl h
 ·exact .inr ⟨b,d,e,by omega,f⟩
theorem Ad.at{w:Zh}{B:Nat}{a:Zk}{d:Zl}(h:Ad w B a d){k:Nat}(e:k<d.length):
 ∃b c,a=some ⟨b,c,none⟩/\b<B/\∀i s,d[i]?=some s->w.cell? (Ze b (c+i))=some (.string s):=by
 rcases h with h|h
 ·subst h;simp at e
 ·exact h
def aq(ss:Zl):Nat:=(ss.map ByteArray.size).sum
theorem Gj(a:Zl)(k:Nat)(s:Zi)(h:a[k]?=some s):aq (a.take (k+1))=aq (a.take k)+s.size:=by obtain⟨b,rfl⟩:=Zw h;unfold aq;rw[Zu b,List.map_append,List.sum_append];simp
theorem az(a:Zl)(k:Nat):aq (a.take k)<=aq a:=by
 have h:aq a=aq (a.take k)+aq (a.drop k):=by unfold aq;rw[←List.sum_append,←List.map_append,List.take_append_drop]
 omega
theorem PS(a:Zl)(k:Nat)(s:Zi)(h:a[k]?=some s):s.size<=aq a:=by have:=Gj a k s h;have:=az a (k+1);omega
theorem Ik(a:Zk)(h:Nat)(c:Zl)(left:Int)(w:Zh)(B:Nat)(d:Ad w B a c)
 (r:left<=1048576) (m:(c.length:Int)+aq c<=left):
 Calls prog 20 #[.slice a c.length h,Zg left] w fun e o=>e=.returned (Zg (left -c.length -aq c))/\o=w:=by
 go_enter func20,ntmps20;go_wp2
 go_loop [1,5] (fun l i=>∃k:Nat,k<=c.length/\i=Zg k/\l=Zg (left -c.length -aq (c.take k))) (fun _ i=>c.length -(intOf i).toNat)
 case atStart=>exact⟨0,Nat.zero_le _,rfl,by simp[aq]⟩
 case round=>
  obtain⟨k,u,rfl,rfl⟩:=hrel;by_cases hlt:k<c.length
  ·obtain⟨b,q,n,t,g⟩:=d.at hlt;subst n;have p:=g k c[k] (Zv hlt);have f:=Yx (Gj c k _ (Zv hlt));have j:=az c (k+1);rw[f.o]at j;clear g d;generalize c[k]=s at *
   go_wp2;refine⟨⟨k+1,by omega,by go_num,?_⟩,by simp[intOf];omega⟩;rw[f.o];go_num
  ·go_wp2;go_ret;exact⟨Kz (by rw[Zt (by omega)]),rfl⟩
theorem KB(a:Zk)(j:Nat)(c:Zl)(left:Int)(w:Zh)(B:Nat)(d:Ad w B a c)
 (p:c.length<=maxLen) (g:∀s∈c,s.size<=maxLen)
 (v:0<=left) (x:left<=1048576) (n:left<(c.length:Int)+aq c):
 Calls prog 20 #[.slice a c.length j,Zg left] w fun e q=>e=.returned (Zg (-1))/\q=w:=by
 unfold maxLen at p g;by_cases hn:left<c.length
 ·go_enter func20,ntmps20;go_wp2;go_ret;exact⟨rfl,rfl⟩
 ·go_enter func20,ntmps20;go_wp2
  go_loop [1,5] (fun l i=>∃k:Nat,k<=c.length/\i=Zg k/\l=Zg (left -c.length -aq (c.take k))/\(c.length:Int)+aq (c.take k)<=left) (fun _ i=>c.length -(intOf i).toNat)
  case atStart=>exact⟨0,Nat.zero_le _,rfl,by simp[aq],by simp[aq];omega⟩
  case round=>
   obtain⟨k,z,rfl,rfl,m⟩:=hrel;by_cases hlt:k<c.length
   ·obtain⟨b,u,o,y,h⟩:=d.at hlt;subst o;have r:=h k c[k] (Zv hlt);have f:=Yx (Gj c k _ (Zv hlt));have t:=g c[k] (List.getElem_mem hlt);clear h d g;generalize c[k]=s at *
    by_cases hgo:left -c.length -aq (c.take k) -s.size<0
    ·go_wp2;go_ret;exact⟨rfl,rfl⟩
    ·go_wp2;refine⟨⟨k+1,by omega,by go_num,?_,?_⟩,by simp[intOf];omega⟩
     ·rw[f.o];go_num
     ·rw[f.o];omega
   ·exfalso;rw[Zt (by omega)]at m;omega
theorem CP:(prog.info? 9).map (fun i=>(i.zero,i.size,i.bytes))=some (some Zd,1,16):=by kernel_rfl
theorem Ad.own{w:Zh}{base:Nat}{g c:Nat}{a:Zl}(h:w.ownsRow base 9 1 (Za g a.length c) a.length (a.map Value.string)):Ad w w.heap.size (some ⟨g,0,none⟩) a:=by refine .inr ⟨g,0,rfl,(h.lt g rfl).2,fun i s d=> ?_⟩;obtain⟨b,rfl⟩:=Zw d;rw[Nat.zero_add,h.cellAt i (by omega)];simp[b]
theorem TU(a:Zl)(k:Nat)(z:Value)(h:k<a.length):
 ((a.take k).map Value.string++List.replicate (a.length -k) z).set k (.string a[k])=(a.take (k+1)).map Value.string++List.replicate (a.length -(k+1)) z:=by
 have b:((a.take k).map Value.string).length=k:=by simp;omega
 obtain⟨m,c⟩:∃m,a.length -k=m+1:=⟨a.length -k -1,by omega⟩;rw[c,show a.length -(k+1)=m from by omega,List.set_append_right _ _ (by omega),b,Nat.sub_self,List.replicate_succ,Zp,Zu h,List.map_append,List.append_assoc];rfl
theorem Il(a:Zk)(x:Nat)(c:Zl)(w:Zh)(j:Ad w w.heap.size a c)(u:c.length<=1048576):
 Calls prog 26 #[.slice a c.length x] w fun e v=>∃g,e=.returned (Za g c.length c.length)/\w.heap.size<=g/\
  v.ownsRow w.heap.size 9 1 (Za g c.length c.length) c.length (c.map Value.string)/\Zz w v:=by
 obtain⟨G,F,z,A,B⟩:=info_parts CP;go_enter func26,ntmps26;go_wp2_with (at_make;refine wpList_make_full _ rfl _ _ 22 rfl w.heap.size 9 G Zd 1 underlying22 F z A .i64 .i64 _ _ c.length rfl rfl rfl rfl ?c1 ?c2 ?c3 ?_)
 case c1=>rw[B];omega
 case c2=>unfold maxLen;omega
 case c3=>exact Zx
 intro L d f;have y:=(Below.refl _ _).grown f (Zx) (by simp);rw[toList_madeCells_one]at d;clear f;go_wp2
 go_loopw [4] (fun i wr=>∃k:Nat,k<=c.length/\i=Zg k/\wr.ownsRow w.heap.size 9 1 (Za w.heap.size c.length c.length) c.length ((c.take k).map Value.string++List.replicate (c.length -k) Zd)/\Zz w wr) (fun i _=>c.length -(intOf i).toNat)
 case atStart=>exact⟨0,Nat.zero_le _,rfl,by simpa using d,y⟩
 case round=>
  obtain⟨k,K,rfl,d,h⟩:=hrel;by_cases hlt:k<c.length
  ·obtain⟨b,C,D,E,t⟩:=j.at hlt;subst D;have H:=(h.cell (p:=⟨b,C+k,none⟩) E).trans (t k c[k] (Zv hlt));have l:Hid (((c.take k).map Value.string++List.replicate (c.length -k) (Value.string ⟨#[]⟩)).set k (.string c[k])=(c.take (k+1)).map Value.string++List.replicate (c.length -(k+1)) Zd):=TU c k _ hlt;have q:=d.stored k (.string c[k]);have I:wr.cell? (Ze (w.heap.size) k)=some Zd:=by
    have u:((c.take k).map Value.string).length=k:=by simp;omega
    rw[d.cellAt k (by omega),List.getElem?_append_right (by omega),u,Nat.sub_self,List.getElem?_replicate,if_pos (by omega)]
   have J:=d.frozenAt k;rw[l.o]at q;obtain⟨m,n⟩:=q;have o:=h.setCell (p:=⟨w.heap.size,k,none⟩) (Zx) (.string c[k]);have r:Hid (_/\_):=Zn m o;clear t j m n o d l;generalize c[k]=s at *
   go_wp2;exact⟨⟨k+1,by omega,by go_num,r.o.1,r.o.2⟩,by simp[intOf];omega⟩
  ·go_wp2;go_ret;refine⟨_,rfl,Zx,?_,h⟩;rw[Zt (by omega),show c.length -k=0 from by omega]at d;simpa using d
theorem Im(a j:Zk)(m g:Nat)(c:Zl)(w:Zh)(B r:Nat)(f:Ad w B a c)(d:Ad w r j c)(D:c.length<=1048576):
 Calls prog 32 #[.slice a c.length m,.slice j c.length g] w fun e u=>e=.returned (.bool true)/\∃n,u=w.drewN n:=by
 go_enter func32,ntmps32;go_wp2
 go_loopw [5] (fun i wr=>∃k n:Nat,k<=c.length/\i=Zg k/\wr=w.drewN n) (fun i _=>c.length -(intOf i).toNat)
 case atStart=>exact⟨0,0,Nat.zero_le _,rfl,rfl⟩
 case round=>
  obtain⟨k,n,C,rfl,rfl⟩:=hrel;by_cases hlt:k<c.length
  ·obtain⟨b,y,t,A,l⟩:=f.at hlt;obtain⟨z,q,o,v,h⟩:=d.at hlt;subst t o;have x:=l k c[k] (Zv hlt);have p:=h k c[k] (Zv hlt);clear l h f d;generalize c[k]=s at *
   go_wp2;go_quiet (fail);go_wp2;exact⟨⟨k+1,_,by omega,by go_num,rfl⟩,by simp[intOf];omega⟩
  ·go_wp2;go_ret;exact⟨rfl,_,rfl⟩
theorem Ad.af{w b:Zh}{a:Zk}{d:Zl}(h:Ad w w.heap.size a d)(c:Zz w b):Ad b b.heap.size a d:=(h.below c).mono c.size
theorem Cf{B:Nat}{a w:Zh}(h:Below B a w)(n:Nat):Below B a (w.drewN n):=⟨h.os,h.tape,h.output,h.size,h.block⟩
theorem JC{W a:Zh}(c:Zz W a):(∀b o,b<W.heap.size->a.cell? (Ze b o)=W.cell? (Ze b o))/\(∀b o,b<W.heap.size->a.frozen? ⟨b,o,none⟩=W.frozen? ⟨b,o,none⟩):=
 ⟨fun b o h=>c.cell (p:=⟨b,o,none⟩) h,fun b o h=>c.frozen (p:=⟨b,o,none⟩) h⟩
def KC:Nat->Nat->Zi->Zi
 |0,_,o=>o
 |f+1,j,o=>if j=0 then o else KC f (j/10) (strOfNums [48+(j:Int)%10]++o)
def BZ(k:Nat):Zi:=⟨#[109]⟩++KC k k ByteArray.empty
theorem TV(f:Nat)(o:Zi):KC f 0 o=o:=by cases f<;>simp[KC]
theorem XC(x:Int):(strOfNums [x]).size=1:=by rfl
theorem Fv(k:Nat)(w:Zh)(z:1<=k)(t:k<=1000000000):
 Calls prog 61 #[Zg k] w fun e n=>e=.returned (.string (BZ k))/\Zz w n:=by
 have s:¬((k:Int)<=0):=by omega
 go_enter func61,ntmps61;go_wp2
 go_loopw [0,3] (fun v l wr=>∃(f j:Nat) (o:Zi),v=Zg j/\l=.string o/\j<=f/\o.size+j<=k/\Hid (KC f j o=KC k k ByteArray.empty)/\Zz w wr) (fun v _ _=>(intOf v).toNat)
 case atStart=>exact⟨k,k,ByteArray.empty,rfl,rfl,Zx,by simp,rfl,Below.refl _ _⟩
 case round=>
  obtain⟨f,j,o,rfl,rfl,q,y,c,d⟩:=hrel;by_cases hlt:0<j
  ·have r:(0:Int)<j:=by omega
   have p:=run_convert_bytes_arg (P:=prog) (wr.alloc (Obj.cells #[Value.int IntKind.u8 (48+(j:Int)%10)] 5)) 138 5 underlying138 underlying5 wr.heap.size 0 1 1 [48+(j:Int)%10] rfl (fun i u=>by
    obtain rfl:i=0:=by omega
    simp) 9 underlying9
   obtain⟨b,rfl⟩:∃b,f=b+1:=⟨f -1,by omega⟩;have h:Hid (KC b (j/10) (strOfNums [48+(j:Int)%10]++o)=KC k k ByteArray.empty):=by have:=c.o;rw[KC,if_neg (by omega)]at this;exact this
   have m:=XC (48+(j:Int)%10);have a:(strOfNums [48+(j:Int)%10]++o).size=1+o.size:=by rw[ByteArray.size_append,m]
   have g:=Yx a;clear a;generalize strOfNums [48+(j:Int)%10]=x at *
   go_wp2;refine⟨⟨b,j/10,x++o,by go_num,rfl,by omega,by rw[g.o];omega,h,d.alloc d.size _⟩,by simp[intOf];omega⟩
  ·obtain rfl:j=0:=by omega
   have a:¬9223372036854775807<1+o.size:=by omega
   go_wp2;go_ret;refine⟨?_,d⟩;have:=c.o;rw[TV]at this;unfold BZ;rw[←this];rfl
theorem Aw{a b c:Zh}{row:Option Nat}(d:a.grownBy b row)(e:b.grownBy c row):a.grownBy c row:=
 ⟨e.os.trans d.os,e.tape.trans d.tape,e.output.trans d.output,Zm d.size e.size,fun k g f=>(e.block k (Zr g d.size) f).trans (d.block k g f)⟩
theorem AA{a b:Zh}(row:Option Nat)(h:Zz a b):a.grownBy b row:=⟨h.os,h.tape,h.output,h.size,fun k c _=>h.block k c⟩
theorem EJ(a:Zh)(row:Option Nat):a.grownBy a row:=⟨rfl,rfl,rfl,Zx,fun _ _ _=>rfl⟩
def marks(k n:Nat):Zl:=(List.range n).map fun i=>BZ (k+i)
theorem BS(k n:Nat):(marks k n).length=n:=by simp[marks]
theorem RP(k n i:Nat)(h:i<n):(marks k n)[i]?=some (BZ (k+i)):=by simp[marks,h]
theorem RQ(k i:Nat)(a:Zj)(h:i<a.length):((marks k i).map Value.string++a.drop i).set i (.string (BZ (k+i)))=(marks k (i+1)).map Value.string++a.drop (i+1):=by
 have b:((marks k i).map Value.string).length=i:=by simp[BS]
 rw[List.set_append_right _ _ (by omega),b,Nat.sub_self,List.drop_eq_getElem_cons h,Zp];simp[marks,List.range_succ]
theorem Md(a:Zk)(n h k base:Nat)(p:Zj)(w:Zh)(b:w.ownsRow base 9 1 (.slice a n h) n p)(E:1<=k)(B:k+n<=100000000):
 Calls prog 36 #[.slice a n h,Zg k] w fun e s=>e=.returned (Zg (k+n))/\s.ownsRow base 9 1 (.slice a n h) n ((marks k n).map Value.string)/\w.grownBy s (Value.slice a n h).ownBlock:=by
 go_enter func36,ntmps36;go_wp2
 go_loopw [1,5] (fun v i wr=>∃(j:Nat),j<=n/\i=Zg j/\v=Zg (k+j)/\wr.ownsRow base 9 1 (.slice a n h) n ((marks k j).map Value.string++p.drop j)/\w.grownBy wr (Value.slice a n h).ownBlock) (fun _ i _=>n -(intOf i).toNat)
 case atStart=>exact⟨0,Nat.zero_le _,rfl,by simp,by simpa [marks]using b,EJ _ _⟩
 case round=>
  have C:=b.1;clear b;obtain⟨j,D,rfl,rfl,b,f⟩:=hrel;by_cases hlt:j<n
  ·obtain⟨g,u,r,y,A⟩:=b.form (by omega);simp at r;obtain⟨rfl,rfl⟩:=r;have d:=Fv (k+j) wr (by omega) (by omega);rw[show((k+j:Nat):Int)=(k:Int)+j from by omega]at d;have x:(j:Int)<n:=by omega
   go_wp2_with fail;refine d.mono ?_;rintro e F ⟨rfl,m⟩;have c:=b.kept (AA none m) (.inr (by simp[Value.ownBlock]));have l:=c.stored j (.string (BZ (k+j)));rw[RQ k j p (by omega)]at l;have t:=c.cellAt j (by omega);rw[Zv (by simp[BS];omega)]at t;have z:=c.frozenAt j;have o:=Aw f (Aw (AA _ m) l.2);have q:=Yx (Zn l.1 o);clear l o b c f d;go_wp2
   exact⟨⟨j+1,by omega,by go_num,by go_num,q.o.1,q.o.2⟩,by simp[intOf];omega⟩
  ·obtain rfl:j=n:=by omega
   go_wp2;go_ret;refine⟨rfl,?_,f⟩;rw[List.drop_of_length_le (by omega),List.append_nil]at b;exact b
theorem Gk(a:Zk)(n m k B:Nat)(w:Zh)(f:Ad w B a (marks k n))(D:B<=w.heap.size)(F:1<=k)(C:k+n<=100000000):
 Calls prog 118 #[.slice a n m,Zg k] w fun e x=>e=.returned (Zg (k+n))/\Zz w x:=by
 go_enter func118,ntmps118;go_wp2
 go_loopw [1,5] (fun v i wr=>∃(j:Nat),j<=n/\i=Zg j/\v=Zg (k+j)/\Zz w wr) (fun _ i _=>n -(intOf i).toNat)
 case atStart=>exact⟨0,Nat.zero_le _,rfl,by simp,Below.refl _ _⟩
 case round=>
  obtain⟨j,E,rfl,rfl,d⟩:=hrel;by_cases hlt:j<n
  ·obtain⟨b,g,u,A,l⟩:=f.at (k:=j) (by rw[BS];exact hlt);subst u;have q:=(d.cell (p:=⟨b,g+j,none⟩) (by simp;omega)).trans (l j _ (RP k n j hlt));have c:=fun W=>Fv (k+j) W (by omega) (by omega);rw[show((k+j:Nat):Int)=(k:Int)+j from by omega]at c;have s:(j:Int)<n:=by omega
   have z:=d.size;have t:=Yx c;clear c l f;go_wp2;go_region_with (go_at_call 61;refine(t.o _).mono ?_;rintro e y ⟨rfl,h⟩;have r:y.cell? (Ze b (g+j))=some (.string (BZ (k+j))):=(h.cell (p:=⟨b,g+j,none⟩) (by simp;omega)).trans q;have o:=d.drew.trans (h.mono (by simp;omega)))
   all_goals go_wp2
   all_goals exact⟨⟨j+1,by omega,by go_num,by go_num,o⟩,by simp[intOf];omega⟩
  ·obtain rfl:j=n:=by omega
   go_wp2;go_ret;exact⟨rfl,d⟩
theorem Gl{w:Zh}{base:Nat}{v:Value}{b:Zl}(h:w.ownsRow base 9 1 v b.length (b.map Value.string)):∃a c,v=.slice a b.length c/\Ad w w.heap.size a b:=by
 rcases h.2 with⟨d,e⟩|⟨g,c,f,d,_⟩
 ·exact⟨none,0,by rw[d,e],.inl (List.eq_nil_of_length_eq_zero e)⟩
 ·subst d;exact⟨_,_,rfl,Ad.own h⟩
theorem CQ{w b:Zh}{base:Nat}{v:Value}{n:Nat}{c:Zj}(h:w.ownsRow base 9 1 v n c)(a:Zz w b):b.ownsRow base 9 1 v n c:=by
 cases hv:v.ownBlock with
 |none=>exact h.kept (AA none a) (.inl hv)
 |some g=>exact h.kept (AA none a) (.inr (by rw[hv];simp))
theorem Hm{w:Zh}{a:Nat}{v b:Value}{f:Nat}{h:Zj}(d:w.ownsRow a 9 1 b f h)(c:∀g,v.ownBlock=some g->g<a):v.ownBlock=none∨v.ownBlock≠b.ownBlock:=by
 cases hv:v.ownBlock with
 |none=>exact .inl rfl
 |some g=>exact .inr (fun e=>by have:=(d.lt g e.symm).1;have:=c g hv;omega)
theorem JN(t:Zi)(a:Zk)(c:Nat)(b:Zl)(left:Int)(w:Zh)(d:Ad w w.heap.size a b)
 (i:left<=1048576) (h:(t.size:Int)+b.length+aq b<=left):
 Calls prog 5 #[.agg #[.string t,.slice a b.length c],Zg left] w fun e g=>e=.returned (Zg (left -t.size -b.length -aq b))/\Zz w g:=by
 have f:Below w.heap.size w (w.alloc (.cells #[.string t,.slice a b.length c] 35)):=Zy;go_enter func5,ntmps5;go_wp2_with (go_at_call 20;refine(Ik a c b _ _ w.heap.size (d.below f) (by omega) (by omega)).mono ?_;rintro e g ⟨rfl,rfl⟩);go_ret;exact⟨rfl,f⟩
theorem KD(t:Zi)(a:Zk)(c:Nat)(b:Zl)(left:Int)(w:Zh)(d:Ad w w.heap.size a b)
 (l:t.size<=maxLen) (j:b.length<=maxLen) (k:∀s∈b,s.size<=maxLen)
 (m:0<=left) (n:left<=1048576) (i:left<(t.size:Int)+b.length+aq b):
 Calls prog 5 #[.agg #[.string t,.slice a b.length c],Zg left] w fun e g=>e=.returned (Zg (-1))/\Zz w g:=by
 have f:Below w.heap.size w (w.alloc (.cells #[.string t,.slice a b.length c] 35)):=Zy;have h:=l;unfold maxLen at h;by_cases hn:left<t.size
 ·go_enter func5,ntmps5;go_wp2;go_ret;exact⟨rfl,f⟩
 ·go_enter func5,ntmps5;go_wp2_with (go_at_call 20;refine(KB a c b _ _ w.heap.size (d.below f) j k (by omega) (by omega) (by omega)).mono ?_;rintro e g ⟨rfl,rfl⟩);go_ret;exact⟨rfl,f⟩
theorem JO(t:Zi)(a:Zk)(f:Nat)(b:Zl)(w:Zh)(d:Ad w w.heap.size a b)(l:b.length<=1048576):
 Calls prog 8 #[.agg #[.string t,.slice a b.length f]] w fun e i=>∃g,e=.returned (.agg #[.string t,Za g b.length b.length])/\w.heap.size<=g/\
  i.ownsRow w.heap.size 9 1 (Za g b.length b.length) b.length (b.map Value.string)/\Zz w i:=by
 go_enter func8,ntmps8;go_wp2_with fail;refine(Il a f b _ (d.af (((Zy).alloc (by simp) _).alloc (by simp;omega) _)) l).mono ?_;rintro e o ⟨g,rfl,k,c,h⟩;obtain⟨j,n⟩:=JC h;have m:=h.size;simp at m k;go_wp2;refine bodyPost_ret (v:=.agg #[.string t,Za g b.length b.length]) (by simp[results,results8,go_sem,j]) rfl ⟨g,rfl,by omega,?_,?_⟩
 ·exact(ownsRow_setCell_below (ownsRow_setCell_below (ownsRow_setCell_below c (by simp) _) (by simp) _) (by simp) _).mono (by simp;omega)
 ·exact(((((Zy).alloc (by simp) _).alloc (by simp;omega) _).trans (h.mono (by simp;omega))).setCell (by simp;omega) _|>.setCell (by simp) _|>.setCell (by simp) _)
theorem JP(t:Zi)(a g:Zk)(f b:Nat)(c:Zl)(w:Zh)(h:Ad w w.heap.size a c)(d:Ad w w.heap.size g c)(k:c.length<=1048576):
 Calls prog 12 #[.agg #[.string t,.slice a c.length f],.agg #[.string t,.slice g c.length b]] w fun e j=>e=.returned (.bool true)/\Zz w j:=by
 have i:Below w.heap.size w ((w.alloc (.cells #[.string t,.slice a c.length f] 51)).alloc (.cells #[.string t,.slice g c.length b] 51)):=(Zy).alloc (by simp) _;go_enter func12,ntmps12;go_wp2_with (go_at_call 32;refine(Im a g f b c _ _ _ (h.below i) (d.below i) k).mono ?_;rintro e j ⟨rfl,n,rfl⟩);go_ret;exact⟨rfl,Cf i n⟩
def Ga(wd:Int)(ss:Zl)(i:Nat):Bool:=
 match ss[i]? with
 |none=>true
 |some s=>decide ((s.size:Int)=wd)&&(match i with
  |0=>true
  |j+1=>match ss[j]? with
   |none=>true
   |some r=>Op.bytesLess r.toList s.toList)
def DB(wd:Int)(ss:Zl):Bool:=(List.range ss.length).all (Ga wd ss)
theorem GA{b:Int}{a:Zl}{s:Zi}(h:a[0]?=some s):Ga b a 0=decide ((s.size:Int)=b):=by simp[Ga,h]
theorem DT{b:Int}{a:Zl}{j:Nat}{s r:Zi}(h:a[j+1]?=some s)(c:a[j]?=some r):Ga b a (j+1)=(decide ((s.size:Int)=b)&&Op.bytesLess r.toList s.toList):=by simp[Ga,h,c]
theorem Fo{b:Int}{a:Zl}{k:Nat}(c:k<a.length)(h:Ga b a k=false):DB b a=false:=by unfold DB;rw[List.all_eq_false];exact⟨k,by simpa using c,by simp[h]⟩
theorem KE{b:Int}{a:Zl}(h:∀i,i<a.length->Ga b a i=true):DB b a=true:=by unfold DB;rw[List.all_eq_true];intro i c;exact h i (by simpa using c)
theorem Ho{p:Nat->Prop}{k:Nat}(h:∀i,i<k->p i)(b:p k):∀i,i<k+1->p i:=by
 intro i c;rcases Nat.lt_or_ge i k with a|a
 ·exact h i a
 ·obtain rfl:i=k:=by omega
  exact b
theorem Av{a b:Bool}(h:a=b):Ending.returned (.bool a)=.returned (.bool b):=by rw[h]
theorem LF(a:Zk)(v:Nat)(c:Zl)(l:Int)(w:Zh)(B:Nat)(m:Ad w B a c)(F:c.length<=1048576):
 Calls prog 201 #[.slice a c.length v,Zg l] w fun e A=>e=.returned (.bool (decide (c.length<=30)&&DB l c))/\A=w:=by
 by_cases hn:30<c.length
 ·go_enter func201,ntmps201;go_wp2;go_ret;exact⟨Av (by simp;omega),rfl⟩
 ·have x:Hid (decide (c.length<=30)=true):=by show _=_;simp;omega
  go_enter func201,ntmps201;go_wp2
  go_loop [12] (fun i=>∃k:Nat,k<=c.length/\i=Zg k/\Hid (∀i,i<k->Ga l c i=true)) (fun i=>c.length -(intOf i).toNat)
  case atStart=>exact⟨0,Nat.zero_le _,rfl,fun i h=>by omega⟩
  case round=>
   obtain⟨k,t,rfl,f⟩:=hrel;by_cases hlt:k<c.length
   ·obtain⟨b,C,z,D,q⟩:=m.at hlt;subst z;have g:=Yx (Zv hlt);have o:=q k c[k] g
    match k,t,hlt,f,g,o with
    |0,t,hlt,f,g,o=>
     rw[Nat.add_zero]at o;clear q m;generalize c[0]=s at *
     by_cases hsz:(s.size:Int)=l
     ·have u:((s.size:Int)==l)=true:=by simpa using hsz
      have n:=Yx hsz;clear hsz;go_wp2;exact⟨⟨1,by omega,rfl,Ho f (by rw[GA g];simpa using n.o)⟩,by simp[intOf];omega⟩
     ·have u:((s.size:Int)==l)=false:=by simpa using hsz
      have n:=Yx hsz;clear hsz;go_wp2;go_ret;exact⟨Av (by rw[Fo hlt (by rw[GA g,decide_eq_false n.o])];simp),rfl⟩
    |j+1,t,hlt,f,g,o=>
     have p:Hid (c[j]?=some c[j]):=Zv (by omega);have y:=q j c[j] p;clear q m;generalize c[j+1]=s at *
     generalize c[j]=r at *
     by_cases hsz:(s.size:Int)=l
     ·have u:((s.size:Int)==l)=true:=by simpa using hsz
      have n:=Yx hsz;clear hsz;by_cases d:Op.bytesLess r.toList s.toList=true
      ·go_wp2;exact⟨⟨j+1+1,by omega,by go_num,Ho f (by rw[DT g p];simp[n.o,d])⟩,by simp[intOf];omega⟩
      ·have d:Op.bytesLess r.toList s.toList=false:=by simpa using d
       go_wp2;go_ret;exact⟨Av (by rw[Fo hlt (by rw[DT g p];simp[d])];simp),rfl⟩
     ·have u:((s.size:Int)==l)=false:=by simpa using hsz
      have n:=Yx hsz;clear hsz;go_wp2;go_ret;exact⟨Av (by rw[Fo hlt (by rw[DT g p,decide_eq_false n.o];rfl)];simp),rfl⟩
   ·go_wp2;go_ret;exact⟨Av (by rw[KE (fun i E=>f i (by omega)),x.o];rfl),rfl⟩
def AK(t:Zi)(ss:Zl)(wd:Int):Bool:=decide (1<=wd/\wd<=8)&&(decide (t.size<=2000)&&(decide (ss.length<=30)&&DB wd ss))
theorem Gb{t:Zi}{b:Zl}{a:Int}(h:¬(1<=a/\a<=8)):AK t b a=false:=by unfold AK;rw[decide_eq_false h];rfl
theorem JQ{t:Zi}{a:Zl}{b:Int}(h:¬t.size<=2000):AK t a b=false:=by unfold AK;rw[decide_eq_false h];simp
theorem OP{t:Zi}{a:Zl}{b:Int}(h:¬a.length<=30):AK t a b=false:=by unfold AK;rw[decide_eq_false h];simp
theorem Ie{t:Zi}{a:Zl}{b:Int}(h:DB b a=false):AK t a b=false:=by unfold AK;rw[h];simp
theorem OQ{t:Zi}{b:Zl}{a:Int}(c:1<=a)(d:a<=8)(e:t.size<=2000)(f:b.length<=30)(g:DB a b=true):AK t b a=true:=by unfold AK;rw[g];simp[c,d,e,f]
theorem Ep(t:Zi)(a:Zk)(c:Nat)(b:Zl)(d:Int)(w:Zh)(f:Ad w w.heap.size a b)(i:b.length<=1048576)(j:t.size<=maxLen):
 Calls prog 173 #[.agg #[.string t,.slice a b.length c],Zg d] w fun e g=>e=.returned (.bool (AK t b d))/\g=w.alloc (.cells #[.string t,.slice a b.length c] 51):=by
 have h:Below w.heap.size w (w.alloc (.cells #[.string t,.slice a b.length c] 51)):=Zy;unfold maxLen at j;by_cases h1:1<=d
 ·by_cases h2:d<=8
  ·by_cases h3:t.size<=2000
   ·go_enter func173,ntmps173;go_wp2_with (first
     |(go_at_call 201;refine(LF a c b d _ w.heap.size (f.below h) i).mono ?_;rintro e g ⟨rfl,rfl⟩)
     |go_in)
    go_ret;exact⟨Av (by simp[AK,h1,h2,h3]),rfl⟩
   ·have l:decide ((t.size:Int)<=2000)=false:=by simp;omega
    go_enter func173,ntmps173;go_wp2;go_ret;exact⟨Av (JQ (by omega)).symm,rfl⟩
  ·have k:decide (d<=8)=false:=by simp;omega
   go_enter func173,ntmps173;go_wp2;go_ret;exact⟨Av (Gb (by omega)).symm,rfl⟩
 ·go_enter func173,ntmps173;go_wp2;go_ret;exact⟨Av (Gb (by omega)).symm,rfl⟩
theorem Dj(t:Zi)(a:Zk)(v:Nat)(c:Zl)(l:Int)(w:Zh)(m:Ad w w.heap.size a c)(K:c.length<=1048576)(E:t.size<=maxLen):
 Calls prog 80 #[.agg #[.string t,.slice a c.length v],Zg l] w fun e F=>e=.returned (.bool (AK t c l))/\Zz w F:=by
 have o:Below w.heap.size w (w.alloc (.cells #[.string t,.slice a c.length v] 51)):=Zy;unfold maxLen at E;by_cases h1:1<=l
 ·by_cases h2:l<=8
  ·by_cases h3:t.size<=2000
   ·have A:decide (2000<(t.size:Int))=false:=by simp;omega
    by_cases h4:c.length<=30
    ·have B:decide (30<(c.length:Int))=false:=by simp;omega
     go_enter func80,ntmps80;go_wp2
     go_loopw [5] (fun i wr=>∃k n:Nat,k<=c.length/\i=Zg k/\Hid (∀i,i<k->Ga l c i=true)/\wr=(w.alloc (.cells #[.string t,.slice a c.length v] 51)).drewN n) (fun i _=>c.length -(intOf i).toNat)
     case atStart=>exact⟨0,0,Nat.zero_le _,rfl,fun i h=>by omega,rfl⟩
     case round=>
      obtain⟨k,n,y,rfl,f,rfl⟩:=hrel;by_cases hlt:k<c.length
      ·obtain⟨b,I,D,H,x⟩:=m.at hlt;subst D;have g:Hid (c[k]?=some c[k]):=Zv hlt;have q:=x k c[k] g
       match k,y,hlt,f,g,q with
       |0,y,hlt,f,g,q=>
        rw[Nat.add_zero]at q;clear x m;generalize c[0]=s at *
        by_cases hsz:(s.size:Int)=l
        ·have z:((s.size:Int) !=l)=false:=by simpa using hsz
         have p:=Yx hsz;clear hsz;go_wp2;go_quiet (fail);go_wp2;exact⟨⟨1,_,by omega,rfl,Ho f (by rw[GA g];simpa using p.o),rfl⟩,by simp[intOf];omega⟩
        ·have z:((s.size:Int) !=l)=true:=by simpa using hsz
         have p:=Yx hsz;clear hsz;go_wp2;go_quiet (fail);go_wp2;go_ret;exact⟨Av (Ie (Fo hlt (by rw[GA g,decide_eq_false p.o]))).symm,Cf (Cf o _) _⟩
       |j+1,y,hlt,f,g,q=>
        have u:Hid (c[j]?=some c[j]):=Zv (by omega);have C:=x j c[j] u;clear x m;generalize c[j+1]=s at *
        generalize c[j]=r at *
        by_cases hsz:(s.size:Int)=l
        ·have z:((s.size:Int) !=l)=false:=by simpa using hsz
         have p:=Yx hsz;clear hsz;by_cases d:Op.bytesLess r.toList s.toList=true
         ·go_wp2;go_quiet (fail);go_wp2;exact⟨⟨j+1+1,_,by omega,by go_num,Ho f (by rw[DT g u];simp[p.o,d]),rfl⟩,by simp[intOf];omega⟩
         ·have d:Op.bytesLess r.toList s.toList=false:=by simpa using d
          go_wp2;go_quiet (fail);go_wp2;go_ret;exact⟨Av (Ie (Fo hlt (by rw[DT g u];simp[d]))).symm,Cf (Cf o _) _⟩
        ·have z:((s.size:Int) !=l)=true:=by simpa using hsz
         have p:=Yx hsz;clear hsz;go_wp2;go_quiet (fail);go_wp2;go_ret;exact⟨Av (Ie (Fo hlt (by rw[DT g u,decide_eq_false p.o];rfl))).symm,Cf (Cf o _) _⟩
      ·go_wp2;go_ret;exact⟨Av (OQ h1 h2 h3 h4 (KE (fun i J=>f i (by omega)))).symm,Cf o _⟩
    ·have B:decide (30<(c.length:Int))=true:=by simp;omega
     go_enter func80,ntmps80;go_wp2;go_ret;exact⟨Av (OP (by omega)).symm,o⟩
   ·have A:decide (2000<(t.size:Int))=true:=by simp;omega
    go_enter func80,ntmps80;go_wp2;go_ret;exact⟨Av (JQ (by omega)).symm,o⟩
  ·have G:decide (l<=8)=false:=by simp;omega
   go_enter func80,ntmps80;go_wp2;go_ret;exact⟨Av (Gb (by omega)).symm,o⟩
 ·go_enter func80,ntmps80;go_wp2;go_ret;exact⟨Av (Gb (by omega)).symm,o⟩
end Go.Proofs.YtckmnfhmoankmaaGreatDoor
namespace Go.Proofs
open Go.Shelf Go.RowKit
def Tryz.dg:Go.Shelf.Ren:=⟨fun|169=>152|n=>n,fun|70=>205|9=>9|0=>0|72=>207|37=>138|127=>242|3=>3|5=>5|n=>n,fun|n=>n⟩
theorem Tryz.lays169:Go.Proofs.Lays.n169 Tryz.prog Tryz.dg:={
 mixed:=by kernel_rfl
 f169:=Tryz.func152.trans (congrArg some (by kernel_rfl))
 t0:=Tryz.underlying0
 a0:=Tryz.isAgg0
 z0:=Tryz.sizeOf0
 v0:=Tryz.zeroValue0
 t3:=Tryz.underlying3
 a3:=Tryz.isAgg3
 z3:=Tryz.sizeOf3
 v3:=Tryz.zeroValue3
 t9:=Tryz.underlying9
 a9:=Tryz.isAgg9
 z9:=Tryz.sizeOf9
 v9:=Tryz.zeroValue9
 t37:=Tryz.underlying138
 a37:=Tryz.isAgg138
 z37:=Tryz.sizeOf138
 v37:=Tryz.zeroValue138
 t70:=Tryz.underlying205
 a70:=Tryz.isAgg205
 z70:=Tryz.sizeOf205
 v70:=Tryz.zeroValue205
 t72:=Tryz.underlying207
 a72:=Tryz.isAgg207
 z72:=Tryz.sizeOf207
 v72:=Tryz.zeroValue207
 t127:=Tryz.underlying242
 a127:=Tryz.isAgg242
 z127:=Tryz.sizeOf242
 v127:=Tryz.zeroValue242}
theorem Tryz.ax:Builder.Extra Tryz.prog Tryz.dg:={
 sizeBuilder:=by kernel_rfl
 liesBuilder:=by kernel_rfl
 t5:=Tryz.underlying5
 a5:=Tryz.isAgg5
 z5:=Tryz.sizeOf5
 v5:=Tryz.zeroValue5
 infoByte:=by kernel_rfl
 cellsByte:=by kernel_rfl
 sizeByte:=by kernel_rfl
 neB5:=by decide}
theorem Tryz.Builder_String_any(B b:Nat)(l:List UInt8)(w:Zh)(h:Lib.IsBuilder 207 5 B b (Lib.byteCells l) w)(a:B<=w.heap.size):
 Calls Tryz.prog 152 #[Yz b] w fun e c=>e=.returned (.string ⟨l.toArray⟩)/\Below B w c:=
 Any.Builder_String_any Tryz.lays169 Tryz.ax B b l w h a
namespace YtckmnfhmoankmaaGreatDoor
open Go.ChangeShapes Go.WideShapes Go.ChangeAt
theorem IN(B b:Nat)(d:Zj)(w:Zh)(h:Lib.IsBuilder 207 5 B b d w):
 Calls Tryz.prog 182 #[Yz b] w fun e f=>e=.returned (.tuple #[])/\Lib.BuilderAt 207 5 B b (Yz b) d f/\Below B w f:=by
 have X:=Tryz.ax;obtain⟨j,c,g⟩:=Option.map_eq_some_iff.1 X.sizeBuilder;rcases h with h|h
 ·have i:=h.cell0;have a:=h.shape;have k:=h.frozen0;go_enter Tryz.func182,Tryz.ntmps182;go_wp2;rw[Lib.run_to_unsafe w ⟨b,0,none⟩ Tryz.underlying205 Tryz.underlying232 c (by rw[g];decide) a (Nat.zero_lt_succ 1)];simp only[Result.andThen];rw[Oper.upon_value];go_wp2;rw[run_callFunc_extern Tryz.func217 (by kernel_rfl) (by kernel_rfl) (by kernel_rfl) (e:=Extern.AbiNoEscape.same) (by kernel_rfl)]
  rw[Lib.run_noEscape];simp only[Result.andThen];rw[Oper.upon_value];go_wp2;rw[Lib.run_from_unsafe w ⟨b,0,none⟩ Tryz.underlying232 Tryz.underlying205 c a X.liesBuilder];simp only[Result.andThen];rw[Oper.upon_value];go_wp2
  go_end0
  exact⟨rfl,h.used _,(Below.refl B w).setCell (p:=⟨b,0,none⟩) h.1 _⟩
 ·have i:=h.cell0;go_enter Tryz.func182,Tryz.ntmps182;go_wp2;rw[Lib.run_neq_ptr_same w _ Tryz.underlying205 c];go_wp2
  go_end0
  exact⟨rfl,h,Below.refl B _⟩
theorem Fh(B b:Nat)(l:Zj)(c:Int)(w:Zh)(h:Lib.IsBuilder 207 5 B b l w)(hlen:l.length+1<=140737488355328)(P:B<=w.heap.size):
 Calls Tryz.prog 150 #[Yz b,.int .u8 c] w fun e C=>e=.returned .nilIface/\Lib.IsBuilder 207 5 B b (l++[.int .u8 c]) C/\Below B w C:=by
 have X:=Tryz.ax;obtain⟨M,K,G,H,I⟩:=info_parts X.infoByte;go_enter Tryz.func150,Tryz.ntmps150;go_wp2_with (go_at_call 182;refine(IN B b l _ h).mono ?_);rintro e r ⟨rfl,J,i⟩;obtain⟨y,v,o,f,F⟩:=J;have c1:r.cell? (Ze b 1)=some v:=by rw[Lib.cell_of_heap o];rfl
 go_wp2_with (at_builtin;refine wpList_append_own _ rfl _ _ 138 rfl B 5 M (.int .u8 0) 1 1 Tryz.underlying138 K G H I rfl (by decide) _ _ _ rfl (f.alloc _) ⟨r.heap.size,0,none⟩ 1 1 [.int .u8 c] rfl rfl ?c1 ?c2 ?c3 ?c4 ?c5 ?_)
 case c1=>
  intro j u q
  match j,q with
  |0,q=>simp at q;subst q;simp[Addr.add]
 case c2=>intro u z;simp at z;subst z;rfl
 case c3=>unfold maxLen;omega
 case c4=>omega
 case c5=>have:=i.size;simp;omega
 intro N D d a _;have E:b<r.heap.size:=by
  rcases Nat.lt_or_ge b r.heap.size with s|s
  ·exact s
  ·simp[Array.getElem?_eq_none s]at o
 have n:D.heap[b]?=some (.cells #[Yz b,v] 207 (0,0)):=by rw[a.block b (by simp;omega) (fun e=>F e.symm),Lib.alloc_old _ _ _ E];exact o
 have Q:D.cell? (Ze b 1)=some v:=by rw[Lib.cell_of_heap n];rfl
 have R:=Lib.frozen_of_heap n 1;obtain⟨x,A,m,rfl⟩:∃x A m,N=.slice x A m:=by
  rcases d.2 with⟨t,_⟩|⟨g,m,O,t,_⟩
  ·exact⟨_,_,_,t⟩
  ·exact⟨_,_,_,t⟩
 go_wp2;go_ret;refine⟨rfl,.inr ?_,?_⟩
 ·exact Lib.BuilderAt.put (T:=207) (e:=5) y n (bs':=l++[.int .u8 c]) (by simpa using d) X.neB5
 ·exact((i.alloc (by have:=i.size;omega) _).grown a (by have:=i.size;simp;omega) (fun k L=>(f.lt k L).1)).setCell (p:=⟨b,1,none⟩) y _
theorem Du(B b:Nat)(f:Zj)(s:Zi)(w:Zh)(h:Lib.IsBuilder 207 5 B b f w)(hlen:f.length+s.size<=140737488355328)(M:B<=w.heap.size):
 Calls Tryz.prog 151 #[Yz b,.string s] w fun e x=>e=.returned (.tuple #[Zg s.size,.nilIface])/\Lib.IsBuilder 207 5 B b (f++Lib.byteCells s.data.toList) x/\Below B w x:=by
 have X:=Tryz.ax;obtain⟨J,H,D,E,F⟩:=info_parts X.infoByte;go_enter Tryz.func151,Tryz.ntmps151;go_wp2_with (go_at_call 182;refine(IN B b f _ h).mono ?_);rintro e q ⟨rfl,G,j⟩;obtain⟨t,v,m,d,C⟩:=G;have N:q.cell? (Ze b 1)=some v:=by rw[Lib.cell_of_heap m];rfl
 go_wp2_with (at_builtin;refine Lib.wpList_append_own_string _ rfl _ _ 138 9 rfl B 5 J Tryz.underlying138 Tryz.underlying9 H D E F _ _ _ rfl d s rfl ?c3 ?c4 ?c5 ?_)
 case c3=>unfold maxLen;omega
 case c4=>omega
 case c5=>have:=j.size;omega
 intro K y c a _;have A:b<q.heap.size:=by
  rcases Nat.lt_or_ge b q.heap.size with n|n
  ·exact n
  ·simp[Array.getElem?_eq_none n]at m
 have l:y.heap[b]?=some (.cells #[Yz b,v] 207 (0,0)):=by rw[a.block b A (fun e=>C e.symm)];exact m
 have O:y.cell? (Ze b 1)=some v:=by rw[Lib.cell_of_heap l];rfl
 have P:=Lib.frozen_of_heap l 1;obtain⟨r,u,i,rfl⟩:∃r u i,K=.slice r u i:=by
  rcases c.2 with⟨o,_⟩|⟨g,i,L,o,_⟩
  ·exact⟨_,_,_,o⟩
  ·exact⟨_,_,_,o⟩
 go_wp2
 go_ret2
 refine⟨rfl,.inr ?_,?_⟩
 ·have z:Lib.strCells s=Lib.byteCells s.data.toList:=rfl;rw[←z];exact Lib.BuilderAt.put (T:=207) (e:=5) t l (bs':=f++Lib.strCells s) (by simpa [Lib.strCells_length]using c) X.neB5
 ·exact(j.grown a (by have:=j.size;omega) (fun k I=>(d.lt k I).1)).setCell (p:=⟨b,1,none⟩) t _
end YtckmnfhmoankmaaGreatDoor
end Go.Proofs
namespace Go.Proofs.YtckmnfhmoankmaaGreatDoor
open Go.ChangeShapes Go.WideShapes Go.ChangeAt Go.RowKit _root_.Go.Proofs.Tryz
def flat(ss:Zl):List UInt8:=ss.flatMap (fun s=>s.data.toList)
theorem RR(a:Zl)(k:Nat)(s:Zi)(h:a[k]?=some s):flat (a.take (k+1))=flat (a.take k)++s.data.toList:=by obtain⟨b,rfl⟩:=Zw h;unfold flat;rw[Zu b,List.flatMap_append];simp
theorem Dg(a:Zl):(flat a).length=aq a:=by
 induction a with
 |nil=>rfl
 |cons s r ih=>
  unfold flat aq at *
  rw[List.flatMap_cons,List.length_append,ih];simp
def BD(t:Zi)(ss:Zl):List UInt8:=UInt8.ofNat ss.length::(flat ss++t.data.toList)
theorem RS{c:Int}{b:Zl}(h:DB c b=true){i:Nat}{s:Zi}(a:b[i]?=some s):(s.size:Int)=c:=by unfold DB at h;rw[List.all_eq_true]at h;have d:=(Zw a).1;have:=h i (by simpa using d);unfold Ga at this;rw[a]at this;simp at this;exact this.1
theorem Qn(a:Zl)(n:Nat)(h:∀s∈a,s.size=n):aq a=a.length *n:=by
 induction a with
 |nil=>simp[aq]
 |cons s r ih=>
  have b:=h s (by simp);have c:=ih (fun s d=>h s (by simp[d]));unfold aq at *
  rw[List.map_cons,List.sum_cons,c,b,List.length_cons,Nat.add_mul,Nat.one_mul,Nat.add_comm]
structure FM (t:Zi) (ss:Zl) (wd:Int):Prop where
 lo:1<=wd
 hi:wd<=8
 text:t.size<=2000
 refs:ss.length<=30
 all:DB wd ss=true
theorem BB{t:Zi}{a:Zl}{b:Int}(h:AK t a b=true):FM t a b:=by unfold AK at h;simp at h;exact⟨h.1.1,h.1.2,h.2.1,h.2.2.1,h.2.2.2⟩
theorem FM.size{t:Zi}{ss:Zl}{a:Int}(h:FM t ss a){i:Nat}{s:Zi}(b:ss[i]?=some s):(s.size:Int)=a:=RS h.all b
theorem FM.aq{t:Zi}{a:Zl}{b:Int}(h:FM t a b):aq a=a.length *b.toNat:=by refine Qn a _ fun s d=> ?_;obtain⟨i,c⟩:=List.getElem?_of_mem d;have:=h.size c;omega
theorem FM.az{t:Zi}{a:Zl}{b:Int}(h:FM t a b):YtckmnfhmoankmaaGreatDoor.aq a<=240:=by have c:=h.aq;have d:a.length *b.toNat<=30 *8:=Nat.mul_le_mul h.refs (by have:=h.hi;omega);omega
theorem Me:(prog.info? 5).map (fun i=>(i.zero,i.size,i.bytes))=some (some (.int .u8 0),1,1):=by kernel_rfl
theorem IY(n:Nat)(h:n<=30):Value.int .u8 (n:Int)=.int .u8 ((UInt8.ofNat n).toNat:Int):=by
 have:(UInt8.ofNat n).toNat=n:=by simp;omega
 rw[this]
theorem Mf(a:Zl)(k:Nat)(s:Zi)(h:a[k]?=some s)(c:UInt8):
 Lib.byteCells (c::flat (a.take k))++Lib.strCells s=Lib.byteCells (c::flat (a.take (k+1))):=by
 rw[RR a k s h,Lib.strCells_eq,←Lib.byteCells_append];rfl
theorem Mg(t:Zi)(a:Zk)(q:Nat)(d:Zl)(R:Int)(w:Zh)(r:Ad w w.heap.size a d)(H:AK t d R=true):
 Calls prog 89 #[.agg #[.string t,.slice a d.length q],Zg R] w fun e w'=>e=.returned (.string ⟨(BD t d).toArray⟩)/\Zz w w':=by
 have O:=BB H;have zJ:=O.az;have F:=O.refs;have S:=O.text;have zM:=Yx (IY d.length F);obtain⟨V,U,I,J,K⟩:=info_parts Me;have G:Below w.heap.size w (w.alloc (.cells #[.string t,.slice a d.length q] 51)):=Zy;go_enter func89,ntmps89;go_wp2_with fail;refine(Dj t a q d R _ (r.af G) (by omega) (by unfold maxLen;omega)).mono ?_;rintro e y ⟨rfl,v⟩;rw[H];obtain⟨Y,zB⟩:=JC v;have Q:=v.size;simp at Q;go_wp2
 have o:(y.alloc (.cells #[.int .u8 d.length] 5)).ownsRow (w.heap.size+1) 5 1 (Za y.heap.size 1 1) 1 (Lib.byteCells (UInt8.ofNat d.length::flat (d.take 0))):=by have:=World.ownsRow_lit (base:=w.heap.size+1) (e:=5) (size:=1) y #[.int .u8 d.length] 1 Q (by simp[maxLen]) rfl;simpa [Lib.byteCells,flat,IY d.length F]using this
 have n:Below (w.heap.size+1) (w.alloc (.cells #[.string t,.slice a d.length q] 51)) (y.alloc (.cells #[.int .u8 d.length] 5)):=by have:=v.alloc (by simpa using Q) (.cells #[.int .u8 d.length] 5);simpa using this
 go_loopw [5,6] (fun zH i wr=>∃(k g c:Nat),k<=d.length/\i=Zg k/\zH=Za g (1+aq (d.take k)) c/\
  wr.ownsRow (w.heap.size+1) 5 1 (Za g (1+aq (d.take k)) c) (1+aq (d.take k)) (Lib.byteCells (UInt8.ofNat d.length::flat (d.take k)))/\
  Below (w.heap.size+1) (w.alloc (.cells #[.string t,.slice a d.length q] 51)) wr) (fun _ i _=>d.length -(intOf i).toNat)
 case atStart=>exact⟨0,y.heap.size,1,Nat.zero_le _,rfl,by simp[aq],by simpa [aq]using o,n⟩
 case round=>
  clear o n Y zB v;obtain⟨k,g,c,D,rfl,rfl,m,h⟩:=hrel;have u:wr.cell? (Ze (w.heap.size) 1)=some (.slice a d.length q):=by rw[h.cell (p:=⟨w.heap.size,1,none⟩) (by simp)];simp
  have zG:=h.size;simp at zG;have zI:=az d k;by_cases hlt:k<d.length
  ·obtain⟨b,L,ha,X,T⟩:=r.at hlt;subst ha;have B:Hid (d[k]?=some d[k]):=Zv hlt;have Z:wr.cell? (Ze b (L+k))=some (.string d[k]):=by rw[h.cell (p:=⟨b,L+k,none⟩) (by simp;omega),World.cell?_alloc_past _ _ _ X];exact T k _ B
   have A:=Yx (Gj d k _ B);have zC:=Yx (Mf d k _ B (UInt8.ofNat d.length));have E:=az d (k+1);rw[A.o]at E;clear T r;generalize d[k]=s at *
   go_wp2_with (at_builtin;refine Lib.wpList_append_own_string _ rfl _ _ 138 9 rfl (w.heap.size+1) 5 V underlying138 underlying9 U I J K _ _ _ rfl m s rfl ?c3 ?c4 ?c5 ?_)
   case c3=>unfold maxLen;omega
   case c4=>omega
   case c5=>omega
   intro v' W f l _;obtain⟨N,M,C,zE,zF⟩:=f.form (by omega);subst C;have z:=h.grown l (by omega) (fun k D=>(m.lt k D).1);rw[zC.o]at f;clear m h l u Z;go_wp2;refine⟨⟨k+1,N,M,by omega,by go_num,?_,?_,z⟩,by simp[intOf];omega⟩
   ·rw[A.o,Nat.add_assoc]
   ·rw[A.o,←Nat.add_assoc];exact f
  ·have x:wr.cell? (Ze (w.heap.size) 0)=some (.string t):=by rw[h.cell (p:=⟨w.heap.size,0,none⟩) (by simp)];simp
   rw[Zt (by omega)]at m ⊢;go_wp2_with (at_builtin;refine Lib.wpList_append_own_string _ rfl _ _ 138 9 rfl (w.heap.size+1) 5 V underlying138 underlying9 U I J K _ _ _ rfl m t rfl ?c3 ?c4 ?c5 ?_)
   case c3=>unfold maxLen;omega
   case c4=>omega
   case c5=>omega
   intro v' W f l _;obtain⟨N,M,C,zE,zF⟩:=f.form (by omega);subst C;have z:=h.grown l (by omega) (fun k D=>(m.lt k D).1);have zA:Lib.byteCells (UInt8.ofNat d.length::flat d)++Lib.strCells t=Lib.byteCells (BD t d):=by rw[Lib.strCells_eq,←Lib.byteCells_append];rfl
   rw[zA]at f;have hlen:1+aq d+t.size=(BD t d).length:=by have:=Dg d;simp[BD,this];omega
   rw[hlen]at f ⊢;have zK:=run_convert_bytes_back (P:=prog) W 138 9 5 ⟨N,0,none⟩ M (BD t d) underlying138 underlying5 underlying9 (fun j hj=>f.cells rfl j _ (by simp[Lib.byteCells,hj]));clear m h l u x f;go_wp2;go_ret;refine⟨rfl,?_⟩;exact G.trans (z.mono (by omega))
theorem TW(t:Zi)(a:Zk)(c:Nat)(b:Zl)(g:Int)(w:Zh)(d:Ad w w.heap.size a b)(i:AK t b g=false)(j:b.length<=1048576)(k:t.size<=maxLen):
 Calls prog 89 #[.agg #[.string t,.slice a b.length c],Zg g] w fun e l=>e=.returned (.string ByteArray.empty)/\Zz w l:=by
 have f:Below w.heap.size w (w.alloc (.cells #[.string t,.slice a b.length c] 51)):=Zy;go_enter func89,ntmps89;go_wp2_with fail;refine(Dj t a c b g _ (d.af f) j k).mono ?_;rintro e m ⟨rfl,h⟩;rw[i];go_wp2;go_ret;exact⟨rfl,f.trans (h.mono (by simp))⟩
theorem TX(t:Zi)(a:Zk)(c:Nat)(b:Zl)(g:Int)(w:Zh)(d:Ad w w.heap.size a b)(h:AK t b g=false)(i:b.length<=1048576)(j:t.size<=maxLen):
 Calls prog 148 #[.agg #[.string t,.slice a b.length c],Zg g] w fun e k=>e=.returned (.string ByteArray.empty)/\Zz w k:=by
 have f:Below w.heap.size w (w.alloc (.cells #[.string t,.slice a b.length c] 51)):=Zy;go_enter func148,ntmps148;go_wp2_with fail;refine(Ep t a c b g _ (d.af f) i j).mono ?_;rintro e l ⟨rfl,rfl⟩;rw[h];go_wp2;go_ret;exact⟨rfl,f.alloc (by simp) _⟩
theorem Mh(t:Zi)(a:Zk)(h:Nat)(c:Zl)(O:Int)(w:Zh)(m:Ad w w.heap.size a c)(K:AK t c O=true):
 Calls prog 148 #[.agg #[.string t,.slice a c.length h],Zg O] w fun e w'=>e=.returned (.string ⟨(BD t c).toArray⟩)/\Zz w w':=by
 have N:=BB K;have zA:=N.az;have R:=N.refs;have P:=N.text;have F:Below w.heap.size w (w.alloc (.cells #[.string t,.slice a c.length h] 51)):=Zy;obtain⟨W,o⟩:∃W,W=(w.alloc (.cells #[.string t,.slice a c.length h] 51)).alloc (.cells #[.string t,.slice a c.length h] 51):=⟨_,rfl⟩;have D:Below w.heap.size w W:=by rw[o];exact F.alloc (by simp) _
 have E:W.heap.size=w.heap.size+1+1:=by rw[o];simp
 have S:W.cell? (Ze (w.heap.size) 0)=some (.string t):=by rw[o];simp
 have T:W.cell? (Ze (w.heap.size) 1)=some (.slice a c.length h):=by rw[o];simp
 have j:=m.below D;have HW:=Yx o;go_enter func148,ntmps148;go_wp2_with fail;refine(Ep t a h c O _ (m.af F) (by omega) (by unfold maxLen;omega)).mono ?_;rintro e v ⟨rfl,L⟩;rw[←HW.o]at L;subst L;clear o;rw[K];have g:=Lib.fresh_isBuilder 207 5 v;have x:Below v.heap.size v (v.alloc (.cells #[.pointer none,Zc] 207)):=Zy;rw[E]at g x;go_wp2_with fail
 refine(Fh (w.heap.size+1+1) (w.heap.size+1+1) [] _ _ g (by simp) (by simp[E])).mono ?_;rintro e w2 ⟨rfl,l,G⟩;have r:=x.trans G;have B:w2.cell? (Ze (w.heap.size) 1)=some (.slice a c.length h):=(r.cell (p:=⟨w.heap.size,1,none⟩) (by simp;omega)).trans T;have J:[]++[Value.int .u8 (c.length:Int)]=Lib.byteCells (UInt8.ofNat c.length::flat (c.take 0)):=by simp[Lib.byteCells,flat,IY c.length R]
 rw[J]at l;clear g x G J;go_wp2
 go_loopw [20] (fun i wr=>∃(k:Nat),k<=c.length/\i=Zg k/\Lib.IsBuilder 207 5 (w.heap.size+1+1) (w.heap.size+1+1) (Lib.byteCells (UInt8.ofNat c.length::flat (c.take k))) wr/\
  Below (w.heap.size+1+1) v wr) (fun i _=>c.length -(intOf i).toNat)
 case atStart=>exact⟨0,Nat.zero_le _,rfl,l,r⟩
 case round=>
  clear l r B;obtain⟨k,hk,rfl,g,d⟩:=hrel;have zB:=d.size;have z:=az c k;have I:=Dg (c.take k);have u:Hid ((Lib.byteCells (UInt8.ofNat c.length::flat (c.take k))).length=1+aq (c.take k)):=by show _=_;rw[Lib.byteCells_length,List.length_cons,I];omega
  clear I;by_cases hlt:k<c.length
  ·obtain⟨b,M,ha,r,Q⟩:=j.at hlt;subst ha;have y:Hid (c[k]?=some c[k]):=Zv hlt;have X:wr.cell? (Ze b (M+k))=some (.string c[k]):=by rw[d.cell (p:=⟨b,M+k,none⟩) (by simp;omega)];exact Q k _ y
   have V:=Yx (Gj c k _ y);have Y:=Yx (Mf c k _ y (UInt8.ofNat c.length));have C:=az c (k+1);rw[V.o]at C;clear Q m j;generalize c[k]=s at *
   go_wp2_with fail;refine(Du (w.heap.size+1+1) (w.heap.size+1+1) _ s _ g (by rw[u.o];omega) (by omega)).mono ?_;rintro e w3 ⟨rfl,f,n⟩;rw[←Lib.strCells_eq,Y.o]at f;have q:=d.trans n;clear g d n X;go_wp2;exact⟨⟨k+1,by omega,by go_num,f,q⟩,by simp[intOf];omega⟩
  ·have A:wr.cell? (Ze (w.heap.size) 0)=some (.string t):=(d.cell (p:=⟨w.heap.size,0,none⟩) (by simp;omega)).trans S;rw[Zt (by omega)]at g u z;go_wp2_with fail;refine(Du (w.heap.size+1+1) (w.heap.size+1+1) _ t _ g (by rw[u.o];omega) (by omega)).mono ?_;rintro e w3 ⟨rfl,f,n⟩;have H:Lib.byteCells (UInt8.ofNat c.length::flat c)++Lib.byteCells t.data.toList=Lib.byteCells (BD t c):=by rw[←Lib.byteCells_append];rfl
   rw[H]at f;have q:=d.trans n;have Z:=q.size;clear g d n H u A;go_wp2_with fail;refine(Tryz.Builder_String_any (w.heap.size+1+1) (w.heap.size+1+1) _ _ f (by omega)).mono ?_;rintro e w4 ⟨rfl,U⟩;go_wp2;go_ret;exact⟨rfl,D.trans ((q.trans U).mono (by omega))⟩
def AH(t:Zi)(ss:Zl)(wd:Int):Zi:=if AK t ss wd=true then ⟨(BD t ss).toArray⟩else ByteArray.empty
theorem Mi(t:Zi)(a:Zk)(f:Nat)(b:Zl)(c:Int)(w:Zh)(d:Ad w w.heap.size a b)(g:b.length<=1048576)(h:t.size<=maxLen):
 Calls prog 89 #[.agg #[.string t,.slice a b.length f],Zg c] w fun e i=>e=.returned (.string (AH t b c))/\Zz w i:=by
 cases hok:AK t b c with
 |true=>rw[show AH t b c=⟨(BD t b).toArray⟩from by unfold AH;rw[if_pos hok]];exact Mg t a f b c w d hok
 |false=>rw[show AH t b c=ByteArray.empty from by unfold AH;rw[if_neg (by rw[hok];decide)]];exact TW t a f b c w d hok g h
theorem IZ(t:Zi)(a:Zk)(f:Nat)(b:Zl)(c:Int)(w:Zh)(d:Ad w w.heap.size a b)(g:b.length<=1048576)(h:t.size<=maxLen):
 Calls prog 148 #[.agg #[.string t,.slice a b.length f],Zg c] w fun e i=>e=.returned (.string (AH t b c))/\Zz w i:=by
 cases hok:AK t b c with
 |true=>rw[show AH t b c=⟨(BD t b).toArray⟩from by unfold AH;rw[if_pos hok]];exact Mh t a f b c w d hok
 |false=>rw[show AH t b c=ByteArray.empty from by unfold AH;rw[if_neg (by rw[hok];decide)]];exact TX t a f b c w d hok g h
def ND(b:UInt8):Bool:=decide ((33:Int)<=(b.toNat:Int)/\(b.toNat:Int)<=126)
def nameBytes(s:Zi):Bool:=s.data.toList.all ND
def Dl(s:Zi):Bool:=decide (1<=s.size/\s.size<=40)&&nameBytes s
theorem Fw{s:Zi}{k:Nat}(a:k<s.size)(h:¬((33:Int)<=(s[k].toNat:Int)/\(s[k].toNat:Int)<=126)):nameBytes s=false:=by unfold nameBytes;rw[List.all_eq_false];refine⟨s[k],?_,by unfold ND;simpa using h⟩;exact List.mem_of_getElem (l:=s.data.toList) (i:=k) (h:=by simpa using a) rfl
theorem IP{s:Zi}(h:∀k (a:k<s.size),(33:Int)<=(s[k].toNat:Int)/\(s[k].toNat:Int)<=126):nameBytes s=true:=by unfold nameBytes;rw[List.all_eq_true];intro b c;obtain⟨k,a,rfl⟩:=List.getElem_of_mem c;exact decide_eq_true (h k (by simpa using a))
def Qo(s:Zi)(k:Nat):Prop:=∀i (hi:i<s.size),i<k->(33:Int)<=(s[i].toNat:Int)/\(s[i].toNat:Int)<=126
theorem Mj{s:Zi}{k:Nat}(h:Qo s k)(f:k<s.size)(b:(33:Int)<=(s[k].toNat:Int))(c:(s[k].toNat:Int)<=126):Qo s (k+1):=by
 intro i d e;rcases Nat.lt_or_ge i k with a|a
 ·exact h i d a
 ·obtain rfl:i=k:=by omega
  exact⟨b,c⟩
theorem RT(s:Zi)(w:Zh)(m:s.size<=maxLen):
 Calls prog 172 #[.string s] w fun e n=>e=.returned (.bool (Dl s))/\n=w:=by
 unfold maxLen at m;by_cases h1:1<=s.size
 ·by_cases h2:s.size<=40
  ·have b:decide ((s.size:Int)<1)=false:=by simp;omega
   have g:decide ((40:Int)<(s.size:Int))=false:=by simp;omega
   have j:Hid (decide (1<=s.size/\s.size<=40)=true):=by show _=_;simp;omega
   go_enter func172,ntmps172;go_wp2
   go_loop [14] (fun i=>∃k:Nat,k<=s.size/\i=Zg k/\Hid (Qo s k)) (fun i=>s.size -(intOf i).toNat)
   case atStart=>exact⟨0,Nat.zero_le _,rfl,fun i _ h=>by omega⟩
   case round=>
    obtain⟨k,o,rfl,c⟩:=hrel;by_cases hlt:k<s.size
    ·by_cases b1:(s[k].toNat:Int)<33
     ·have d:decide ((s[k].toNat:Int)<33)=true:=by simpa using b1
      go_wp2;go_ret;exact⟨Av (by unfold Dl;rw[Fw hlt (by omega)];simp),rfl⟩
     ·have d:decide ((s[k].toNat:Int)<33)=false:=by simpa using b1
      by_cases b2:(126:Int)<(s[k].toNat:Int)
      ·have f:decide ((126:Int)<(s[k].toNat:Int))=true:=by simpa using b2
       go_wp2;go_ret;exact⟨Av (by unfold Dl;rw[Fw hlt (by omega)];simp),rfl⟩
      ·have f:decide ((126:Int)<(s[k].toNat:Int))=false:=by simpa using b2
       have HU:=Yx (Mj c hlt (by omega) (by omega));go_wp2;exact⟨⟨k+1,by omega,by go_num,HU⟩,by simp[intOf];omega⟩
    ·have a:=IP (s:=s) (fun i l=>c i l (by omega));go_wp2;go_ret;exact⟨Av (by unfold Dl;rw[a,j.o];rfl),rfl⟩
  ·have b:decide ((s.size:Int)<1)=false:=by simp;omega
   have g:decide ((40:Int)<(s.size:Int))=true:=by simp;omega
   go_enter func172,ntmps172;go_wp2;go_ret;exact⟨Av (by unfold Dl;rw[decide_eq_false (by omega)];rfl),rfl⟩
 ·have b:decide ((s.size:Int)<1)=true:=by simp;omega
  go_enter func172,ntmps172;go_wp2;go_ret;exact⟨Av (by unfold Dl;rw[decide_eq_false (by omega)];rfl),rfl⟩
theorem Mk(s:Zi)(w:Zh)(g:s.size<=maxLen):
 Calls prog 79 #[.string s] w fun e j=>e=.returned (.bool (Dl s))/\j=w:=by
 unfold maxLen at g;go_enter func79,ntmps79;go_wp2
 go_loop [3] (fun i=>∃k:Nat,k<=s.size/\i=Zg k/\Hid (Qo s k)) (fun i=>s.size -(intOf i).toNat)
 case atStart=>exact⟨0,Nat.zero_le _,rfl,fun i _ h=>by omega⟩
 case round=>
  obtain⟨k,m,rfl,b⟩:=hrel;by_cases hlt:k<s.size
  ·by_cases b1:(s[k].toNat:Int)<33
   ·have c:decide ((s[k].toNat:Int)<33)=true:=by simpa using b1
    go_wp2;go_ret;exact⟨Av (by unfold Dl;rw[Fw hlt (by omega)];simp),rfl⟩
   ·have c:decide ((s[k].toNat:Int)<33)=false:=by simpa using b1
    by_cases b2:(126:Int)<(s[k].toNat:Int)
    ·have d:decide ((126:Int)<(s[k].toNat:Int))=true:=by simpa using b2
     go_wp2;go_ret;exact⟨Av (by unfold Dl;rw[Fw hlt (by omega)];simp),rfl⟩
    ·have d:decide ((126:Int)<(s[k].toNat:Int))=false:=by simpa using b2
     have HU:=Yx (Mj b hlt (by omega) (by omega));go_wp2;exact⟨⟨k+1,by omega,by go_num,HU⟩,by simp[intOf];omega⟩
  ·have a:=IP (s:=s) (fun i f=>b i f (by omega));by_cases h1:1<=s.size
   ·go_wp2;go_ret;refine⟨Av ?_,rfl⟩;unfold Dl;rw[a,Bool.and_true];simp[h1];omega
   ·have l:decide ((1:Int)<=(s.size:Int))=false:=by simp;omega
    go_wp2;go_ret;exact⟨Av (by unfold Dl;rw[decide_eq_false (by omega)];rfl),rfl⟩
structure AG (W:Zh) where
 w:Zh
 h:Below W.heap.size W w
theorem AG.ne(W:Zh):Nonempty (AG W):=⟨⟨W,Below.refl _ _⟩⟩
theorem AG.cell{W:Zh}{b o:Nat}{v:Value}(c:W.cell? (Ze b o)=some v)(a:b<W.heap.size)(n:AG W):n.w.cell? (Ze b o)=some v:=(n.h.cell (p:=⟨b,o,none⟩) a).trans c
def AG.next{W:Zh}(n:AG W){w':Zh}(h:Below n.w.heap.size n.w w'):AG W:=⟨w',n.h.trans (h.mono n.h.size)⟩
theorem Qp{P:Program}{c:Array Oper}{i:Nat}{Q:Exit->Act->Zh->Prop}{a:Act}{w:Zh}(g:P.follows .mixedOrders=true)(f:Region.lexB .any c=true)
 (h:wpQuiet P c (fun d=>∃n:AG w,d=n.w) (fun b=>∀n:AG w,Q .normal b n.w) c.toList a):(Code.region i c true).wp P Q a w:=by
 refine wp_region_quiet (C:=fun d=>∃n:AG w,d=n.w) g f ⟨⟨_,(Below.refl _ _).drew⟩,rfl⟩ ?_;have e:(fun b=>∀d,(∃n:AG w,d=n.w)->Q .normal b d)=(fun b=>∀n:AG w,Q .normal b n.w):=by
  funext b
  exact propext ⟨fun h n=>h _ ⟨n,rfl⟩,fun h _ ⟨n,e⟩=>e▸h n⟩
 rw[e];exact h
theorem AN{P:Program}{l:List Oper}{e:Nat}{Q:Exit->Act->Zh->Prop}{a:Act}{w:Zh}(d:P.follows .mixedOrders=true)(c:Region.lexB .any l.toArray=true)
 (h:wpQuiet P l.toArray (fun f=>∃n:AG w,f=n.w) (fun b=>∀n:AG w,Q .normal b n.w) l a):(Code.region e l.toArray true).wp P Q a w:=
 Qp d c (by simpa using h)
theorem AG.calls{P:Program}{f:FuncId}{args:Array Value}{W:Zh}{v:Value}{n:AG W}(h:Calls P f args n.w fun e b=>e=.returned v/\Below n.w.heap.size n.w b):
 Calls P f args n.w fun e a=>e=.returned v/\∃m:AG W,a=m.w:=
 h.mono fun _ _ ⟨he,hb⟩=>⟨he,n.next hb,rfl⟩
theorem As{α:Type}:(∀(l:List α) (i:Nat) (a:α),l.toArray.setIfInBounds i a=(l.set i a).toArray)/\(∀(a b:α) (l:List α),(b::l).set 0 a=a::l)/\∀(a b:α) (l:List α) (n:Nat),(b::l).set (n+1) a=b::l.set n a:=
 ⟨fun _ _ _=>Zq _ _ _,fun _ _ _=>rfl,fun _ _ _ _=>rfl⟩
end Go.Proofs.YtckmnfhmoankmaaGreatDoor
