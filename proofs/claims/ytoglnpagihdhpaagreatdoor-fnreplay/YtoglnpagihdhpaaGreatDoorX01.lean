import Derived.Test.YtoglnpagihdhpaaGreatDoorProg
import Derived.WalkKit
import Derived.ProofKit
import Derived.Deep.AppendLies
import Derived.Deep.QuietTactic
import Derived.BigQuiet
import Derived.Deep.Onto
import Derived.Laws.Cover1
import Derived.Deep.RegionWith
import Derived.Shelf.Strings.Builder1
import Derived.Lib.AppendStr
import Derived.Lib.SmallJoins
import Derived.OneCell
import Derived.Deep.DeepCutAuto
set_option maxRecDepth 100000
set_option maxHeartbeats 16000000
namespace Go.Proofs.YtoglnpagihdhpaaGreatDoor
open ChangeShapes WideShapes ChangeAt RowKit _root_.Go.Proofs.Tryz
theorem _root_.Go.Proofs.Ae{B:Nat}{w:World}:Below B w w:=Below.refl _ _
theorem _root_.Go.Proofs.Af{α:Type _}(a:α):∃x,x=a:=⟨a,rfl⟩
theorem _root_.Go.RowKit.Hid.Ah{P:Program}{f:Nat}{a:Array Value}{w:World}{Q R:Ending->World->Prop}(h:Hid (Calls P f a w Q))(k:∀e w,Q e w->R e w):Calls P f a w R:=Calls.mono h k
abbrev Zz (w w':World):Prop:=Below w.heap.size w w'
theorem Zy {w:World} {o:Obj}:Below w.heap.size w (w.alloc o):=(Below.refl _ _).alloc (Nat.le_refl _) _
theorem Zx {n:Nat}:n<=n:=Nat.le_refl n
theorem Zw {α:Type _} {l:List α} {i:Nat} {a:α} (h:l[i]?=some a):∃h:i<l.length,l[i]=a:=List.getElem?_eq_some_iff.1 h
theorem Zv {α:Type _} {l:List α} {i:Nat} (h:i<l.length):l[i]?=some l[i]:=List.getElem?_eq_getElem h
theorem Zu {α:Type _} {i:Nat} {l:List α} (h:i<l.length):l.take (i+1)=l.take i++[l[i]]:=List.take_succ_eq_append_getElem h
theorem Zt {α:Type _} {i:Nat} {l:List α} (h:l.length<=i):l.take i=l:=List.take_of_length_le h
theorem Zs {α:Type _} {l:List α} {i:Nat} {a:α} (h:l[i]?=some a):a∈l:=List.mem_of_getElem? h
theorem Zr {a b c:Nat} (h:a<b) (k:b<=c):a<c:=Nat.lt_of_lt_of_le h k
theorem Zq {α:Type _} (l:List α) (i:Nat) (a:α):l.toArray.setIfInBounds i a=(l.set i a).toArray:=List.setIfInBounds_toArray l i a
theorem Zp {α:Type _} {x a:α} {l:List α}:(x::l).set 0 a=a::l:=List.set_cons_zero
theorem Zo {α:Type _} {x a:α} {l:List α} {i:Nat}:(x::l).set (i+1) a=x::l.set i a:=List.set_cons_succ
theorem Zn {a b:Prop} (x:a) (y:b):a/\b:=⟨x,y⟩
theorem Zm {a b c:Nat} (h:a<=b) (k:b<=c):a<=c:=Nat.le_trans h k
theorem _root_.Go.RowKit.Hid.o {p:Prop} (h:Hid p):p:=h
abbrev _root_.Go.Proofs.Zl:=List ByteArray
abbrev _root_.Go.Proofs.Zk:=Option Addr
abbrev _root_.Go.Proofs.Zj:=List Value
abbrev _root_.Go.Proofs.Zi:=ByteArray
abbrev _root_.Go.Proofs.Zh:=World
abbrev Zg (n:Int):Value:=.int .i64 n
abbrev Ze:Value:=.int .i64 0
abbrev Zd (b k:Nat):Addr:=⟨b,k,none⟩
abbrev Zc:Value:=.string ⟨#[]⟩
abbrev Zb:Value:=.slice none 0 0
theorem Za {a b:Prop} (x:a) (y:b):a/\b:=⟨x,y⟩
abbrev _root_.Go.Proofs.Yz(b n c:Nat):Value:=.slice (some ⟨b,0,none⟩) n c
abbrev _root_.Go.Proofs.Yy(b:Nat):Value:=.pointer (some ⟨b,0,none⟩)
abbrev _root_.Go.Proofs.Yx(b k:Nat):Value:=.pointer (some ⟨b,k,none⟩)
theorem _root_.Go.Proofs.Yw{p:Prop}(h:p):Hid p:=h
theorem _root_.Go.Proofs.Yv{p:Prop}(h:p:=by omega):p:=h
theorem _root_.Go.Proofs.Yu{p:Prop}(h:p:=by simp):p:=h
theorem _root_.Go.Proofs.Yt{p:Prop}(h:p:=by simp;omega):p:=h
theorem _root_.Go.Proofs.Ys{p:Prop}(h:p:=by simp[intOf];omega):p:=h
theorem _root_.Go.Proofs.Yr{p:Prop}(h:p:=by kernel_rfl):p:=h
theorem _root_.Go.Proofs.Yq{p:Prop}(h:p:=by decide):p:=h
theorem _root_.Go.Proofs.Yp{p:Prop}(h:p:=by rfl):p:=h
theorem _root_.Go.Proofs.Yo{p:Prop}(h:p:=by unfold maxLen;omega):p:=h
theorem _root_.Go.Proofs.Yn{p:Prop}(h:p:=by go_num):p:=h
theorem _root_.Go.Proofs.Ym{p:Prop}(h:p:=by simp<;>omega):p:=h
theorem _root_.Go.Proofs.Yl{p:Prop}(h:p:=by first|omega|(simp;omega)):p:=h
abbrev Yk(f:Nat->Int):Array Value:=#[.int .u8 (f 0),.int .u8 (f 1),.int .u8 (f 2),.int .u8 (f 3),.int .u8 (f 4),.int .u8 (f 5),.int .u8 (f 6),.int .u8 (f 7)]
abbrev Yj(f:Nat->Int):List Value:=[.int .u8 (f 0),.int .u8 (f 1),.int .u8 (f 2),.int .u8 (f 3),.int .u8 (f 4),.int .u8 (f 5),.int .u8 (f 6),.int .u8 (f 7)]
abbrev Yi:Array Value:=#[.int .i64 0,.int .i64 0,.int .i64 0,.int .i64 0,.slice none 0 0,.slice none 0 0,.slice none 0 0]
abbrev Yh(a b c d:Int)(e:Option Addr)(f g:Nat)(h:Option Addr)(i j:Nat)(k:Option Addr)(l m:Nat):List Value:=[.int .i64 a,.int .i64 b,.int .i64 c,.int .i64 d,.slice e f g,.slice h i j,.slice k l m]
abbrev Yg(a b c d:Int)(e:Option Addr)(f g:Nat)(h:Option Addr)(i j:Nat)(k:Option Addr)(l m:Nat):Array Value:=#[.int .i64 a,.int .i64 b,.int .i64 c,.int .i64 d,.slice e f g,.slice h i j,.slice k l m]
abbrev Ye(a:Int)(e:Option Addr)(f g:Nat)(h:Option Addr)(i j:Nat)(b c d:Int):Array Value:=#[.int .i64 a,.slice e f g,.slice h i j,.int .i64 b,.int .i64 c,.int .i64 d]
abbrev Yd:Array Value:=#[.int .i64 0,.slice none 0 0,.slice none 0 0,.int .i64 0,.int .i64 0,.int .i64 0]
abbrev Yc:Array Value:=#[.int .i64 0,.string ⟨#[]⟩,.string ⟨#[]⟩,.int .i64 0,.string ⟨#[]⟩,.slice none 0 0]
abbrev Yb:List Value:=[.int .i64 0,.string ⟨#[]⟩,.string ⟨#[]⟩,.int .i64 0,.string ⟨#[]⟩,.slice none 0 0]
abbrev Ya(a:Int)(b c:ByteArray)(d:Int)(e:ByteArray)(f:Option Addr)(g h:Nat):List Value:=[.int .i64 a,.string b,.string c,.int .i64 d,.string e,.slice f g h]
abbrev Xz(a:Int)(b c:ByteArray)(d:Int)(e:ByteArray)(f:Option Addr)(g h:Nat):Array Value:=#[.int .i64 a,.string b,.string c,.int .i64 d,.string e,.slice f g h]
abbrev Xy:Array Value:=#[.int .i64 0,.int .i64 0,.int .i64 0,.int .i64 0,.int .i64 0,.slice none 0 0,.slice none 0 0,.slice none 0 0,.string ⟨#[]⟩,.int .i64 0,.string ⟨#[]⟩,.string ⟨#[]⟩]
abbrev Xx(a:Int):Array Value:=#[.int .i64 a,.int .i64 0,.int .i64 0,.int .i64 0,.int .i64 0,.slice none 0 0,.slice none 0 0,.slice none 0 0,.string ⟨#[]⟩,.int .i64 0,.string ⟨#[]⟩,.string ⟨#[]⟩]
abbrev Xw:Array Value:=#[.int .i64 0,.int .i64 0,.int .i64 0,.int .i64 0,.int .i64 0,.slice none 0 0,.slice none 0 0,.slice none 0 0,.int .i64 0,.slice none 0 0,.slice none 0 0,.int .i64 0,.int .i64 0,.int .i64 0,.slice none 0 0]
abbrev Xv(a:Int)(e:Option Addr)(f g:Nat)(h:Option Addr)(i j:Nat)(b c d:Int):List Value:=[.int .i64 a,.slice e f g,.slice h i j,.int .i64 b,.int .i64 c,.int .i64 d]
abbrev Xu:List Value:=[.int .i64 0,.slice none 0 0,.slice none 0 0,.int .i64 0,.int .i64 0,.int .i64 0]
abbrev Xt:Array Value:=#[.int .i64 0,.string ⟨#[]⟩,.int .i64 0,.string ⟨#[]⟩,.int .i64 0,.int .i64 0]
abbrev Xs:List Value:=[.int .i64 0,.string ⟨#[]⟩,.int .i64 0,.string ⟨#[]⟩,.int .i64 0,.int .i64 0]
abbrev Xr(a:Int):List Value:=[.int .i64 a,.int .i64 0,.int .i64 0,.int .i64 0,.int .i64 0,.slice none 0 0,.slice none 0 0,.slice none 0 0,.string ⟨#[]⟩,.int .i64 0,.string ⟨#[]⟩,.string ⟨#[]⟩]
abbrev Xq:List Value:=[.int .i64 0,.int .i64 0,.slice none 0 0,.slice none 0 0,.int .i64 0,.int .i64 0,.int .i64 0,.int .i64 0,.slice none 0 0,.slice none 0 0,.slice none 0 0,.int .i64 0,.slice none 0 0,.slice none 0 0,.int .i64 0,.int .i64 0,.int .i64 0]
abbrev Xo:Array Value:=#[.int .i64 0,.int .i64 0,.slice none 0 0,.slice none 0 0,.int .i64 0,.int .i64 0,.int .i64 0,.int .i64 0,.slice none 0 0,.slice none 0 0,.slice none 0 0,.int .i64 0,.slice none 0 0,.slice none 0 0,.int .i64 0,.int .i64 0,.int .i64 0]
abbrev Xk:Array Value:=#[.int .i64 0,.int .i64 0,.int .i64 0,.slice none 0 0,.slice none 0 0,.int .i64 0,.int .i64 0,.int .i64 0,.int .i64 0,.slice none 0 0,.slice none 0 0,.slice none 0 0,.int .i64 0,.slice none 0 0,.slice none 0 0,.int .i64 0,.int .i64 0,.int .i64 0,.string ⟨#[]⟩,.int .i64 0,.string ⟨#[]⟩,.string ⟨#[]⟩]
abbrev Xj(a:Int):List Value:=[.int .i64 a,.int .i64 0,.int .i64 0,.slice none 0 0,.slice none 0 0,.int .i64 0,.int .i64 0,.int .i64 0,.int .i64 0,.slice none 0 0,.slice none 0 0,.slice none 0 0,.int .i64 0,.slice none 0 0,.slice none 0 0,.int .i64 0,.int .i64 0,.int .i64 0,.string ⟨#[]⟩,.int .i64 0,.string ⟨#[]⟩,.string ⟨#[]⟩]
abbrev Xi(a:Int):Array Value:=#[.int .i64 a,.int .i64 0,.int .i64 0,.slice none 0 0,.slice none 0 0,.int .i64 0,.int .i64 0,.int .i64 0,.int .i64 0,.slice none 0 0,.slice none 0 0,.slice none 0 0,.int .i64 0,.slice none 0 0,.slice none 0 0,.int .i64 0,.int .i64 0,.int .i64 0,.string ⟨#[]⟩,.int .i64 0,.string ⟨#[]⟩,.string ⟨#[]⟩]
theorem Re{k:IntKind}{a b:Int}(h:a=b):Ending.returned (.int k a)=.returned (.int k b):=by rw[h]
def Ad(w:Zh)(B:Nat)(a:Zk)(ss:Zl):Prop:=
 ss=[]\/∃b off,a=some ⟨b,off,none⟩/\b<B/\∀i s,ss[i]?=some s->w.cell? (Zd b (off+i))=some (.string s)
theorem Ad.below{w f:Zh}{B:Nat}{a:Zk}{e:Zl}(h:Ad w B a e)(j:Below B w f):Ad f B a e:=by
 rcases h with h|⟨b,d,g,c,k⟩
 .exact .inl h
 .exact .inr ⟨b,d,g,c,fun i s l=>(j.cell (p:=⟨b,d+i,none⟩) c).trans (k i s l)⟩
theorem Ad.mono{w:Zh}{B B':Nat}{a:Zk}{c:Zl}(h:Ad w B a c)(i:B<=B'):Ad w B' a c:=by
 rcases h with h|⟨b,d,e,g,f⟩
 .exact .inl h
 .exact .inr ⟨b,d,e,Yv,f⟩
theorem Ad.at{w:Zh}{B:Nat}{a:Zk}{d:Zl}(h:Ad w B a d){k:Nat}(e:k<d.length):
 ∃b c,a=some ⟨b,c,none⟩/\b<B/\∀i s,d[i]?=some s->w.cell? (Zd b (c+i))=some (.string s):=by
 rcases h with h|h
 .subst h;simp at e
 .exact h
def br(ss:Zl):Nat:=(ss.map ByteArray.size).sum
theorem MT(a:Zl)(k:Nat)(s:Zi)(h:a[k]?=some s):br (a.take (k+1))=br (a.take k)+s.size:=by obtain⟨b,rfl⟩:=Zw h;unfold br;rw[Zu b,List.map_append,List.sum_append];simp
theorem bk(a:Zl)(k:Nat):br (a.take k)<=br a:=by
 have h:br a=br (a.take k)+br (a.drop k):=by unfold br;rw[<-List.sum_append,<-List.map_append,List.take_append_drop]
 omega
theorem Cq:(prog.info? 9).map (fun i=>(i.zero,i.size,i.bytes))=some (some Zc,1,16):=Yr
theorem Ad.own{w:Zh}{b:Nat}{g c:Nat}{a:Zl}(h:w.ownsRow b 9 1 (Yz g a.length c) a.length (a.map Value.string)):Ad w w.heap.size (some ⟨g,0,none⟩) a:=by refine .inr ⟨g,0,rfl,(h.lt g rfl).2,fun i s e=> ?_⟩;obtain⟨d,rfl⟩:=Zw e;rw[Nat.zero_add,h.cellAt i Yv];simp[d]
theorem Ad.N{w b:Zh}{a:Zk}{d:Zl}(h:Ad w w.heap.size a d)(c:Zz w b):Ad b b.heap.size a d:=(h.below c).mono c.size
theorem AZ{B:Nat}{a w:Zh}(h:Below B a w)(n:Nat):Below B a (w.drewN n):=⟨h.os,h.tape,h.output,h.size,h.block⟩
theorem Wg{W a:Zh}(c:Zz W a):(∀b o,b<W.heap.size->a.cell? (Zd b o)=W.cell? (Zd b o))/\(∀b o,b<W.heap.size->a.frozen? ⟨b,o,none⟩=W.frozen? ⟨b,o,none⟩):=
 ⟨fun b o h=>c.cell (p:=⟨b,o,none⟩) h,fun b o h=>c.frozen (p:=⟨b,o,none⟩) h⟩
theorem Ar{a b c:Zh}{row:Option Nat}(d:a.grownBy b row)(e:b.grownBy c row):a.grownBy c row:=
 ⟨e.os.trans d.os,e.tape.trans d.tape,e.output.trans d.output,Zm d.size e.size,fun k g f=>(e.block k (Zr g d.size) f).trans (d.block k g f)⟩
theorem Al{a b:Zh}(row:Option Nat)(h:Zz a b):a.grownBy b row:=⟨h.os,h.tape,h.output,h.size,fun k c _=>h.block k c⟩
theorem Bf(a:Zh)(row:Option Nat):a.grownBy a row:=⟨rfl,rfl,rfl,Zx,fun _ _ _=>rfl⟩
structure Oj (a b:Zh) (p q:Option Nat):Prop where
 os:b.os=a.os
 tape:b.tape=a.tape
 output:b.output=a.output
 size:a.heap.size<=b.heap.size
 block:∀k,k<a.heap.size->some k≠p->some k≠q->b.heap[k]?=a.heap[k]?
theorem Oj.below{a b:Zh}{p q:Option Nat}(h:Oj a b p q){B:Nat}(f:B<=a.heap.size)(c:∀k,p=some k->B<=k)(d:∀k,q=some k->B<=k):Below B a b:=
 ⟨h.os,h.tape,h.output,h.size,fun k g=>h.block k Yv (fun e=>by have:=c k e.symm;omega) (fun e=>by have:=d k e.symm;omega)⟩
theorem Oj.row{a b:Zh}{p q:Option Nat}(h:Oj a b p q){c:Nat}{e:TypeId}{v:Value}{n:Nat}{j:Zj}(i:a.ownsRow c e 1 v n j)(d:v.ownBlock=none\/(v.ownBlock≠p/\v.ownBlock≠q)):b.ownsRow c e 1 v n j:=by
 refine⟨i.1,?_⟩;rcases i.2 with m|⟨g,cap,k,rfl,r,f,o⟩
 .exact .inl m
 .refine .inr ⟨g,cap,k,rfl,r,?_,o⟩;have l:=(Array.getElem?_eq_some_iff.1 f).1;simp[Value.ownBlock]at d;exact(h.block g l d.1 d.2).trans f
theorem Oq{w c:Zh}{a:Nat}{v:Value}{n:Nat}{d:Zj}(h:w.ownsRow a 9 1 v n d)(b:Zz w c):c.ownsRow a 9 1 v n d:=by
 cases hv:v.ownBlock with
 |none=>exact h.kept (Al none b) (.inl hv)
 |some g=>exact h.kept (Al none b) (.inr (by rw[hv];simp))
def Gf(wd:Int)(ss:Zl)(i:Nat):Bool:=
 match ss[i]? with
 |none=>true
 |some s=>decide ((s.size:Int)=wd)&&(match i with
  |0=>true
  |j+1=>match ss[j]? with
   |none=>true
   |some r=>Op.bytesLess r.toList s.toList)
def DC(wd:Int)(ss:Zl):Bool:=(List.range ss.length).all (Gf wd ss)
theorem GD{b:Int}{a:Zl}{s:Zi}(h:a[0]?=some s):Gf b a 0=decide ((s.size:Int)=b):=by simp[Gf,h]
theorem DV{b:Int}{a:Zl}{j:Nat}{s r:Zi}(h:a[j+1]?=some s)(c:a[j]?=some r):Gf b a (j+1)=(decide ((s.size:Int)=b)&&Op.bytesLess r.toList s.toList):=by simp[Gf,h,c]
theorem Fs{b:Int}{a:Zl}{k:Nat}(c:k<a.length)(h:Gf b a k=false):DC b a=false:=by unfold DC;rw[List.all_eq_false];exact⟨k,by simpa using c,by simp[h]⟩
theorem Ls{b:Int}{a:Zl}(h:∀i,i<a.length->Gf b a i=true):DC b a=true:=by unfold DC;rw[List.all_eq_true];intro i c;exact h i (by simpa using c)
theorem Hj{p:Nat->Prop}{k:Nat}(h:∀i,i<k->p i)(b:p k):∀i,i<k+1->p i:=by
 intro i c;rcases Nat.lt_or_ge i k with a|a
 .exact h i a
 .obtain rfl:i=k:=Yv
  exact b
theorem Az{a b:Bool}(h:a=b):Ending.returned (.bool a)=.returned (.bool b):=by rw[h]
theorem Mx(a:Zk)(cap:Nat)(c:Zl)(l:Int)(w:Zh)(B:Nat)(m:Ad w B a c)(F:c.length<=1048576):
 Calls prog 121 #[.slice a c.length cap,Zg l] w fun e A=>e=.returned (.bool (decide (c.length<=30)&&DC l c))/\A=w:=by
 by_cases hn:30<c.length
 .go_enter func121,ntmps121;go_wp2;go_ret;exact⟨Az Yt,rfl⟩
 .have x:Hid (decide (c.length<=30)=true):=by show _=_;simp;omega
  go_enter func121,ntmps121;go_wp2
  go_loop [12] (fun i=>∃k:Nat,k<=c.length/\i=Zg k/\Hid (∀i,i<k->Gf l c i=true)) (fun i=>c.length -(intOf i).toNat)
  case atStart=>exact⟨0,Nat.zero_le _,rfl,fun i h=>by omega⟩
  case round=>
   obtain⟨k,u,rfl,f⟩:=hrel;by_cases hlt:k<c.length
   .obtain⟨b,C,z,D,t⟩:=m.at hlt;subst z;have g:=Yw (Zv hlt);have o:=t k c[k] g
    match k,u,hlt,f,g,o with
    |0,u,hlt,f,g,o=>
     rw[Nat.add_zero]at o;clear t m;generalize c[0]=s at *
     by_cases hsz:(s.size:Int)=l
     .have v:((s.size:Int)==l)=true:=by simpa using hsz
      have n:=Yw hsz;clear hsz;go_wp2;exact⟨⟨1,Yv,rfl,Hj f (by rw[GD g];simpa using n.o)⟩,Ys⟩
     .have v:((s.size:Int)==l)=false:=by simpa using hsz
      have n:=Yw hsz;clear hsz;go_wp2;go_ret;exact⟨Az (by rw[Fs hlt (by rw[GD g,decide_eq_false n.o])];simp),rfl⟩
    |j+1,u,hlt,f,g,o=>
     have q:Hid (c[j]?=some c[j]):=Zv Yv;have y:=t j c[j] q;clear t m;generalize c[j+1]=s at *
     generalize c[j]=r at *
     by_cases hsz:(s.size:Int)=l
     .have v:((s.size:Int)==l)=true:=by simpa using hsz
      have n:=Yw hsz;clear hsz;by_cases d:Op.bytesLess r.toList s.toList=true
      .go_wp2;exact⟨⟨j+1+1,Yv,Yn,Hj f (by rw[DV g q];simp[n.o,d])⟩,Ys⟩
      .have d:Op.bytesLess r.toList s.toList=false:=by simpa using d
       go_wp2;go_ret;exact⟨Az (by rw[Fs hlt (by rw[DV g q];simp[d])];simp),rfl⟩
     .have v:((s.size:Int)==l)=false:=by simpa using hsz
      have n:=Yw hsz;clear hsz;go_wp2;go_ret;exact⟨Az (by rw[Fs hlt (by rw[DV g q,decide_eq_false n.o];rfl)];simp),rfl⟩
   .go_wp2;go_ret;exact⟨Az (by rw[Ls (fun i E=>f i Yv),x.o];rfl),rfl⟩
def AF(t:Zi)(ss:Zl)(wd:Int):Bool:=decide (1<=wd/\wd<=8)&&(decide (t.size<=2000)&&(decide (ss.length<=30)&&DC wd ss))
theorem Gg{t:Zi}{b:Zl}{a:Int}(h:¬(1<=a/\a<=8)):AF t b a=false:=by unfold AF;rw[decide_eq_false h];rfl
theorem KB{t:Zi}{a:Zl}{b:Int}(h:¬t.size<=2000):AF t a b=false:=by unfold AF;rw[decide_eq_false h];simp
theorem PT{t:Zi}{a:Zl}{b:Int}(h:¬a.length<=30):AF t a b=false:=by unfold AF;rw[decide_eq_false h];simp
theorem Ia{t:Zi}{a:Zl}{b:Int}(h:DC b a=false):AF t a b=false:=by unfold AF;rw[h];simp
theorem PU{t:Zi}{b:Zl}{a:Int}(c:1<=a)(d:a<=8)(e:t.size<=2000)(f:b.length<=30)(g:DC a b=true):AF t b a=true:=by unfold AF;rw[g];simp[c,d,e,f]
theorem Dq(t:Zi)(a:Zk)(cap:Nat)(b:Zl)(c:Int)(w:Zh)(d:Ad w w.heap.size a b)(h:b.length<=1048576)(i:t.size<=maxLen):
 Calls prog 79 #[.agg #[.string t,.slice a b.length cap],Zg c] w fun e f=>e=.returned (.bool (AF t b c))/\f=w.alloc (.cells #[.string t,.slice a b.length cap] 36):=by
 have g:Below w.heap.size w (w.alloc (.cells #[.string t,.slice a b.length cap] 36)):=Zy;unfold maxLen at i;by_cases h1:1<=c
 .by_cases h2:c<=8
  .by_cases h3:t.size<=2000
   .go_enter func79,ntmps79;go_wp2_with (first
     |(go_at_call 121;refine(Mx a cap b c _ w.heap.size (d.below g) h).mono ?_;rintro e f ⟨rfl,rfl⟩)
     |go_in)
    go_ret;exact⟨Az (by simp[AF,h1,h2,h3]),rfl⟩
   .have k:decide ((t.size:Int)<=2000)=false:=Yt
    go_enter func79,ntmps79;go_wp2;go_ret;exact⟨Az (KB Yv).symm,rfl⟩
  .have j:decide (c<=8)=false:=Yt
   go_enter func79,ntmps79;go_wp2;go_ret;exact⟨Az (Gg Yv).symm,rfl⟩
 .go_enter func79,ntmps79;go_wp2;go_ret;exact⟨Az (Gg Yv).symm,rfl⟩
theorem De(t:Zi)(a:Zk)(cap:Nat)(c:Zl)(l:Int)(w:Zh)(m:Ad w w.heap.size a c)(K:c.length<=1048576)(E:t.size<=maxLen):
 Calls prog 96 #[.agg #[.string t,.slice a c.length cap],Zg l] w fun e F=>e=.returned (.bool (AF t c l))/\Zz w F:=by
 have o:Below w.heap.size w (w.alloc (.cells #[.string t,.slice a c.length cap] 36)):=Zy;unfold maxLen at E;by_cases h1:1<=l
 .by_cases h2:l<=8
  .by_cases h3:t.size<=2000
   .have A:decide (2000<(t.size:Int))=false:=Yt
    by_cases h4:c.length<=30
    .have B:decide (30<(c.length:Int))=false:=Yt
     go_enter func96,ntmps96;go_wp2
     go_loopw [5] (fun i wr=>∃k n:Nat,k<=c.length/\i=Zg k/\Hid (∀i,i<k->Gf l c i=true)/\wr=(w.alloc (.cells #[.string t,.slice a c.length cap] 36)).drewN n) (fun i _=>c.length -(intOf i).toNat)
     case atStart=>exact⟨0,0,Nat.zero_le _,rfl,fun i h=>by omega,rfl⟩
     case round=>
      obtain⟨k,n,y,rfl,f,rfl⟩:=hrel;by_cases hlt:k<c.length
      .obtain⟨b,I,D,H,x⟩:=m.at hlt;subst D;have g:Hid (c[k]?=some c[k]):=Zv hlt;have u:=x k c[k] g
       match k,y,hlt,f,g,u with
       |0,y,hlt,f,g,u=>
        rw[Nat.add_zero]at u;clear x m;generalize c[0]=s at *
        by_cases hsz:(s.size:Int)=l
        .have z:((s.size:Int) !=l)=false:=by simpa using hsz
         have q:=Yw hsz;clear hsz;go_wp2;go_quiet (fail);go_wp2;exact⟨⟨1,_,Yv,rfl,Hj f (by rw[GD g];simpa using q.o),rfl⟩,Ys⟩
        .have z:((s.size:Int) !=l)=true:=by simpa using hsz
         have q:=Yw hsz;clear hsz;go_wp2;go_quiet (fail);go_wp2;go_ret;exact⟨Az (Ia (Fs hlt (by rw[GD g,decide_eq_false q.o]))).symm,AZ (AZ o _) _⟩
       |j+1,y,hlt,f,g,u=>
        have v:Hid (c[j]?=some c[j]):=Zv Yv;have C:=x j c[j] v;clear x m;generalize c[j+1]=s at *
        generalize c[j]=r at *
        by_cases hsz:(s.size:Int)=l
        .have z:((s.size:Int) !=l)=false:=by simpa using hsz
         have q:=Yw hsz;clear hsz;by_cases d:Op.bytesLess r.toList s.toList=true
         .go_wp2;go_quiet (fail);go_wp2;exact⟨⟨j+1+1,_,Yv,Yn,Hj f (by rw[DV g v];simp[q.o,d]),rfl⟩,Ys⟩
         .have d:Op.bytesLess r.toList s.toList=false:=by simpa using d
          go_wp2;go_quiet (fail);go_wp2;go_ret;exact⟨Az (Ia (Fs hlt (by rw[DV g v];simp[d]))).symm,AZ (AZ o _) _⟩
        .have z:((s.size:Int) !=l)=true:=by simpa using hsz
         have q:=Yw hsz;clear hsz;go_wp2;go_quiet (fail);go_wp2;go_ret;exact⟨Az (Ia (Fs hlt (by rw[DV g v,decide_eq_false q.o];rfl))).symm,AZ (AZ o _) _⟩
      .go_wp2;go_ret;exact⟨Az (PU h1 h2 h3 h4 (Ls (fun i J=>f i Yv))).symm,AZ o _⟩
    .have B:decide (30<(c.length:Int))=true:=Yt
     go_enter func96,ntmps96;go_wp2;go_ret;exact⟨Az (PT Yv).symm,o⟩
   .have A:decide (2000<(t.size:Int))=true:=Yt
    go_enter func96,ntmps96;go_wp2;go_ret;exact⟨Az (KB Yv).symm,o⟩
  .have G:decide (l<=8)=false:=Yt
   go_enter func96,ntmps96;go_wp2;go_ret;exact⟨Az (Gg Yv).symm,o⟩
 .go_enter func96,ntmps96;go_wp2;go_ret;exact⟨Az (Gg Yv).symm,o⟩
end Go.Proofs.YtoglnpagihdhpaaGreatDoor
namespace Go.Proofs
open Go.Shelf Go.RowKit
def Tryz.du:Go.Shelf.Ren:=⟨fun|169=>34|n=>n,fun|70=>84|9=>9|0=>0|72=>86|37=>22|127=>152|3=>3|5=>5|n=>n,fun|n=>n⟩
theorem Tryz.lays169:Go.Proofs.Lays.n169 Tryz.prog Tryz.du:={
 mixed:=Yr
 f169:=Tryz.func34.trans (congrArg some Yr)
 t0:=Tryz.underlying0
 a0:=Tryz.isAgg0
 z0:=Tryz.sizeOf0
 v0:=Tryz.zeroValue0
 t3:=Tryz.underlying3
 a3:=Tryz.isAgg3
 z3:=Tryz.sizeOf3
 v3:=Tryz.zeroValue3
 t9:=Tryz.underlying9
 a9:=Tryz.isAgg9
 z9:=Tryz.sizeOf9
 v9:=Tryz.zeroValue9
 t37:=Tryz.underlying22
 a37:=Tryz.isAgg22
 z37:=Tryz.sizeOf22
 v37:=Tryz.zeroValue22
 t70:=Tryz.underlying84
 a70:=Tryz.isAgg84
 z70:=Tryz.sizeOf84
 v70:=Tryz.zeroValue84
 t72:=Tryz.underlying86
 a72:=Tryz.isAgg86
 z72:=Tryz.sizeOf86
 v72:=Tryz.zeroValue86
 t127:=Tryz.underlying152
 a127:=Tryz.isAgg152
 z127:=Tryz.sizeOf152
 v127:=Tryz.zeroValue152}
theorem Tryz.az:Builder.Extra Tryz.prog Tryz.du:={
 sizeBuilder:=Yr
 liesBuilder:=Yr
 t5:=Tryz.underlying5
 a5:=Tryz.isAgg5
 z5:=Tryz.sizeOf5
 v5:=Tryz.zeroValue5
 infoByte:=Yr
 cellsByte:=Yr
 sizeByte:=Yr
 neB5:=by decide}
theorem Tryz.Builder_String_any(B b:Nat)(l:List UInt8)(w:Zh)(h:Lib.IsBuilder 86 5 B b (Lib.byteCells l) w)(a:B<=w.heap.size):
 Calls Tryz.prog 34 #[Yy b] w fun e c=>e=.returned (.string ⟨l.toArray⟩)/\Below B w c:=
 Any.Builder_String_any Tryz.lays169 Tryz.az B b l w h a
namespace YtoglnpagihdhpaaGreatDoor
open Go.ChangeShapes Go.WideShapes Go.ChangeAt
theorem Je(B b:Nat)(d:Zj)(w:Zh)(h:Lib.IsBuilder 86 5 B b d w):
 Calls Tryz.prog 78 #[Yy b] w fun e f=>e=.returned (.tuple #[])/\Lib.BuilderAt 86 5 B b (Yy b) d f/\Below B w f:=by
 have X:=Tryz.az;obtain⟨j,c,g⟩:=Option.map_eq_some_iff.1 X.sizeBuilder;rcases h with h|h
 .have i:=h.cell0;have a:=h.shape;have k:=h.frozen0;go_enter Tryz.func78,Tryz.ntmps78;go_wp2;rw[Lib.run_to_unsafe w ⟨b,0,none⟩ Tryz.underlying84 Tryz.underlying129 c (by rw[g];decide) a (Nat.zero_lt_succ 1)];simp only[Result.andThen];rw[Oper.upon_value];go_wp2;rw[run_callFunc_extern Tryz.func120 Yr Yr Yr (e:=Extern.AbiNoEscape.same) Yr]
  rw[Lib.run_noEscape];simp only[Result.andThen];rw[Oper.upon_value];go_wp2;rw[Lib.run_from_unsafe w ⟨b,0,none⟩ Tryz.underlying129 Tryz.underlying84 c a X.liesBuilder];simp only[Result.andThen];rw[Oper.upon_value];go_wp2
  go_end0
  exact⟨rfl,h.used _,(Below.refl B w).setCell (p:=⟨b,0,none⟩) h.1 _⟩
 .have i:=h.cell0;go_enter Tryz.func78,Tryz.ntmps78;go_wp2;rw[Lib.run_neq_ptr_same w _ Tryz.underlying84 c];go_wp2
  go_end0
  exact⟨rfl,h,Below.refl B _⟩
theorem Fl(B b:Nat)(l:Zj)(c:Int)(w:Zh)(h:Lib.IsBuilder 86 5 B b l w)(hlen:l.length+1<=140737488355328)(O:B<=w.heap.size):
 Calls Tryz.prog 31 #[Yy b,.int .u8 c] w fun e A=>e=.returned .nilIface/\Lib.IsBuilder 86 5 B b (l++[.int .u8 c]) A/\Below B w A:=by
 have X:=Tryz.az;obtain⟨L,J,F,G,H⟩:=info_parts X.infoByte;go_enter Tryz.func31,Tryz.ntmps31;go_wp2_with (go_at_call 78;refine(Je B b l _ h).mono ?_);rintro e q ⟨rfl,I,i⟩;obtain⟨x,v,n,f,E⟩:=I;have c1:q.cell? (Zd b 1)=some v:=by rw[Lib.cell_of_heap n];rfl
 go_wp2_with (at_builtin;refine wpList_append_own _ rfl _ _ 22 rfl B 5 L (.int .u8 0) 1 1 Tryz.underlying22 J F G H rfl Yq _ _ _ rfl (f.alloc _) ⟨q.heap.size,0,none⟩ 1 1 [.int .u8 c] rfl rfl ?c1 ?c2 ?c3 ?c4 ?c5 ?_)
 case c1=>
  intro j u o
  match j,o with
  |0,o=>simp at o;subst o;simp[Addr.add]
 case c2=>intro u y;simp at y;subst y;rfl
 case c3=>unfold maxLen;omega
 case c4=>omega
 case c5=>have:=i.size;simp;omega
 intro M C d a _;have D:b<q.heap.size:=by
  rcases Nat.lt_or_ge b q.heap.size with r|r
  .exact r
  .simp[Array.getElem?_eq_none r]at n
 have m:C.heap[b]?=some (.cells #[Yy b,v] 86 (0,0)):=by rw[a.block b Yt (fun e=>E e.symm),Lib.alloc_old _ _ _ D];exact n
 have P:C.cell? (Zd b 1)=some v:=by rw[Lib.cell_of_heap m];rfl
 have Q:=Lib.frozen_of_heap m 1;obtain⟨t,z,cap,rfl⟩:∃t z cap,M=.slice t z cap:=by
  rcases d.2 with⟨s,_⟩|⟨g,cap,N,s,_⟩
  .exact⟨_,_,_,s⟩
  .exact⟨_,_,_,s⟩
 go_wp2;go_ret;refine⟨rfl,.inr ?_,?_⟩
 .exact Lib.BuilderAt.put (T:=86) (e:=5) x m (bs':=l++[.int .u8 c]) (by simpa using d) X.neB5
 .exact((i.alloc (by have:=i.size;omega) _).grown a (by have:=i.size;simp;omega) (fun k K=>(f.lt k K).1)).setCell (p:=⟨b,1,none⟩) x _
theorem Ds(B b:Nat)(f:Zj)(s:Zi)(w:Zh)(h:Lib.IsBuilder 86 5 B b f w)(hlen:f.length+s.size<=140737488355328)(L:B<=w.heap.size):
 Calls Tryz.prog 32 #[Yy b,.string s] w fun e u=>e=.returned (.tuple #[Zg s.size,.nilIface])/\Lib.IsBuilder 86 5 B b (f++Lib.byteCells s.data.toList) u/\Below B w u:=by
 have X:=Tryz.az;obtain⟨I,G,C,D,E⟩:=info_parts X.infoByte;go_enter Tryz.func32,Tryz.ntmps32;go_wp2_with (go_at_call 78;refine(Je B b f _ h).mono ?_);rintro e o ⟨rfl,F,i⟩;obtain⟨r,v,l,d,A⟩:=F;have M:o.cell? (Zd b 1)=some v:=by rw[Lib.cell_of_heap l];rfl
 go_wp2_with (at_builtin;refine Lib.wpList_append_own_string _ rfl _ _ 22 9 rfl B 5 I Tryz.underlying22 Tryz.underlying9 G C D E _ _ _ rfl d s rfl ?c3 ?c4 ?c5 ?_)
 case c3=>unfold maxLen;omega
 case c4=>omega
 case c5=>have:=i.size;omega
 intro J x c a _;have z:b<o.heap.size:=by
  rcases Nat.lt_or_ge b o.heap.size with m|m
  .exact m
  .simp[Array.getElem?_eq_none m]at l
 have j:x.heap[b]?=some (.cells #[Yy b,v] 86 (0,0)):=by rw[a.block b z (fun e=>A e.symm)];exact l
 have N:x.cell? (Zd b 1)=some v:=by rw[Lib.cell_of_heap j];rfl
 have O:=Lib.frozen_of_heap j 1;obtain⟨q,t,cap,rfl⟩:∃q t cap,J=.slice q t cap:=by
  rcases c.2 with⟨n,_⟩|⟨g,cap,K,n,_⟩
  .exact⟨_,_,_,n⟩
  .exact⟨_,_,_,n⟩
 go_wp2
 go_ret2
 refine⟨rfl,.inr ?_,?_⟩
 .have y:Lib.strCells s=Lib.byteCells s.data.toList:=rfl;rw[<-y];exact Lib.BuilderAt.put (T:=86) (e:=5) r j (bs':=f++Lib.strCells s) (by simpa [Lib.strCells_length]using c) X.neB5
 .exact(i.grown a (by have:=i.size;omega) (fun k H=>(d.lt k H).1)).setCell (p:=⟨b,1,none⟩) r _
end YtoglnpagihdhpaaGreatDoor
end Go.Proofs
namespace Go.Proofs.YtoglnpagihdhpaaGreatDoor
open ChangeShapes WideShapes ChangeAt RowKit _root_.Go.Proofs.Tryz
def flat(ss:Zl):List UInt8:=ss.flatMap (fun s=>s.data.toList)
theorem SJ(a:Zl)(k:Nat)(s:Zi)(h:a[k]?=some s):flat (a.take (k+1))=flat (a.take k)++s.data.toList:=by obtain⟨b,rfl⟩:=Zw h;unfold flat;rw[Zu b,List.flatMap_append];simp
theorem Dx(a:Zl):(flat a).length=br a:=by
 induction a with
 |nil=>rfl
 |cons s r ih=>
  unfold flat br at *
  rw[List.flatMap_cons,List.length_append,ih];simp
def BG(t:Zi)(ss:Zl):List UInt8:=UInt8.ofNat ss.length::(flat ss++t.data.toList)
theorem SK{c:Int}{b:Zl}(h:DC c b=true){i:Nat}{s:Zi}(a:b[i]?=some s):(s.size:Int)=c:=by unfold DC at h;rw[List.all_eq_true]at h;have d:=(Zw a).1;have:=h i (by simpa using d);unfold Gf at this;rw[a]at this;simp at this;exact this.1
theorem Rf(a:Zl)(n:Nat)(h:∀s∈a,s.size=n):br a=a.length *n:=by
 induction a with
 |nil=>simp[br]
 |cons s r ih=>
  have b:=h s Yu;have c:=ih (fun s d=>h s (by simp[d]));unfold br at *
  rw[List.map_cons,List.sum_cons,c,b,List.length_cons,Nat.add_mul,Nat.one_mul,Nat.add_comm]
structure Ft (t:Zi) (ss:Zl) (wd:Int):Prop where
 lo:1<=wd
 hi:wd<=8
 J:t.size<=2000
 B:ss.length<=30
 all:DC wd ss=true
theorem Be{t:Zi}{a:Zl}{b:Int}(h:AF t a b=true):Ft t a b:=by unfold AF at h;simp at h;exact⟨h.1.1,h.1.2,h.2.1,h.2.2.1,h.2.2.2⟩
theorem Ft.size{t:Zi}{ss:Zl}{a:Int}(h:Ft t ss a){i:Nat}{s:Zi}(b:ss[i]?=some s):(s.size:Int)=a:=SK h.all b
theorem Ft.br{t:Zi}{a:Zl}{b:Int}(h:Ft t a b):br a=a.length *b.toNat:=by refine Rf a _ fun s d=> ?_;obtain⟨i,c⟩:=List.getElem?_of_mem d;have:=h.size c;omega
theorem Ft.bk{t:Zi}{a:Zl}{b:Int}(h:Ft t a b):YtoglnpagihdhpaaGreatDoor.br a<=240:=by have c:=h.br;have d:a.length *b.toNat<=30 *8:=Nat.mul_le_mul h.B (by have:=h.hi;omega);omega
theorem MU:(prog.info? 5).map (fun i=>(i.zero,i.size,i.bytes))=some (some (.int .u8 0),1,1):=Yr
theorem Jp(n:Nat)(h:n<=30):Value.int .u8 (n:Int)=.int .u8 ((UInt8.ofNat n).toNat:Int):=by
 have:(UInt8.ofNat n).toNat=n:=Yt
 rw[this]
theorem MV(a:Zl)(k:Nat)(s:Zi)(h:a[k]?=some s)(c:UInt8):
 Lib.byteCells (c::flat (a.take k))++Lib.strCells s=Lib.byteCells (c::flat (a.take (k+1))):=by
 rw[SJ a k s h,Lib.strCells_eq,<-Lib.byteCells_append];rfl
theorem MW(t:Zi)(a:Zk)(cap:Nat)(d:Zl)(Q:Int)(w:Zh)(q:Ad w w.heap.size a d)(G:AF t d Q=true):
 Calls prog 100 #[.agg #[.string t,.slice a d.length cap],Zg Q] w fun e w'=>e=.returned (.string ⟨(BG t d).toArray⟩)/\Zz w w':=by
 have N:=Be G;have zI:=N.bk;have E:=N.B;have R:=N.J;have zK:=Yw (Jp d.length E);obtain⟨U,T,H,I,J⟩:=info_parts MU;have F:Below w.heap.size w (w.alloc (.cells #[.string t,.slice a d.length cap] 36)):=Zy;go_enter func100,ntmps100;go_wp2_with fail;refine(De t a cap d Q _ (q.N F) Yv Yo).mono ?_;rintro e x ⟨rfl,u⟩;rw[G];obtain⟨X,zA⟩:=Wg u;have O:=u.size;simp at O;go_wp2
 have o:(x.alloc (.cells #[.int .u8 d.length] 5)).ownsRow (w.heap.size+1) 5 1 (Yz x.heap.size 1 1) 1 (Lib.byteCells (UInt8.ofNat d.length::flat (d.take 0))):=by have:=World.ownsRow_lit (base:=w.heap.size+1) (e:=5) (size:=1) x #[.int .u8 d.length] 1 O (by simp[maxLen]) rfl;simpa [Lib.byteCells,flat,Jp d.length E]using this
 have n:Below (w.heap.size+1) (w.alloc (.cells #[.string t,.slice a d.length cap] 36)) (x.alloc (.cells #[.int .u8 d.length] 5)):=by have:=u.alloc (by simpa using O) (.cells #[.int .u8 d.length] 5);simpa using this
 go_loopw [5,6] (fun zG i wr=>∃(k g c:Nat),k<=d.length/\i=Zg k/\zG=Yz g (1+br (d.take k)) c/\
  wr.ownsRow (w.heap.size+1) 5 1 (Yz g (1+br (d.take k)) c) (1+br (d.take k)) (Lib.byteCells (UInt8.ofNat d.length::flat (d.take k)))/\
  Below (w.heap.size+1) (w.alloc (.cells #[.string t,.slice a d.length cap] 36)) wr) (fun _ i _=>d.length -(intOf i).toNat)
 case atStart=>exact⟨0,x.heap.size,1,Nat.zero_le _,rfl,by simp[br],by simpa [br]using o,n⟩
 case round=>
  clear o n X zA u;obtain⟨k,g,c,C,rfl,rfl,m,h⟩:=hrel;have r:wr.cell? (Zd (w.heap.size) 1)=some (.slice a d.length cap):=by rw[h.cell (p:=⟨w.heap.size,1,none⟩) Yu];simp
  have zF:=h.size;simp at zF;have zH:=bk d k;by_cases hlt:k<d.length
  .obtain⟨b,K,ha,W,S⟩:=q.at hlt;subst ha;have A:Hid (d[k]?=some d[k]):=Zv hlt;have Y:wr.cell? (Zd b (K+k))=some (.string d[k]):=by rw[h.cell (p:=⟨b,K+k,none⟩) Yt,World.cell?_alloc_past _ _ _ W];exact S k _ A
   have z:=Yw (MT d k _ A);have zB:=Yw (MV d k _ A (UInt8.ofNat d.length));have D:=bk d (k+1);rw[z.o]at D;clear S q;generalize d[k]=s at *
   go_wp2_with (at_builtin;refine Lib.wpList_append_own_string _ rfl _ _ 22 9 rfl (w.heap.size+1) 5 U underlying22 underlying9 T H I J _ _ _ rfl m s rfl ?c3 ?c4 ?c5 ?_)
   case c3=>unfold maxLen;omega
   case c4=>omega
   case c5=>omega
   intro v' V f l _;obtain⟨M,L,B,zC,zE⟩:=f.form Yv;subst B;have y:=h.grown l Yv (fun k C=>(m.lt k C).1);rw[zB.o]at f;clear m h l r Y;go_wp2;refine⟨⟨k+1,M,L,Yv,Yn,?_,?_,y⟩,Ys⟩
   .rw[z.o,Nat.add_assoc]
   .rw[z.o,<-Nat.add_assoc];exact f
  .have v:wr.cell? (Zd (w.heap.size) 0)=some (.string t):=by rw[h.cell (p:=⟨w.heap.size,0,none⟩) Yu];simp
   rw[Zt Yv]at m |-;go_wp2_with (at_builtin;refine Lib.wpList_append_own_string _ rfl _ _ 22 9 rfl (w.heap.size+1) 5 U underlying22 underlying9 T H I J _ _ _ rfl m t rfl ?c3 ?c4 ?c5 ?_)
   case c3=>unfold maxLen;omega
   case c4=>omega
   case c5=>omega
   intro v' V f l _;obtain⟨M,L,B,zC,zE⟩:=f.form Yv;subst B;have y:=h.grown l Yv (fun k C=>(m.lt k C).1);have Z:Lib.byteCells (UInt8.ofNat d.length::flat d)++Lib.strCells t=Lib.byteCells (BG t d):=by rw[Lib.strCells_eq,<-Lib.byteCells_append];rfl
   rw[Z]at f;have hlen:1+br d+t.size=(BG t d).length:=by have:=Dx d;simp[BG,this];omega
   rw[hlen]at f |-;have zJ:=run_convert_bytes_back (P:=prog) V 22 9 5 ⟨M,0,none⟩ L (BG t d) underlying22 underlying5 underlying9 (fun j hj=>f.cells rfl j _ (by simp[Lib.byteCells,hj]));clear m h l r v f;go_wp2;go_ret;refine⟨rfl,?_⟩;exact F.trans (y.mono Yv)
theorem Ut(t:Zi)(a:Zk)(cap:Nat)(b:Zl)(f:Int)(w:Zh)(c:Ad w w.heap.size a b)(h:AF t b f=false)(i:b.length<=1048576)(j:t.size<=maxLen):
 Calls prog 100 #[.agg #[.string t,.slice a b.length cap],Zg f] w fun e k=>e=.returned (.string ByteArray.empty)/\Zz w k:=by
 have d:Below w.heap.size w (w.alloc (.cells #[.string t,.slice a b.length cap] 36)):=Zy;go_enter func100,ntmps100;go_wp2_with fail;refine(De t a cap b f _ (c.N d) i j).mono ?_;rintro e l ⟨rfl,g⟩;rw[h];go_wp2;go_ret;exact⟨rfl,d.trans (g.mono Yu)⟩
theorem Uu(t:Zi)(a:Zk)(cap:Nat)(b:Zl)(f:Int)(w:Zh)(c:Ad w w.heap.size a b)(g:AF t b f=false)(h:b.length<=1048576)(i:t.size<=maxLen):
 Calls prog 33 #[.agg #[.string t,.slice a b.length cap],Zg f] w fun e j=>e=.returned (.string ByteArray.empty)/\Zz w j:=by
 have d:Below w.heap.size w (w.alloc (.cells #[.string t,.slice a b.length cap] 36)):=Zy;go_enter func33,ntmps33;go_wp2_with fail;refine(Dq t a cap b f _ (c.N d) h i).mono ?_;rintro e k ⟨rfl,rfl⟩;rw[g];go_wp2;go_ret;exact⟨rfl,d.alloc Yu _⟩
theorem MY(t:Zi)(a:Zk)(cap:Nat)(c:Zl)(N:Int)(w:Zh)(l:Ad w w.heap.size a c)(J:AF t c N=true):
 Calls prog 33 #[.agg #[.string t,.slice a c.length cap],Zg N] w fun e w'=>e=.returned (.string ⟨(BG t c).toArray⟩)/\Zz w w':=by
 have M:=Be J;have zA:=M.bk;have Q:=M.B;have O:=M.J;have E:Below w.heap.size w (w.alloc (.cells #[.string t,.slice a c.length cap] 36)):=Zy;obtain⟨W,n⟩:=Af ((w.alloc (.cells #[.string t,.slice a c.length cap] 36)).alloc (.cells #[.string t,.slice a c.length cap] 36));have C:Below w.heap.size w W:=by rw[n];exact E.alloc Yu _
 have D:W.heap.size=w.heap.size+1+1:=by rw[n];simp
 have R:W.cell? (Zd (w.heap.size) 0)=some (.string t):=by rw[n];simp
 have S:W.cell? (Zd (w.heap.size) 1)=some (.slice a c.length cap):=by rw[n];simp
 have h:=l.below C;have Z:=Yw n;go_enter func33,ntmps33;go_wp2_with fail;refine(Dq t a cap c N _ (l.N E) Yv Yo).mono ?_;rintro e u ⟨rfl,K⟩;rw[<-Z.o]at K;subst K;clear n;rw[J];have g:=Lib.fresh_isBuilder 86 5 u;have v:Below u.heap.size u (u.alloc (.cells #[.pointer none,Zb] 86)):=Zy;rw[D]at g v;go_wp2_with fail
 refine(Fl (w.heap.size+1+1) (w.heap.size+1+1) [] _ _ g Yu (by simp[D])).mono ?_;rintro e w2 ⟨rfl,j,F⟩;have q:=v.trans F;have A:w2.cell? (Zd (w.heap.size) 1)=some (.slice a c.length cap):=(q.cell (p:=⟨w.heap.size,1,none⟩) Yt).trans S;have I:[]++[Value.int .u8 (c.length:Int)]=Lib.byteCells (UInt8.ofNat c.length::flat (c.take 0)):=by simp[Lib.byteCells,flat,Jp c.length Q]
 rw[I]at j;clear g v F I;go_wp2
 go_loopw [20] (fun i wr=>∃(k:Nat),k<=c.length/\i=Zg k/\Lib.IsBuilder 86 5 (w.heap.size+1+1) (w.heap.size+1+1) (Lib.byteCells (UInt8.ofNat c.length::flat (c.take k))) wr/\
  Below (w.heap.size+1+1) u wr) (fun i _=>c.length -(intOf i).toNat)
 case atStart=>exact⟨0,Nat.zero_le _,rfl,j,q⟩
 case round=>
  clear j q A;obtain⟨k,hk,rfl,g,d⟩:=hrel;have zB:=d.size;have y:=bk c k;have H:=Dx (c.take k);have r:Hid ((Lib.byteCells (UInt8.ofNat c.length::flat (c.take k))).length=1+br (c.take k)):=by show _=_;rw[Lib.byteCells_length,List.length_cons,H];omega
  clear H;by_cases hlt:k<c.length
  .obtain⟨b,L,ha,q,P⟩:=h.at hlt;subst ha;have x:Hid (c[k]?=some c[k]):=Zv hlt;have V:wr.cell? (Zd b (L+k))=some (.string c[k]):=by rw[d.cell (p:=⟨b,L+k,none⟩) Yt];exact P k _ x
   have U:=Yw (MT c k _ x);have X:=Yw (MV c k _ x (UInt8.ofNat c.length));have B:=bk c (k+1);rw[U.o]at B;clear P l h;generalize c[k]=s at *
   go_wp2_with fail;refine(Ds (w.heap.size+1+1) (w.heap.size+1+1) _ s _ g (by rw[r.o];omega) Yv).mono ?_;rintro e w3 ⟨rfl,f,m⟩;rw[<-Lib.strCells_eq,X.o]at f;have o:=d.trans m;clear g d m V;go_wp2;exact⟨⟨k+1,Yv,Yn,f,o⟩,Ys⟩
  .have z:wr.cell? (Zd (w.heap.size) 0)=some (.string t):=(d.cell (p:=⟨w.heap.size,0,none⟩) Yt).trans R;rw[Zt Yv]at g r y;go_wp2_with fail;refine(Ds (w.heap.size+1+1) (w.heap.size+1+1) _ t _ g (by rw[r.o];omega) Yv).mono ?_;rintro e w3 ⟨rfl,f,m⟩;have G:Lib.byteCells (UInt8.ofNat c.length::flat c)++Lib.byteCells t.data.toList=Lib.byteCells (BG t c):=by rw[<-Lib.byteCells_append];rfl
   rw[G]at f;have o:=d.trans m;have Y:=o.size;clear g d m G r z;go_wp2_with fail;refine(Tryz.Builder_String_any (w.heap.size+1+1) (w.heap.size+1+1) _ _ f Yv).mono ?_;rintro e w4 ⟨rfl,T⟩;go_wp2;go_ret;exact⟨rfl,C.trans ((o.trans T).mono Yv)⟩
def AE(t:Zi)(ss:Zl)(wd:Int):Zi:=if AF t ss wd=true then ⟨(BG t ss).toArray⟩else ByteArray.empty
theorem MZ(t:Zi)(a:Zk)(cap:Nat)(b:Zl)(c:Int)(w:Zh)(d:Ad w w.heap.size a b)(f:b.length<=1048576)(g:t.size<=maxLen):
 Calls prog 100 #[.agg #[.string t,.slice a b.length cap],Zg c] w fun e h=>e=.returned (.string (AE t b c))/\Zz w h:=by
 cases hok:AF t b c with
 |true=>rw[show AE t b c=⟨(BG t b).toArray⟩from by unfold AE;rw[if_pos hok]];exact MW t a cap b c w d hok
 |false=>rw[show AE t b c=ByteArray.empty from by unfold AE;rw[if_neg (by rw[hok];decide)]];exact Ut t a cap b c w d hok f g
theorem Hk(t:Zi)(a:Zk)(cap:Nat)(b:Zl)(c:Int)(w:Zh)(d:Ad w w.heap.size a b)(f:b.length<=1048576)(g:t.size<=maxLen):
 Calls prog 33 #[.agg #[.string t,.slice a b.length cap],Zg c] w fun e h=>e=.returned (.string (AE t b c))/\Zz w h:=by
 cases hok:AF t b c with
 |true=>rw[show AE t b c=⟨(BG t b).toArray⟩from by unfold AE;rw[if_pos hok]];exact MY t a cap b c w d hok
 |false=>rw[show AE t b c=ByteArray.empty from by unfold AE;rw[if_neg (by rw[hok];decide)]];exact Uu t a cap b c w d hok f g
theorem PV{a:Int}:0<=IntKind.u64.wrap a/\IntKind.u64.wrap a<18446744073709551616:=by simp[IntKind.wrap,IntKind.bits,IntKind.signed];omega
def QD(v:Int)(b:UInt8):Int:=IntKind.u64.wrap (bits BinOp.xor IntKind.u64 v (IntKind.u64.wrap b.toNat) *1099511628211)
def EY(l:List UInt8):Int:=l.foldl QD 14695981039346656037
theorem QE(l:List UInt8):0<=EY l/\EY l<18446744073709551616:=by
 unfold EY;rcases l.eq_nil_or_concat with rfl|⟨r,b,rfl⟩
 .simp
 .simp only[List.concat_eq_append,List.foldl_append,List.foldl_cons,List.foldl_nil];exact PV
theorem Na(s:Zi)(k:Nat)(h:k<s.size):EY (s.data.toList.take (k+1))=QD (EY (s.data.toList.take k)) s[k]:=by rw[Zu (by simpa using h)];unfold EY;rw[List.foldl_append];rfl
def DD(v:Int):Nat->List Int
 |0=>[]
 |k+1=>(v/256^k%256)::DD v k
theorem DE(v:Int)(k:Nat):(DD v k).length=k:=by
 induction k with
 |zero=>rfl
 |succ k ih=>simp[DD,ih]
theorem PW(v:Int)(k:Nat):∀i,i<k->(DD v k)[i]?=some (v/256^(k -1 -i)%256):=by
 induction k with
 |zero=>intro i h;omega
 |succ k ih=>
  intro i h
  match i with
  |0=>simp[DD]
  |i+1=>rw[DD,List.getElem?_cons_succ,ih i Yv,show k -1 -i=k+1 -1 -(i+1)from by omega]
def GS(v:Int)(k:Nat):Zj:=(DD v k).map (Value.int .u8)
theorem Lu(v:Int)(k:Nat):(GS v k).length=k:=by simp[GS,DE]
theorem Uv(v:Int)(k:Nat):v/256^k/256=v/256^(k+1):=by rw[Int.ediv_ediv_of_nonneg (Int.pow_nonneg Yq),Int.pow_succ]
theorem YL(v:Int)(k:Nat)(a:0<=v)(h:v<18446744073709551616):0<=v/256^k/\v/256^k<18446744073709551616:=by have b:(0:Int)<256^k:=Int.pow_pos Yq;exact⟨Int.ediv_nonneg a (Int.le_of_lt b),Int.lt_of_le_of_lt (Int.ediv_le_self _ a) h⟩
def EJ(l:List UInt8)(n:Nat):Zi:=strOfNums (DD (EY l) n)
theorem infoByte:(prog.info? 5).map (fun i=>(i.zero,i.size,i.bytes))=some (some (.int .u8 0),1,1):=Yr
theorem Ot(s:Zi)(h:Int)(w:Zh)(E:s.size<=maxLen)(M:1<=h)(N:h<=8):
 Calls prog 101 #[.string s,Zg h] w fun e H=>e=.returned (.string (EJ s.data.toList h.toNat))/\Zz w H:=by
 unfold maxLen at E;obtain⟨G,n,t,x,y⟩:=info_parts infoByte;go_enter func101,ntmps101;go_wp2
 go_loop [5,6] (fun v i=>∃(k:Nat),k<=s.size/\i=Zg k/\v=.int .u64 (EY (s.data.toList.take k))) (fun _ i=>s.size -(intOf i).toNat)
 case atStart=>exact⟨0,Nat.zero_le _,rfl,rfl⟩
 case round=>
  obtain⟨k,o,rfl,rfl⟩:=hrel;by_cases hlt:k<s.size
  .have A:=Yw (Na s k hlt);go_wp2;exact⟨⟨k+1,Yv,Yn,by rw[A.o];rfl⟩,Ys⟩
  .have D:Hid (EY (s.data.toList.take k)=EY s.data.toList):=by show _=_;rw[Zt Yt]
   have l:=QE (s.data.toList.take k);generalize EY (s.data.toList.take k)=V at *
   go_wp2
   go_loopw [5,7,8] (fun v z i wr=>∃(k:Nat) (g c:Nat),k<=h/\i=Zg k/\v=.int .u64 (V/256^k)/\z=Yz g k c/\wr.ownsRow w.heap.size 5 1 (Yz g k c) k (GS V k)/\Zz w wr/\w.heap.size<=wr.heap.size) (fun _ _ i _=>(h -intOf i).toNat)
   case atStart=>exact⟨0,_,_,Yv,rfl,Yu,rfl,World.ownsRow_lit w #[] 0 (Zx) (by simp[maxLen]) rfl,Zy,Yu⟩
   case round=>
    obtain⟨j,g,c,O,rfl,rfl,rfl,f,d,m⟩:=hrel;by_cases hlt2:j<h
    .have J:=YL V j l.1 l.2;go_wp2_with (first
      |(at_builtin;refine wpList_append_own _ rfl _ _ 22 rfl w.heap.size 5 G (.int .u8 0) 1 1 underlying22 n t x y rfl Yq _ 1 [.int .u8 (V/256^j%256)] rfl ?c0 ⟨g,0,none⟩ j c (GS V j) rfl (by rw[Lu];omega) ?c1 ?c2 ?c3 ?c4 ?c5 ?_)
      |go_in)
     case c0=>exact World.ownsRow_lit wr _ 1 m (by simp[maxLen]) rfl
     case c1=>exact(f.alloc _).cells rfl
     case c2=>intro u F;obtain⟨_,_,rfl⟩:=List.mem_map.1 F;rfl
     case c3=>unfold maxLen;omega
     case c4=>omega
     case c5=>simp;omega
     intro Q R a b _;obtain⟨C,B,r,K,L⟩:=a.form Yv;subst r;have q:=(d.alloc m _).grown b Yt (by intro k o;simp[Value.ownBlock]at o;omega);rw[Nat.add_comm 1 j]at a |-;clear f d b;go_wp2;refine⟨⟨j+1,C,B,Yv,Yn,by rw[<-Uv],rfl,a,q,Yv⟩,Ys⟩
    .obtain rfl:(j:Int)=h:=Yv
     have I:=run_convert_bytes_arg (P:=prog) wr 22 5 underlying22 underlying5 g 0 j c (DD V j) (DE V j) (fun i n=>by
      rw[Nat.zero_add,f.cellAt i Yv];have:=DE V j;simp[GS,List.getD,Zv (show i<(DD V j).length by omega)]) 9 underlying9
     go_wp2;go_ret;refine⟨?_,d⟩;unfold EJ;rw[<-D.o];rfl
theorem Wz(s:Zi)(a:Int)(w:Zh)(h:a<1\/8<a):
 Calls prog 101 #[.string s,Zg a] w fun e c=>e=.returned (.string ByteArray.empty)/\c=w:=by
 rcases h with h|h
 .have b:¬1<=a:=Yv
  go_enter func101,ntmps101;go_wp2;go_ret;exact⟨rfl,rfl⟩
 .have b:1<=a:=Yv
  have d:decide (a<=8)=false:=Yt
  go_enter func101,ntmps101;go_wp2;go_ret;exact⟨rfl,rfl⟩
theorem WA{k:IntKind}{a b:Int}(h:a=b):Ending.returned (.int k a)=.returned (.int k b):=by rw[h]
theorem WB(s:Zi)(w:Zh)(b:s.size<=maxLen):
 Calls prog 130 #[.string s] w fun e c=>e=.returned (.int .u64 (EY s.data.toList))/\c=w:=by
 unfold maxLen at b;go_enter func130,ntmps130;go_wp2
 go_loop [3,7] (fun v i=>∃(k:Nat),k<=s.size/\i=Zg k/\v=.int .u64 (EY (s.data.toList.take k))) (fun _ i=>s.size -(intOf i).toNat)
 case atStart=>exact⟨0,Nat.zero_le _,rfl,rfl⟩
 case round=>
  obtain⟨k,d,rfl,rfl⟩:=hrel;by_cases hlt:k<s.size
  .have a:=Yw (Na s k hlt);go_wp2;exact⟨⟨k+1,Yv,Yn,by rw[a.o];rfl⟩,Ys⟩
  .go_wp2;go_ret;exact⟨WA (by rw[Zt Yt]),rfl⟩
def Lv(v wd:Int)(j:Nat):Int:=v/2^(8 *(wd -1 -(j:Int))).toNat%256
def CO(v wd:Int)(k j:Nat):Int:=if j<k then Lv v wd j else 0
def EK(v wd:Int)(k:Nat):Array Value:= #[.int .u8 (CO v wd k 0),.int .u8 (CO v wd k 1),.int .u8 (CO v wd k 2),.int .u8 (CO v wd k 3),.int .u8 (CO v wd k 4),.int .u8 (CO v wd k 5),.int .u8 (CO v wd k 6),.int .u8 (CO v wd k 7)]
theorem Da(v a:Int)(k j:Nat)(h:j<8):(EK v a k)[j]?=some (.int .u8 (CO v a k j)):=by
 match j,h with
 |0,_=>rfl|1,_=>rfl|2,_=>rfl|3,_=>rfl|4,_=>rfl|5,_=>rfl|6,_=>rfl|7,_=>rfl
theorem Rg(v a:Int):EK v a 0= #[.int .u8 0,.int .u8 0,.int .u8 0,.int .u8 0,.int .u8 0,.int .u8 0,.int .u8 0,.int .u8 0]:=by simp[EK,CO]
theorem SL(v a:Int)(k:Nat)(h:k<8):(EK v a k).setIfInBounds k (.int .u8 (Lv v a k))=EK v a (k+1):=by
 match k,h with
 |0,_|1,_|2,_|3,_|4,_|5,_|6,_|7,_=>simp[EK,CO]
theorem SM(v:Int)(k j:Nat)(h:j<k):Lv v k j=v/256^(k -1 -j)%256:=by unfold Lv;rw[show(8 *((k:Int) -1 -(j:Int))).toNat=8 *(k -1 -j)from by omega,Int.pow_mul];rfl
theorem Uw(v a:Int)(w:Zh)(n:1<=a)(o:a<=8)(_hv0:0<=v)(_hv:v<18446744073709551616):
 Calls prog 129 #[.int .u64 v,Zg a] w fun e b=>e=.returned (.agg (Yk (CO v a a.toNat)))/\b=(w.alloc (.cells (EK v a a.toNat) 111)).alloc (.cells (EK v a a.toNat) 111):=by
 go_enter func129,ntmps129;go_wp2
 go_loopw [8] (fun i wr=>∃k:Nat,k<=a/\i=Zg k/\wr=(w.alloc (Obj.cells
  #[Value.int IntKind.u8 0,Value.int IntKind.u8 0,Value.int IntKind.u8 0,Value.int IntKind.u8 0,
   Value.int IntKind.u8 0,Value.int IntKind.u8 0,Value.int IntKind.u8 0,Value.int IntKind.u8 0]
  111)).alloc (.cells (EK v a k) 111)) (fun i _=>(a -intOf i).toNat)
 case atStart=>exact⟨0,Yv,rfl,by rw[Rg]⟩
 case round=>
  obtain⟨k,r,rfl,rfl⟩:=hrel;by_cases hlt:k<a
  .have q:=Da v a k k Yv;go_wp2;refine⟨⟨k+1,Yv,Yn,?_⟩,Ys⟩;have:=SL v a k Yv;unfold Lv at this;rw[this]
  .obtain rfl:(k:Int)=a:=Yv
   have c:=Da v k k 0 Yv;have d:=Da v k k 1 Yv;have f:=Da v k k 2 Yv;have g:=Da v k k 3 Yv;have h:=Da v k k 4 Yv;have j:=Da v k k 5 Yv;have l:=Da v k k 6 Yv;have m:=Da v k k 7 Yv;go_wp2;exact bodyPost_ret (v:=.agg (EK v k k)) (by simp[results,results129,go_sem];rfl) rfl ⟨rfl,rfl⟩
theorem KS(s:Zi)(a:Int)(w:Zh)(l:s.size<=maxLen)(f:1<=a)(h:a<=8):
 Calls prog 109 #[.string s,Zg a] w fun e d=>e=.returned (.string (EJ s.data.toList a.toNat))/\Zz w d:=by
 have b:=QE s.data.toList;obtain⟨n,rfl⟩:∃n:Nat,a=n:=⟨a.toNat,Yv⟩;have j:∀(W:Zh) (g:Nat),g=W.heap.size->Sem.run prog (convert 22 9 (Yz g n 8)) (W.alloc (Obj.cells (EK (EY s.data.toList) n n) 111))=.ok (.string (EJ s.data.toList n)) (W.alloc (Obj.cells (EK (EY s.data.toList) n n) 111)):=fun W g k=>k▸
  run_convert_bytes_arg (P:=prog) _ 22 5 underlying22 underlying5 W.heap.size 0 n 8 (DD (EY s.data.toList) n) (DE _ n) (fun i c=>by
   rw[Nat.zero_add,World.cell?_alloc_new,Da _ _ _ _ Yv];simp only[List.getD,PW _ n i c,Option.getD_some];unfold CO;rw[if_pos c,SM _ _ _ c]) 9 underlying9
 have m:(0:Int)<=n:=Yv
 unfold EK at j;go_enter func109,ntmps109;go_wp2_with (first
  |(go_at_call 130;refine(WB s _ l).mono ?_;rintro e d ⟨rfl,rfl⟩)
  |(go_at_call 129;refine(Uw _ _ _ f h b.1 b.2).mono ?_;rintro e d ⟨rfl,rfl⟩)
  |go_in)
 go_ret;refine⟨rfl,?_⟩;exact(((Zy).alloc Yu _).alloc Yt _)
def Ou(b:UInt8):Bool:=decide ((33:Int)<=(b.toNat:Int)/\(b.toNat:Int)<=126)
def nameBytes(s:Zi):Bool:=s.data.toList.all Ou
def Cr(s:Zi):Bool:=decide (1<=s.size/\s.size<=40)&&nameBytes s
theorem Fz{s:Zi}{k:Nat}(a:k<s.size)(h:¬((33:Int)<=(s[k].toNat:Int)/\(s[k].toNat:Int)<=126)):nameBytes s=false:=by unfold nameBytes;rw[List.all_eq_false];refine⟨s[k],?_,by unfold Ou;simpa using h⟩;exact List.mem_of_getElem (l:=s.data.toList) (i:=k) (h:=by simpa using a) rfl
theorem Jf{s:Zi}(h:∀k (a:k<s.size),(33:Int)<=(s[k].toNat:Int)/\(s[k].toNat:Int)<=126):nameBytes s=true:=by unfold nameBytes;rw[List.all_eq_true];intro b c;obtain⟨k,a,rfl⟩:=List.getElem_of_mem c;exact decide_eq_true (h k (by simpa using a))
def Rh(s:Zi)(k:Nat):Prop:=∀i (hi:i<s.size),i<k->(33:Int)<=(s[i].toNat:Int)/\(s[i].toNat:Int)<=126
theorem Nb{s:Zi}{k:Nat}(h:Rh s k)(f:k<s.size)(b:(33:Int)<=(s[k].toNat:Int))(c:(s[k].toNat:Int)<=126):Rh s (k+1):=by
 intro i d e;rcases Nat.lt_or_ge i k with a|a
 .exact h i d a
 .obtain rfl:i=k:=Yv
  exact⟨b,c⟩
theorem Jq(s:Zi)(w:Zh)(m:s.size<=maxLen):
 Calls prog 111 #[.string s] w fun e n=>e=.returned (.bool (Cr s))/\n=w:=by
 unfold maxLen at m;by_cases h1:1<=s.size
 .by_cases h2:s.size<=40
  .have b:decide ((s.size:Int)<1)=false:=Yt
   have g:decide ((40:Int)<(s.size:Int))=false:=Yt
   have j:Hid (decide (1<=s.size/\s.size<=40)=true):=by show _=_;simp;omega
   go_enter func111,ntmps111;go_wp2
   go_loop [14] (fun i=>∃k:Nat,k<=s.size/\i=Zg k/\Hid (Rh s k)) (fun i=>s.size -(intOf i).toNat)
   case atStart=>exact⟨0,Nat.zero_le _,rfl,fun i _ h=>by omega⟩
   case round=>
    obtain⟨k,o,rfl,c⟩:=hrel;by_cases hlt:k<s.size
    .by_cases b1:(s[k].toNat:Int)<33
     .have d:decide ((s[k].toNat:Int)<33)=true:=by simpa using b1
      go_wp2;go_ret;exact⟨Az (by unfold Cr;rw[Fz hlt Yv];simp),rfl⟩
     .have d:decide ((s[k].toNat:Int)<33)=false:=by simpa using b1
      by_cases b2:(126:Int)<(s[k].toNat:Int)
      .have f:decide ((126:Int)<(s[k].toNat:Int))=true:=by simpa using b2
       go_wp2;go_ret;exact⟨Az (by unfold Cr;rw[Fz hlt Yv];simp),rfl⟩
      .have f:decide ((126:Int)<(s[k].toNat:Int))=false:=by simpa using b2
       have HU:=Yw (Nb c hlt Yv Yv);go_wp2;exact⟨⟨k+1,Yv,Yn,HU⟩,Ys⟩
    .have a:=Jf (s:=s) (fun i l=>c i l Yv);go_wp2;go_ret;exact⟨Az (by unfold Cr;rw[a,j.o];rfl),rfl⟩
  .have b:decide ((s.size:Int)<1)=false:=Yt
   have g:decide ((40:Int)<(s.size:Int))=true:=Yt
   go_enter func111,ntmps111;go_wp2;go_ret;exact⟨Az (by unfold Cr;rw[decide_eq_false Yv];rfl),rfl⟩
 .have b:decide ((s.size:Int)<1)=true:=Yt
  go_enter func111,ntmps111;go_wp2;go_ret;exact⟨Az (by unfold Cr;rw[decide_eq_false Yv];rfl),rfl⟩
theorem Nc(s:Zi)(w:Zh)(g:s.size<=maxLen):
 Calls prog 99 #[.string s] w fun e j=>e=.returned (.bool (Cr s))/\j=w:=by
 unfold maxLen at g;go_enter func99,ntmps99;go_wp2
 go_loop [3] (fun i=>∃k:Nat,k<=s.size/\i=Zg k/\Hid (Rh s k)) (fun i=>s.size -(intOf i).toNat)
 case atStart=>exact⟨0,Nat.zero_le _,rfl,fun i _ h=>by omega⟩
 case round=>
  obtain⟨k,m,rfl,b⟩:=hrel;by_cases hlt:k<s.size
  .by_cases b1:(s[k].toNat:Int)<33
   .have c:decide ((s[k].toNat:Int)<33)=true:=by simpa using b1
    go_wp2;go_ret;exact⟨Az (by unfold Cr;rw[Fz hlt Yv];simp),rfl⟩
   .have c:decide ((s[k].toNat:Int)<33)=false:=by simpa using b1
    by_cases b2:(126:Int)<(s[k].toNat:Int)
    .have d:decide ((126:Int)<(s[k].toNat:Int))=true:=by simpa using b2
     go_wp2;go_ret;exact⟨Az (by unfold Cr;rw[Fz hlt Yv];simp),rfl⟩
    .have d:decide ((126:Int)<(s[k].toNat:Int))=false:=by simpa using b2
     have HU:=Yw (Nb b hlt Yv Yv);go_wp2;exact⟨⟨k+1,Yv,Yn,HU⟩,Ys⟩
  .have a:=Jf (s:=s) (fun i f=>b i f Yv);by_cases h1:1<=s.size
   .go_wp2;go_ret;refine⟨Az ?_,rfl⟩;unfold Cr;rw[a,Bool.and_true];simp[h1];omega
   .have l:decide ((1:Int)<=(s.size:Int))=false:=Yt
    go_wp2;go_ret;exact⟨Az (by unfold Cr;rw[decide_eq_false Yv];rfl),rfl⟩
structure Kd where
 sum:Zi
 born:Int
 J:Zi
 B:Zl
structure Pd where
 name:Zi
 sum:Zi
structure Ld where
 H:Int
 sum:Zi
 R:Int
def Nd(w:Zh)(B:Nat)(b o:Nat)(k:Kd):Prop:=
 w.cell? (Zd b o)=some (.string k.sum)/\w.cell? (Zd b (o+1))=some (Zg k.born)/\w.cell? (Zd b (o+2))=some (.string k.J)/\
  ∃ra rc,w.cell? (Zd b (o+3))=some (.slice ra k.B.length rc)/\Ad w B ra k.B
def Bu(w:Zh)(B:Nat)(a:Zk)(ks:List Kd):Prop:=
 ks=[]\/∃b off,a=some ⟨b,off,none⟩/\b<B/\∀i k,ks[i]?=some k->Nd w B b (off+i *4) k
def AO(w:Zh)(B:Nat)(a:Zk)(ps:List Pd):Prop:=
 ps=[]\/∃b off,a=some ⟨b,off,none⟩/\b<B/\∀i p,ps[i]?=some p->w.cell? (Zd b (off+i *2))=some (.string p.name)/\w.cell? (Zd b (off+i *2+1))=some (.string p.sum)
def AM(w:Zh)(B:Nat)(a:Zk)(ls:List Ld):Prop:=
 ls=[]\/∃b off,a=some ⟨b,off,none⟩/\b<B/\∀i l,ls[i]?=some l->w.cell? (Zd b (off+i *3))=some (Zg l.H)/\w.cell? (Zd b (off+i *3+1))=some (.string l.sum)/\w.cell? (Zd b (off+i *3+2))=some (Zg l.R)
theorem Nd.below{w d:Zh}{B b o:Nat}{k:Kd}(h:Nd w B b o k)(c:Below B w d)(a:b<B):Nd d B b o k:=by obtain⟨e,f,g,l,m,i,j⟩:=h;exact⟨(c.cell (p:=⟨b,o,none⟩) a).trans e,(c.cell (p:=⟨b,o+1,none⟩) a).trans f,(c.cell (p:=⟨b,o+2,none⟩) a).trans g,l,m,(c.cell (p:=⟨b,o+3,none⟩) a).trans i,j.below c⟩
theorem Nd.mono{w:Zh}{B B' b o:Nat}{k:Kd}(h:Nd w B b o k)(g:B<=B'):Nd w B' b o k:=by obtain⟨a,c,d,i,j,e,f⟩:=h;exact⟨a,c,d,i,j,e,f.mono g⟩
theorem Bu.below{w e:Zh}{B:Nat}{a:Zk}{d:List Kd}(h:Bu w B a d)(j:Below B w e):Bu e B a d:=by
 rcases h with h|⟨b,f,g,c,l⟩
 .exact .inl h
 .exact .inr ⟨b,f,g,c,fun i k m=>(l i k m).below j c⟩
theorem Bu.mono{w:Zh}{B B':Nat}{a:Zk}{c:List Kd}(h:Bu w B a c)(f:B<=B'):Bu w B' a c:=by
 rcases h with h|⟨b,d,e,l,g⟩
 .exact .inl h
 .exact .inr ⟨b,d,e,Yv,fun i k j=>(g i k j).mono f⟩
theorem Bu.at{w:Zh}{B:Nat}{a:Zk}{d:List Kd}(h:Bu w B a d){i:Nat}(e:i<d.length):
 ∃b c,a=some ⟨b,c,none⟩/\b<B/\∀i k,d[i]?=some k->Nd w B b (c+i *4) k:=by
 rcases h with h|h
 .subst h;simp at e
 .exact h
theorem AO.below{w l:Zh}{B:Nat}{a:Zk}{j:List Pd}(h:AO w B a j)(e:Below B w l):AO l B a j:=by
 rcases h with h|⟨b,d,m,c,f⟩
 .exact .inl h
 .exact .inr ⟨b,d,m,c,fun i k g=>⟨(e.cell (p:=⟨b,d+i *2,none⟩) c).trans (f i k g).1,(e.cell (p:=⟨b,d+i *2+1,none⟩) c).trans (f i k g).2⟩⟩
theorem AO.mono{w:Zh}{B B':Nat}{a:Zk}{c:List Pd}(h:AO w B a c)(i:B<=B'):AO w B' a c:=by
 rcases h with h|⟨b,d,e,g,f⟩
 .exact .inl h
 .exact .inr ⟨b,d,e,Yv,f⟩
theorem AO.at{w:Zh}{B:Nat}{a:Zk}{d:List Pd}(h:AO w B a d){i:Nat}(e:i<d.length):
 ∃b c,a=some ⟨b,c,none⟩/\b<B/\∀i p,d[i]?=some p->w.cell? (Zd b (c+i *2))=some (.string p.name)/\w.cell? (Zd b (c+i *2+1))=some (.string p.sum):=by
 rcases h with h|h
 .subst h;simp at e
 .exact h
theorem AM.below{w l:Zh}{B:Nat}{a:Zk}{j:List Ld}(h:AM w B a j)(e:Below B w l):AM l B a j:=by
 rcases h with h|⟨b,d,m,c,f⟩
 .exact .inl h
 .exact .inr ⟨b,d,m,c,fun i k g=>⟨(e.cell (p:=⟨b,d+i *3,none⟩) c).trans (f i k g).1,(e.cell (p:=⟨b,d+i *3+1,none⟩) c).trans (f i k g).2.1,(e.cell (p:=⟨b,d+i *3+2,none⟩) c).trans (f i k g).2.2⟩⟩
theorem AM.mono{w:Zh}{B B':Nat}{a:Zk}{c:List Ld}(h:AM w B a c)(i:B<=B'):AM w B' a c:=by
 rcases h with h|⟨b,d,e,g,f⟩
 .exact .inl h
 .exact .inr ⟨b,d,e,Yv,f⟩
theorem AM.at{w:Zh}{B:Nat}{a:Zk}{d:List Ld}(h:AM w B a d){i:Nat}(e:i<d.length):
 ∃b c,a=some ⟨b,c,none⟩/\b<B/\∀i l,d[i]?=some l->w.cell? (Zd b (c+i *3))=some (Zg l.H)/\w.cell? (Zd b (c+i *3+1))=some (.string l.sum)/\w.cell? (Zd b (c+i *3+2))=some (Zg l.R):=by
 rcases h with h|h
 .subst h;simp at e
 .exact h
def less(a b:Zi):Bool:=Op.bytesLess a.toList b.toList
def Hl(k:Kd)(wd:Int):Zi:=EJ (AE k.J k.B wd).data.toList wd.toNat
structure SN (wd now given births:Int):Prop where
 im:1<=wd
 jf:wd<=8
 cn:0<=now
 ig:now<=1000000000
 bh:0<=given
 gm:given<=1000000000
 ai:0<=births
 fv:births<=1000000000
structure Jr (wd:Int) (ks:List Kd) (i:Nat) (k:Kd):Prop where
 ok:AF k.J k.B wd=true
 sum:k.sum=Hl k wd
 up:∀j p,i=j+1->ks[j]?=some p->less p.sum k.sum=true
structure Js (births:Int) (ks:List Kd) (i:Nat) (k:Kd):Prop where
 lo:1<=k.born
 hi:k.born<=births
 new:∀j p,j<i->ks[j]?=some p->p.born≠k.born
def Au(ks:List Kd)(s:Zi):Prop:=∃u∈ks,u.sum=s
def Lw(ks:List Kd)(k:Kd):Prop:=∀r∈k.B,∃u∈ks,u.sum=r/\u.born<k.born
structure Lx (ks:List Kd) (ps:List Pd) (i:Nat) (p:Pd):Prop where
 name:Cr p.name=true
 up:∀j q,i=j+1->ps[j]?=some q->less q.name p.name=true
 sum:Au ks p.sum
structure Ip (now given:Int) (ks:List Kd) (ls:List Ld) (i:Nat) (l:Ld):Prop where
 lo:1<=l.H
 hi:l.H<=given
 up:∀j q,i=j+1->ls[j]?=some q->q.H<l.H
 sum:Au ks l.sum
 iy:now<l.R
 je:l.R<=now+100000
structure CF (wd now given births:Int) (ks:List Kd) (ps:List Pd) (ls:List Ld):Prop where
 dz:SN wd now given births
 nth:ks.length<=600
 np:ps.length<=100
 nl:ls.length<=200
 th:∀(i:Nat) k,ks[i]?=some k->Jr wd ks i k
 born:∀(i:Nat) k,ks[i]?=some k->Js births ks i k
 ref:∀(i:Nat) k,ks[i]?=some k->Lw ks k
 ci:∀(i:Nat) p,ps[i]?=some p->Lx ks ps i p
 ia:∀(i:Nat) l,ls[i]?=some l->Ip now given ks ls i l
theorem KT{w:Zh}{a:Nat}{v:Value}{n:Nat}{d:Zj}(h:w.ownsRow a 9 1 v n d)(c:v≠Zb):∃g cap,v=Yz g n cap:=by
 rcases Joins.ownsRow_forms h with⟨e,_⟩|b
 .exact absurd e c
 .exact b
theorem Ad.dm{w:Zh}{B g:Nat}{c:Zl}(h:Ad w B (some ⟨g,0,none⟩) c):∀j u,(c.map Value.string)[j]?=some u->w.cell? ((⟨g,0,none⟩:Addr).add j)=some u:=by
 intro j u a;rw[List.getElem?_map]at a;cases hs:c[j]? with
 |none=>rw[hs]at a;cases a
 |some s=>
  rw[hs]at a;cases a;rcases h with h|⟨b,f,d,_,e⟩
  .subst h;simp at hs
  .cases d;have:=e j s hs;rw[Go.WideShapes.add_plain];simpa using this
theorem Ri(b:Zl):∀u∈b.map Value.string,u.oneCell'=true:=fun u a=>by obtain⟨s,_,rfl⟩:=List.mem_map.1 a;rfl
end Go.Proofs.YtoglnpagihdhpaaGreatDoor
