import Derived.Test.YtdofmfnmackjhaaGreatDoorProg
import Derived.WalkKit
import Derived.ProofKit
import Derived.Deep.AppendLies
import Derived.Deep.QuietTactic
import Derived.BigQuiet
import Derived.Deep.Onto
import Derived.Laws.Cover1
import Derived.Deep.RegionWith
import Derived.Shelf.Strings.Builder1
import Derived.Lib.AppendStr
import Derived.LaidEql
import Derived.Stop.Asserts
import Derived.RowKitTokens
import Derived.Test.YtdofmfnmackjhaaGreatDoorRows
import Derived.OpenShut
import Derived.ShutString
import Derived.Lib.SmallJoins
set_option maxRecDepth 100000
set_option maxHeartbeats 16000000
namespace Go.Proofs.YtdofmfnmackjhaaGreatDoor
open ChangeShapes WideShapes ChangeAt RowKit _root_.Go.Proofs.Tryz List World Value
theorem _root_.Go.Proofs.Ad{B:Nat}{w:World}:Below B w w:=Below.refl _ _
theorem _root_.Go.Proofs.Ae{α:Type _}(a:α):∃x,x=a:=⟨a,rfl⟩
theorem _root_.Go.RowKit.Hid.Ai{P:Program}{f:Nat}{a:Array Value}{w:World}{Q R:Ending->World->Prop}(h:Hid (Calls P f a w Q))(k:∀e w,Q e w->R e w):Calls P f a w R:=Calls.mono h k
theorem _root_.Go.Proofs.Ak{α:Type _}{a b:List α}:(a++b).length=a.length+b.length:=List.length_append
theorem _root_.Go.Proofs.Al(w:World)(o:Obj):(w.alloc o).1.size=w.1.size+1:=World.size_alloc w o
theorem _root_.Go.Proofs.Az(n:Nat):0<=n:=Nat.zero_le n
theorem _root_.Go.Proofs.A0(n:Nat):0+n=n:=Nat.zero_add n
theorem _root_.Go.Proofs.A1{α:Type _}{l:List α}:l.toArray.size=l.length:=List.size_toArray
theorem _root_.Go.Proofs.A2{α:Type _}{i:Nat}{b:α}{l:Array α}:l[i]?=some b<->∃h,l[i]=b:=Array.getElem?_eq_some_iff
theorem _root_.Go.Proofs.A3(b k i:Nat):(Addr.mk b k none).add i=⟨b,k+i,none⟩:=Go.WideShapes.add_plain b k i
theorem _root_.Go.Proofs.A4{α:Type _}{a b:α}(h:some a=some b):a=b:=Option.some.inj h
theorem _root_.Go.Proofs.A5{α:Type _}{a:α}{l:List α}(h:a∈l):∃i:Nat,l[i]?=some a:=List.getElem?_of_mem h
theorem _root_.Go.Proofs.A6(w:World)(a:Addr){u:Value}(h:w.cell? a=some u):a.block<w.1.size:=w.block_lt_of_cell? a h
theorem _root_.Go.Proofs.A7{α:Type _}{a:α}{s t:List α}:a∈s++t<->a∈s\/a∈t:=List.mem_append
theorem _root_.Go.Proofs.A8{α:Type _}{a:α}{o:Option α}:a∈o.toList<->o=some a:=Option.mem_toList
theorem _root_.Go.Proofs.A9{α:Type _}{β:Type _}{l:List α}(f:α->β):(l.map f).length=l.length:=List.length_map f
theorem _root_.Go.Proofs.Bb{α:Type _}{p:α->Bool}{l:List α}{x:α}:x∈l.filter p<->x∈l/\p x=true:=List.mem_filter
theorem _root_.Go.Proofs.Bl{α:Type _}{l:List α}(h:l.length=0):l=[]:=List.eq_nil_of_length_eq_zero h
theorem _root_.Go.Proofs.Bv{α:Type _}{b:α}{l:List α}{a:α}:a∈b::l<->a=b\/a∈l:=List.mem_cons
theorem _root_.Go.Proofs.Bz(n m:Nat):n<m\/n>=m:=Nat.lt_or_ge n m
theorem _root_.Go.Proofs.Cf{α:Type _}{l:Array α}{i:Nat}(h:i<l.size):l[i]?=some l[i]:=Array.getElem?_eq_getElem h
theorem _root_.Go.Proofs.Ct{α:Type _}{i:Nat}{l:List α}:(l.take i).length=min i l.length:=List.length_take
theorem _root_.Go.Proofs.C0{P:Program}{f:Func}{R:Ending->World->Prop}{a:Act}{w:World}(v:Value)(h:Sem.run P (results f a.tmps) w=.ok v w)(k:R (.returned v) w)(d:a.defers=[]:=by rfl):bodyPost P f R .ret a w:=bodyPost_ret h d k
abbrev _root_.Go.Proofs.C1{α:Type _}(a:Option Addr)(l:List α)(c:Nat):Value:=.slice a l.length c
abbrev _root_.Go.Proofs.C3(a:Option Addr)(n c:Nat):Value:=.slice a n c
abbrev _root_.Go.Proofs.C7{α:Type _}(b:Nat)(l:List α)(c:Nat):Value:=.slice (some ⟨b,0,none⟩) l.length c
abbrev _root_.Go.Proofs.C4(s:ByteArray):Value:=.string s
abbrev _root_.Go.Proofs.C5(v:Value):Ending:=.returned v
abbrev _root_.Go.Proofs.C8{α β γ:Type _}(a b c d:Int)(e:Option Addr)(f:List α)(g:Nat)(h:Option Addr)(i:List β)(j:Nat)(k:Option Addr)(l:List γ)(m:Nat):List Value:=[.int .i64 a,.int .i64 b,.int .i64 c,.int .i64 d,.slice e f.length g,.slice h i.length j,.slice k l.length m]
abbrev _root_.Go.Proofs.C9{α β γ:Type _}(a b c d:Int)(e:Option Addr)(f:List α)(g:Nat)(h:Option Addr)(i:List β)(j:Nat)(k:Option Addr)(l:List γ)(m:Nat):Array Value:=#[.int .i64 a,.int .i64 b,.int .i64 c,.int .i64 d,.slice e f.length g,.slice h i.length j,.slice k l.length m]
abbrev _root_.Go.World.ae(w:World)(c:Array Value)(t:TypeId):World:=w.alloc (.cells c t)
abbrev _root_.Go.World.af(w:World)(b k:Nat)(v:Value):World:=w.setCell ⟨b,k,none⟩ v
theorem _root_.Go.Proofs.Dz{a p:Prop}(h:a)(k:a->p:=by intro h;omega):p:=k h
theorem _root_.Go.Proofs.D2{a p:Prop}(h:a)(k:a->p:=by intro h;simpa using h):p:=k h
abbrev _root_.Go.Proofs.D4:=Value
abbrev _root_.Eq.ah:=@Eq.trans
abbrev _root_.Go.RowKit.Below.ah:=@Go.RowKit.Below.trans
abbrev _root_.Go.World.grownBy.ah:=@Go.World.grownBy.trans
abbrev _root_.Iff.ah:=@Iff.trans
abbrev _root_.List.Perm.ah:=@List.Perm.trans
abbrev _root_.List.Sublist.ah:=@List.Sublist.trans
abbrev _root_.Go.RowKit.Below.aj:=@Go.RowKit.Below.mono
abbrev _root_.Go.Calls.aj:=@Go.Calls.mono
abbrev _root_.Go.World.ownsRow.aj:=@Go.World.ownsRow.mono
theorem _root_.Go.Proofs.D6(w:World)(c:Array Value)(t:TypeId):∃x,x=w.alloc (.cells c t):=⟨_,rfl⟩
theorem _root_.Go.Proofs.D7(w:World)(b k:Nat)(v:Value):∃x,x=w.setCell ⟨b,k,none⟩ v:=⟨_,rfl⟩
abbrev D8:=Calls prog
abbrev Zz (w w':World):Prop:=Below w.1.size w w'
theorem Zy {w:World} {o:Obj}:Below w.1.size w (w.alloc o):=(Below.refl _ _).alloc (Nat.le_refl _) _
theorem Zx {n:Nat}:n<=n:=Nat.le_refl n
theorem Zw {α:Type _} {l:List α} {i:Nat} {a:α} (h:l[i]?=some a):∃h:i<l.length,l[i]=a:=List.getElem?_eq_some_iff.1 h
theorem Zv {α:Type _} {l:List α} {i:Nat} (h:i<l.length):l[i]?=some l[i]:=List.getElem?_eq_getElem h
theorem Zu {α:Type _} {i:Nat} {l:List α} (h:i<l.length):l.take (i+1)=l.take i++[l[i]]:=List.take_succ_eq_append_getElem h
theorem Zt {α:Type _} {i:Nat} {l:List α} (h:l.length<=i):l.take i=l:=List.take_of_length_le h
theorem Zs {α:Type _} {l:List α} {i:Nat} {a:α} (h:l[i]?=some a):a∈l:=List.mem_of_getElem? h
theorem Zr {a b c:Nat} (h:a<b) (k:b<=c):a<c:=Nat.lt_of_lt_of_le h k
theorem Zq {α:Type _} (l:List α) (i:Nat) (a:α):l.toArray.setIfInBounds i a=(l.set i a).toArray:=List.setIfInBounds_toArray l i a
theorem Zp {α:Type _} {x a:α} {l:List α}:(x::l).set 0 a=a::l:=List.set_cons_zero
theorem Zo {α:Type _} {x a:α} {l:List α} {i:Nat}:(x::l).set (i+1) a=x::l.set i a:=List.set_cons_succ
theorem Zn {a b:Prop} (x:a) (y:b):a/\b:=⟨x,y⟩
theorem Zm {a b c:Nat} (h:a<=b) (k:b<=c):a<=c:=Nat.le_trans h k
theorem _root_.Go.RowKit.Hid.o {p:Prop} (h:Hid p):p:=h
abbrev _root_.Go.Proofs.Zl:=List ByteArray
abbrev _root_.Go.Proofs.Zk:=Option Addr
abbrev _root_.Go.Proofs.Zj:=List Value
abbrev _root_.Go.Proofs.Zi:=ByteArray
abbrev _root_.Go.Proofs.Zh:=World
abbrev Zg (n:Int):Value:=.int .i64 n
abbrev Ze:Value:=.int .i64 0
abbrev Zd (b k:Nat):Addr:=⟨b,k,none⟩
abbrev Zc:Value:=.string ⟨#[]⟩
abbrev Zb:Value:=.slice none 0 0
theorem Za {a b:Prop} (x:a) (y:b):a/\b:=⟨x,y⟩
abbrev _root_.Go.Proofs.Yz(b n c:Nat):Value:=.slice (some ⟨b,0,none⟩) n c
abbrev _root_.Go.Proofs.Yy(b:Nat):Value:=.pointer (some ⟨b,0,none⟩)
abbrev _root_.Go.Proofs.Yx(b k:Nat):Value:=.pointer (some ⟨b,k,none⟩)
theorem _root_.Go.Proofs.Yw{p:Prop}(h:p):Hid p:=h
theorem _root_.Go.Proofs.Yv{p:Prop}(h:p:=by omega):p:=h
theorem _root_.Go.Proofs.Yu{p:Prop}(h:p:=by simp):p:=h
theorem _root_.Go.Proofs.Yt{p:Prop}(h:p:=by simp;omega):p:=h
theorem _root_.Go.Proofs.Ys{p:Prop}(h:p:=by simp[intOf];omega):p:=h
theorem _root_.Go.Proofs.Yr{p:Prop}(h:p:=by kernel_rfl):p:=h
theorem _root_.Go.Proofs.Yq{p:Prop}(h:p:=by decide):p:=h
theorem _root_.Go.Proofs.Yp{p:Prop}(h:p:=by rfl):p:=h
theorem _root_.Go.Proofs.Yo{p:Prop}(h:p:=by unfold maxLen;omega):p:=h
theorem _root_.Go.Proofs.Yn{p:Prop}(h:p:=by go_num):p:=h
theorem _root_.Go.Proofs.Ym{p:Prop}(h:p:=by simp<;>omega):p:=h
theorem _root_.Go.Proofs.Yl{p:Prop}(h:p:=by first|omega|(simp;omega)):p:=h
abbrev Yk(f:Nat->Int):Array Value:=#[.int .u8 (f 0),.int .u8 (f 1),.int .u8 (f 2),.int .u8 (f 3),.int .u8 (f 4),.int .u8 (f 5),.int .u8 (f 6),.int .u8 (f 7)]
abbrev Yj(f:Nat->Int):List Value:=[.int .u8 (f 0),.int .u8 (f 1),.int .u8 (f 2),.int .u8 (f 3),.int .u8 (f 4),.int .u8 (f 5),.int .u8 (f 6),.int .u8 (f 7)]
abbrev Yi:Array Value:=#[.int .i64 0,.int .i64 0,.int .i64 0,.int .i64 0,.slice none 0 0,.slice none 0 0,.slice none 0 0]
abbrev Yh(a b c d:Int)(e:Option Addr)(f g:Nat)(h:Option Addr)(i j:Nat)(k:Option Addr)(l m:Nat):List Value:=[.int .i64 a,.int .i64 b,.int .i64 c,.int .i64 d,.slice e f g,.slice h i j,.slice k l m]
abbrev Yg(a b c d:Int)(e:Option Addr)(f g:Nat)(h:Option Addr)(i j:Nat)(k:Option Addr)(l m:Nat):Array Value:=#[.int .i64 a,.int .i64 b,.int .i64 c,.int .i64 d,.slice e f g,.slice h i j,.slice k l m]
abbrev Ye:Array Value:=#[.int .i64 0,.string ⟨#[]⟩,.string ⟨#[]⟩,.int .i64 0,.string ⟨#[]⟩,.slice none 0 0]
abbrev Yd(a:Int)(b c:ByteArray)(d:Int)(e:ByteArray)(f:Option Addr)(g h:Nat):Array Value:=#[.int .i64 a,.string b,.string c,.int .i64 d,.string e,.slice f g h]
abbrev Yc(a:Int)(b c:ByteArray)(d:Int)(e:ByteArray)(f:Option Addr)(g h:Nat):List Value:=[.int .i64 a,.string b,.string c,.int .i64 d,.string e,.slice f g h]
abbrev Yb:List Value:=[.int .i64 0,.string ⟨#[]⟩,.string ⟨#[]⟩,.int .i64 0,.string ⟨#[]⟩,.slice none 0 0]
abbrev Ya(a:Int)(e:Option Addr)(f g:Nat)(h:Option Addr)(i j:Nat)(b c d:Int):Array Value:=#[.int .i64 a,.slice e f g,.slice h i j,.int .i64 b,.int .i64 c,.int .i64 d]
abbrev Xz:Array Value:=#[.int .i64 0,.int .i64 0,.int .i64 0,.int .i64 0,.int .i64 0,.slice none 0 0,.slice none 0 0,.slice none 0 0,.string ⟨#[]⟩,.int .i64 0,.string ⟨#[]⟩,.string ⟨#[]⟩]
abbrev Xy(a:Int):Array Value:=#[.int .i64 a,.int .i64 0,.int .i64 0,.int .i64 0,.int .i64 0,.slice none 0 0,.slice none 0 0,.slice none 0 0,.string ⟨#[]⟩,.int .i64 0,.string ⟨#[]⟩,.string ⟨#[]⟩]
abbrev Xx:Array Value:=#[.int .i64 0,.int .i64 0,.int .i64 0,.int .i64 0,.int .i64 0,.slice none 0 0,.slice none 0 0,.slice none 0 0,.int .i64 0,.slice none 0 0,.slice none 0 0,.int .i64 0,.int .i64 0,.int .i64 0,.slice none 0 0]
abbrev Xw(a:Int)(e:Option Addr)(f g:Nat)(h:Option Addr)(i j:Nat)(b c d:Int):List Value:=[.int .i64 a,.slice e f g,.slice h i j,.int .i64 b,.int .i64 c,.int .i64 d]
abbrev Xv:Array Value:=#[.int .i64 0,.slice none 0 0,.slice none 0 0,.int .i64 0,.int .i64 0,.int .i64 0]
abbrev Xu:List Value:=[.int .i64 0,.slice none 0 0,.slice none 0 0,.int .i64 0,.int .i64 0,.int .i64 0]
abbrev Xt:Array Value:=#[.int .i64 0,.string ⟨#[]⟩,.int .i64 0,.string ⟨#[]⟩,.int .i64 0,.int .i64 0]
abbrev Xs:List Value:=[.int .i64 0,.string ⟨#[]⟩,.int .i64 0,.string ⟨#[]⟩,.int .i64 0,.int .i64 0]
abbrev Xr(a:Int):List Value:=[.int .i64 a,.int .i64 0,.int .i64 0,.int .i64 0,.int .i64 0,.slice none 0 0,.slice none 0 0,.slice none 0 0,.string ⟨#[]⟩,.int .i64 0,.string ⟨#[]⟩,.string ⟨#[]⟩]
abbrev Xp:Array Value:=#[.int .i64 0,.int .i64 0,.slice none 0 0,.slice none 0 0,.int .i64 0,.int .i64 0,.int .i64 0,.int .i64 0,.slice none 0 0,.slice none 0 0,.slice none 0 0,.int .i64 0,.slice none 0 0,.slice none 0 0,.int .i64 0,.int .i64 0,.int .i64 0]
abbrev Xo:List Value:=[.int .i64 0,.int .i64 0,.slice none 0 0,.slice none 0 0,.int .i64 0,.int .i64 0,.int .i64 0,.int .i64 0,.slice none 0 0,.slice none 0 0,.slice none 0 0,.int .i64 0,.slice none 0 0,.slice none 0 0,.int .i64 0,.int .i64 0,.int .i64 0]
abbrev Xk:Array Value:=#[.int .i64 0,.int .i64 0,.int .i64 0,.slice none 0 0,.slice none 0 0,.int .i64 0,.int .i64 0,.int .i64 0,.int .i64 0,.slice none 0 0,.slice none 0 0,.slice none 0 0,.int .i64 0,.slice none 0 0,.slice none 0 0,.int .i64 0,.int .i64 0,.int .i64 0,.string ⟨#[]⟩,.int .i64 0,.string ⟨#[]⟩,.string ⟨#[]⟩]
abbrev Xj(a:Int):List Value:=[.int .i64 a,.int .i64 0,.int .i64 0,.slice none 0 0,.slice none 0 0,.int .i64 0,.int .i64 0,.int .i64 0,.int .i64 0,.slice none 0 0,.slice none 0 0,.slice none 0 0,.int .i64 0,.slice none 0 0,.slice none 0 0,.int .i64 0,.int .i64 0,.int .i64 0,.string ⟨#[]⟩,.int .i64 0,.string ⟨#[]⟩,.string ⟨#[]⟩]
abbrev Xi(a:Int):Array Value:=#[.int .i64 a,.int .i64 0,.int .i64 0,.slice none 0 0,.slice none 0 0,.int .i64 0,.int .i64 0,.int .i64 0,.int .i64 0,.slice none 0 0,.slice none 0 0,.slice none 0 0,.int .i64 0,.slice none 0 0,.slice none 0 0,.int .i64 0,.int .i64 0,.int .i64 0,.string ⟨#[]⟩,.int .i64 0,.string ⟨#[]⟩,.string ⟨#[]⟩]
theorem RO{k:IntKind}{a b:Int}(h:a=b):Ending.returned (.int k a)=C5 (.int k b):=by rw[h]
def Af(w:Zh)(B:Nat)(a:Zk)(ss:Zl):Prop:=
 ss=[]\/∃b off,a=some ⟨b,off,none⟩/\b<B/\∀i s,ss[i]?=some s->w.cell? (Zd b (off+i))=some (.string s)
theorem Af.A{w f:Zh}{B:Nat}{a:Zk}{e:Zl}(h:Af w B a e)(j:Below B w f):Af f B a e:=by
 rcases h with h|⟨b,d,g,c,k⟩
 .exact .inl h
 .exact .inr ⟨b,d,g,c,λi s l=>(j.cell (p:=⟨b,d+i,none⟩) c).ah (k i s l)⟩
theorem Af.mono{w:Zh}{B c:Nat}{a:Zk}{d:Zl}(h:Af w B a d)(j:B<=c):Af w c a d:=by
 rcases h with h|⟨b,e,f,i,g⟩
 .exact .inl h
 .exact .inr ⟨b,e,f,Yv,g⟩
abbrev Af.aj:=@Af.mono
theorem Af.at{w:Zh}{B:Nat}{a:Zk}{d:Zl}(h:Af w B a d){k:Nat}(e:k<d.length):
 ∃b c,a=some ⟨b,c,none⟩/\b<B/\∀i s,d[i]?=some s->w.cell? (Zd b (c+i))=some (C4 s):=by
 rcases h with h|h
 .subst h;simp at e
 .exact h
def bx(ss:Zl):Nat:=(ss.map ByteArray.size).sum
theorem Nl(a:Zl)(k:Nat)(s:Zi)(h:a[k]?=some s):bx (a.take (k+1))=bx (a.take k)+s.size:=by obtain⟨b,rfl⟩:=Zw h;unfold bx;rw[Zu b,map_append,sum_append];simp
theorem bz(a:Zl)(k:Nat):bx (a.take k)<=bx a:=by
 have h:bx a=bx (a.take k)+bx (a.drop k):=by unfold bx;rw[<-sum_append,<-map_append,take_append_drop]
 omega
theorem CC:(prog.info? 9).map (λi=>(i.zero,i.size,i.bytes))=some (some Zc,1,16):=Yr
theorem Af.own{w:Zh}{b:Nat}{g c:Nat}{a:Zl}(h:w.ownsRow b 9 1 (Yz g a.length c) a.length (a.map string)):Af w w.1.size (some ⟨g,0,none⟩) a:=by refine .inr ⟨g,0,rfl,(h.lt g rfl).2,λi s e=> ?_⟩;obtain⟨d,rfl⟩:=Zw e;rw[A0,h.cellAt i Yv];simp[d]
theorem Af.T{w b:Zh}{a:Zk}{d:Zl}(h:Af w w.1.size a d)(c:Zz w b):Af b b.1.size a d:=(h.A c).aj c.size
theorem Bg{B:Nat}{a w:Zh}(h:Below B a w)(n:Nat):Below B a (w.drewN n):=⟨h.os,h.tape,h.output,h.size,h.block⟩
theorem WM{W a:Zh}(c:Zz W a):(∀b o,b<W.1.size->a.cell? (Zd b o)=W.cell? (Zd b o))/\(∀b o,b<W.1.size->a.frozen? ⟨b,o,none⟩=W.frozen? ⟨b,o,none⟩):=
 ⟨λb o h=>c.cell (p:=⟨b,o,none⟩) h,λb o h=>c.frozen (p:=⟨b,o,none⟩) h⟩
theorem Aj{a b c:Zh}{f:Option Nat}(d:a.grownBy b f)(e:b.grownBy c f):a.grownBy c f:=
 ⟨e.os.ah d.os,e.tape.ah d.tape,e.output.ah d.output,Zm d.size e.size,λk h g=>(e.block k (Zr h d.size) g).ah (d.block k h g)⟩
theorem Ag{a b:Zh}(c:Option Nat)(h:Zz a b):a.grownBy b c:=⟨h.os,h.tape,h.output,h.size,λk d _=>h.block k d⟩
theorem AO(a:Zh)(b:Option Nat):a.grownBy a b:=⟨rfl,rfl,rfl,Zx,λ_ _ _=>rfl⟩
def Ga(wd:Int)(ss:Zl)(i:Nat):Bool:=
 match ss[i]? with
 |none=>true
 |some s=>decide ((s.size:Int)=wd)&&(match i with
  |0=>true
  |j+1=>match ss[j]? with
   |none=>true
   |some r=>Op.bytesLess r.toList s.toList)
def DL(wd:Int)(ss:Zl):Bool:=(List.range ss.length).all (Ga wd ss)
theorem GD{b:Int}{a:Zl}{s:Zi}(h:a[0]?=some s):Ga b a 0=decide ((s.size:Int)=b):=by simp[Ga,h]
theorem Ei{b:Int}{a:Zl}{j:Nat}{s r:Zi}(h:a[j+1]?=some s)(c:a[j]?=some r):Ga b a (j+1)=(decide ((s.size:Int)=b)&&Op.bytesLess r.toList s.toList):=by simp[Ga,h,c]
theorem Fj{b:Int}{a:Zl}{k:Nat}(c:k<a.length)(h:Ga b a k=false):DL b a=false:=by unfold DL;rw[all_eq_false];exact⟨k,D2 c,by simp[h]⟩
theorem LG{b:Int}{a:Zl}(h:∀i,i<a.length->Ga b a i=true):DL b a=true:=by unfold DL;rw[all_eq_true];intro i c;exact h i (D2 c)
theorem Hq{p:Nat->Prop}{k:Nat}(h:∀i,i<k->p i)(b:p k):∀i,i<k+1->p i:=by
 intro i c;rcases Bz i k with a|a
 .exact h i a
 .obtain rfl:i=k:=Yv
  exact b
theorem AF{a b:Bool}(h:a=b):Ending.returned (.bool a)=C5 (.bool b):=by rw[h]
theorem MI(a:Zk)(u:Nat)(c:Zl)(l:Int)(w:Zh)(B:Nat)(d:Af w B a c)(C:c.length<=1048576):
 D8 99 #[C3 a c.length u,Zg l] w λe f=>e=C5 (.bool (decide (c.length<=30)&&DL l c))/\f=w:=by
 by_cases hn:30<c.length
 .go_enter func99,ntmps99;go_wp2;go_ret;exact⟨AF Yt,rfl⟩
 .have v:Hid (decide (c.length<=30)=true):=by show _=_;simp;omega
  go_enter func99,ntmps99;go_wp2
  go_loop [12] (λi=>∃k:Nat,k<=c.length/\i=Zg k/\Hid (∀i,i<k->Ga l c i=true)) (λi=>c.length -(intOf i).toNat)
  case atStart=>exact⟨0,Az _,rfl,λi h=>Yv⟩
  case round=>
   obtain⟨k,q,rfl,f⟩:=hrel;by_cases hlt:k<c.length
   .obtain⟨b,z,y,A,p⟩:=d.at hlt;subst y;have g:=Yw (Zv hlt);have n:=p k c[k] g
    match k,q,hlt,f,g,n with
    |0,q,hlt,f,g,n=>
     rw[Nat.add_zero]at n;clear p d;generalize c[0]=s at *
     by_cases hsz:(s.size:Int)=l
     .have t:((s.size:Int)==l)=true:=D2 hsz
      have m:=Yw hsz;clear hsz;go_wp2;exact⟨⟨1,Yv,rfl,Hq f (by rw[GD g];simpa using m.o)⟩,Ys⟩
     .have t:((s.size:Int)==l)=false:=D2 hsz
      have m:=Yw hsz;clear hsz;go_wp2;go_ret;exact⟨AF (by rw[Fj hlt (by rw[GD g,decide_eq_false m.o])];simp),rfl⟩
    |j+1,q,hlt,f,g,n=>
     have o:Hid (c[j]?=some c[j]):=Zv Yv;have x:=p j c[j] o;clear p d;generalize c[j+1]=s at *
     generalize c[j]=r at *
     by_cases hsz:(s.size:Int)=l
     .have t:((s.size:Int)==l)=true:=D2 hsz
      have m:=Yw hsz;clear hsz;by_cases d:Op.bytesLess r.toList s.toList=true
      .go_wp2;exact⟨⟨j+1+1,Yv,Yn,Hq f (by rw[Ei g o];simp[m.o,d])⟩,Ys⟩
      .have d:Op.bytesLess r.toList s.toList=false:=D2 d
       go_wp2;go_ret;exact⟨AF (by rw[Fj hlt (by rw[Ei g o];simp[d])];simp),rfl⟩
     .have t:((s.size:Int)==l)=false:=D2 hsz
      have m:=Yw hsz;clear hsz;go_wp2;go_ret;exact⟨AF (by rw[Fj hlt (by rw[Ei g o,decide_eq_false m.o];rfl)];simp),rfl⟩
   .go_wp2;go_ret;exact⟨AF (by rw[LG (λi p=>f i Yv),v.o];rfl),rfl⟩
def AG(t:Zi)(ss:Zl)(wd:Int):Bool:=decide (1<=wd/\wd<=8)&&(decide (t.size<=2000)&&(decide (ss.length<=30)&&DL wd ss))
theorem Gb{t:Zi}{b:Zl}{a:Int}(h:¬(1<=a/\a<=8)):AG t b a=false:=by unfold AG;rw[decide_eq_false h];rfl
theorem KH{t:Zi}{a:Zl}{b:Int}(h:¬t.size<=2000):AG t a b=false:=by unfold AG;rw[decide_eq_false h];simp
theorem Qw{t:Zi}{a:Zl}{b:Int}(h:¬a.length<=30):AG t a b=false:=by unfold AG;rw[decide_eq_false h];simp
theorem Io{t:Zi}{a:Zl}{b:Int}(h:DL b a=false):AG t a b=false:=by unfold AG;rw[h];simp
theorem Qx{t:Zi}{b:Zl}{a:Int}(c:1<=a)(d:a<=8)(e:t.size<=2000)(f:b.length<=30)(g:DL a b=true):AG t b a=true:=by unfold AG;rw[g];simp[c,d,e,f]
theorem Ey(t:Zi)(a:Zk)(c:Nat)(b:Zl)(d:Int)(w:Zh)(f:Af w w.1.size a b)(i:b.length<=1048576)(j:t.size<=maxLen):
 D8 82 #[.agg #[C4 t,C3 a b.length c],Zg d] w λe g=>e=C5 (.bool (AG t b d))/\g=w.alloc (.cells #[C4 t,C3 a b.length c] 30):=by
 have h:Below w.1.size w (w.alloc (.cells #[C4 t,C1 a b c] 30)):=Zy;unfold maxLen at j;by_cases h1:1<=d
 .by_cases h2:d<=8
  .by_cases h3:t.size<=2000
   .go_enter func82,ntmps82;go_wp2_with (first
     |(go_at_call 99;refine(MI a c b d _ w.1.size (f.A h) i).aj ?_;rintro e g ⟨rfl,rfl⟩)
     |go_in)
    go_ret;exact⟨AF (by simp[AG,h1,h2,h3]),rfl⟩
   .have l:decide ((t.size:Int)<=2000)=false:=Yt
    go_enter func82,ntmps82;go_wp2;go_ret;exact⟨AF (KH Yv).symm,rfl⟩
  .have k:decide (d<=8)=false:=Yt
   go_enter func82,ntmps82;go_wp2;go_ret;exact⟨AF (Gb Yv).symm,rfl⟩
 .go_enter func82,ntmps82;go_wp2;go_ret;exact⟨AF (Gb Yv).symm,rfl⟩
theorem DM(t:Zi)(a:Zk)(u:Nat)(c:Zl)(l:Int)(w:Zh)(d:Af w w.1.size a c)(G:c.length<=1048576)(D:t.size<=maxLen):
 D8 69 #[.agg #[C4 t,C3 a c.length u],Zg l] w λe f=>e=C5 (.bool (AG t c l))/\Zz w f:=by
 have m:Below w.1.size w (w.alloc (.cells #[C4 t,C1 a c u] 30)):=Zy;unfold maxLen at D;by_cases h1:1<=l
 .by_cases h2:l<=8
  .by_cases h3:t.size<=2000
   .have z:decide (2000<(t.size:Int))=false:=Yt
    by_cases h4:c.length<=30
    .have A:decide (30<(c.length:Int))=false:=Yt
     go_enter func69,ntmps69;go_wp2
     go_loopw [5] (λi wr=>∃k n:Nat,k<=c.length/\i=Zg k/\Hid (∀i,i<k->Ga l c i=true)/\wr=(w.alloc (.cells #[C4 t,C1 a c u] 30)).drewN n) (λi _=>c.length -(intOf i).toNat)
     case atStart=>exact⟨0,0,Az _,rfl,λi h=>Yv,rfl⟩
     case round=>
      obtain⟨k,n,x,rfl,f,rfl⟩:=hrel;by_cases hlt:k<c.length
      .obtain⟨b,F,C,E,v⟩:=d.at hlt;subst C;have g:Hid (c[k]?=some c[k]):=Zv hlt;have p:=v k c[k] g
       match k,x,hlt,f,g,p with
       |0,x,hlt,f,g,p=>
        rw[Nat.add_zero]at p;clear v d;generalize c[0]=s at *
        by_cases hsz:(s.size:Int)=l
        .have y:((s.size:Int) !=l)=false:=D2 hsz
         have o:=Yw hsz;clear hsz;go_wp2;go_quiet (fail);go_wp2;exact⟨⟨1,_,Yv,rfl,Hq f (by rw[GD g];simpa using o.o),rfl⟩,Ys⟩
        .have y:((s.size:Int) !=l)=true:=D2 hsz
         have o:=Yw hsz;clear hsz;go_wp2;go_quiet (fail);go_wp2;go_ret;exact⟨AF (Io (Fj hlt (by rw[GD g,decide_eq_false o.o]))).symm,Bg (Bg m _) _⟩
       |j+1,x,hlt,f,g,p=>
        have q:Hid (c[j]?=some c[j]):=Zv Yv;have B:=v j c[j] q;clear v d;generalize c[j+1]=s at *
        generalize c[j]=r at *
        by_cases hsz:(s.size:Int)=l
        .have y:((s.size:Int) !=l)=false:=D2 hsz
         have o:=Yw hsz;clear hsz;by_cases d:Op.bytesLess r.toList s.toList=true
         .go_wp2;go_quiet (fail);go_wp2;exact⟨⟨j+1+1,_,Yv,Yn,Hq f (by rw[Ei g q];simp[o.o,d]),rfl⟩,Ys⟩
         .have d:Op.bytesLess r.toList s.toList=false:=D2 d
          go_wp2;go_quiet (fail);go_wp2;go_ret;exact⟨AF (Io (Fj hlt (by rw[Ei g q];simp[d]))).symm,Bg (Bg m _) _⟩
        .have y:((s.size:Int) !=l)=true:=D2 hsz
         have o:=Yw hsz;clear hsz;go_wp2;go_quiet (fail);go_wp2;go_ret;exact⟨AF (Io (Fj hlt (by rw[Ei g q,decide_eq_false o.o];rfl))).symm,Bg (Bg m _) _⟩
      .go_wp2;go_ret;exact⟨AF (Qx h1 h2 h3 h4 (LG (λi v=>f i Yv))).symm,Bg m _⟩
    .have A:decide (30<(c.length:Int))=true:=Yt
     go_enter func69,ntmps69;go_wp2;go_ret;exact⟨AF (Qw Yv).symm,m⟩
   .have z:decide (2000<(t.size:Int))=true:=Yt
    go_enter func69,ntmps69;go_wp2;go_ret;exact⟨AF (KH Yv).symm,m⟩
  .have v:decide (l<=8)=false:=Yt
   go_enter func69,ntmps69;go_wp2;go_ret;exact⟨AF (Gb Yv).symm,m⟩
 .go_enter func69,ntmps69;go_wp2;go_ret;exact⟨AF (Gb Yv).symm,m⟩
end Go.Proofs.YtdofmfnmackjhaaGreatDoor
namespace Go.Proofs
open Go.Shelf Go.RowKit
def Tryz.fe:Go.Shelf.Ren:=⟨fun|169=>102|n=>n,fun|70=>148|9=>9|0=>0|72=>150|37=>22|127=>186|3=>3|5=>5|n=>n,fun|n=>n⟩
theorem Tryz.lays169:Go.Proofs.Lays.n169 Tryz.prog Tryz.fe:={
 mixed:=Yr
 f169:=Tryz.func102.ah (congrArg some Yr)
 t0:=Tryz.underlying0
 a0:=Tryz.isAgg0
 z0:=Tryz.sizeOf0
 v0:=Tryz.zeroValue0
 t3:=Tryz.underlying3
 a3:=Tryz.isAgg3
 z3:=Tryz.sizeOf3
 v3:=Tryz.zeroValue3
 t9:=Tryz.underlying9
 a9:=Tryz.isAgg9
 z9:=Tryz.sizeOf9
 v9:=Tryz.zeroValue9
 t37:=Tryz.underlying22
 a37:=Tryz.isAgg22
 z37:=Tryz.sizeOf22
 v37:=Tryz.zeroValue22
 t70:=Tryz.underlying148
 a70:=Tryz.isAgg148
 z70:=Tryz.sizeOf148
 v70:=Tryz.zeroValue148
 t72:=Tryz.underlying150
 a72:=Tryz.isAgg150
 z72:=Tryz.sizeOf150
 v72:=Tryz.zeroValue150
 t127:=Tryz.underlying186
 a127:=Tryz.isAgg186
 z127:=Tryz.sizeOf186
 v127:=Tryz.zeroValue186}
theorem Tryz.bi:Builder.Extra Tryz.prog Tryz.fe:={
 sizeBuilder:=Yr
 liesBuilder:=Yr
 t5:=Tryz.underlying5
 a5:=Tryz.isAgg5
 z5:=Tryz.sizeOf5
 v5:=Tryz.zeroValue5
 infoByte:=Yr
 cellsByte:=Yr
 sizeByte:=Yr
 neB5:=by decide}
theorem Tryz.Builder_String_any(B b:Nat)(l:List UInt8)(w:Zh)(h:Lib.IsBuilder 150 5 B b (Lib.byteCells l) w)(a:B<=w.1.size):
 Calls Tryz.prog 102 #[Yy b] w λe c=>e=C5 (C4 ⟨l.toArray⟩)/\Below B w c:=
 Any.Builder_String_any Tryz.lays169 Tryz.bi B b l w h a
namespace YtdofmfnmackjhaaGreatDoor
open Go.ChangeShapes Go.WideShapes Go.ChangeAt
theorem Ji(B b:Nat)(d:Zj)(w:Zh)(h:Lib.IsBuilder 150 5 B b d w):
 Calls Tryz.prog 130 #[Yy b] w λe a=>e=C5 (.tuple #[])/\Lib.BuilderAt 150 5 B b (Yy b) d a/\Below B w a:=by
 have X:=Tryz.bi;have⟨j,c,f⟩:=Option.map_eq_some_iff.1 X.sizeBuilder;rcases h with h|h
 .have g:=h.cell0;have a:=h.shape;have i:=h.frozen0;go_enter Tryz.func130,Tryz.ntmps130;go_wp2;rw[Lib.run_to_unsafe w ⟨b,0,none⟩ Tryz.underlying148 Tryz.underlying207 c (by rw[f];decide) a (Nat.zero_lt_succ 1)];simp only[Result.andThen];rw[Oper.upon_value];go_wp2;rw[run_callFunc_extern Tryz.func152 Yr Yr Yr (e:=Extern.AbiNoEscape.same) Yr]
  rw[Lib.run_noEscape];simp only[Result.andThen];rw[Oper.upon_value];go_wp2;rw[Lib.run_from_unsafe w ⟨b,0,none⟩ Tryz.underlying207 Tryz.underlying148 c a X.liesBuilder];simp only[Result.andThen];rw[Oper.upon_value];go_wp2
  go_end0
  exact⟨rfl,h.used _,(Below.refl B w).setCell (p:=⟨b,0,none⟩) h.1 _⟩
 .have g:=h.cell0;go_enter Tryz.func130,Tryz.ntmps130;go_wp2;rw[Lib.run_neq_ptr_same w _ Tryz.underlying148 c];go_wp2
  go_end0
  exact⟨rfl,h,Below.refl B _⟩
theorem Og(B b:Nat)(l:Zj)(c:Int)(w:Zh)(h:Lib.IsBuilder 150 5 B b l w)(hlen:l.length+1<=140737488355328)(O:B<=w.1.size):
 Calls Tryz.prog 100 #[Yy b,.int .u8 c] w λe a=>e=C5 .nilIface/\Lib.IsBuilder 150 5 B b (l++[.int .u8 c]) a/\Below B w a:=by
 have X:=Tryz.bi;have⟨L,J,F,G,H⟩:=info_parts X.infoByte;go_enter Tryz.func100,Tryz.ntmps100;go_wp2_with (go_at_call 130;refine(Ji B b l _ h).aj ?_);rintro e r ⟨rfl,I,i⟩;obtain⟨y,v,o,f,E⟩:=I;have c1:r.cell? (Zd b 1)=some v:=by rw[Lib.cell_of_heap o];rfl
 go_wp2_with (at_builtin;refine wpList_append_own _ rfl _ _ 22 rfl B 5 L (.int .u8 0) 1 1 Tryz.underlying22 J F G H rfl Yq _ _ _ rfl (f.alloc _) ⟨r.1.size,0,none⟩ 1 1 [.int .u8 c] rfl rfl ?c1 ?c2 ?c3 ?c4 ?c5 ?_)
 case c1=>
  intro j u q
  match j,q with
  |0,q=>simp at q;subst q;simp[Addr.add]
 case c2=>intro u z;simp at z;subst z;rfl
 case c3=>unfold maxLen;omega
 case c4=>omega
 case c5=>have:=i.size;simp;omega
 intro M C d a _;have D:b<r.1.size:=by
  rcases Bz b r.1.size with s|s
  .exact s
  .simp[Array.getElem?_eq_none s]at o
 have n:C.1[b]?=some (.cells #[Yy b,v] 150 (0,0)):=by rw[a.block b Yt (λe=>E e.symm),Lib.alloc_old _ _ _ D];exact o
 have P:C.cell? (Zd b 1)=some v:=by rw[Lib.cell_of_heap n];rfl
 have Q:=Lib.frozen_of_heap n 1;obtain⟨x,A,m,rfl⟩:∃x A m,M=C3 x A m:=by
  rcases d.2 with⟨t,_⟩|⟨g,m,N,t,_⟩
  .exact⟨_,_,_,t⟩
  .exact⟨_,_,_,t⟩
 go_wp2;go_ret;refine⟨rfl,.inr ?_,?_⟩
 .exact Lib.BuilderAt.put (T:=150) (e:=5) y n (bs':=l++[.int .u8 c]) (D2 d) X.neB5
 .exact((i.alloc (Dz i.size) _).grown a (by have:=i.size;simp;omega) (λk K=>(f.lt k K).1)).setCell (p:=⟨b,1,none⟩) y _
theorem Hs(B b:Nat)(f:Zj)(s:Zi)(w:Zh)(h:Lib.IsBuilder 150 5 B b f w)(hlen:f.length+s.size<=140737488355328)(L:B<=w.1.size):
 Calls Tryz.prog 101 #[Yy b,C4 s] w λe a=>e=C5 (.tuple #[Zg s.size,.nilIface])/\Lib.IsBuilder 150 5 B b (f++Lib.byteCells s.data.toList) a/\Below B w a:=by
 have X:=Tryz.bi;have⟨I,G,C,D,E⟩:=info_parts X.infoByte;go_enter Tryz.func101,Tryz.ntmps101;go_wp2_with (go_at_call 130;refine(Ji B b f _ h).aj ?_);rintro e q ⟨rfl,F,j⟩;obtain⟨t,v,m,d,A⟩:=F;have M:q.cell? (Zd b 1)=some v:=by rw[Lib.cell_of_heap m];rfl
 go_wp2_with (at_builtin;refine Lib.wpList_append_own_string _ rfl _ _ 22 9 rfl B 5 I Tryz.underlying22 Tryz.underlying9 G C D E _ _ _ rfl d s rfl ?c3 ?c4 ?c5 ?_)
 case c3=>unfold maxLen;omega
 case c4=>omega
 case c5=>have:=j.size;omega
 intro J x c a _;have z:b<q.1.size:=by
  rcases Bz b q.1.size with n|n
  .exact n
  .simp[Array.getElem?_eq_none n]at m
 have l:x.1[b]?=some (.cells #[Yy b,v] 150 (0,0)):=by rw[a.block b z (λe=>A e.symm)];exact m
 have N:x.cell? (Zd b 1)=some v:=by rw[Lib.cell_of_heap l];rfl
 have O:=Lib.frozen_of_heap l 1;obtain⟨r,u,i,rfl⟩:∃r u i,J=C3 r u i:=by
  rcases c.2 with⟨o,_⟩|⟨g,i,K,o,_⟩
  .exact⟨_,_,_,o⟩
  .exact⟨_,_,_,o⟩
 go_wp2
 go_ret2
 refine⟨rfl,.inr ?_,?_⟩
 .have y:Lib.strCells s=Lib.byteCells s.data.toList:=rfl;rw[<-y];exact Lib.BuilderAt.put (T:=150) (e:=5) t l (bs':=f++Lib.strCells s) (by simpa [Lib.strCells_length]using c) X.neB5
 .exact(j.grown a (Dz j.size) (λk H=>(d.lt k H).1)).setCell (p:=⟨b,1,none⟩) t _
end YtdofmfnmackjhaaGreatDoor
end Go.Proofs
namespace Go.Proofs.YtdofmfnmackjhaaGreatDoor
open ChangeShapes WideShapes ChangeAt RowKit _root_.Go.Proofs.Tryz List World Value
def flat(ss:Zl):List UInt8:=ss.flatMap (fun s=>s.data.toList)
theorem Tz(a:Zl)(k:Nat)(s:Zi)(h:a[k]?=some s):flat (a.take (k+1))=flat (a.take k)++s.data.toList:=by obtain⟨b,rfl⟩:=Zw h;unfold flat;rw[Zu b,flatMap_append];simp
theorem Er(a:Zl):(flat a).length=bx a:=by
 induction a with
 |nil=>rfl
 |cons s r ih=>
  unfold flat bx at *
  rw[flatMap_cons,Ak,ih];simp
def Ch(t:Zi)(ss:Zl):List UInt8:=UInt8.ofNat ss.length::(flat ss++t.data.toList)
theorem TA{c:Int}{b:Zl}(h:DL c b=true){i:Nat}{s:Zi}(a:b[i]?=some s):(s.size:Int)=c:=by unfold DL at h;rw[all_eq_true]at h;have d:=(Zw a).1;have:=h i (D2 d);unfold Ga at this;rw[a]at this;simp at this;exact this.1
theorem RP(a:Zl)(n:Nat)(h:∀s∈a,s.size=n):bx a=a.length *n:=by
 induction a with
 |nil=>simp[bx]
 |cons s r ih=>
  have b:=h s Yu;have c:=ih (λs d=>h s (by simp[d]));unfold bx at *
  rw[map_cons,sum_cons,c,b,length_cons,Nat.add_mul,Nat.one_mul,Nat.add_comm]
structure Fk (t:Zi) (ss:Zl) (wd:Int):Prop where
 lo:1<=wd
 hi:wd<=8
 J:t.size<=2000
 B:ss.length<=30
 all:DL wd ss=true
theorem Bj{t:Zi}{a:Zl}{b:Int}(h:AG t a b=true):Fk t a b:=by unfold AG at h;simp at h;exact⟨h.1.1,h.1.2,h.2.1,h.2.2.1,h.2.2.2⟩
theorem Fk.size{t:Zi}{a:Zl}{b:Int}(h:Fk t a b){i:Nat}{s:Zi}(c:a[i]?=some s):(s.size:Int)=b:=TA h.all c
theorem Fk.bx{t:Zi}{a:Zl}{b:Int}(h:Fk t a b):bx a=a.length *b.toNat:=by refine RP a _ λs d=> ?_;have⟨i,c⟩:=A5 d;have:=h.size c;omega
theorem Fk.bz{t:Zi}{a:Zl}{b:Int}(h:Fk t a b):YtdofmfnmackjhaaGreatDoor.bx a<=240:=by have c:=h.bx;have d:a.length *b.toNat<=30 *8:=Nat.mul_le_mul h.B (Dz h.hi);omega
theorem Nm:(prog.info? 5).map (λi=>(i.zero,i.size,i.bytes))=some (some (.int .u8 0),1,1):=Yr
theorem Ju(n:Nat)(h:n<=30):int .u8 (n:Int)=.int .u8 ((UInt8.ofNat n).toNat:Int):=by
 have:(UInt8.ofNat n).toNat=n:=Yt
 rw[this]
theorem Nn(a:Zl)(k:Nat)(s:Zi)(h:a[k]?=some s)(c:UInt8):
 Lib.byteCells (c::flat (a.take k))++Lib.strCells s=Lib.byteCells (c::flat (a.take (k+1))):=by
 rw[Tz a k s h,Lib.strCells_eq,<-Lib.byteCells_append];rfl
theorem No(t:Zi)(a:Zk)(n:Nat)(d:Zl)(M:Int)(w:Zh)(l:Af w w.1.size a d)(D:AG t d M=true):
 D8 89 #[.agg #[C4 t,C3 a d.length n],Zg M] w λe f=>e=C5 (C4 ⟨(Ch t d).toArray⟩)/\Zz w f:=by
 have K:=Bj D;have zA:=K.bz;have B:=K.B;have N:=K.J;have zC:=Yw (Ju d.length B);have⟨Q,O,E,F,G⟩:=info_parts Nm;have C:Below w.1.size w (w.alloc (.cells #[C4 t,C1 a d n] 30)):=Zy;go_enter func89,ntmps89;go_wp2_with fail;refine(DM t a n d M _ (l.T C) Yv Yo).aj ?_;rintro e r ⟨rfl,m⟩;rw[D];have⟨o,q⟩:=WM m;have L:=m.size;simp at L;go_wp2
 have h:(r.alloc (.cells #[.int .u8 d.length] 5)).ownsRow (w.1.size+1) 5 1 (Yz r.1.size 1 1) 1 (Lib.byteCells (UInt8.ofNat d.length::flat (d.take 0))):=by have:=ownsRow_lit (base:=w.1.size+1) (e:=5) (size:=1) r #[.int .u8 d.length] 1 L (by simp[maxLen]) rfl;simpa [Lib.byteCells,flat,Ju d.length B]using this
 have f:Below (w.1.size+1) (w.alloc (.cells #[C4 t,C1 a d n] 30)) (r.alloc (.cells #[.int .u8 d.length] 5)):=by have:=m.alloc (D2 L) (.cells #[.int .u8 d.length] 5);simpa using this
 go_loopw [5,6] (λu i wr=>∃(k g c:Nat),k<=d.length/\i=Zg k/\u=Yz g (1+bx (d.take k)) c/\
  wr.ownsRow (w.1.size+1) 5 1 (Yz g (1+bx (d.take k)) c) (1+bx (d.take k)) (Lib.byteCells (UInt8.ofNat d.length::flat (d.take k)))/\
  Below (w.1.size+1) (w.alloc (.cells #[C4 t,C1 a d n] 30)) wr) (λ_ i _=>d.length -(intOf i).toNat)
 case atStart=>exact⟨0,r.1.size,1,Az _,rfl,by simp[bx],by simpa [bx]using h,f⟩
 case round=>
  clear h f o q m;obtain⟨k,g,c,z,rfl,rfl,m,h⟩:=hrel;have o:wr.cell? (Zd (w.1.size) 1)=some (C1 a d n):=by rw[h.cell (p:=⟨w.1.size,1,none⟩) Yu];simp
  have X:=h.size;simp at X;have Y:=bz d k;by_cases hlt:k<d.length
  .obtain⟨b,H,Z,S,f⟩:=l.at hlt;subst Z;have x:Hid (d[k]?=some d[k]):=Zv hlt;have q:wr.cell? (Zd b (H+k))=some (C4 d[k]):=by rw[h.cell (p:=⟨b,H+k,none⟩) Yt,cell?_alloc_past _ _ _ S];exact f k _ x
   have v:=Yw (Nl d k _ x);have U:=Yw (Nn d k _ x (UInt8.ofNat d.length));have A:=bz d (k+1);rw[v.o]at A;clear f l;generalize d[k]=s at *
   go_wp2_with (at_builtin;refine Lib.wpList_append_own_string _ rfl _ _ 22 9 rfl (w.1.size+1) 5 Q underlying22 underlying9 O E F G _ _ _ rfl m s rfl ?c3 ?c4 ?c5 ?_)
   case c3=>unfold maxLen;omega
   case c4=>omega
   case c5=>omega
   intro v' R f l _;have⟨J,I,y,V,W⟩:=f.form Yv;subst y;have u:=h.grown l Yv (λk z=>(m.lt k z).1);rw[U.o]at f;clear m h l o q;go_wp2;refine⟨⟨k+1,J,I,Yv,Yn,?_,?_,u⟩,Ys⟩
   .rw[v.o,Nat.add_assoc]
   .rw[v.o,<-Nat.add_assoc];exact f
  .have q:wr.cell? (Zd (w.1.size) 0)=some (C4 t):=by rw[h.cell (p:=⟨w.1.size,0,none⟩) Yu];simp
   rw[Zt Yv]at m |-;go_wp2_with (at_builtin;refine Lib.wpList_append_own_string _ rfl _ _ 22 9 rfl (w.1.size+1) 5 Q underlying22 underlying9 O E F G _ _ _ rfl m t rfl ?c3 ?c4 ?c5 ?_)
   case c3=>unfold maxLen;omega
   case c4=>omega
   case c5=>omega
   intro v' R f l _;have⟨J,I,y,V,W⟩:=f.form Yv;subst y;have u:=h.grown l Yv (λk z=>(m.lt k z).1);have T:Lib.byteCells (UInt8.ofNat d.length::flat d)++Lib.strCells t=Lib.byteCells (Ch t d):=by rw[Lib.strCells_eq,<-Lib.byteCells_append];rfl
   rw[T]at f;have hlen:1+bx d+t.size=(Ch t d).length:=by have:=Er d;simp[Ch,this];omega
   rw[hlen]at f |-;have zB:=run_convert_bytes_back (P:=prog) R 22 9 5 ⟨J,0,none⟩ I (Ch t d) underlying22 underlying5 underlying9 (λj i=>f.cells rfl j _ (by simp[Lib.byteCells,i]));clear m h l o q f;go_wp2;go_ret;refine⟨rfl,?_⟩;exact C.ah (u.aj Yv)
theorem Vi(t:Zi)(a:Zk)(c:Nat)(b:Zl)(g:Int)(w:Zh)(d:Af w w.1.size a b)(i:AG t b g=false)(j:b.length<=1048576)(k:t.size<=maxLen):
 D8 89 #[.agg #[C4 t,C3 a b.length c],Zg g] w λe f=>e=C5 (C4 ByteArray.empty)/\Zz w f:=by
 have f:Below w.1.size w (w.alloc (.cells #[C4 t,C1 a b c] 30)):=Zy;go_enter func89,ntmps89;go_wp2_with fail;refine(DM t a c b g _ (d.T f) j k).aj ?_;rintro e l ⟨rfl,h⟩;rw[i];go_wp2;go_ret;exact⟨rfl,f.ah (h.aj Yu)⟩
theorem Vj(t:Zi)(a:Zk)(c:Nat)(b:Zl)(g:Int)(w:Zh)(d:Af w w.1.size a b)(h:AG t b g=false)(i:b.length<=1048576)(j:t.size<=maxLen):
 D8 83 #[.agg #[C4 t,C3 a b.length c],Zg g] w λe f=>e=C5 (C4 ByteArray.empty)/\Zz w f:=by
 have f:Below w.1.size w (w.alloc (.cells #[C4 t,C1 a b c] 30)):=Zy;go_enter func83,ntmps83;go_wp2_with fail;refine(Ey t a c b g _ (d.T f) i j).aj ?_;rintro e k ⟨rfl,rfl⟩;rw[h];go_wp2;go_ret;exact⟨rfl,f.alloc Yu _⟩
theorem TB(t:Zi)(a:Zk)(h:Nat)(c:Zl)(F:Int)(w:Zh)(j:Af w w.1.size a c)(B:AG t c F=true):
 D8 83 #[.agg #[C4 t,C3 a c.length h],Zg F] w λe d=>e=C5 (C4 ⟨(Ch t c).toArray⟩)/\Zz w d:=by
 have E:=Bj B;have R:=E.bz;have H:=E.B;have G:=E.J;have z:Below w.1.size w (w.alloc (.cells #[C4 t,C1 a c h] 30)):=Zy;have⟨W,d⟩:=Ae ((w.alloc (.cells #[C4 t,C1 a c h] 30)).alloc (.cells #[C4 t,C1 a c h] 30));have x:Below w.1.size w W:=by rw[d];exact z.alloc Yu _
 have y:W.1.size=w.1.size+1+1:=by rw[d];simp
 have I:W.cell? (Zd (w.1.size) 0)=some (C4 t):=by rw[d];simp
 have J:W.cell? (Zd (w.1.size) 1)=some (C1 a c h):=by rw[d];simp
 have f:=j.A x;have N:=Yw d;go_enter func83,ntmps83;go_wp2_with fail;refine(Ey t a h c F _ (j.T z) Yv Yo).aj ?_;rintro e o ⟨rfl,C⟩;rw[<-N.o]at C;subst C;clear d;rw[B];have g:=Lib.fresh_isBuilder 150 5 o;have l:Below o.1.size o (o.alloc (.cells #[.pointer none,Zb] 150)):=Zy;rw[y]at g l;go_wp2_with fail
 refine(Og (w.1.size+1+1) (w.1.size+1+1) [] _ _ g Yu (by simp[y])).aj ?_;rintro e P ⟨rfl,d,q⟩;have m:=l.ah q;have n:P.cell? (Zd (w.1.size) 1)=some (C1 a c h):=(m.cell (p:=⟨w.1.size,1,none⟩) Yt).ah J;have r:[]++[int .u8 (c.length:Int)]=Lib.byteCells (UInt8.ofNat c.length::flat (c.take 0)):=by simp[Lib.byteCells,flat,Ju c.length H]
 rw[r]at d;clear g l q r;go_wp2
 go_loopw [20] (λi wr=>∃(k:Nat),k<=c.length/\i=Zg k/\Lib.IsBuilder 150 5 (w.1.size+1+1) (w.1.size+1+1) (Lib.byteCells (UInt8.ofNat c.length::flat (c.take k))) wr/\
  Below (w.1.size+1+1) o wr) (λi _=>c.length -(intOf i).toNat)
 case atStart=>exact⟨0,Az _,rfl,d,m⟩
 case round=>
  clear d m n;obtain⟨k,T,rfl,g,d⟩:=hrel;have S:=d.size;have r:=bz c k;have l:=Er (c.take k);have n:Hid ((Lib.byteCells (UInt8.ofNat c.length::flat (c.take k))).length=1+bx (c.take k)):=by show _=_;rw[Lib.byteCells_length,length_cons,l];omega
  clear l;by_cases hlt:k<c.length
  .obtain⟨b,D,O,m,l⟩:=f.at hlt;subst O;have q:Hid (c[k]?=some c[k]):=Zv hlt;have u:wr.cell? (Zd b (D+k))=some (C4 c[k]):=by rw[d.cell (p:=⟨b,D+k,none⟩) Yt];exact l k _ q
   have K:=Yw (Nl c k _ q);have L:=Yw (Nn c k _ q (UInt8.ofNat c.length));have v:=bz c (k+1);rw[K.o]at v;clear l j f;generalize c[k]=s at *
   go_wp2_with fail;refine(Hs (w.1.size+1+1) (w.1.size+1+1) _ s _ g (by rw[n.o];omega) Yv).aj ?_;rintro e Q ⟨rfl,f,j⟩;rw[<-Lib.strCells_eq,L.o]at f;have l:=d.ah j;clear g d j u;go_wp2;exact⟨⟨k+1,Yv,Yn,f,l⟩,Ys⟩
  .have u:wr.cell? (Zd (w.1.size) 0)=some (C4 t):=(d.cell (p:=⟨w.1.size,0,none⟩) Yt).ah I;rw[Zt Yv]at g n r;go_wp2_with fail;refine(Hs (w.1.size+1+1) (w.1.size+1+1) _ t _ g (by rw[n.o];omega) Yv).aj ?_;rintro e Q ⟨rfl,f,j⟩;have A:Lib.byteCells (UInt8.ofNat c.length::flat c)++Lib.byteCells t.data.toList=Lib.byteCells (Ch t c):=by rw[<-Lib.byteCells_append];rfl
   rw[A]at f;have l:=d.ah j;have M:=l.size;clear g d j A n u;go_wp2_with fail;refine(Tryz.Builder_String_any (w.1.size+1+1) (w.1.size+1+1) _ _ f Yv).aj ?_;rintro e g ⟨rfl,d⟩;go_wp2;go_ret;exact⟨rfl,x.ah ((l.ah d).aj Yv)⟩
def AB(t:Zi)(ss:Zl)(wd:Int):Zi:=if AG t ss wd=true then ⟨(Ch t ss).toArray⟩else ByteArray.empty
theorem Ht(t:Zi)(a:Zk)(f:Nat)(b:Zl)(c:Int)(w:Zh)(d:Af w w.1.size a b)(g:b.length<=1048576)(h:t.size<=maxLen):
 D8 89 #[.agg #[C4 t,C3 a b.length f],Zg c] w λe i=>e=C5 (C4 (AB t b c))/\Zz w i:=by
 cases hok:AG t b c with
 |true=>rw[show AB t b c=⟨(Ch t b).toArray⟩from by unfold AB;rw[if_pos hok]];exact No t a f b c w d hok
 |false=>rw[show AB t b c=ByteArray.empty from by unfold AB;rw[if_neg (by rw[hok];decide)]];exact Vi t a f b c w d hok g h
theorem Jv(t:Zi)(a:Zk)(f:Nat)(b:Zl)(c:Int)(w:Zh)(d:Af w w.1.size a b)(g:b.length<=1048576)(h:t.size<=maxLen):
 D8 83 #[.agg #[C4 t,C3 a b.length f],Zg c] w λe i=>e=C5 (C4 (AB t b c))/\Zz w i:=by
 cases hok:AG t b c with
 |true=>rw[show AB t b c=⟨(Ch t b).toArray⟩from by unfold AB;rw[if_pos hok]];exact TB t a f b c w d hok
 |false=>rw[show AB t b c=ByteArray.empty from by unfold AB;rw[if_neg (by rw[hok];decide)]];exact Vj t a f b c w d hok g h
theorem Qy{a:Int}:0<=IntKind.u64.wrap a/\IntKind.u64.wrap a<18446744073709551616:=by simp[IntKind.wrap,IntKind.bits,IntKind.signed];omega
def Rj(v:Int)(b:UInt8):Int:=IntKind.u64.wrap (bits BinOp.xor IntKind.u64 v (IntKind.u64.wrap b.toNat) *1099511628211)
def EV(l:List UInt8):Int:=l.foldl Rj 14695981039346656037
theorem Rk(l:List UInt8):0<=EV l/\EV l<18446744073709551616:=by
 unfold EV;rcases l.eq_nil_or_concat with rfl|⟨r,b,rfl⟩
 .simp
 .simp only[concat_eq_append,foldl_append,foldl_cons,foldl_nil];exact Qy
theorem Np(s:Zi)(k:Nat)(h:k<s.size):EV (s.data.toList.take (k+1))=Rj (EV (s.data.toList.take k)) s[k]:=by rw[Zu (D2 h)];unfold EV;rw[foldl_append];rfl
def DN(v:Int):Nat->List Int
 |0=>[]
 |k+1=>(v/256^k%256)::DN v k
theorem Di(v:Int)(k:Nat):(DN v k).length=k:=by
 induction k with
 |zero=>rfl
 |succ k ih=>simp[DN,ih]
theorem Qz(v:Int)(k:Nat):∀i,i<k->(DN v k)[i]?=some (v/256^(k -1 -i)%256):=by
 induction k with
 |zero=>intro i h;omega
 |succ k ih=>
  intro i h
  match i with
  |0=>simp[DN]
  |i+1=>rw[DN,getElem?_cons_succ,ih i Yv,show k -1 -i=k+1 -1 -(i+1)from by omega]
def GX(v:Int)(k:Nat):Zj:=(DN v k).map (Value.int .u8)
theorem LH(v:Int)(k:Nat):(GX v k).length=k:=by simp[GX,Di]
theorem Vk(v:Int)(k:Nat):v/256^k/256=v/256^(k+1):=by rw[Int.ediv_ediv_of_nonneg (Int.pow_nonneg Yq),Int.pow_succ]
theorem ZQ(v:Int)(k:Nat)(a:0<=v)(h:v<18446744073709551616):0<=v/256^k/\v/256^k<18446744073709551616:=by have b:(0:Int)<256^k:=Int.pow_pos Yq;exact⟨Int.ediv_nonneg a (Int.le_of_lt b),Int.lt_of_le_of_lt (Int.ediv_le_self _ a) h⟩
def CD(l:List UInt8)(n:Nat):Zi:=strOfNums (DN (EV l) n)
theorem infoByte:(prog.info? 5).map (λi=>(i.zero,i.size,i.bytes))=some (some (.int .u8 0),1,1):=Yr
theorem IM(s:Zi)(h:Int)(w:Zh)(C:s.size<=maxLen)(I:1<=h)(J:h<=8):
 D8 22 #[C4 s,Zg h] w λe a=>e=C5 (C4 (CD s.data.toList h.toNat))/\Zz w a:=by
 unfold maxLen at C;have⟨E,n,r,t,x⟩:=info_parts infoByte;go_enter func22,ntmps22;go_wp2
 go_loop [5,6] (λv i=>∃(k:Nat),k<=s.size/\i=Zg k/\v=.int .u64 (EV (s.data.toList.take k))) (λ_ i=>s.size -(intOf i).toNat)
 case atStart=>exact⟨0,Az _,rfl,rfl⟩
 case round=>
  obtain⟨k,o,rfl,rfl⟩:=hrel;by_cases hlt:k<s.size
  .have y:=Yw (Np s k hlt);go_wp2;exact⟨⟨k+1,Yv,Yn,by rw[y.o];rfl⟩,Ys⟩
  .have B:Hid (EV (s.data.toList.take k)=EV s.data.toList):=by show _=_;rw[Zt Yt]
   have l:=Rk (s.data.toList.take k);generalize EV (s.data.toList.take k)=V at *
   go_wp2
   go_loopw [5,7,8] (λv a i wr=>∃(k:Nat) (g c:Nat),k<=h/\i=Zg k/\v=.int .u64 (V/256^k)/\a=Yz g k c/\wr.ownsRow w.1.size 5 1 (Yz g k c) k (GX V k)/\Zz w wr/\w.1.size<=wr.1.size) (λ_ _ i _=>(h -intOf i).toNat)
   case atStart=>exact⟨0,_,_,Yv,rfl,Yu,rfl,ownsRow_lit w #[] 0 (Zx) (by simp[maxLen]) rfl,Zy,Yu⟩
   case round=>
    obtain⟨j,g,c,K,rfl,rfl,rfl,f,d,m⟩:=hrel;by_cases hlt2:j<h
    .have F:=ZQ V j l.1 l.2;go_wp2_with (first
      |(at_builtin;refine wpList_append_own _ rfl _ _ 22 rfl w.1.size 5 E (.int .u8 0) 1 1 underlying22 n r t x rfl Yq _ 1 [.int .u8 (V/256^j%256)] rfl ?c0 ⟨g,0,none⟩ j c (GX V j) rfl (by rw[LH];omega) ?c1 ?c2 ?c3 ?c4 ?c5 ?_)
      |go_in)
     case c0=>exact ownsRow_lit wr _ 1 m (by simp[maxLen]) rfl
     case c1=>exact(f.alloc _).cells rfl
     case c2=>intro u D;obtain⟨_,_,rfl⟩:=mem_map.1 D;rfl
     case c3=>unfold maxLen;omega
     case c4=>omega
     case c5=>simp;omega
     intro L M a b _;have⟨A,z,q,G,H⟩:=a.form Yv;subst q;have p:=(d.alloc m _).grown b Yt (by intro k o;simp[ownBlock]at o;omega);rw[Nat.add_comm 1 j]at a |-;clear f d b;go_wp2;refine⟨⟨j+1,A,z,Yv,Yn,by rw[<-Vk],rfl,a,p,Yv⟩,Ys⟩
    .obtain rfl:(j:Int)=h:=Yv
     have b:=run_convert_bytes_arg (P:=prog) wr 22 5 underlying22 underlying5 g 0 j c (DN V j) (Di V j) (λi n=>by
      rw[A0,f.cellAt i Yv];have:=Di V j;simp[GX,getD,Zv (show i<(DN V j).length by omega)]) 9 underlying9
     go_wp2;go_ret;refine⟨?_,d⟩;unfold CD;rw[<-B.o];rfl
theorem XJ(s:Zi)(a:Int)(w:Zh)(h:a<1\/8<a):
 D8 22 #[C4 s,Zg a] w λe b=>e=C5 (C4 ByteArray.empty)/\b=w:=by
 rcases h with h|h
 .have b:¬1<=a:=Yv
  go_enter func22,ntmps22;go_wp2;go_ret;exact⟨rfl,rfl⟩
 .have b:1<=a:=Yv
  have c:decide (a<=8)=false:=Yt
  go_enter func22,ntmps22;go_wp2;go_ret;exact⟨rfl,rfl⟩
theorem XK{k:IntKind}{a b:Int}(h:a=b):Ending.returned (.int k a)=C5 (.int k b):=by rw[h]
theorem XL(s:Zi)(w:Zh)(b:s.size<=maxLen):
 D8 35 #[C4 s] w λe a=>e=C5 (.int .u64 (EV s.data.toList))/\a=w:=by
 unfold maxLen at b;go_enter func35,ntmps35;go_wp2
 go_loop [3,7] (λv i=>∃(k:Nat),k<=s.size/\i=Zg k/\v=.int .u64 (EV (s.data.toList.take k))) (λ_ i=>s.size -(intOf i).toNat)
 case atStart=>exact⟨0,Az _,rfl,rfl⟩
 case round=>
  obtain⟨k,c,rfl,rfl⟩:=hrel;by_cases hlt:k<s.size
  .have a:=Yw (Np s k hlt);go_wp2;exact⟨⟨k+1,Yv,Yn,by rw[a.o];rfl⟩,Ys⟩
  .go_wp2;go_ret;exact⟨XK (by rw[Zt Yt]),rfl⟩
def LI(v wd:Int)(j:Nat):Int:=v/2^(8 *(wd -1 -(j:Int))).toNat%256
def CV(v wd:Int)(k j:Nat):Int:=if j<k then LI v wd j else 0
def EO(v wd:Int)(k:Nat):Array Value:= #[.int .u8 (CV v wd k 0),.int .u8 (CV v wd k 1),.int .u8 (CV v wd k 2),.int .u8 (CV v wd k 3),.int .u8 (CV v wd k 4),.int .u8 (CV v wd k 5),.int .u8 (CV v wd k 6),.int .u8 (CV v wd k 7)]
theorem Dg(v a:Int)(k j:Nat)(h:j<8):(EO v a k)[j]?=some (.int .u8 (CV v a k j)):=by
 match j,h with
 |0,_=>rfl|1,_=>rfl|2,_=>rfl|3,_=>rfl|4,_=>rfl|5,_=>rfl|6,_=>rfl|7,_=>rfl
theorem RQ(v a:Int):EO v a 0= #[.int .u8 0,.int .u8 0,.int .u8 0,.int .u8 0,.int .u8 0,.int .u8 0,.int .u8 0,.int .u8 0]:=by simp[EO,CV]
theorem TC(v a:Int)(k:Nat)(h:k<8):(EO v a k).setIfInBounds k (.int .u8 (LI v a k))=EO v a (k+1):=by
 match k,h with
 |0,_|1,_|2,_|3,_|4,_|5,_|6,_|7,_=>simp[EO,CV]
theorem TD(v:Int)(k j:Nat)(h:j<k):LI v k j=v/256^(k -1 -j)%256:=by unfold LI;rw[show(8 *((k:Int) -1 -(j:Int))).toNat=8 *(k -1 -j)from by omega,Int.pow_mul];rfl
theorem Vl(v a:Int)(w:Zh)(m:1<=a)(n:a<=8)(_hv0:0<=v)(_hv:v<18446744073709551616):
 D8 34 #[.int .u64 v,Zg a] w λe b=>e=C5 (.agg (Yk (CV v a a.toNat)))/\b=(w.alloc (.cells (EO v a a.toNat) 75)).alloc (.cells (EO v a a.toNat) 75):=by
 go_enter func34,ntmps34;go_wp2
 go_loopw [8] (λi wr=>∃k:Nat,k<=a/\i=Zg k/\wr=(w.alloc (Obj.cells
  #[int IntKind.u8 0,int IntKind.u8 0,int IntKind.u8 0,int IntKind.u8 0,
   int IntKind.u8 0,int IntKind.u8 0,int IntKind.u8 0,int IntKind.u8 0]
  75)).alloc (.cells (EO v a k) 75)) (λi _=>(a -intOf i).toNat)
 case atStart=>exact⟨0,Yv,rfl,by rw[RQ]⟩
 case round=>
  obtain⟨k,p,rfl,rfl⟩:=hrel;by_cases hlt:k<a
  .have o:=Dg v a k k Yv;go_wp2;refine⟨⟨k+1,Yv,Yn,?_⟩,Ys⟩;have:=TC v a k Yv;unfold LI at this;rw[this]
  .obtain rfl:(k:Int)=a:=Yv
   have b:=Dg v k k 0 Yv;have c:=Dg v k k 1 Yv;have d:=Dg v k k 2 Yv;have f:=Dg v k k 3 Yv;have g:=Dg v k k 4 Yv;have h:=Dg v k k 5 Yv;have j:=Dg v k k 6 Yv;have l:=Dg v k k 7 Yv;go_wp2;exact C0 (.agg (EO v k k)) (by simp[results,results34,go_sem];rfl) ⟨rfl,rfl⟩
theorem IN(s:Zi)(a:Int)(w:Zh)(k:s.size<=maxLen)(f:1<=a)(h:a<=8):
 D8 8 #[C4 s,Zg a] w λe d=>e=C5 (C4 (CD s.data.toList a.toNat))/\Zz w d:=by
 have b:=Rk s.data.toList;obtain⟨n,rfl⟩:∃n:Nat,a=n:=⟨a.toNat,Yv⟩;have j:∀(W:Zh) (g:Nat),g=W.1.size->Sem.run prog (convert 22 9 (Yz g n 8)) (W.alloc (Obj.cells (EO (EV s.data.toList) n n) 75))=.ok (C4 (CD s.data.toList n)) (W.alloc (Obj.cells (EO (EV s.data.toList) n n) 75)):=λW g c=>c▸
  run_convert_bytes_arg (P:=prog) _ 22 5 underlying22 underlying5 W.1.size 0 n 8 (DN (EV s.data.toList) n) (Di _ n) (λi c=>by
   rw[A0,cell?_alloc_new,Dg _ _ _ _ Yv];simp only[getD,Qz _ n i c,Option.getD_some];unfold CV;rw[if_pos c,TD _ _ _ c]) 9 underlying9
 have c:(0:Int)<=n:=Yv
 unfold EO at j;go_enter func8,ntmps8;go_wp2_with (first
  |(go_at_call 35;refine(XL s _ k).aj ?_;rintro e d ⟨rfl,rfl⟩)
  |(go_at_call 34;refine(Vl _ _ _ f h b.1 b.2).aj ?_;rintro e d ⟨rfl,rfl⟩)
  |go_in)
 go_ret;refine⟨rfl,?_⟩;exact(((Zy).alloc Yu _).alloc Yt _)
def OP(b:UInt8):Bool:=decide ((33:Int)<=(b.toNat:Int)/\(b.toNat:Int)<=126)
def nameBytes(s:Zi):Bool:=s.data.toList.all OP
def Ck(s:Zi):Bool:=decide (1<=s.size/\s.size<=40)&&nameBytes s
theorem Fv{s:Zi}{k:Nat}(a:k<s.size)(h:¬((33:Int)<=(s[k].toNat:Int)/\(s[k].toNat:Int)<=126)):nameBytes s=false:=by unfold nameBytes;rw[all_eq_false];refine⟨s[k],?_,by unfold OP;simpa using h⟩;exact mem_of_getElem (l:=s.data.toList) (i:=k) (h:=D2 a) rfl
theorem Jj{s:Zi}(h:∀k (a:k<s.size),(33:Int)<=(s[k].toNat:Int)/\(s[k].toNat:Int)<=126):nameBytes s=true:=by unfold nameBytes;rw[all_eq_true];intro b c;obtain⟨k,a,rfl⟩:=getElem_of_mem c;exact decide_eq_true (h k (D2 a))
def RS(s:Zi)(k:Nat):Prop:=∀i (hi:i<s.size),i<k->(33:Int)<=(s[i].toNat:Int)/\(s[i].toNat:Int)<=126
theorem Nq{s:Zi}{k:Nat}(h:RS s k)(f:k<s.size)(b:(33:Int)<=(s[k].toNat:Int))(c:(s[k].toNat:Int)<=126):RS s (k+1):=by
 intro i d e;rcases Bz i k with a|a
 .exact h i d a
 .obtain rfl:i=k:=Yv
  exact⟨b,c⟩
theorem Nr(s:Zi)(w:Zh)(m:s.size<=maxLen):
 D8 84 #[C4 s] w λe a=>e=C5 (.bool (Ck s))/\a=w:=by
 unfold maxLen at m;by_cases h1:1<=s.size
 .by_cases h2:s.size<=40
  .have b:decide ((s.size:Int)<1)=false:=Yt
   have g:decide ((40:Int)<(s.size:Int))=false:=Yt
   have j:Hid (decide (1<=s.size/\s.size<=40)=true):=by show _=_;simp;omega
   go_enter func84,ntmps84;go_wp2
   go_loop [14] (λi=>∃k:Nat,k<=s.size/\i=Zg k/\Hid (RS s k)) (λi=>s.size -(intOf i).toNat)
   case atStart=>exact⟨0,Az _,rfl,λi _ h=>Yv⟩
   case round=>
    obtain⟨k,n,rfl,c⟩:=hrel;by_cases hlt:k<s.size
    .by_cases b1:(s[k].toNat:Int)<33
     .have d:decide ((s[k].toNat:Int)<33)=true:=D2 b1
      go_wp2;go_ret;exact⟨AF (by unfold Ck;rw[Fv hlt Yv];simp),rfl⟩
     .have d:decide ((s[k].toNat:Int)<33)=false:=D2 b1
      by_cases b2:(126:Int)<(s[k].toNat:Int)
      .have f:decide ((126:Int)<(s[k].toNat:Int))=true:=D2 b2
       go_wp2;go_ret;exact⟨AF (by unfold Ck;rw[Fv hlt Yv];simp),rfl⟩
      .have f:decide ((126:Int)<(s[k].toNat:Int))=false:=D2 b2
       have HU:=Yw (Nq c hlt Yv Yv);go_wp2;exact⟨⟨k+1,Yv,Yn,HU⟩,Ys⟩
    .have a:=Jj (s:=s) (λi l=>c i l Yv);go_wp2;go_ret;exact⟨AF (by unfold Ck;rw[a,j.o];rfl),rfl⟩
  .have b:decide ((s.size:Int)<1)=false:=Yt
   have g:decide ((40:Int)<(s.size:Int))=true:=Yt
   go_enter func84,ntmps84;go_wp2;go_ret;exact⟨AF (by unfold Ck;rw[decide_eq_false Yv];rfl),rfl⟩
 .have b:decide ((s.size:Int)<1)=true:=Yt
  go_enter func84,ntmps84;go_wp2;go_ret;exact⟨AF (by unfold Ck;rw[decide_eq_false Yv];rfl),rfl⟩
theorem Ns(s:Zi)(w:Zh)(g:s.size<=maxLen):
 D8 66 #[C4 s] w λe a=>e=C5 (.bool (Ck s))/\a=w:=by
 unfold maxLen at g;go_enter func66,ntmps66;go_wp2
 go_loop [3] (λi=>∃k:Nat,k<=s.size/\i=Zg k/\Hid (RS s k)) (λi=>s.size -(intOf i).toNat)
 case atStart=>exact⟨0,Az _,rfl,λi _ h=>Yv⟩
 case round=>
  obtain⟨k,j,rfl,b⟩:=hrel;by_cases hlt:k<s.size
  .by_cases b1:(s[k].toNat:Int)<33
   .have c:decide ((s[k].toNat:Int)<33)=true:=D2 b1
    go_wp2;go_ret;exact⟨AF (by unfold Ck;rw[Fv hlt Yv];simp),rfl⟩
   .have c:decide ((s[k].toNat:Int)<33)=false:=D2 b1
    by_cases b2:(126:Int)<(s[k].toNat:Int)
    .have d:decide ((126:Int)<(s[k].toNat:Int))=true:=D2 b2
     go_wp2;go_ret;exact⟨AF (by unfold Ck;rw[Fv hlt Yv];simp),rfl⟩
    .have d:decide ((126:Int)<(s[k].toNat:Int))=false:=D2 b2
     have HU:=Yw (Nq b hlt Yv Yv);go_wp2;exact⟨⟨k+1,Yv,Yn,HU⟩,Ys⟩
  .have a:=Jj (s:=s) (λi f=>b i f Yv);by_cases h1:1<=s.size
   .go_wp2;go_ret;refine⟨AF ?_,rfl⟩;unfold Ck;rw[a,Bool.and_true];simp[h1];omega
   .have f:decide ((1:Int)<=(s.size:Int))=false:=Yt
    go_wp2;go_ret;exact⟨AF (by unfold Ck;rw[decide_eq_false Yv];rfl),rfl⟩
structure Kd where
 sum:Zi
 born:Int
 J:Zi
 B:Zl
abbrev _root_.Go.Proofs.Dj:=List Kd
structure Pd where
 name:Zi
 sum:Zi
abbrev _root_.Go.Proofs.Dy:=List Pd
structure Ld where
 G:Int
 sum:Zi
 S:Int
abbrev _root_.Go.Proofs.Dv:=List Ld
def Nt(w:Zh)(B:Nat)(b o:Nat)(k:Kd):Prop:=
 w.cell? (Zd b o)=some (.string k.sum)/\w.cell? (Zd b (o+1))=some (Zg k.born)/\w.cell? (Zd b (o+2))=some (.string k.J)/\
  ∃ra rc,w.cell? (Zd b (o+3))=some (.slice ra k.B.length rc)/\Af w B ra k.B
def AW(w:Zh)(B:Nat)(a:Zk)(ks:List Kd):Prop:=
 ks=[]\/∃b off,a=some ⟨b,off,none⟩/\b<B/\∀i k,ks[i]?=some k->Nt w B b (off+i *4) k
def AU(w:Zh)(B:Nat)(a:Zk)(ps:List Pd):Prop:=
 ps=[]\/∃b off,a=some ⟨b,off,none⟩/\b<B/\∀i p,ps[i]?=some p->w.cell? (Zd b (off+i *2))=some (.string p.name)/\w.cell? (Zd b (off+i *2+1))=some (.string p.sum)
def AS(w:Zh)(B:Nat)(a:Zk)(ls:List Ld):Prop:=
 ls=[]\/∃b off,a=some ⟨b,off,none⟩/\b<B/\∀i l,ls[i]?=some l->w.cell? (Zd b (off+i *3))=some (Zg l.G)/\w.cell? (Zd b (off+i *3+1))=some (.string l.sum)/\w.cell? (Zd b (off+i *3+2))=some (Zg l.S)
theorem Nt.A{w d:Zh}{B b o:Nat}{k:Kd}(h:Nt w B b o k)(c:Below B w d)(a:b<B):Nt d B b o k:=by obtain⟨e,f,g,l,m,i,j⟩:=h;exact⟨(c.cell (p:=⟨b,o,none⟩) a).ah e,(c.cell (p:=⟨b,o+1,none⟩) a).ah f,(c.cell (p:=⟨b,o+2,none⟩) a).ah g,l,m,(c.cell (p:=⟨b,o+3,none⟩) a).ah i,j.A c⟩
theorem Nt.mono{w:Zh}{B a b o:Nat}{k:Kd}(h:Nt w B b o k)(i:B<=a):Nt w a b o k:=by obtain⟨c,d,e,j,l,f,g⟩:=h;exact⟨c,d,e,j,l,f,g.aj i⟩
abbrev Nt.aj:=@Nt.mono
theorem AW.A{w e:Zh}{B:Nat}{a:Zk}{d:Dj}(h:AW w B a d)(j:Below B w e):AW e B a d:=by
 rcases h with h|⟨b,f,g,c,l⟩
 .exact .inl h
 .exact .inr ⟨b,f,g,c,λi k m=>(l i k m).A j c⟩
theorem AW.mono{w:Zh}{B c:Nat}{a:Zk}{ks:Dj}(h:AW w B a ks)(f:B<=c):AW w c a ks:=by
 rcases h with h|⟨b,d,e,l,g⟩
 .exact .inl h
 .exact .inr ⟨b,d,e,Yv,λi k j=>(g i k j).aj f⟩
abbrev AW.aj:=@AW.mono
theorem AW.at{w:Zh}{B:Nat}{a:Zk}{ks:Dj}(h:AW w B a ks){i:Nat}(d:i<ks.length):
 ∃b c,a=some ⟨b,c,none⟩/\b<B/\∀i k,ks[i]?=some k->Nt w B b (c+i *4) k:=by
 rcases h with h|h
 .subst h;simp at d
 .exact h
theorem AU.A{w l:Zh}{B:Nat}{a:Zk}{j:Dy}(h:AU w B a j)(e:Below B w l):AU l B a j:=by
 rcases h with h|⟨b,d,m,c,f⟩
 .exact .inl h
 .exact .inr ⟨b,d,m,c,λi k g=>⟨(e.cell (p:=⟨b,d+i *2,none⟩) c).ah (f i k g).1,(e.cell (p:=⟨b,d+i *2+1,none⟩) c).ah (f i k g).2⟩⟩
theorem AU.mono{w:Zh}{B c:Nat}{a:Zk}{d:Dy}(h:AU w B a d)(j:B<=c):AU w c a d:=by
 rcases h with h|⟨b,e,f,i,g⟩
 .exact .inl h
 .exact .inr ⟨b,e,f,Yv,g⟩
abbrev AU.aj:=@AU.mono
theorem AU.at{w:Zh}{B:Nat}{a:Zk}{d:Dy}(h:AU w B a d){i:Nat}(e:i<d.length):
 ∃b c,a=some ⟨b,c,none⟩/\b<B/\∀i p,d[i]?=some p->w.cell? (Zd b (c+i *2))=some (C4 p.name)/\w.cell? (Zd b (c+i *2+1))=some (C4 p.sum):=by
 rcases h with h|h
 .subst h;simp at e
 .exact h
theorem AS.A{w l:Zh}{B:Nat}{a:Zk}{j:Dv}(h:AS w B a j)(e:Below B w l):AS l B a j:=by
 rcases h with h|⟨b,d,m,c,f⟩
 .exact .inl h
 .exact .inr ⟨b,d,m,c,λi k g=>⟨(e.cell (p:=⟨b,d+i *3,none⟩) c).ah (f i k g).1,(e.cell (p:=⟨b,d+i *3+1,none⟩) c).ah (f i k g).2.1,(e.cell (p:=⟨b,d+i *3+2,none⟩) c).ah (f i k g).2.2⟩⟩
theorem AS.mono{w:Zh}{B c:Nat}{a:Zk}{d:Dv}(h:AS w B a d)(j:B<=c):AS w c a d:=by
 rcases h with h|⟨b,e,f,i,g⟩
 .exact .inl h
 .exact .inr ⟨b,e,f,Yv,g⟩
abbrev AS.aj:=@AS.mono
theorem AS.at{w:Zh}{B:Nat}{a:Zk}{d:Dv}(h:AS w B a d){i:Nat}(e:i<d.length):
 ∃b c,a=some ⟨b,c,none⟩/\b<B/\∀i l,d[i]?=some l->w.cell? (Zd b (c+i *3))=some (Zg l.G)/\w.cell? (Zd b (c+i *3+1))=some (C4 l.sum)/\w.cell? (Zd b (c+i *3+2))=some (Zg l.S):=by
 rcases h with h|h
 .subst h;simp at e
 .exact h
def less(a b:Zi):Bool:=Op.bytesLess a.toList b.toList
def Gc(k:Kd)(wd:Int):Zi:=CD (AB k.J k.B wd).data.toList wd.toNat
structure OQ (wd now given births:Int):Prop where
 gm:1<=wd
 ib:wd<=8
 ct:0<=now
 ic:now<=1000000000
 bh:0<=given
 gg:given<=1000000000
 ai:0<=births
 ff:births<=1000000000
structure Fg (wd:Int) (ks:List Kd) (i:Nat) (k:Kd):Prop where
 ok:AG k.J k.B wd=true
 sum:k.sum=Gc k wd
 up:∀j p,i=j+1->ks[j]?=some p->less p.sum k.sum=true
structure EZ (births:Int) (ks:List Kd) (i:Nat) (k:Kd):Prop where
 lo:1<=k.born
 hi:k.born<=births
 new:∀j p,j<i->ks[j]?=some p->p.born≠k.born
def Am(ks:List Kd)(s:Zi):Prop:=∃u∈ks,u.sum=s
def Hu(ks:List Kd)(k:Kd):Prop:=∀r∈k.B,∃u∈ks,u.sum=r/\u.born<k.born
structure EP (ks:List Kd) (ps:List Pd) (i:Nat) (p:Pd):Prop where
 name:Ck p.name=true
 up:∀j q,i=j+1->ps[j]?=some q->less q.name p.name=true
 sum:Am ks p.sum
structure Dw (now given:Int) (ks:List Kd) (ls:List Ld) (i:Nat) (l:Ld):Prop where
 lo:1<=l.G
 hi:l.G<=given
 up:∀j q,i=j+1->ls[j]?=some q->q.G<l.G
 sum:Am ks l.sum
 ir:now<l.S
 ix:l.S<=now+100000
structure AJ (wd now given births:Int) (ks:List Kd) (ps:List Pd) (ls:List Ld):Prop where
 bn:OQ wd now given births
 nth:ks.length<=600
 np:ps.length<=100
 nl:ls.length<=200
 th:∀(i:Nat) k,ks[i]?=some k->Fg wd ks i k
 born:∀(i:Nat) k,ks[i]?=some k->EZ births ks i k
 ref:∀(i:Nat) k,ks[i]?=some k->Hu ks k
 cj:∀(i:Nat) p,ps[i]?=some p->EP ks ps i p
 bu:∀(i:Nat) l,ls[i]?=some l->Dw now given ks ls i l
structure Ao (W:Zh) where
 w:Zh
 h:Below W.1.size W w
theorem Ao.ne(W:Zh):Nonempty (Ao W):=⟨⟨W,Ad⟩⟩
theorem Ao.cell{W:Zh}{b o:Nat}{v:D4}(c:W.cell? (Zd b o)=some v)(a:b<W.1.size)(n:Ao W):n.w.cell? (Zd b o)=some v:=(n.h.cell (p:=⟨b,o,none⟩) a).ah c
theorem Ao.size{W:Zh}(n:Ao W):W.1.size<=n.w.1.size:=n.h.size
def Ao.next{W:Zh}(n:Ao W){w':Zh}(h:Below n.w.1.size n.w w'):Ao W:=⟨w',n.h.trans (h.mono n.h.size)⟩
theorem RT{P:Program}{c:Array Oper}{i:Nat}{Q:Exit->Act->Zh->Prop}{a:Act}{w:Zh}(g:P.follows .mixedOrders=true)(f:Region.lexB .any c=true)
 (h:wpQuiet P c (λd=>∃n:Ao w,d=n.w) (λb=>∀n:Ao w,Q .normal b n.w) c.toList a):(Code.region i c true).wp P Q a w:=by
 refine wp_region_quiet (C:=λd=>∃n:Ao w,d=n.w) g f ⟨⟨_,Ad.drew⟩,rfl⟩ ?_;have e:(λb=>∀d,(∃n:Ao w,d=n.w)->Q .normal b d)=(λb=>∀n:Ao w,Q .normal b n.w):=by
  funext b
  exact propext ⟨λh n=>h _ ⟨n,rfl⟩,λh _ ⟨n,e⟩=>e▸h n⟩
 rw[e];exact h
theorem Ax{P:Program}{l:List Oper}{e:Nat}{Q:Exit->Act->Zh->Prop}{a:Act}{w:Zh}(d:P.follows .mixedOrders=true)(c:Region.lexB .any l.toArray=true)
 (h:wpQuiet P l.toArray (λf=>∃n:Ao w,f=n.w) (λb=>∀n:Ao w,Q .normal b n.w) l a):(Code.region e l.toArray true).wp P Q a w:=
 RT d c (D2 h)
theorem Ao.calls{P:Program}{f:FuncId}{args:Array Value}{W:Zh}{v:D4}{n:Ao W}(h:Calls P f args n.w λe b=>e=C5 v/\Below n.w.1.size n.w b):
 Calls P f args n.w λe a=>e=C5 v/\∃m:Ao W,a=m.w:=
 h.aj λ_ _ ⟨he,hb⟩=>⟨he,n.next hb,rfl⟩
section
open Go.RowKit Go.Extern.Stop Go.Stop Go.Extern
abbrev rv(t:Nat)(a:Addr)(f:Int):Value:=.agg #[.pointer (some ⟨2,t,none⟩),.pointer (some a),.int .u64 f]
end
theorem own:ownKnob prog.godebug=none:=Yr
theorem laidOut:laidOutB prog=true:=Yr
