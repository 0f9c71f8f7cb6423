import Derived.Test.YtmjlkgpekcnacaaGreatProg
import Derived.WalkKit
import Derived.ProofKit
import Derived.Deep.AppendLies
import Derived.Deep.QuietTactic
import Derived.BigQuiet
import Derived.Deep.Onto
import Derived.Laws.Cover1
import Derived.Deep.RegionWith
import Derived.Maps.AppendAt
import Derived.Maps.Range
import Derived.Shelf.Strings.Builder1
import Derived.Lib.AppendStr
import Derived.Lib.SmallJoins
import Derived.OneCell
import Derived.Deep.DeepCutAuto
import Derived.Laws.CopyRow
import Derived.Maps.OwnSet
import Derived.DeepKeys5
set_option maxRecDepth 100000
set_option maxHeartbeats 16000000
namespace Go.Proofs.YtmjlkgpekcnacaaGreat
open Go.ChangeShapes Go.WideShapes Go.ChangeAt Go.RowKit _root_.Go.Proofs.Tryz
abbrev Zz (w w':World):Prop:=Below w.heap.size w w'
theorem Zy {w:World} {o:Obj}:Below w.heap.size w (w.alloc o):=(Below.refl _ _).alloc (Nat.le_refl _) _
theorem Zx {n:Nat}:n<=n:=Nat.le_refl n
theorem Zw {α:Type _} {l:List α} {i:Nat} {a:α} (h:l[i]?=some a):∃h:i<l.length,l[i]=a:=List.getElem?_eq_some_iff.1 h
theorem Zv {α:Type _} {l:List α} {i:Nat} (h:i<l.length):l[i]?=some l[i]:=List.getElem?_eq_getElem h
theorem Zu {α:Type _} {i:Nat} {l:List α} (h:i<l.length):l.take (i+1)=l.take i++[l[i]]:=List.take_succ_eq_append_getElem h
theorem Zt {α:Type _} {i:Nat} {l:List α} (h:l.length<=i):l.take i=l:=List.take_of_length_le h
theorem Zs {α:Type _} {l:List α} {i:Nat} {a:α} (h:l[i]?=some a):a∈l:=List.mem_of_getElem? h
theorem Zr {a b c:Nat} (h:a<b) (k:b<=c):a<c:=Nat.lt_of_lt_of_le h k
theorem Zq {α:Type _} (l:List α) (i:Nat) (a:α):l.toArray.setIfInBounds i a=(l.set i a).toArray:=List.setIfInBounds_toArray l i a
theorem Zp {α:Type _} {x a:α} {l:List α}:(x::l).set 0 a=a::l:=List.set_cons_zero
theorem Zo {α:Type _} {x a:α} {l:List α} {i:Nat}:(x::l).set (i+1) a=x::l.set i a:=List.set_cons_succ
theorem Zn {a b:Prop} (x:a) (y:b):a/\b:=⟨x,y⟩
theorem Zm {a b c:Nat} (h:a<=b) (k:b<=c):a<=c:=Nat.le_trans h k
theorem _root_.Go.RowKit.Hid.o {p:Prop} (h:Hid p):p:=h
abbrev _root_.Go.Proofs.Zl:=List ByteArray
abbrev _root_.Go.Proofs.Zk:=Option Addr
abbrev _root_.Go.Proofs.Zj:=List Value
abbrev _root_.Go.Proofs.Zi:=ByteArray
abbrev _root_.Go.Proofs.Zh:=World
abbrev Zg (n:Int):Value:=.int .i64 n
abbrev Ze:Value:=.int .i64 0
abbrev Zd (b k:Nat):Addr:=⟨b,k,none⟩
abbrev Zc:Value:=.string ⟨#[]⟩
abbrev Zb:Value:=.slice none 0 0
theorem Za {a b:Prop} (x:a) (y:b):a/\b:=⟨x,y⟩
abbrev _root_.Go.Proofs.Yz(b n c:Nat):Value:=.slice (some ⟨b,0,none⟩) n c
abbrev _root_.Go.Proofs.Yy(b:Nat):Value:=.pointer (some ⟨b,0,none⟩)
abbrev _root_.Go.Proofs.Yx(b k:Nat):Value:=.pointer (some ⟨b,k,none⟩)
theorem _root_.Go.Proofs.Yw{p:Prop}(h:p):Hid p:=h
theorem _root_.Go.Proofs.Yv{p:Prop}(h:p:=by omega):p:=h
theorem _root_.Go.Proofs.Yu{p:Prop}(h:p:=by simp):p:=h
theorem _root_.Go.Proofs.Yt{p:Prop}(h:p:=by simp;omega):p:=h
theorem _root_.Go.Proofs.Ys{p:Prop}(h:p:=by kernel_rfl):p:=h
theorem _root_.Go.Proofs.Yr{p:Prop}(h:p:=by decide):p:=h
theorem _root_.Go.Proofs.Yq{p:Prop}(h:p:=by rfl):p:=h
theorem _root_.Go.Proofs.Yp{p:Prop}(h:p:=by unfold maxLen;omega):p:=h
theorem _root_.Go.Proofs.Yo{p:Prop}(h:p:=by go_num):p:=h
theorem _root_.Go.Proofs.Yn{p:Prop}(h:p:=by simp<;>omega):p:=h
theorem _root_.Go.Proofs.Ym{p:Prop}(h:p:=by first|omega|(simp;omega)):p:=h
abbrev Yl(f:Nat->Int):Array Value:=#[.int .u8 (f 0),.int .u8 (f 1),.int .u8 (f 2),.int .u8 (f 3),.int .u8 (f 4),.int .u8 (f 5),.int .u8 (f 6),.int .u8 (f 7)]
abbrev Yk(f:Nat->Int):List Value:=[.int .u8 (f 0),.int .u8 (f 1),.int .u8 (f 2),.int .u8 (f 3),.int .u8 (f 4),.int .u8 (f 5),.int .u8 (f 6),.int .u8 (f 7)]
abbrev Yj(a b c d:Int)(e:Option Addr)(f g:Nat)(h:Option Addr)(i j:Nat)(k:Option Addr)(l m:Nat):Array Value:=#[.int .i64 a,.int .i64 b,.int .i64 c,.int .i64 d,.slice e f g,.slice h i j,.slice k l m]
abbrev Yi:Array Value:=#[.int .i64 0,.int .i64 0,.int .i64 0,.int .i64 0,.int .i64 0,.slice none 0 0,.slice none 0 0,.slice none 0 0,.string ⟨#[]⟩,.int .i64 0,.string ⟨#[]⟩,.string ⟨#[]⟩]
abbrev Yh(a b c d:Int)(e:Option Addr)(f g:Nat)(h:Option Addr)(i j:Nat)(k:Option Addr)(l m:Nat):List Value:=[.int .i64 a,.int .i64 b,.int .i64 c,.int .i64 d,.slice e f g,.slice h i j,.slice k l m]
abbrev Yg(a:Int):Array Value:=#[.int .i64 a,.int .i64 0,.int .i64 0,.int .i64 0,.int .i64 0,.slice none 0 0,.slice none 0 0,.slice none 0 0,.string ⟨#[]⟩,.int .i64 0,.string ⟨#[]⟩,.string ⟨#[]⟩]
abbrev Ye(a:Int)(b c:ByteArray)(d:Int)(e:ByteArray)(f:Option Addr)(g h:Nat):Array Value:=#[.int .i64 a,.string b,.string c,.int .i64 d,.string e,.slice f g h]
abbrev Yd(a:Int)(b c:ByteArray)(d:Int)(e:ByteArray)(f:Option Addr)(g h:Nat):List Value:=[.int .i64 a,.string b,.string c,.int .i64 d,.string e,.slice f g h]
abbrev Yc:Array Value:=#[.int .i64 0,.int .i64 0,.int .i64 0,.int .i64 0,.slice none 0 0,.slice none 0 0,.slice none 0 0]
abbrev Yb(a:Int):List Value:=[.int .i64 a,.int .i64 0,.int .i64 0,.int .i64 0,.int .i64 0,.slice none 0 0,.slice none 0 0,.slice none 0 0,.string ⟨#[]⟩,.int .i64 0,.string ⟨#[]⟩,.string ⟨#[]⟩]
abbrev Ya:Array Value:=#[.int .i64 0,.string ⟨#[]⟩,.string ⟨#[]⟩,.int .i64 0,.string ⟨#[]⟩,.slice none 0 0]
abbrev Xz:List Value:=[.int .i64 0,.string ⟨#[]⟩,.string ⟨#[]⟩,.int .i64 0,.string ⟨#[]⟩,.slice none 0 0]
abbrev Xy(a:Int)(e:Option Addr)(f g:Nat)(h:Option Addr)(i j:Nat)(b c d:Int):Array Value:=#[.int .i64 a,.slice e f g,.slice h i j,.int .i64 b,.int .i64 c,.int .i64 d]
abbrev Xx:Array Value:=#[.int .i64 0,.slice none 0 0,.slice none 0 0,.int .i64 0,.int .i64 0,.int .i64 0]
abbrev Xw:Array Value:=#[.int .i64 0,.int .i64 0,.int .i64 0,.int .i64 0,.int .i64 0,.slice none 0 0,.slice none 0 0,.slice none 0 0,.int .i64 0,.slice none 0 0,.slice none 0 0,.int .i64 0,.int .i64 0,.int .i64 0,.slice none 0 0]
abbrev Xv(a:Int)(e:Option Addr)(f g:Nat)(h:Option Addr)(i j:Nat)(b c d:Int):List Value:=[.int .i64 a,.slice e f g,.slice h i j,.int .i64 b,.int .i64 c,.int .i64 d]
abbrev Xu:List Value:=[.int .i64 0,.slice none 0 0,.slice none 0 0,.int .i64 0,.int .i64 0,.int .i64 0]
abbrev Xs:Array Value:=#[.int .i64 0,.int .i64 0,.slice none 0 0,.slice none 0 0,.int .i64 0,.int .i64 0,.int .i64 0,.int .i64 0,.slice none 0 0,.slice none 0 0,.slice none 0 0,.int .i64 0,.slice none 0 0,.slice none 0 0,.int .i64 0,.int .i64 0,.int .i64 0]
abbrev Xr:List Value:=[.int .i64 0,.int .i64 0,.slice none 0 0,.slice none 0 0,.int .i64 0,.int .i64 0,.int .i64 0,.int .i64 0,.slice none 0 0,.slice none 0 0,.slice none 0 0,.int .i64 0,.slice none 0 0,.slice none 0 0,.int .i64 0,.int .i64 0,.int .i64 0]
abbrev Xn:Array Value:=#[.int .i64 0,.int .i64 0,.int .i64 0,.slice none 0 0,.slice none 0 0,.int .i64 0,.int .i64 0,.int .i64 0,.int .i64 0,.slice none 0 0,.slice none 0 0,.slice none 0 0,.int .i64 0,.slice none 0 0,.slice none 0 0,.int .i64 0,.int .i64 0,.int .i64 0,.string ⟨#[]⟩,.int .i64 0,.string ⟨#[]⟩,.string ⟨#[]⟩]
abbrev Xm(a:Int):List Value:=[.int .i64 a,.int .i64 0,.int .i64 0,.slice none 0 0,.slice none 0 0,.int .i64 0,.int .i64 0,.int .i64 0,.int .i64 0,.slice none 0 0,.slice none 0 0,.slice none 0 0,.int .i64 0,.slice none 0 0,.slice none 0 0,.int .i64 0,.int .i64 0,.int .i64 0,.string ⟨#[]⟩,.int .i64 0,.string ⟨#[]⟩,.string ⟨#[]⟩]
abbrev Xl(a:Int):Array Value:=#[.int .i64 a,.int .i64 0,.int .i64 0,.slice none 0 0,.slice none 0 0,.int .i64 0,.int .i64 0,.int .i64 0,.int .i64 0,.slice none 0 0,.slice none 0 0,.slice none 0 0,.int .i64 0,.slice none 0 0,.slice none 0 0,.int .i64 0,.int .i64 0,.int .i64 0,.string ⟨#[]⟩,.int .i64 0,.string ⟨#[]⟩,.string ⟨#[]⟩]
abbrev Xk:Array Value:=#[.int .i64 0,.string ⟨#[]⟩,.int .i64 0,.string ⟨#[]⟩,.int .i64 0,.int .i64 0]
abbrev Xj:List Value:=[.int .i64 0,.string ⟨#[]⟩,.int .i64 0,.string ⟨#[]⟩,.int .i64 0,.int .i64 0]
theorem JH{k:IntKind}{a b:Int}(h:a=b):Ending.returned (.int k a)=.returned (.int k b):=by rw[h]
def Ab(w:Zh)(B:Nat)(a:Zk)(ss:Zl):Prop:=
 ss=[]\/∃b off,a=some ⟨b,off,none⟩/\b<B/\∀i s,ss[i]?=some s->w.cell? (Zd b (off+i))=some (.string s)
theorem Ab.below{w e:Zh}{B:Nat}{a:Zk}{d:Zl}(h:Ab w B a d)(g:Below B w e):Ab e B a d:=by
 rcases h with h|⟨b,off,f,c,j⟩
 .exact .inl h
 .exact .inr ⟨b,off,f,c,fun i s k=>(g.cell (p:=⟨b,off+i,none⟩) c).trans (j i s k)⟩
theorem Ab.mono{w:Zh}{B c:Nat}{a:Zk}{ss:Zl}(h:Ab w B a ss)(g:B<=c):Ab w c a ss:=by
 rcases h with h|⟨b,off,d,f,e⟩
 .exact .inl h
 .exact .inr ⟨b,off,d,Yv,e⟩
theorem Ab.at{w:Zh}{B:Nat}{a:Zk}{ss:Zl}(h:Ab w B a ss){k:Nat}(c:k<ss.length):
 ∃b off,a=some ⟨b,off,none⟩/\b<B/\∀i s,ss[i]?=some s->w.cell? (Zd b (off+i))=some (.string s):=by
 rcases h with h|h
 .subst h;simp at c
 .exact h
def bn(ss:Zl):Nat:=(ss.map ByteArray.size).sum
theorem LZ(a:Zl)(k:Nat)(s:Zi)(h:a[k]?=some s):bn (a.take (k+1))=bn (a.take k)+s.size:=by obtain⟨b,rfl⟩:=Zw h;unfold bn;rw[Zu b,List.map_append,List.sum_append];simp
theorem bp(a:Zl)(k:Nat):bn (a.take k)<=bn a:=by
 have h:bn a=bn (a.take k)+bn (a.drop k):=by unfold bn;rw[<-List.sum_append,<-List.map_append,List.take_append_drop]
 omega
theorem BW:(prog.info? 9).map (fun i=>(i.zero,i.size,i.bytes))=some (some Zc,1,16):=Ys
theorem Ab.own{w:Zh}{b:Nat}{g c:Nat}{a:Zl}(h:w.ownsRow b 9 1 (Yz g a.length c) a.length (a.map Value.string)):Ab w w.heap.size (some ⟨g,0,none⟩) a:=by refine .inr ⟨g,0,rfl,(h.lt g rfl).2,fun i s e=> ?_⟩;obtain⟨d,rfl⟩:=Zw e;rw[Nat.zero_add,h.cellAt i Yv];simp[d]
theorem Ab.M{w b:Zh}{a:Zk}{d:Zl}(h:Ab w w.heap.size a d)(c:Zz w b):Ab b b.heap.size a d:=(h.below c).mono c.size
theorem AM{B:Nat}{a w:Zh}(h:Below B a w)(n:Nat):Below B a (w.drewN n):=⟨h.os,h.tape,h.output,h.size,h.block⟩
theorem VW{W a:Zh}(c:Zz W a):(∀b o,b<W.heap.size->a.cell? (Zd b o)=W.cell? (Zd b o))/\(∀b o,b<W.heap.size->a.frozen? ⟨b,o,none⟩=W.frozen? ⟨b,o,none⟩):=
 ⟨fun b o h=>c.cell (p:=⟨b,o,none⟩) h,fun b o h=>c.frozen (p:=⟨b,o,none⟩) h⟩
theorem Am{a b c:Zh}{row:Option Nat}(d:a.grownBy b row)(e:b.grownBy c row):a.grownBy c row:=
 ⟨e.os.trans d.os,e.tape.trans d.tape,e.output.trans d.output,Zm d.size e.size,fun k g f=>(e.block k (Zr g d.size) f).trans (d.block k g f)⟩
theorem Ae{a b:Zh}(row:Option Nat)(h:Zz a b):a.grownBy b row:=⟨h.os,h.tape,h.output,h.size,fun k c _=>h.block k c⟩
theorem AK(a:Zh)(row:Option Nat):a.grownBy a row:=⟨rfl,rfl,rfl,Zx,fun _ _ _=>rfl⟩
theorem Wt{a b:Nat}(h:b<a):some a≠some b:=fun e=>by have:=Option.some.inj e;omega
theorem Be(w:Zh)(g p:Nat)(v:Value):w.grownBy (w.setCell (Zd g p) v) (some g):=
 ⟨rfl,rfl,rfl,Yu,fun i _ a=>Below.heap_setCell _ _ _ _ (fun e=>a (by rw[e]))⟩
def Aa(w:Zh)(B:Nat)(l:Zj):Prop:=∀j v,l[j]?=some v->w.cell? (Zd B j)=some v/\w.frozen? ⟨B,j,none⟩=false
theorem Aa.lt{w:Zh}{B:Nat}{v:Value}{l:Zj}(h:Aa w B (v::l)):B<w.heap.size:=World.block_lt_of_cell? w _ (h 0 v rfl).1
theorem Aa.dt{w f:Zh}{B b:Nat}{v:Value}{l:Zj}(h:Aa w B (v::l))(c:w.grownBy f (some b))(a:b<B):Aa f B (v::l):=by intro j x e;have d:=h.lt;exact⟨(c.cell_far ⟨B,j,none⟩ d (Wt a)).trans (h j x e).1,(c.frozen_far ⟨B,j,none⟩ d (Wt a)).trans (h j x e).2⟩
theorem Aa.below{w d:Zh}{B:Nat}{v:Value}{l:Zj}(h:Aa w B (v::l))(a:Zz w d):Aa d B (v::l):=by intro j x c;have b:=h.lt;exact⟨(a.cell (p:=⟨B,j,none⟩) b).trans (h j x c).1,(a.frozen (p:=⟨B,j,none⟩) b).trans (h j x c).2⟩
theorem Aa.new(w:Zh)(l:Zj)(T:TypeId):Aa (w.alloc (.cells l.toArray T)) w.heap.size l:=by intro j v a;refine⟨?_,Yu⟩;rw[World.cell?_alloc_at _ _ _ _ rfl];simpa using a
theorem Aa.aw{w g:Zh}{B c:Nat}{v:Value}{l:Zj}(h:Aa w B (v::l))(a:w.grownBy g (some c))(i:c≠B):Aa g B (v::l):=by intro j x f;have b:=h.lt;have d:some B≠some c:=fun e=>i (Option.some.inj e).symm;exact⟨(a.cell_far ⟨B,j,none⟩ b d).trans (h j x f).1,(a.frozen_far ⟨B,j,none⟩ b d).trans (h j x f).2⟩
theorem Aa.set{w:Zh}{B:Nat}{l:Zj}(h:Aa w B l)(j:Nat)(v:Value):Aa (w.setCell (Zd B j) v) B (l.set j v):=by
 intro i x a;by_cases hij:i=j
 .subst hij;have b:i<l.length:=by
   rcases Nat.lt_or_ge i l.length with c|c
   .exact c
   .rw[List.getElem?_eq_none (by simpa using c)]at a;cases a
  rw[List.getElem?_set_self b]at a;injection a with a;subst a;obtain⟨d,f⟩:=h i _ (Zv b);exact⟨by simp[go_sem,d],by simpa [go_sem]using f⟩
 .rw[List.getElem?_set_ne (fun e=>hij e.symm)]at a;obtain⟨d,f⟩:=h i x a;refine⟨?_,by simpa [go_sem]using f⟩;rw[World.cell?_setCell_other _ _ _ _ (by intro e;injection e;omega)];exact d
theorem Bc{w W:Zh}{l:Zj}{T:TypeId}(h:W=w.alloc (.cells l.toArray T)):Below w.heap.size w W/\W.heap.size=w.heap.size+1/\Aa W w.heap.size l:=by subst h;exact⟨Zy,Yu,Aa.new w l T⟩
theorem Aa.alloc{w:Zh}{B:Nat}{l:Zj}(h:Aa w B l)(a:B<w.heap.size)(o:Obj):Aa (w.alloc o) B l:=fun j v b=>
 ⟨(((Below.refl w.heap.size w).alloc (Zx) o).cell (p:=⟨B,j,none⟩) a).trans (h j v b).1,(((Below.refl w.heap.size w).alloc (Zx) o).frozen (p:=⟨B,j,none⟩) a).trans (h j v b).2⟩
theorem Bm{w W:Zh}{l k:Zj}{T U:TypeId}(h:W=(w.alloc (.cells l.toArray T)).alloc (.cells k.toArray U)):Below w.heap.size w W/\W.heap.size=w.heap.size+2/\Aa W w.heap.size l/\Aa W (w.heap.size+1) k:=by obtain⟨a,d,e⟩:=Bc (w:=w) (l:=l) (T:=T) rfl;obtain⟨f,b,c⟩:=Bc h;rw[d]at b c;subst h;exact⟨a.trans (f.mono a.size),b,e.alloc Yv _,c⟩
theorem CZ{w W:Zh}{l k m:Zj}{T U V:TypeId}(h:W=((w.alloc (.cells l.toArray T)).alloc (.cells k.toArray U)).alloc (.cells m.toArray V)):Below w.heap.size w W/\W.heap.size=w.heap.size+3/\Aa W w.heap.size l/\Aa W (w.heap.size+1) k/\Aa W (w.heap.size+2) m:=by obtain⟨a,d,e,f⟩:=Bm (w:=w) (l:=l) (T:=T) (k:=k) (U:=U) rfl;obtain⟨g,b,c⟩:=Bc h;rw[d]at b c;subst h;exact⟨a.trans (g.mono a.size),b,e.alloc Yv _,f.alloc Yv _,c⟩
theorem Vi{w W:Zh}{l k m n:Zj}{T U V R:TypeId}(h:W=(((w.alloc (.cells l.toArray T)).alloc (.cells k.toArray U)).alloc (.cells m.toArray V)).alloc (.cells n.toArray R)):Below w.heap.size w W/\W.heap.size=w.heap.size+4/\Aa W w.heap.size l/\Aa W (w.heap.size+1) k/\Aa W (w.heap.size+2) m/\Aa W (w.heap.size+3) n:=by obtain⟨a,d,e,f,g⟩:=CZ (w:=w) (l:=l) (T:=T) (k:=k) (U:=U) (m:=m) (V:=V) rfl;obtain⟨i,b,c⟩:=Bc h;rw[d]at b c;subst h;exact⟨a.trans (i.mono a.size),b,e.alloc Yv _,f.alloc Yv _,g.alloc Yv _,c⟩
theorem Aa.c2{w:Zh}{B:Nat}{t:Zj}{a b:Value}(h:Aa w B t)(i j:Nat)(c:t[i]?=some a:=by rfl)(d:t[j]?=some b:=by rfl):w.cell? (Zd B i)=some a/\w.cell? (Zd B j)=some b:=
 ⟨(h i _ c).1,(h j _ d).1⟩
theorem Aa.c3{w:Zh}{B:Nat}{t:Zj}{a b c:Value}(h:Aa w B t)(i j k:Nat)(d:t[i]?=some a:=by rfl)(e:t[j]?=some b:=by rfl)(f:t[k]?=some c:=by rfl):w.cell? (Zd B i)=some a/\w.cell? (Zd B j)=some b/\w.cell? (Zd B k)=some c:=
 ⟨(h i _ d).1,(h j _ e).1,(h k _ f).1⟩
theorem Aa.c4{w:Zh}{B:Nat}{t:Zj}{a b c d:Value}(h:Aa w B t)(i j k l:Nat)(e:t[i]?=some a:=by rfl)(f:t[j]?=some b:=by rfl)(g:t[k]?=some c:=by rfl)(m:t[l]?=some d:=by rfl):w.cell? (Zd B i)=some a/\w.cell? (Zd B j)=some b/\w.cell? (Zd B k)=some c/\w.cell? (Zd B l)=some d:=
 ⟨(h i _ e).1,(h j _ f).1,(h k _ g).1,(h l _ m).1⟩
theorem Aa.c6{w:Zh}{B:Nat}{t:Zj}{a b c d e f:Value}(h:Aa w B t)(i j k l m n:Nat)(g:t[i]?=some a:=by rfl)(o:t[j]?=some b:=by rfl)(q:t[k]?=some c:=by rfl)(r:t[l]?=some d:=by rfl)(s:t[m]?=some e:=by rfl)(u:t[n]?=some f:=by rfl):w.cell? (Zd B i)=some a/\w.cell? (Zd B j)=some b/\w.cell? (Zd B k)=some c/\w.cell? (Zd B l)=some d/\w.cell? (Zd B m)=some e/\w.cell? (Zd B n)=some f:=
 ⟨(h i _ g).1,(h j _ o).1,(h k _ q).1,(h l _ r).1,(h m _ s).1,(h n _ u).1⟩
theorem Aa.c7{w:Zh}{B:Nat}{t:Zj}{a b c d e f g:Value}(h:Aa w B t)(i j k l m n o:Nat)(q:t[i]?=some a:=by rfl)(r:t[j]?=some b:=by rfl)(s:t[k]?=some c:=by rfl)(u:t[l]?=some d:=by rfl)(v:t[m]?=some e:=by rfl)(x:t[n]?=some f:=by rfl)(y:t[o]?=some g:=by rfl):w.cell? (Zd B i)=some a/\w.cell? (Zd B j)=some b/\w.cell? (Zd B k)=some c/\w.cell? (Zd B l)=some d/\w.cell? (Zd B m)=some e/\w.cell? (Zd B n)=some f/\w.cell? (Zd B o)=some g:=
 ⟨(h i _ q).1,(h j _ r).1,(h k _ s).1,(h l _ u).1,(h m _ v).1,(h n _ x).1,(h o _ y).1⟩
structure Nc (a b:Zh) (p q:Option Nat):Prop where
 os:b.os=a.os
 tape:b.tape=a.tape
 output:b.output=a.output
 size:a.heap.size<=b.heap.size
 block:∀k,k<a.heap.size->some k≠p->some k≠q->b.heap[k]?=a.heap[k]?
theorem Nc.below{a b:Zh}{p q:Option Nat}(h:Nc a b p q){B:Nat}(f:B<=a.heap.size)(c:∀k,p=some k->B<=k)(d:∀k,q=some k->B<=k):Below B a b:=
 ⟨h.os,h.tape,h.output,h.size,fun k g=>h.block k Yv (fun e=>by have:=c k e.symm;omega) (fun e=>by have:=d k e.symm;omega)⟩
theorem Nc.row{a b:Zh}{p q:Option Nat}(h:Nc a b p q){c:Nat}{e:TypeId}{v:Value}{n:Nat}{j:Zj}(i:a.ownsRow c e 1 v n j)(d:v.ownBlock=none\/(v.ownBlock≠p/\v.ownBlock≠q)):b.ownsRow c e 1 v n j:=by
 refine⟨i.1,?_⟩;rcases i.2 with m|⟨g,cap,k,rfl,r,f,o⟩
 .exact .inl m
 .refine .inr ⟨g,cap,k,rfl,r,?_,o⟩;have l:=(Array.getElem?_eq_some_iff.1 f).1;simp[Value.ownBlock]at d;exact(h.block g l d.1 d.2).trans f
theorem Nj{w c:Zh}{a:Nat}{v:Value}{n:Nat}{d:Zj}(h:w.ownsRow a 9 1 v n d)(b:Zz w c):c.ownsRow a 9 1 v n d:=by
 cases hv:v.ownBlock with
 |none=>exact h.kept (Ae none b) (.inl hv)
 |some g=>exact h.kept (Ae none b) (.inr (by rw[hv];simp))
def Fy(wd:Int)(ss:Zl)(i:Nat):Bool:=
 match ss[i]? with
 |none=>true
 |some s=>decide ((s.size:Int)=wd)&&(match i with
  |0=>true
  |j+1=>match ss[j]? with
   |none=>true
   |some r=>Op.bytesLess r.toList s.toList)
def Dn(wd:Int)(ss:Zl):Bool:=(List.range ss.length).all (Fy wd ss)
theorem FX{b:Int}{a:Zl}{s:Zi}(h:a[0]?=some s):Fy b a 0=decide ((s.size:Int)=b):=by simp[Fy,h]
theorem DE{b:Int}{a:Zl}{j:Nat}{s r:Zi}(h:a[j+1]?=some s)(c:a[j]?=some r):Fy b a (j+1)=(decide ((s.size:Int)=b)&&Op.bytesLess r.toList s.toList):=by simp[Fy,h,c]
theorem EJ{b:Int}{a:Zl}{k:Nat}(c:k<a.length)(h:Fy b a k=false):Dn b a=false:=by unfold Dn;rw[List.all_eq_false];exact⟨k,by simpa using c,by simp[h]⟩
theorem KL{b:Int}{a:Zl}(h:∀i,i<a.length->Fy b a i=true):Dn b a=true:=by unfold Dn;rw[List.all_eq_true];intro i c;exact h i (by simpa using c)
theorem GB{p:Nat->Prop}{k:Nat}(h:∀i,i<k->p i)(b:p k):∀i,i<k+1->p i:=by
 intro i c;rcases Nat.lt_or_ge i k with a|a
 .exact h i a
 .obtain rfl:i=k:=Yv
  exact b
theorem AH{a b:Bool}(h:a=b):Ending.returned (.bool a)=.returned (.bool b):=by rw[h]
theorem LA(a:Zk)(cap:Nat)(c:Zl)(l:Int)(w:Zh)(B:Nat)(m:Ab w B a c)(E:c.length<=1048576):
 Calls prog 81 #[.slice a c.length cap,Zg l] w fun e A=>e=.returned (.bool (decide (c.length<=30)&&Dn l c))/\A=w:=by
 by_cases hn:30<c.length
 .go_enter func81,ntmps81;go_wp2;go_ret;exact⟨AH Yt,rfl⟩
 .have x:Hid (decide (c.length<=30)=true):=by show _=_;simp;omega
  go_enter func81,ntmps81;go_wp2
  go_loop [12] (fun i=>∃k:Nat,k<=c.length/\i=Zg k/\Hid (∀i,i<k->Fy l c i=true)) (fun i=>c.length -(intOf i).toNat)
  case atStart=>exact⟨0,Nat.zero_le _,rfl,fun i h=>by omega⟩
  case round=>
   obtain⟨k,u,rfl,f⟩:=hrel;by_cases hlt:k<c.length
   .obtain⟨b,off,z,C,t⟩:=m.at hlt;subst z;have g:=Yw (Zv hlt);have o:=t k c[k] g
    match k,u,hlt,f,g,o with
    |0,u,hlt,f,g,o=>
     rw[Nat.add_zero]at o;clear t m;generalize c[0]=s at *
     by_cases hsz:(s.size:Int)=l
     .have v:((s.size:Int)==l)=true:=by simpa using hsz
      have n:=Yw hsz;clear hsz;go_wp2;exact⟨⟨1,Yv,rfl,GB f (by rw[FX g];simpa using n.o)⟩,by simp[intOf];omega⟩
     .have v:((s.size:Int)==l)=false:=by simpa using hsz
      have n:=Yw hsz;clear hsz;go_wp2;go_ret;exact⟨AH (by rw[EJ hlt (by rw[FX g,decide_eq_false n.o])];simp),rfl⟩
    |j+1,u,hlt,f,g,o=>
     have q:Hid (c[j]?=some c[j]):=Zv Yv;have y:=t j c[j] q;clear t m;generalize c[j+1]=s at *
     generalize c[j]=r at *
     by_cases hsz:(s.size:Int)=l
     .have v:((s.size:Int)==l)=true:=by simpa using hsz
      have n:=Yw hsz;clear hsz;by_cases d:Op.bytesLess r.toList s.toList=true
      .go_wp2;exact⟨⟨j+1+1,Yv,Yo,GB f (by rw[DE g q];simp[n.o,d])⟩,by simp[intOf];omega⟩
      .have d:Op.bytesLess r.toList s.toList=false:=by simpa using d
       go_wp2;go_ret;exact⟨AH (by rw[EJ hlt (by rw[DE g q];simp[d])];simp),rfl⟩
     .have v:((s.size:Int)==l)=false:=by simpa using hsz
      have n:=Yw hsz;clear hsz;go_wp2;go_ret;exact⟨AH (by rw[EJ hlt (by rw[DE g q,decide_eq_false n.o];rfl)];simp),rfl⟩
   .go_wp2;go_ret;exact⟨AH (by rw[KL (fun i D=>f i Yv),x.o];rfl),rfl⟩
def Ay(t:Zi)(ss:Zl)(wd:Int):Bool:=decide (1<=wd/\wd<=8)&&(decide (t.size<=2000)&&(decide (ss.length<=30)&&Dn wd ss))
theorem Fz{t:Zi}{b:Zl}{a:Int}(h:¬(1<=a/\a<=8)):Ay t b a=false:=by unfold Ay;rw[decide_eq_false h];rfl
theorem JV{t:Zi}{a:Zl}{b:Int}(h:¬t.size<=2000):Ay t a b=false:=by unfold Ay;rw[decide_eq_false h];simp
theorem Ot{t:Zi}{a:Zl}{b:Int}(h:¬a.length<=30):Ay t a b=false:=by unfold Ay;rw[decide_eq_false h];simp
theorem GW{t:Zi}{a:Zl}{b:Int}(h:Dn b a=false):Ay t a b=false:=by unfold Ay;rw[h];simp
theorem Ou{t:Zi}{b:Zl}{a:Int}(c:1<=a)(d:a<=8)(e:t.size<=2000)(f:b.length<=30)(g:Dn a b=true):Ay t b a=true:=by unfold Ay;rw[g];simp[c,d,e,f]
theorem EU(t:Zi)(a:Zk)(cap:Nat)(b:Zl)(c:Int)(w:Zh)(d:Ab w w.heap.size a b)(h:b.length<=1048576)(i:t.size<=maxLen):
 Calls prog 54 #[.agg #[.string t,.slice a b.length cap],Zg c] w fun e f=>e=.returned (.bool (Ay t b c))/\f=w.alloc (.cells #[.string t,.slice a b.length cap] 35):=by
 have g:Below w.heap.size w (w.alloc (.cells #[.string t,.slice a b.length cap] 35)):=Zy;unfold maxLen at i;by_cases h1:1<=c
 .by_cases h2:c<=8
  .by_cases h3:t.size<=2000
   .go_enter func54,ntmps54;go_wp2_with (first
     |(go_at_call 81;refine(LA a cap b c _ w.heap.size (d.below g) h).mono ?_;rintro e f ⟨rfl,rfl⟩)
     |go_in)
    go_ret;exact⟨AH (by simp[Ay,h1,h2,h3]),rfl⟩
   .have k:decide ((t.size:Int)<=2000)=false:=Yt
    go_enter func54,ntmps54;go_wp2;go_ret;exact⟨AH (JV Yv).symm,rfl⟩
  .have j:decide (c<=8)=false:=Yt
   go_enter func54,ntmps54;go_wp2;go_ret;exact⟨AH (Fz Yv).symm,rfl⟩
 .go_enter func54,ntmps54;go_wp2;go_ret;exact⟨AH (Fz Yv).symm,rfl⟩
theorem Cl(t:Zi)(a:Zk)(cap:Nat)(c:Zl)(l:Int)(w:Zh)(m:Ab w w.heap.size a c)(J:c.length<=1048576)(E:t.size<=maxLen):
 Calls prog 37 #[.agg #[.string t,.slice a c.length cap],Zg l] w fun e F=>e=.returned (.bool (Ay t c l))/\Zz w F:=by
 have o:Below w.heap.size w (w.alloc (.cells #[.string t,.slice a c.length cap] 35)):=Zy;unfold maxLen at E;by_cases h1:1<=l
 .by_cases h2:l<=8
  .by_cases h3:t.size<=2000
   .have A:decide (2000<(t.size:Int))=false:=Yt
    by_cases h4:c.length<=30
    .have B:decide (30<(c.length:Int))=false:=Yt
     go_enter func37,ntmps37;go_wp2
     go_loopw [5] (fun i wr=>∃k n:Nat,k<=c.length/\i=Zg k/\Hid (∀i,i<k->Fy l c i=true)/\wr=(w.alloc (.cells #[.string t,.slice a c.length cap] 35)).drewN n) (fun i _=>c.length -(intOf i).toNat)
     case atStart=>exact⟨0,0,Nat.zero_le _,rfl,fun i h=>by omega,rfl⟩
     case round=>
      obtain⟨k,n,y,rfl,f,rfl⟩:=hrel;by_cases hlt:k<c.length
      .obtain⟨b,off,D,H,x⟩:=m.at hlt;subst D;have g:Hid (c[k]?=some c[k]):=Zv hlt;have u:=x k c[k] g
       match k,y,hlt,f,g,u with
       |0,y,hlt,f,g,u=>
        rw[Nat.add_zero]at u;clear x m;generalize c[0]=s at *
        by_cases hsz:(s.size:Int)=l
        .have z:((s.size:Int) !=l)=false:=by simpa using hsz
         have q:=Yw hsz;clear hsz;go_wp2;go_quiet (fail);go_wp2;exact⟨⟨1,_,Yv,rfl,GB f (by rw[FX g];simpa using q.o),rfl⟩,by simp[intOf];omega⟩
        .have z:((s.size:Int) !=l)=true:=by simpa using hsz
         have q:=Yw hsz;clear hsz;go_wp2;go_quiet (fail);go_wp2;go_ret;exact⟨AH (GW (EJ hlt (by rw[FX g,decide_eq_false q.o]))).symm,AM (AM o _) _⟩
       |j+1,y,hlt,f,g,u=>
        have v:Hid (c[j]?=some c[j]):=Zv Yv;have C:=x j c[j] v;clear x m;generalize c[j+1]=s at *
        generalize c[j]=r at *
        by_cases hsz:(s.size:Int)=l
        .have z:((s.size:Int) !=l)=false:=by simpa using hsz
         have q:=Yw hsz;clear hsz;by_cases d:Op.bytesLess r.toList s.toList=true
         .go_wp2;go_quiet (fail);go_wp2;exact⟨⟨j+1+1,_,Yv,Yo,GB f (by rw[DE g v];simp[q.o,d]),rfl⟩,by simp[intOf];omega⟩
         .have d:Op.bytesLess r.toList s.toList=false:=by simpa using d
          go_wp2;go_quiet (fail);go_wp2;go_ret;exact⟨AH (GW (EJ hlt (by rw[DE g v];simp[d]))).symm,AM (AM o _) _⟩
        .have z:((s.size:Int) !=l)=true:=by simpa using hsz
         have q:=Yw hsz;clear hsz;go_wp2;go_quiet (fail);go_wp2;go_ret;exact⟨AH (GW (EJ hlt (by rw[DE g v,decide_eq_false q.o];rfl))).symm,AM (AM o _) _⟩
      .go_wp2;go_ret;exact⟨AH (Ou h1 h2 h3 h4 (KL (fun i I=>f i Yv))).symm,AM o _⟩
    .have B:decide (30<(c.length:Int))=true:=Yt
     go_enter func37,ntmps37;go_wp2;go_ret;exact⟨AH (Ot Yv).symm,o⟩
   .have A:decide (2000<(t.size:Int))=true:=Yt
    go_enter func37,ntmps37;go_wp2;go_ret;exact⟨AH (JV Yv).symm,o⟩
  .have G:decide (l<=8)=false:=Yt
   go_enter func37,ntmps37;go_wp2;go_ret;exact⟨AH (Fz Yv).symm,o⟩
 .go_enter func37,ntmps37;go_wp2;go_ret;exact⟨AH (Fz Yv).symm,o⟩
end Go.Proofs.YtmjlkgpekcnacaaGreat
namespace Go.Proofs
open Go.Shelf Go.RowKit
def Tryz.de:Go.Shelf.Ren:=⟨fun|169=>80|n=>n,fun|70=>120|9=>9|0=>0|72=>122|37=>22|127=>160|3=>3|5=>5|n=>n,fun|n=>n⟩
theorem Tryz.lays169:Go.Proofs.Lays.n169 Tryz.prog Tryz.de:={
 mixed:=Ys
 f169:=Tryz.func80.trans (congrArg some Ys)
 t0:=Tryz.underlying0
 a0:=Tryz.isAgg0
 z0:=Tryz.sizeOf0
 v0:=Tryz.zeroValue0
 t3:=Tryz.underlying3
 a3:=Tryz.isAgg3
 z3:=Tryz.sizeOf3
 v3:=Tryz.zeroValue3
 t9:=Tryz.underlying9
 a9:=Tryz.isAgg9
 z9:=Tryz.sizeOf9
 v9:=Tryz.zeroValue9
 t37:=Tryz.underlying22
 a37:=Tryz.isAgg22
 z37:=Tryz.sizeOf22
 v37:=Tryz.zeroValue22
 t70:=Tryz.underlying120
 a70:=Tryz.isAgg120
 z70:=Tryz.sizeOf120
 v70:=Tryz.zeroValue120
 t72:=Tryz.underlying122
 a72:=Tryz.isAgg122
 z72:=Tryz.sizeOf122
 v72:=Tryz.zeroValue122
 t127:=Tryz.underlying160
 a127:=Tryz.isAgg160
 z127:=Tryz.sizeOf160
 v127:=Tryz.zeroValue160}
theorem Tryz.az:Builder.Extra Tryz.prog Tryz.de:={
 sizeBuilder:=Ys
 liesBuilder:=Ys
 t5:=Tryz.underlying5
 a5:=Tryz.isAgg5
 z5:=Tryz.sizeOf5
 v5:=Tryz.zeroValue5
 infoByte:=Ys
 cellsByte:=Ys
 sizeByte:=Ys
 neB5:=by decide}
theorem Tryz.Builder_String_any(B b:Nat)(l:List UInt8)(w:Zh)(h:Lib.IsBuilder 122 5 B b (Lib.byteCells l) w)(a:B<=w.heap.size):
 Calls Tryz.prog 80 #[Yy b] w fun e c=>e=.returned (.string ⟨l.toArray⟩)/\Below B w c:=
 Any.Builder_String_any Tryz.lays169 Tryz.az B b l w h a
namespace YtmjlkgpekcnacaaGreat
open Go.ChangeShapes Go.WideShapes Go.ChangeAt
theorem IG(B b:Nat)(d:Zj)(w:Zh)(h:Lib.IsBuilder 122 5 B b d w):
 Calls Tryz.prog 109 #[Yy b] w fun e f=>e=.returned (.tuple #[])/\Lib.BuilderAt 122 5 B b (Yy b) d f/\Below B w f:=by
 have X:=Tryz.az;obtain⟨j,c,g⟩:=Option.map_eq_some_iff.1 X.sizeBuilder;rcases h with h|h
 .have i:=h.cell0;have a:=h.shape;have k:=h.frozen0;go_enter Tryz.func109,Tryz.ntmps109;go_wp2;rw[Lib.run_to_unsafe w ⟨b,0,none⟩ Tryz.underlying120 Tryz.underlying176 c (by rw[g];decide) a (Nat.zero_lt_succ 1)];simp only[Result.andThen];rw[Oper.upon_value];go_wp2;rw[run_callFunc_extern Tryz.func120 Ys Ys Ys (e:=Extern.AbiNoEscape.same) Ys]
  rw[Lib.run_noEscape];simp only[Result.andThen];rw[Oper.upon_value];go_wp2;rw[Lib.run_from_unsafe w ⟨b,0,none⟩ Tryz.underlying176 Tryz.underlying120 c a X.liesBuilder];simp only[Result.andThen];rw[Oper.upon_value];go_wp2
  go_end0
  exact⟨rfl,h.used _,(Below.refl B w).setCell (p:=⟨b,0,none⟩) h.1 _⟩
 .have i:=h.cell0;go_enter Tryz.func109,Tryz.ntmps109;go_wp2;rw[Lib.run_neq_ptr_same w _ Tryz.underlying120 c];go_wp2
  go_end0
  exact⟨rfl,h,Below.refl B _⟩
theorem MT(B b:Nat)(l:Zj)(c:Int)(w:Zh)(h:Lib.IsBuilder 122 5 B b l w)(hlen:l.length+1<=140737488355328)(O:B<=w.heap.size):
 Calls Tryz.prog 78 #[Yy b,.int .u8 c] w fun e A=>e=.returned .nilIface/\Lib.IsBuilder 122 5 B b (l++[.int .u8 c]) A/\Below B w A:=by
 have X:=Tryz.az;obtain⟨L,J,F,G,H⟩:=info_parts X.infoByte;go_enter Tryz.func78,Tryz.ntmps78;go_wp2_with (go_at_call 109;refine(IG B b l _ h).mono ?_);rintro e q ⟨rfl,I,i⟩;obtain⟨x,v,n,f,E⟩:=I;have c1:q.cell? (Zd b 1)=some v:=by rw[Lib.cell_of_heap n];rfl
 go_wp2_with (at_builtin;refine wpList_append_own _ rfl _ _ 22 rfl B 5 L (.int .u8 0) 1 1 Tryz.underlying22 J F G H rfl Yr _ _ _ rfl (f.alloc _) ⟨q.heap.size,0,none⟩ 1 1 [.int .u8 c] rfl rfl ?c1 ?c2 ?c3 ?c4 ?c5 ?_)
 case c1=>
  intro j u o
  match j,o with
  |0,o=>simp at o;subst o;simp[Addr.add]
 case c2=>intro u y;simp at y;subst y;rfl
 case c3=>unfold maxLen;omega
 case c4=>omega
 case c5=>have:=i.size;simp;omega
 intro M C d a _;have D:b<q.heap.size:=by
  rcases Nat.lt_or_ge b q.heap.size with r|r
  .exact r
  .simp[Array.getElem?_eq_none r]at n
 have m:C.heap[b]?=some (.cells #[Yy b,v] 122 (0,0)):=by rw[a.block b Yt (fun e=>E e.symm),Lib.alloc_old _ _ _ D];exact n
 have P:C.cell? (Zd b 1)=some v:=by rw[Lib.cell_of_heap m];rfl
 have Q:=Lib.frozen_of_heap m 1;obtain⟨t,z,cap,rfl⟩:∃t z cap,M=.slice t z cap:=by
  rcases d.2 with⟨s,_⟩|⟨g,cap,N,s,_⟩
  .exact⟨_,_,_,s⟩
  .exact⟨_,_,_,s⟩
 go_wp2;go_ret;refine⟨rfl,.inr ?_,?_⟩
 .exact Lib.BuilderAt.put (T:=122) (e:=5) x m (bs':=l++[.int .u8 c]) (by simpa using d) X.neB5
 .exact((i.alloc (by have:=i.size;omega) _).grown a (by have:=i.size;simp;omega) (fun k K=>(f.lt k K).1)).setCell (p:=⟨b,1,none⟩) x _
theorem GC(B b:Nat)(f:Zj)(s:Zi)(w:Zh)(h:Lib.IsBuilder 122 5 B b f w)(hlen:f.length+s.size<=140737488355328)(L:B<=w.heap.size):
 Calls Tryz.prog 79 #[Yy b,.string s] w fun e u=>e=.returned (.tuple #[Zg s.size,.nilIface])/\Lib.IsBuilder 122 5 B b (f++Lib.byteCells s.data.toList) u/\Below B w u:=by
 have X:=Tryz.az;obtain⟨I,G,C,D,E⟩:=info_parts X.infoByte;go_enter Tryz.func79,Tryz.ntmps79;go_wp2_with (go_at_call 109;refine(IG B b f _ h).mono ?_);rintro e o ⟨rfl,F,i⟩;obtain⟨r,v,l,d,A⟩:=F;have M:o.cell? (Zd b 1)=some v:=by rw[Lib.cell_of_heap l];rfl
 go_wp2_with (at_builtin;refine Lib.wpList_append_own_string _ rfl _ _ 22 9 rfl B 5 I Tryz.underlying22 Tryz.underlying9 G C D E _ _ _ rfl d s rfl ?c3 ?c4 ?c5 ?_)
 case c3=>unfold maxLen;omega
 case c4=>omega
 case c5=>have:=i.size;omega
 intro J x c a _;have z:b<o.heap.size:=by
  rcases Nat.lt_or_ge b o.heap.size with m|m
  .exact m
  .simp[Array.getElem?_eq_none m]at l
 have j:x.heap[b]?=some (.cells #[Yy b,v] 122 (0,0)):=by rw[a.block b z (fun e=>A e.symm)];exact l
 have N:x.cell? (Zd b 1)=some v:=by rw[Lib.cell_of_heap j];rfl
 have O:=Lib.frozen_of_heap j 1;obtain⟨q,t,cap,rfl⟩:∃q t cap,J=.slice q t cap:=by
  rcases c.2 with⟨n,_⟩|⟨g,cap,K,n,_⟩
  .exact⟨_,_,_,n⟩
  .exact⟨_,_,_,n⟩
 go_wp2
 go_ret2
 refine⟨rfl,.inr ?_,?_⟩
 .have y:Lib.strCells s=Lib.byteCells s.data.toList:=rfl;rw[<-y];exact Lib.BuilderAt.put (T:=122) (e:=5) r j (bs':=f++Lib.strCells s) (by simpa [Lib.strCells_length]using c) X.neB5
 .exact(i.grown a (by have:=i.size;omega) (fun k H=>(d.lt k H).1)).setCell (p:=⟨b,1,none⟩) r _
end YtmjlkgpekcnacaaGreat
end Go.Proofs
namespace Go.Proofs.YtmjlkgpekcnacaaGreat
open Go.ChangeShapes Go.WideShapes Go.ChangeAt Go.RowKit _root_.Go.Proofs.Tryz
def flat(ss:Zl):List UInt8:=ss.flatMap (fun s=>s.data.toList)
theorem QU(a:Zl)(k:Nat)(s:Zi)(h:a[k]?=some s):flat (a.take (k+1))=flat (a.take k)++s.data.toList:=by obtain⟨b,rfl⟩:=Zw h;unfold flat;rw[Zu b,List.flatMap_append];simp
theorem Dh(a:Zl):(flat a).length=bn a:=by
 induction a with
 |nil=>rfl
 |cons s r ih=>
  unfold flat bn at *
  rw[List.flatMap_cons,List.length_append,ih];simp
def BG(t:Zi)(ss:Zl):List UInt8:=UInt8.ofNat ss.length::(flat ss++t.data.toList)
theorem QV{c:Int}{b:Zl}(h:Dn c b=true){i:Nat}{s:Zi}(a:b[i]?=some s):(s.size:Int)=c:=by unfold Dn at h;rw[List.all_eq_true]at h;have d:=(Zw a).1;have:=h i (by simpa using d);unfold Fy at this;rw[a]at this;simp at this;exact this.1
theorem Py(a:Zl)(n:Nat)(h:∀s∈a,s.size=n):bn a=a.length *n:=by
 induction a with
 |nil=>simp[bn]
 |cons s r ih=>
  have b:=h s Yu;have c:=ih (fun s d=>h s (by simp[d]));unfold bn at *
  rw[List.map_cons,List.sum_cons,c,b,List.length_cons,Nat.add_mul,Nat.one_mul,Nat.add_comm]
structure EK (t:Zi) (ss:Zl) (wd:Int):Prop where
 lo:1<=wd
 hi:wd<=8
 E:t.size<=2000
 B:ss.length<=30
 all:Dn wd ss=true
theorem AX{t:Zi}{a:Zl}{b:Int}(h:Ay t a b=true):EK t a b:=by unfold Ay at h;simp at h;exact⟨h.1.1,h.1.2,h.2.1,h.2.2.1,h.2.2.2⟩
theorem EK.size{t:Zi}{a:Zl}{b:Int}(h:EK t a b){i:Nat}{s:Zi}(c:a[i]?=some s):(s.size:Int)=b:=QV h.all c
theorem EK.bn{t:Zi}{a:Zl}{b:Int}(h:EK t a b):bn a=a.length *b.toNat:=by refine Py a _ fun s d=> ?_;obtain⟨i,c⟩:=List.getElem?_of_mem d;have:=h.size c;omega
theorem EK.bp{t:Zi}{a:Zl}{b:Int}(h:EK t a b):YtmjlkgpekcnacaaGreat.bn a<=240:=by have c:=h.bn;have d:a.length *b.toNat<=30 *8:=Nat.mul_le_mul h.B (by have:=h.hi;omega);omega
theorem Ma:(prog.info? 5).map (fun i=>(i.zero,i.size,i.bytes))=some (some (.int .u8 0),1,1):=Ys
theorem IV(n:Nat)(h:n<=30):Value.int .u8 (n:Int)=.int .u8 ((UInt8.ofNat n).toNat:Int):=by
 have:(UInt8.ofNat n).toNat=n:=Yt
 rw[this]
theorem Mb(a:Zl)(k:Nat)(s:Zi)(h:a[k]?=some s)(c:UInt8):
 Lib.byteCells (c::flat (a.take k))++Lib.strCells s=Lib.byteCells (c::flat (a.take (k+1))):=by
 rw[QU a k s h,Lib.strCells_eq,<-Lib.byteCells_append];rfl
theorem Mc(t:Zi)(a:Zk)(cap:Nat)(d:Zl)(O:Int)(w:Zh)(q:Ab w w.heap.size a d)(G:Ay t d O=true):
 Calls prog 12 #[.agg #[.string t,.slice a d.length cap],Zg O] w fun e w'=>e=.returned (.string ⟨(BG t d).toArray⟩)/\Zz w w':=by
 have M:=AX G;have zH:=M.bp;have E:=M.B;have Q:=M.E;have zJ:=Yw (IV d.length E);obtain⟨T,S,H,I,J⟩:=info_parts Ma;have F:Below w.heap.size w (w.alloc (.cells #[.string t,.slice a d.length cap] 35)):=Zy;go_enter func12,ntmps12;go_wp2_with fail;refine(Cl t a cap d O _ (q.M F) Yv Yp).mono ?_;rintro e x ⟨rfl,u⟩;rw[G];obtain⟨W,Z⟩:=VW u;have N:=u.size;simp at N;go_wp2
 have o:(x.alloc (.cells #[.int .u8 d.length] 5)).ownsRow (w.heap.size+1) 5 1 (Yz x.heap.size 1 1) 1 (Lib.byteCells (UInt8.ofNat d.length::flat (d.take 0))):=by have:=World.ownsRow_lit (base:=w.heap.size+1) (e:=5) (size:=1) x #[.int .u8 d.length] 1 N (by simp[maxLen]) rfl;simpa [Lib.byteCells,flat,IV d.length E]using this
 have n:Below (w.heap.size+1) (w.alloc (.cells #[.string t,.slice a d.length cap] 35)) (x.alloc (.cells #[.int .u8 d.length] 5)):=by have:=u.alloc (by simpa using N) (.cells #[.int .u8 d.length] 5);simpa using this
 go_loopw [5,6] (fun zF i wr=>∃(k g c:Nat),k<=d.length/\i=Zg k/\zF=Yz g (1+bn (d.take k)) c/\
  wr.ownsRow (w.heap.size+1) 5 1 (Yz g (1+bn (d.take k)) c) (1+bn (d.take k)) (Lib.byteCells (UInt8.ofNat d.length::flat (d.take k)))/\
  Below (w.heap.size+1) (w.alloc (.cells #[.string t,.slice a d.length cap] 35)) wr) (fun _ i _=>d.length -(intOf i).toNat)
 case atStart=>exact⟨0,x.heap.size,1,Nat.zero_le _,rfl,by simp[bn],by simpa [bn]using o,n⟩
 case round=>
  clear o n W Z u;obtain⟨k,g,c,C,rfl,rfl,m,h⟩:=hrel;have r:wr.cell? (Zd (w.heap.size) 1)=some (.slice a d.length cap):=by rw[h.cell (p:=⟨w.heap.size,1,none⟩) Yu];simp
  have zE:=h.size;simp at zE;have zG:=bp d k;by_cases hlt:k<d.length
  .obtain⟨b,off,ha,V,R⟩:=q.at hlt;subst ha;have A:Hid (d[k]?=some d[k]):=Zv hlt;have X:wr.cell? (Zd b (off+k))=some (.string d[k]):=by rw[h.cell (p:=⟨b,off+k,none⟩) Yt,World.cell?_alloc_past _ _ _ V];exact R k _ A
   have z:=Yw (LZ d k _ A);have zA:=Yw (Mb d k _ A (UInt8.ofNat d.length));have D:=bp d (k+1);rw[z.o]at D;clear R q;generalize d[k]=s at *
   go_wp2_with (at_builtin;refine Lib.wpList_append_own_string _ rfl _ _ 22 9 rfl (w.heap.size+1) 5 T underlying22 underlying9 S H I J _ _ _ rfl m s rfl ?c3 ?c4 ?c5 ?_)
   case c3=>unfold maxLen;omega
   case c4=>omega
   case c5=>omega
   intro v' U f l _;obtain⟨L,K,B,zB,zC⟩:=f.form Yv;subst B;have y:=h.grown l Yv (fun k C=>(m.lt k C).1);rw[zA.o]at f;clear m h l r X;go_wp2;refine⟨⟨k+1,L,K,Yv,Yo,?_,?_,y⟩,by simp[intOf];omega⟩
   .rw[z.o,Nat.add_assoc]
   .rw[z.o,<-Nat.add_assoc];exact f
  .have v:wr.cell? (Zd (w.heap.size) 0)=some (.string t):=by rw[h.cell (p:=⟨w.heap.size,0,none⟩) Yu];simp
   rw[Zt Yv]at m |-;go_wp2_with (at_builtin;refine Lib.wpList_append_own_string _ rfl _ _ 22 9 rfl (w.heap.size+1) 5 T underlying22 underlying9 S H I J _ _ _ rfl m t rfl ?c3 ?c4 ?c5 ?_)
   case c3=>unfold maxLen;omega
   case c4=>omega
   case c5=>omega
   intro v' U f l _;obtain⟨L,K,B,zB,zC⟩:=f.form Yv;subst B;have y:=h.grown l Yv (fun k C=>(m.lt k C).1);have Y:Lib.byteCells (UInt8.ofNat d.length::flat d)++Lib.strCells t=Lib.byteCells (BG t d):=by rw[Lib.strCells_eq,<-Lib.byteCells_append];rfl
   rw[Y]at f;have hlen:1+bn d+t.size=(BG t d).length:=by have:=Dh d;simp[BG,this];omega
   rw[hlen]at f |-;have zI:=run_convert_bytes_back (P:=prog) U 22 9 5 ⟨L,0,none⟩ K (BG t d) underlying22 underlying5 underlying9 (fun j hj=>f.cells rfl j _ (by simp[Lib.byteCells,hj]));clear m h l r v f;go_wp2;go_ret;refine⟨rfl,?_⟩;exact F.trans (y.mono Yv)
theorem SB(t:Zi)(a:Zk)(cap:Nat)(b:Zl)(f:Int)(w:Zh)(c:Ab w w.heap.size a b)(h:Ay t b f=false)(i:b.length<=1048576)(j:t.size<=maxLen):
 Calls prog 12 #[.agg #[.string t,.slice a b.length cap],Zg f] w fun e k=>e=.returned (.string ByteArray.empty)/\Zz w k:=by
 have d:Below w.heap.size w (w.alloc (.cells #[.string t,.slice a b.length cap] 35)):=Zy;go_enter func12,ntmps12;go_wp2_with fail;refine(Cl t a cap b f _ (c.M d) i j).mono ?_;rintro e l ⟨rfl,g⟩;rw[h];go_wp2;go_ret;exact⟨rfl,d.trans (g.mono Yu)⟩
theorem SC(t:Zi)(a:Zk)(cap:Nat)(b:Zl)(f:Int)(w:Zh)(c:Ab w w.heap.size a b)(g:Ay t b f=false)(h:b.length<=1048576)(i:t.size<=maxLen):
 Calls prog 51 #[.agg #[.string t,.slice a b.length cap],Zg f] w fun e j=>e=.returned (.string ByteArray.empty)/\Zz w j:=by
 have d:Below w.heap.size w (w.alloc (.cells #[.string t,.slice a b.length cap] 35)):=Zy;go_enter func51,ntmps51;go_wp2_with fail;refine(EU t a cap b f _ (c.M d) h i).mono ?_;rintro e k ⟨rfl,rfl⟩;rw[g];go_wp2;go_ret;exact⟨rfl,d.alloc Yu _⟩
theorem QW(t:Zi)(a:Zk)(cap:Nat)(c:Zl)(M:Int)(w:Zh)(l:Ab w w.heap.size a c)(J:Ay t c M=true):
 Calls prog 51 #[.agg #[.string t,.slice a c.length cap],Zg M] w fun e w'=>e=.returned (.string ⟨(BG t c).toArray⟩)/\Zz w w':=by
 have L:=AX J;have zA:=L.bp;have P:=L.B;have N:=L.E;have E:Below w.heap.size w (w.alloc (.cells #[.string t,.slice a c.length cap] 35)):=Zy;obtain⟨W,n⟩:∃W,W=(w.alloc (.cells #[.string t,.slice a c.length cap] 35)).alloc (.cells #[.string t,.slice a c.length cap] 35):=⟨_,rfl⟩;have C:Below w.heap.size w W:=by rw[n];exact E.alloc Yu _
 have D:W.heap.size=w.heap.size+1+1:=by rw[n];simp
 have Q:W.cell? (Zd (w.heap.size) 0)=some (.string t):=by rw[n];simp
 have R:W.cell? (Zd (w.heap.size) 1)=some (.slice a c.length cap):=by rw[n];simp
 have h:=l.below C;have Y:=Yw n;go_enter func51,ntmps51;go_wp2_with fail;refine(EU t a cap c M _ (l.M E) Yv Yp).mono ?_;rintro e u ⟨rfl,K⟩;rw[<-Y.o]at K;subst K;clear n;rw[J];have g:=Lib.fresh_isBuilder 122 5 u;have v:Below u.heap.size u (u.alloc (.cells #[.pointer none,Zb] 122)):=Zy;rw[D]at g v;go_wp2_with fail
 refine(MT (w.heap.size+1+1) (w.heap.size+1+1) [] _ _ g Yu (by simp[D])).mono ?_;rintro e w2 ⟨rfl,j,F⟩;have q:=v.trans F;have A:w2.cell? (Zd (w.heap.size) 1)=some (.slice a c.length cap):=(q.cell (p:=⟨w.heap.size,1,none⟩) Yt).trans R;have I:[]++[Value.int .u8 (c.length:Int)]=Lib.byteCells (UInt8.ofNat c.length::flat (c.take 0)):=by simp[Lib.byteCells,flat,IV c.length P]
 rw[I]at j;clear g v F I;go_wp2
 go_loopw [20] (fun i wr=>∃(k:Nat),k<=c.length/\i=Zg k/\Lib.IsBuilder 122 5 (w.heap.size+1+1) (w.heap.size+1+1) (Lib.byteCells (UInt8.ofNat c.length::flat (c.take k))) wr/\
  Below (w.heap.size+1+1) u wr) (fun i _=>c.length -(intOf i).toNat)
 case atStart=>exact⟨0,Nat.zero_le _,rfl,j,q⟩
 case round=>
  clear j q A;obtain⟨k,hk,rfl,g,d⟩:=hrel;have zB:=d.size;have y:=bp c k;have H:=Dh (c.take k);have r:Hid ((Lib.byteCells (UInt8.ofNat c.length::flat (c.take k))).length=1+bn (c.take k)):=by show _=_;rw[Lib.byteCells_length,List.length_cons,H];omega
  clear H;by_cases hlt:k<c.length
  .obtain⟨b,off,Z,q,O⟩:=h.at hlt;subst Z;have x:Hid (c[k]?=some c[k]):=Zv hlt;have U:wr.cell? (Zd b (off+k))=some (.string c[k]):=by rw[d.cell (p:=⟨b,off+k,none⟩) Yt];exact O k _ x
   have T:=Yw (LZ c k _ x);have V:=Yw (Mb c k _ x (UInt8.ofNat c.length));have B:=bp c (k+1);rw[T.o]at B;clear O l h;generalize c[k]=s at *
   go_wp2_with fail;refine(GC (w.heap.size+1+1) (w.heap.size+1+1) _ s _ g (by rw[r.o];omega) Yv).mono ?_;rintro e w3 ⟨rfl,f,m⟩;rw[<-Lib.strCells_eq,V.o]at f;have o:=d.trans m;clear g d m U;go_wp2;exact⟨⟨k+1,Yv,Yo,f,o⟩,by simp[intOf];omega⟩
  .have z:wr.cell? (Zd (w.heap.size) 0)=some (.string t):=(d.cell (p:=⟨w.heap.size,0,none⟩) Yt).trans Q;rw[Zt Yv]at g r y;go_wp2_with fail;refine(GC (w.heap.size+1+1) (w.heap.size+1+1) _ t _ g (by rw[r.o];omega) Yv).mono ?_;rintro e w3 ⟨rfl,f,m⟩;have G:Lib.byteCells (UInt8.ofNat c.length::flat c)++Lib.byteCells t.data.toList=Lib.byteCells (BG t c):=by rw[<-Lib.byteCells_append];rfl
   rw[G]at f;have o:=d.trans m;have X:=o.size;clear g d m G r z;go_wp2_with fail;refine(Tryz.Builder_String_any (w.heap.size+1+1) (w.heap.size+1+1) _ _ f Yv).mono ?_;rintro e w4 ⟨rfl,S⟩;go_wp2;go_ret;exact⟨rfl,C.trans ((o.trans S).mono Yv)⟩
def AB(t:Zi)(ss:Zl)(wd:Int):Zi:=if Ay t ss wd=true then ⟨(BG t ss).toArray⟩else ByteArray.empty
theorem EL(t:Zi)(a:Zk)(cap:Nat)(b:Zl)(c:Int)(w:Zh)(d:Ab w w.heap.size a b)(f:b.length<=1048576)(g:t.size<=maxLen):
 Calls prog 12 #[.agg #[.string t,.slice a b.length cap],Zg c] w fun e h=>e=.returned (.string (AB t b c))/\Zz w h:=by
 cases hok:Ay t b c with
 |true=>rw[show AB t b c=⟨(BG t b).toArray⟩from by unfold AB;rw[if_pos hok]];exact Mc t a cap b c w d hok
 |false=>rw[show AB t b c=ByteArray.empty from by unfold AB;rw[if_neg (by rw[hok];decide)]];exact SB t a cap b c w d hok f g
theorem IW(t:Zi)(a:Zk)(cap:Nat)(b:Zl)(c:Int)(w:Zh)(d:Ab w w.heap.size a b)(f:b.length<=1048576)(g:t.size<=maxLen):
 Calls prog 51 #[.agg #[.string t,.slice a b.length cap],Zg c] w fun e h=>e=.returned (.string (AB t b c))/\Zz w h:=by
 cases hok:Ay t b c with
 |true=>rw[show AB t b c=⟨(BG t b).toArray⟩from by unfold AB;rw[if_pos hok]];exact QW t a cap b c w d hok
 |false=>rw[show AB t b c=ByteArray.empty from by unfold AB;rw[if_neg (by rw[hok];decide)]];exact SC t a cap b c w d hok f g
theorem Ov{a:Int}:0<=IntKind.u64.wrap a/\IntKind.u64.wrap a<18446744073709551616:=by simp[IntKind.wrap,IntKind.bits,IntKind.signed];omega
def OW(v:Int)(b:UInt8):Int:=IntKind.u64.wrap (bits BinOp.xor IntKind.u64 v (IntKind.u64.wrap b.toNat) *1099511628211)
def Em(l:List UInt8):Int:=l.foldl OW 14695981039346656037
theorem OY(l:List UInt8):0<=Em l/\Em l<18446744073709551616:=by
 unfold Em;rcases l.eq_nil_or_concat with rfl|⟨r,b,rfl⟩
 .simp
 .simp only[List.concat_eq_append,List.foldl_append,List.foldl_cons,List.foldl_nil];exact Ov
theorem Md(s:Zi)(k:Nat)(h:k<s.size):Em (s.data.toList.take (k+1))=OW (Em (s.data.toList.take k)) s[k]:=by rw[Zu (by simpa using h)];unfold Em;rw[List.foldl_append];rfl
def Dp(v:Int):Nat->List Int
 |0=>[]
 |k+1=>(v/256^k%256)::Dp v k
theorem CP(v:Int)(k:Nat):(Dp v k).length=k:=by
 induction k with
 |zero=>rfl
 |succ k ih=>simp[Dp,ih]
theorem Ox(v:Int)(k:Nat):∀i,i<k->(Dp v k)[i]?=some (v/256^(k -1 -i)%256):=by
 induction k with
 |zero=>intro i h;omega
 |succ k ih=>
  intro i h
  match i with
  |0=>simp[Dp]
  |i+1=>rw[Dp,List.getElem?_cons_succ,ih i Yv,show k -1 -i=k+1 -1 -(i+1)from by omega]
def Gp(v:Int)(k:Nat):Zj:=(Dp v k).map (Value.int .u8)
theorem KM(v:Int)(k:Nat):(Gp v k).length=k:=by simp[Gp,CP]
theorem SD(v:Int)(k:Nat):v/256^k/256=v/256^(k+1):=by rw[Int.ediv_ediv_of_nonneg (Int.pow_nonneg Yr),Int.pow_succ]
theorem Vj(v:Int)(k:Nat)(a:0<=v)(h:v<18446744073709551616):0<=v/256^k/\v/256^k<18446744073709551616:=by have b:(0:Int)<256^k:=Int.pow_pos Yr;exact⟨Int.ediv_nonneg a (Int.le_of_lt b),Int.lt_of_le_of_lt (Int.ediv_le_self _ a) h⟩
def Db(l:List UInt8)(n:Nat):Zi:=strOfNums (Dp (Em l) n)
theorem infoByte:(prog.info? 5).map (fun i=>(i.zero,i.size,i.bytes))=some (some (.int .u8 0),1,1):=Ys
theorem Fl(s:Zi)(h:Int)(w:Zh)(E:s.size<=maxLen)(M:1<=h)(N:h<=8):
 Calls prog 50 #[.string s,Zg h] w fun e H=>e=.returned (.string (Db s.data.toList h.toNat))/\Zz w H:=by
 unfold maxLen at E;obtain⟨G,n,t,x,y⟩:=info_parts infoByte;go_enter func50,ntmps50;go_wp2
 go_loop [5,6] (fun v i=>∃(k:Nat),k<=s.size/\i=Zg k/\v=.int .u64 (Em (s.data.toList.take k))) (fun _ i=>s.size -(intOf i).toNat)
 case atStart=>exact⟨0,Nat.zero_le _,rfl,rfl⟩
 case round=>
  obtain⟨k,o,rfl,rfl⟩:=hrel;by_cases hlt:k<s.size
  .have A:=Yw (Md s k hlt);go_wp2;exact⟨⟨k+1,Yv,Yo,by rw[A.o];rfl⟩,by simp[intOf];omega⟩
  .have D:Hid (Em (s.data.toList.take k)=Em s.data.toList):=by show _=_;rw[Zt Yt]
   have l:=OY (s.data.toList.take k);generalize Em (s.data.toList.take k)=V at *
   go_wp2
   go_loopw [5,7,8] (fun v z i wr=>∃(k:Nat) (g c:Nat),k<=h/\i=Zg k/\v=.int .u64 (V/256^k)/\z=Yz g k c/\wr.ownsRow w.heap.size 5 1 (Yz g k c) k (Gp V k)/\Zz w wr/\w.heap.size<=wr.heap.size) (fun _ _ i _=>(h -intOf i).toNat)
   case atStart=>exact⟨0,_,_,Yv,rfl,Yu,rfl,World.ownsRow_lit w #[] 0 (Zx) (by simp[maxLen]) rfl,Zy,Yu⟩
   case round=>
    obtain⟨j,g,c,O,rfl,rfl,rfl,f,d,m⟩:=hrel;by_cases hlt2:j<h
    .have J:=Vj V j l.1 l.2;go_wp2_with (first
      |(at_builtin;refine wpList_append_own _ rfl _ _ 22 rfl w.heap.size 5 G (.int .u8 0) 1 1 underlying22 n t x y rfl Yr _ 1 [.int .u8 (V/256^j%256)] rfl ?c0 ⟨g,0,none⟩ j c (Gp V j) rfl (by rw[KM];omega) ?c1 ?c2 ?c3 ?c4 ?c5 ?_)
      |go_in)
     case c0=>exact World.ownsRow_lit wr _ 1 m (by simp[maxLen]) rfl
     case c1=>exact(f.alloc _).cells rfl
     case c2=>intro u F;obtain⟨_,_,rfl⟩:=List.mem_map.1 F;rfl
     case c3=>unfold maxLen;omega
     case c4=>omega
     case c5=>simp;omega
     intro Q R a b _;obtain⟨C,B,r,K,L⟩:=a.form Yv;subst r;have q:=(d.alloc m _).grown b Yt (by intro k o;simp[Value.ownBlock]at o;omega);rw[Nat.add_comm 1 j]at a |-;clear f d b;go_wp2;refine⟨⟨j+1,C,B,Yv,Yo,by rw[<-SD],rfl,a,q,Yv⟩,by simp[intOf];omega⟩
    .obtain rfl:(j:Int)=h:=Yv
     have I:=run_convert_bytes_arg (P:=prog) wr 22 5 underlying22 underlying5 g 0 j c (Dp V j) (CP V j) (fun i n=>by
      rw[Nat.zero_add,f.cellAt i Yv];have:=CP V j;simp[Gp,List.getD,Zv (show i<(Dp V j).length by omega)]) 9 underlying9
     go_wp2;go_ret;refine⟨?_,d⟩;unfold Db;rw[<-D.o];rfl
theorem OZ(s:Zi)(a:Int)(w:Zh)(h:a<1\/8<a):
 Calls prog 50 #[.string s,Zg a] w fun e c=>e=.returned (.string ByteArray.empty)/\c=w:=by
 rcases h with h|h
 .have b:¬1<=a:=Yv
  go_enter func50,ntmps50;go_wp2;go_ret;exact⟨rfl,rfl⟩
 .have b:1<=a:=Yv
  have d:decide (a<=8)=false:=Yt
  go_enter func50,ntmps50;go_wp2;go_ret;exact⟨rfl,rfl⟩
theorem Uq{k:IntKind}{a b:Int}(h:a=b):Ending.returned (.int k a)=.returned (.int k b):=by rw[h]
theorem Ur(s:Zi)(w:Zh)(b:s.size<=maxLen):
 Calls prog 83 #[.string s] w fun e c=>e=.returned (.int .u64 (Em s.data.toList))/\c=w:=by
 unfold maxLen at b;go_enter func83,ntmps83;go_wp2
 go_loop [3,7] (fun v i=>∃(k:Nat),k<=s.size/\i=Zg k/\v=.int .u64 (Em (s.data.toList.take k))) (fun _ i=>s.size -(intOf i).toNat)
 case atStart=>exact⟨0,Nat.zero_le _,rfl,rfl⟩
 case round=>
  obtain⟨k,d,rfl,rfl⟩:=hrel;by_cases hlt:k<s.size
  .have a:=Yw (Md s k hlt);go_wp2;exact⟨⟨k+1,Yv,Yo,by rw[a.o];rfl⟩,by simp[intOf];omega⟩
  .go_wp2;go_ret;exact⟨Uq (by rw[Zt Yt]),rfl⟩
def KN(v wd:Int)(j:Nat):Int:=v/2^(8 *(wd -1 -(j:Int))).toNat%256
def CC(v wd:Int)(k j:Nat):Int:=if j<k then KN v wd j else 0
def Ee(v wd:Int)(k:Nat):Array Value:= #[.int .u8 (CC v wd k 0),.int .u8 (CC v wd k 1),.int .u8 (CC v wd k 2),.int .u8 (CC v wd k 3),.int .u8 (CC v wd k 4),.int .u8 (CC v wd k 5),.int .u8 (CC v wd k 6),.int .u8 (CC v wd k 7)]
theorem CN(v a:Int)(k j:Nat)(h:j<8):(Ee v a k)[j]?=some (.int .u8 (CC v a k j)):=by
 match j,h with
 |0,_=>rfl|1,_=>rfl|2,_=>rfl|3,_=>rfl|4,_=>rfl|5,_=>rfl|6,_=>rfl|7,_=>rfl
theorem Pz(v a:Int):Ee v a 0= #[.int .u8 0,.int .u8 0,.int .u8 0,.int .u8 0,.int .u8 0,.int .u8 0,.int .u8 0,.int .u8 0]:=by simp[Ee,CC]
theorem QX(v a:Int)(k:Nat)(h:k<8):(Ee v a k).setIfInBounds k (.int .u8 (KN v a k))=Ee v a (k+1):=by
 match k,h with
 |0,_|1,_|2,_|3,_|4,_|5,_|6,_|7,_=>simp[Ee,CC]
theorem QY(v:Int)(k j:Nat)(h:j<k):KN v k j=v/256^(k -1 -j)%256:=by unfold KN;rw[show(8 *((k:Int) -1 -(j:Int))).toNat=8 *(k -1 -j)from by omega,Int.pow_mul];rfl
theorem SE(v a:Int)(w:Zh)(n:1<=a)(o:a<=8)(_hv0:0<=v)(_hv:v<18446744073709551616):
 Calls prog 82 #[.int .u64 v,Zg a] w fun e b=>e=.returned (.agg (Yl (CC v a a.toNat)))/\b=(w.alloc (.cells (Ee v a a.toNat) 52)).alloc (.cells (Ee v a a.toNat) 52):=by
 go_enter func82,ntmps82;go_wp2
 go_loopw [8] (fun i wr=>∃k:Nat,k<=a/\i=Zg k/\wr=(w.alloc (Obj.cells
  #[Value.int IntKind.u8 0,Value.int IntKind.u8 0,Value.int IntKind.u8 0,Value.int IntKind.u8 0,
   Value.int IntKind.u8 0,Value.int IntKind.u8 0,Value.int IntKind.u8 0,Value.int IntKind.u8 0]
  52)).alloc (.cells (Ee v a k) 52)) (fun i _=>(a -intOf i).toNat)
 case atStart=>exact⟨0,Yv,rfl,by rw[Pz]⟩
 case round=>
  obtain⟨k,r,rfl,rfl⟩:=hrel;by_cases hlt:k<a
  .have q:=CN v a k k Yv;go_wp2;refine⟨⟨k+1,Yv,Yo,?_⟩,by simp[intOf];omega⟩;have:=QX v a k Yv;unfold KN at this;rw[this]
  .obtain rfl:(k:Int)=a:=Yv
   have c:=CN v k k 0 Yv;have d:=CN v k k 1 Yv;have f:=CN v k k 2 Yv;have g:=CN v k k 3 Yv;have h:=CN v k k 4 Yv;have j:=CN v k k 5 Yv;have l:=CN v k k 6 Yv;have m:=CN v k k 7 Yv;go_wp2;exact bodyPost_ret (v:=.agg (Ee v k k)) (by simp[results,results82,go_sem];rfl) rfl ⟨rfl,rfl⟩
theorem Nk(s:Zi)(a:Int)(w:Zh)(l:s.size<=maxLen)(f:1<=a)(h:a<=8):
 Calls prog 55 #[.string s,Zg a] w fun e d=>e=.returned (.string (Db s.data.toList a.toNat))/\Zz w d:=by
 have b:=OY s.data.toList;obtain⟨n,rfl⟩:∃n:Nat,a=n:=⟨a.toNat,Yv⟩;have j:∀(W:Zh) (g:Nat),g=W.heap.size->Sem.run prog (convert 22 9 (Yz g n 8)) (W.alloc (Obj.cells (Ee (Em s.data.toList) n n) 52))=.ok (.string (Db s.data.toList n)) (W.alloc (Obj.cells (Ee (Em s.data.toList) n n) 52)):=fun W g k=>k▸
  run_convert_bytes_arg (P:=prog) _ 22 5 underlying22 underlying5 W.heap.size 0 n 8 (Dp (Em s.data.toList) n) (CP _ n) (fun i c=>by
   rw[Nat.zero_add,World.cell?_alloc_new,CN _ _ _ _ Yv];simp only[List.getD,Ox _ n i c,Option.getD_some];unfold CC;rw[if_pos c,QY _ _ _ c]) 9 underlying9
 have m:(0:Int)<=n:=Yv
 unfold Ee at j;go_enter func55,ntmps55;go_wp2_with (first
  |(go_at_call 83;refine(Ur s _ l).mono ?_;rintro e d ⟨rfl,rfl⟩)
  |(go_at_call 82;refine(SE _ _ _ f h b.1 b.2).mono ?_;rintro e d ⟨rfl,rfl⟩)
  |go_in)
 go_ret;refine⟨rfl,?_⟩;exact(((Zy).alloc Yu _).alloc Yt _)
def Nl(b:UInt8):Bool:=decide ((33:Int)<=(b.toNat:Int)/\(b.toNat:Int)<=126)
def nameBytes(s:Zi):Bool:=s.data.toList.all Nl
def BZ(s:Zi):Bool:=decide (1<=s.size/\s.size<=40)&&nameBytes s
theorem EV{s:Zi}{k:Nat}(a:k<s.size)(h:¬((33:Int)<=(s[k].toNat:Int)/\(s[k].toNat:Int)<=126)):nameBytes s=false:=by unfold nameBytes;rw[List.all_eq_false];refine⟨s[k],?_,by unfold Nl;simpa using h⟩;exact List.mem_of_getElem (l:=s.data.toList) (i:=k) (h:=by simpa using a) rfl
theorem IH{s:Zi}(h:∀k (a:k<s.size),(33:Int)<=(s[k].toNat:Int)/\(s[k].toNat:Int)<=126):nameBytes s=true:=by unfold nameBytes;rw[List.all_eq_true];intro b c;obtain⟨k,a,rfl⟩:=List.getElem_of_mem c;exact decide_eq_true (h k (by simpa using a))
def PA(s:Zi)(k:Nat):Prop:=∀i (hi:i<s.size),i<k->(33:Int)<=(s[i].toNat:Int)/\(s[i].toNat:Int)<=126
theorem Me{s:Zi}{k:Nat}(h:PA s k)(f:k<s.size)(b:(33:Int)<=(s[k].toNat:Int))(c:(s[k].toNat:Int)<=126):PA s (k+1):=by
 intro i d e;rcases Nat.lt_or_ge i k with a|a
 .exact h i d a
 .obtain rfl:i=k:=Yv
  exact⟨b,c⟩
theorem Mf(s:Zi)(w:Zh)(m:s.size<=maxLen):
 Calls prog 57 #[.string s] w fun e n=>e=.returned (.bool (BZ s))/\n=w:=by
 unfold maxLen at m;by_cases h1:1<=s.size
 .by_cases h2:s.size<=40
  .have b:decide ((s.size:Int)<1)=false:=Yt
   have g:decide ((40:Int)<(s.size:Int))=false:=Yt
   have j:Hid (decide (1<=s.size/\s.size<=40)=true):=by show _=_;simp;omega
   go_enter func57,ntmps57;go_wp2
   go_loop [14] (fun i=>∃k:Nat,k<=s.size/\i=Zg k/\Hid (PA s k)) (fun i=>s.size -(intOf i).toNat)
   case atStart=>exact⟨0,Nat.zero_le _,rfl,fun i _ h=>by omega⟩
   case round=>
    obtain⟨k,o,rfl,c⟩:=hrel;by_cases hlt:k<s.size
    .by_cases b1:(s[k].toNat:Int)<33
     .have d:decide ((s[k].toNat:Int)<33)=true:=by simpa using b1
      go_wp2;go_ret;exact⟨AH (by unfold BZ;rw[EV hlt Yv];simp),rfl⟩
     .have d:decide ((s[k].toNat:Int)<33)=false:=by simpa using b1
      by_cases b2:(126:Int)<(s[k].toNat:Int)
      .have f:decide ((126:Int)<(s[k].toNat:Int))=true:=by simpa using b2
       go_wp2;go_ret;exact⟨AH (by unfold BZ;rw[EV hlt Yv];simp),rfl⟩
      .have f:decide ((126:Int)<(s[k].toNat:Int))=false:=by simpa using b2
       have HU:=Yw (Me c hlt Yv Yv);go_wp2;exact⟨⟨k+1,Yv,Yo,HU⟩,by simp[intOf];omega⟩
    .have a:=IH (s:=s) (fun i l=>c i l Yv);go_wp2;go_ret;exact⟨AH (by unfold BZ;rw[a,j.o];rfl),rfl⟩
  .have b:decide ((s.size:Int)<1)=false:=Yt
   have g:decide ((40:Int)<(s.size:Int))=true:=Yt
   go_enter func57,ntmps57;go_wp2;go_ret;exact⟨AH (by unfold BZ;rw[decide_eq_false Yv];rfl),rfl⟩
 .have b:decide ((s.size:Int)<1)=true:=Yt
  go_enter func57,ntmps57;go_wp2;go_ret;exact⟨AH (by unfold BZ;rw[decide_eq_false Yv];rfl),rfl⟩
theorem GD(s:Zi)(w:Zh)(g:s.size<=maxLen):
 Calls prog 25 #[.string s] w fun e j=>e=.returned (.bool (BZ s))/\j=w:=by
 unfold maxLen at g;go_enter func25,ntmps25;go_wp2
 go_loop [3] (fun i=>∃k:Nat,k<=s.size/\i=Zg k/\Hid (PA s k)) (fun i=>s.size -(intOf i).toNat)
 case atStart=>exact⟨0,Nat.zero_le _,rfl,fun i _ h=>by omega⟩
 case round=>
  obtain⟨k,m,rfl,b⟩:=hrel;by_cases hlt:k<s.size
  .by_cases b1:(s[k].toNat:Int)<33
   .have c:decide ((s[k].toNat:Int)<33)=true:=by simpa using b1
    go_wp2;go_ret;exact⟨AH (by unfold BZ;rw[EV hlt Yv];simp),rfl⟩
   .have c:decide ((s[k].toNat:Int)<33)=false:=by simpa using b1
    by_cases b2:(126:Int)<(s[k].toNat:Int)
    .have d:decide ((126:Int)<(s[k].toNat:Int))=true:=by simpa using b2
     go_wp2;go_ret;exact⟨AH (by unfold BZ;rw[EV hlt Yv];simp),rfl⟩
    .have d:decide ((126:Int)<(s[k].toNat:Int))=false:=by simpa using b2
     have HU:=Yw (Me b hlt Yv Yv);go_wp2;exact⟨⟨k+1,Yv,Yo,HU⟩,by simp[intOf];omega⟩
  .have a:=IH (s:=s) (fun i f=>b i f Yv);by_cases h1:1<=s.size
   .go_wp2;go_ret;refine⟨AH ?_,rfl⟩;unfold BZ;rw[a,Bool.and_true];simp[h1];omega
   .have l:decide ((1:Int)<=(s.size:Int))=false:=Yt
    go_wp2;go_ret;exact⟨AH (by unfold BZ;rw[decide_eq_false Yv];rfl),rfl⟩
structure Kd where
 sum:Zi
 born:Int
 E:Zi
 B:Zl
structure Pd where
 name:Zi
 sum:Zi
structure Ld where
 H:Int
 sum:Zi
 V:Int
def Mg(w:Zh)(B:Nat)(b o:Nat)(k:Kd):Prop:=
 w.cell? (Zd b o)=some (.string k.sum)/\w.cell? (Zd b (o+1))=some (Zg k.born)/\w.cell? (Zd b (o+2))=some (.string k.E)/\
  ∃ra rc,w.cell? (Zd b (o+3))=some (.slice ra k.B.length rc)/\Ab w B ra k.B
def AI(w:Zh)(B:Nat)(a:Zk)(ks:List Kd):Prop:=
 ks=[]\/∃b off,a=some ⟨b,off,none⟩/\b<B/\∀i k,ks[i]?=some k->Mg w B b (off+i *4) k
def AO(w:Zh)(B:Nat)(a:Zk)(ps:List Pd):Prop:=
 ps=[]\/∃b off,a=some ⟨b,off,none⟩/\b<B/\∀i p,ps[i]?=some p->w.cell? (Zd b (off+i *2))=some (.string p.name)/\w.cell? (Zd b (off+i *2+1))=some (.string p.sum)
def AR(w:Zh)(B:Nat)(a:Zk)(ls:List Ld):Prop:=
 ls=[]\/∃b off,a=some ⟨b,off,none⟩/\b<B/\∀i l,ls[i]?=some l->w.cell? (Zd b (off+i *3))=some (Zg l.H)/\w.cell? (Zd b (off+i *3+1))=some (.string l.sum)/\w.cell? (Zd b (off+i *3+2))=some (Zg l.V)
theorem Mg.below{w d:Zh}{B b o:Nat}{k:Kd}(h:Mg w B b o k)(c:Below B w d)(a:b<B):Mg d B b o k:=by obtain⟨e,f,g,l,m,i,j⟩:=h;exact⟨(c.cell (p:=⟨b,o,none⟩) a).trans e,(c.cell (p:=⟨b,o+1,none⟩) a).trans f,(c.cell (p:=⟨b,o+2,none⟩) a).trans g,l,m,(c.cell (p:=⟨b,o+3,none⟩) a).trans i,j.below c⟩
theorem Mg.mono{w:Zh}{B a b o:Nat}{k:Kd}(h:Mg w B b o k)(i:B<=a):Mg w a b o k:=by obtain⟨c,d,e,j,l,f,g⟩:=h;exact⟨c,d,e,j,l,f,g.mono i⟩
theorem AI.below{w e:Zh}{B:Nat}{a:Zk}{d:List Kd}(h:AI w B a d)(g:Below B w e):AI e B a d:=by
 rcases h with h|⟨b,off,f,c,j⟩
 .exact .inl h
 .exact .inr ⟨b,off,f,c,fun i k l=>(j i k l).below g c⟩
theorem AI.mono{w:Zh}{B c:Nat}{a:Zk}{ks:List Kd}(h:AI w B a ks)(e:B<=c):AI w c a ks:=by
 rcases h with h|⟨b,off,d,j,f⟩
 .exact .inl h
 .exact .inr ⟨b,off,d,Yv,fun i k g=>(f i k g).mono e⟩
theorem AI.at{w:Zh}{B:Nat}{a:Zk}{ks:List Kd}(h:AI w B a ks){i:Nat}(c:i<ks.length):
 ∃b off,a=some ⟨b,off,none⟩/\b<B/\∀i k,ks[i]?=some k->Mg w B b (off+i *4) k:=by
 rcases h with h|h
 .subst h;simp at c
 .exact h
theorem AO.below{w j:Zh}{B:Nat}{a:Zk}{g:List Pd}(h:AO w B a g)(d:Below B w j):AO j B a g:=by
 rcases h with h|⟨b,off,l,c,e⟩
 .exact .inl h
 .exact .inr ⟨b,off,l,c,fun i k f=>⟨(d.cell (p:=⟨b,off+i *2,none⟩) c).trans (e i k f).1,(d.cell (p:=⟨b,off+i *2+1,none⟩) c).trans (e i k f).2⟩⟩
theorem AO.mono{w:Zh}{B c:Nat}{a:Zk}{d:List Pd}(h:AO w B a d)(i:B<=c):AO w c a d:=by
 rcases h with h|⟨b,off,e,g,f⟩
 .exact .inl h
 .exact .inr ⟨b,off,e,Yv,f⟩
theorem AO.at{w:Zh}{B:Nat}{a:Zk}{c:List Pd}(h:AO w B a c){i:Nat}(d:i<c.length):
 ∃b off,a=some ⟨b,off,none⟩/\b<B/\∀i p,c[i]?=some p->w.cell? (Zd b (off+i *2))=some (.string p.name)/\w.cell? (Zd b (off+i *2+1))=some (.string p.sum):=by
 rcases h with h|h
 .subst h;simp at d
 .exact h
theorem AR.below{w j:Zh}{B:Nat}{a:Zk}{g:List Ld}(h:AR w B a g)(d:Below B w j):AR j B a g:=by
 rcases h with h|⟨b,off,l,c,e⟩
 .exact .inl h
 .exact .inr ⟨b,off,l,c,fun i k f=>⟨(d.cell (p:=⟨b,off+i *3,none⟩) c).trans (e i k f).1,(d.cell (p:=⟨b,off+i *3+1,none⟩) c).trans (e i k f).2.1,(d.cell (p:=⟨b,off+i *3+2,none⟩) c).trans (e i k f).2.2⟩⟩
theorem AR.mono{w:Zh}{B c:Nat}{a:Zk}{d:List Ld}(h:AR w B a d)(i:B<=c):AR w c a d:=by
 rcases h with h|⟨b,off,e,g,f⟩
 .exact .inl h
 .exact .inr ⟨b,off,e,Yv,f⟩
theorem AR.at{w:Zh}{B:Nat}{a:Zk}{c:List Ld}(h:AR w B a c){i:Nat}(d:i<c.length):
 ∃b off,a=some ⟨b,off,none⟩/\b<B/\∀i l,c[i]?=some l->w.cell? (Zd b (off+i *3))=some (Zg l.H)/\w.cell? (Zd b (off+i *3+1))=some (.string l.sum)/\w.cell? (Zd b (off+i *3+2))=some (Zg l.V):=by
 rcases h with h|h
 .subst h;simp at d
 .exact h
def less(a b:Zi):Bool:=Op.bytesLess a.toList b.toList
def sumOf(k:Kd)(wd:Int):Zi:=Db (AB k.E k.B wd).data.toList wd.toNat
structure Nn (wd now given births:Int):Prop where
 gu:1<=wd
 ib:wd<=8
 ci:0<=now
 gd:now<=1000000000
 bk:0<=given
 fg:given<=1000000000
 ak:0<=births
 dx:births<=1000000000
structure DO (wd:Int) (ks:List Kd) (i:Nat) (k:Kd):Prop where
 ok:Ay k.E k.B wd=true
 sum:k.sum=sumOf k wd
 up:∀j p,i=j+1->ks[j]?=some p->less p.sum k.sum=true
structure DH (births:Int) (ks:List Kd) (i:Nat) (k:Kd):Prop where
 lo:1<=k.born
 hi:k.born<=births
 new:∀j p,j<i->ks[j]?=some p->p.born≠k.born
def Aw(ks:List Kd)(s:Zi):Prop:=∃u∈ks,u.sum=s
def Hv(ks:List Kd)(k:Kd):Prop:=∀r∈k.B,∃u∈ks,u.sum=r/\u.born<k.born
structure FY (ks:List Kd) (ps:List Pd) (i:Nat) (p:Pd):Prop where
 name:BZ p.name=true
 up:∀j q,i=j+1->ps[j]?=some q->less q.name p.name=true
 sum:Aw ks p.sum
structure EM (now given:Int) (ks:List Kd) (ls:List Ld) (i:Nat) (l:Ld):Prop where
 lo:1<=l.H
 hi:l.H<=given
 up:∀j q,i=j+1->ls[j]?=some q->q.H<l.H
 sum:Aw ks l.sum
 gg:now<l.V
 gh:l.V<=now+100000
structure Bq (wd now given births:Int) (ks:List Kd) (ps:List Pd) (ls:List Ld):Prop where
 ca:Nn wd now given births
 nth:ks.length<=600
 np:ps.length<=100
 nl:ls.length<=200
 th:∀(i:Nat) k,ks[i]?=some k->DO wd ks i k
 born:∀(i:Nat) k,ks[i]?=some k->DH births ks i k
 ref:∀(i:Nat) k,ks[i]?=some k->Hv ks k
 du:∀(i:Nat) p,ps[i]?=some p->FY ks ps i p
 br:∀(i:Nat) l,ls[i]?=some l->EM now given ks ls i l
theorem Ko{w:Zh}{a:Nat}{v:Value}{n:Nat}{d:Zj}(h:w.ownsRow a 9 1 v n d)(c:v≠Zb):∃g cap,v=Yz g n cap:=by
 rcases Joins.ownsRow_forms h with⟨e,_⟩|b
 .exact absurd e c
 .exact b
theorem Ab.cz{w:Zh}{B g:Nat}{c:Zl}(h:Ab w B (some ⟨g,0,none⟩) c):∀j u,(c.map Value.string)[j]?=some u->w.cell? ((⟨g,0,none⟩:Addr).add j)=some u:=by
 intro j u a;rw[List.getElem?_map]at a;cases hs:c[j]? with
 |none=>rw[hs]at a;cases a
 |some s=>
  rw[hs]at a;cases a;rcases h with h|⟨b,off,d,_,e⟩
  .subst h;simp at hs
  .cases d;have:=e j s hs;rw[Go.WideShapes.add_plain];simpa using this
theorem SF(b:Zl):∀u∈b.map Value.string,u.oneCell'=true:=fun u a=>by obtain⟨s,_,rfl⟩:=List.mem_map.1 a;rfl
section
def kB(s:Zi)(i:Nat):Int:=((s.data.toList[i]?).getD 0).toNat
def EG(s:Zi):Array Value:= #[.int .u8 (kB s 0),.int .u8 (kB s 1),.int .u8 (kB s 2),.int .u8 (kB s 3),.int .u8 (kB s 4),.int .u8 (kB s 5),.int .u8 (kB s 6),.int .u8 (kB s 7)]
def DQ:Array Value:= #[.int .u8 0,.int .u8 0,.int .u8 0,.int .u8 0,.int .u8 0,.int .u8 0,.int .u8 0,.int .u8 0]
def Mh(s:Zi):Zj:=List.take (Nat.min s.size 8) (List.map (fun b=>Value.int .u8 b.toNat) s.data.toList)
theorem Ev(s:Zi):s.data.toList.length=s.size:=Yu
theorem KO(s:Zi):(Mh s).length=min s.size 8:=by have:=Ev s;simp only[Mh,List.length_take,List.length_map,this];show min (min s.size 8) s.size=_;omega
theorem Us(s:Zi)(i:Nat)(h:i<min s.size 8):(Mh s)[i]?=some (.int .u8 (kB s i)):=by have a:=Ev s;unfold Mh kB;rw[List.getElem?_take_of_lt (by show i<min s.size 8;exact h),List.getElem?_map,Zv Yv];simp
theorem Ut(s:Zi):(DQ.toList.take (0+0)++Mh s++DQ.toList.drop (0+0+(Mh s).length)).toArray=EG s:=by
 apply Array.ext';apply List.ext_getElem?;intro i;have c:=KO s;simp only[Nat.add_zero,List.take_zero,List.nil_append,Nat.zero_add];by_cases h:i<min s.size 8
 .rw[List.getElem?_append_left Yv,Us s i h];have b:i<8:=Yv
  match i,b with
  |0,_|1,_|2,_|3,_|4,_|5,_|6,_|7,_=>rfl
 .rw[List.getElem?_append_right Yv,c,List.getElem?_drop,show min s.size 8+(i -min s.size 8)=i from by omega];by_cases b:i<8
  .have a:kB s i=0:=by have d:=Ev s;unfold kB;rw[List.getElem?_eq_none Yv];rfl
   match i,b,a with
   |0,_,a|1,_,a|2,_,a|3,_,a|4,_,a|5,_,a|6,_,a|7,_,a=>simp[DQ,EG,a]
  .rw[List.getElem?_eq_none (by simp[DQ];omega),List.getElem?_eq_none (by simp[EG];omega)]
theorem No(w:Zh)(a b:Array Value)(t:TypeId):(w.alloc (.cells a t)).setRow w.heap.size b=w.alloc (.cells b t):=by
 unfold World.setRow World.alloc;congr 1;apply Array.ext
 .simp
 .intro i d c;simp only[Array.getElem_modify,Array.getElem_push];split
  .rename_i h
   subst h;simp
  .rename_i h
   simp at c;rw[dif_pos Yv,dif_pos Yv]
theorem Np(w:Zh)(s:Zi)(d:TypeId):
 (Builtin.copy_ #[22,9] d #[Yz w.heap.size 8 8,.string s]).run prog (w.alloc (.cells DQ 52))=.ok (goInt (Nat.min s.size 8)) (w.alloc (.cells (EG s) 52)):=by
 obtain⟨h,c,e,f,g⟩:=info_parts Ma;have a:=run_storeCells_at (P:=prog) w.heap.size 0 52 (Mh s) 0 DQ (w.alloc (.cells DQ 52)) (heap_alloc_new w _) (by rw[KO];simp[DQ];omega) (fun v b=>by
  have b:=List.mem_of_mem_take b;simp only[List.mem_map]at b;obtain⟨_,_,rfl⟩:=b;rfl)
 rw[Ut,No]at a;unfold Mh at a;simp[Builtin.copy_,run_underlying underlying22,Builtin.lenOf,Builtin.firstCells,sizeOf,typeInfo,c,a,Result.andThen]
def En(s:Zi):Value:=.agg (EG s)
theorem Ef(s:Zi)(w:Zh):
 Calls prog 21 #[.string s] w fun e c=>e=.returned (En s)/\Zz w c:=by
 have b:∀a,(Builtin.copy_ #[22,9] a #[Yz (w.heap.size+1) 8 8,.string s]).run prog ((w.alloc (.cells DQ 52)).alloc (.cells DQ 52))=.ok (goInt (Nat.min s.size 8)) ((w.alloc (.cells DQ 52)).alloc (.cells (EG s) 52)):=fun a=>by have:=Np (w.alloc (.cells DQ 52)) s a;rwa[show(w.alloc (.cells DQ 52)).heap.size=w.heap.size+1 from by simp]at this
 unfold EG DQ at b;go_enter func21,ntmps21;go_wp2;refine bodyPost_ret (v:=En s) (by simp[results,results21,go_sem,En,EG]) rfl ⟨rfl,?_⟩;exact(Zy).alloc Yu _
theorem VX(s:Zi)(i:Nat):0<=kB s i/\kB s i<256:=by unfold kB;have:=((s.data.toList[i]?).getD 0).toNat_lt;omega
theorem VY(s:Zi)(i:Nat):(Lit.int .u8 (kB s i)).wf=true:=by
 have:=VX s i;have a:IntKind.u8.min=0:=Yr
 have b:IntKind.u8.max=255:=Yr
 simp only[Lit.wf,a,b,Bool.and_eq_true,decide_eq_true_eq];omega
theorem Vk:prog.keyType 52=true:=Ys
theorem Ua:prog.cellsOf 52=8:=Ys
theorem VZ:prog.cellsOf 5=1:=Ys
theorem SG:prog.underlying 52=some (.array 8 5):=Ys
theorem Vl:∃n,prog.types.size=n+1:=⟨prog.types.size -1,Ys⟩
theorem Nq(s:Zi):∃l,keyOf prog 52 (En s)=some l:=by obtain⟨n,a⟩:=Vl;unfold keyOf;rw[SG,a];simp only[Vk,En,Value.formed,SG,Ua,EG];simp[Value.cells,Program.keyLits,Ua,VZ,List.range_succ,VY]
noncomputable def keyL (s:Zi):Lit:=(Nq s).choose
theorem CD(s:Zi):keyOf prog 52 (En s)=some (keyL s):=(Nq s).choose_spec
theorem Wa:laidOutB prog=true:=Ys
theorem keyed:Maps.Keyed prog 52:=Maps.Keyed.of_law (deep_law_gate Wa (of_decide_eq_true Ys) (of_decide_eq_true Ys) Vk (by rw[SG]))
theorem key_inj{s t:Zi}(h:keyL s=keyL t)(r:s.size=t.size)(q:s.size<=8):s=t:=by
 have a:=CD t;rw[<-h]at a;have d:=keyed.inj (CD s) a;clear a h;have o:∀i,i<8->kB s i=kB t i:=by
  simp only[En,EG,Value.agg.injEq,Array.mk.injEq,List.cons.injEq,Value.int.injEq,true_and,and_true]at d;obtain⟨e,f,g,j,k,l,m,n⟩:=d;intro i b
  match i,b with
  |0,_=>exact e
  |1,_=>exact f
  |2,_=>exact g
  |3,_=>exact j
  |4,_=>exact k
  |5,_=>exact l
  |6,_=>exact m
  |7,_=>exact n
 have u:=Ev s;have v:=Ev t;have c:s.data.toList=t.data.toList:=by
  apply List.ext_getElem?;intro i;by_cases b:i<s.size
  .have:=o i Yv;unfold kB at this;rw[Zv Yv,Zv Yv]at this |-;simp only[Option.getD_some]at this;congr 1;exact UInt8.toNat_inj.1 Yv
  .rw[List.getElem?_eq_none Yv,List.getElem?_eq_none Yv]
 cases s;cases t;simp only[Array.toList_inj]at c;rw[c]
open Classical in
noncomputable def upd (f:Lit->Option Value) (kl:Lit) (v:Value):Lit->Option Value:=fun x=>if x=kl then some v else f x
theorem CG(f:Lit->Option Value)(a:Lit)(v:Value):upd f a v a=some v:=by simp[upd]
theorem CO(f:Lit->Option Value){a x:Lit}(v:Value)(h:x≠a):upd f a v x=f x:=by simp[upd,h]
def Nd(v:Value):Option (DataW Value×List MemPlace):=some (.held v,[])
def AP(w:Zh)(K:TypeId)(b n:Nat)(f:Lit->Option Value):Prop:=
 ∃D:DataW Value,w.ownsMap prog K Nd b n D/\(∀kl z,D.atKey kl (.held z)=.held ((f kl).getD z))/\∀kl,Maps.has D kl=(f kl).isSome
theorem AP.new(w:Zh)(K:TypeId):AP (w.alloc (.map #[] 0)) K w.heap.size 0 (fun _=>none):=
 ⟨.map [],World.ownsMap_made _ _ _ _,fun _ _=>rfl,fun _=>rfl⟩
theorem AP.af{w a:Zh}{K:TypeId}{b n:Nat}{f:Lit->Option Value}(h:AP w K b n f){B:Nat}(j:Below B w a)(i:b<B):AP a K b n f:=by obtain⟨D,⟨c,clock,d,e⟩,g⟩:=h;exact⟨D,⟨c,clock,(j.block b i).trans d,e⟩,g⟩
theorem AP.lt{w:Zh}{K:TypeId}{b n:Nat}{f:Lit->Option Value}(h:AP w K b n f):b<w.heap.size:=h.choose_spec.1.lt
theorem AP.put{w:Zh}{K t e:TypeId}{b n:Nat}{f:Lit->Option Value}(h:AP w K b n f)(l:Maps.Keyed prog K)(y:prog.underlying t=some (.map K e))(s:n<maxLen){j val:Value}{g:Lit}(a:keyOf prog K j=some g):
 ∃c,(Instr.mapUpdate t (.map (some b)) j val).run prog w=.ok () c/\AP c K b (n+1) (upd f g val)/\w.grownBy c (some b):=by
 obtain⟨D,k,o,q⟩:=h;obtain⟨c,v,u,r⟩:=k.update l y s a (d:=.held val) (ps:=[]) (val:=val) rfl;have m:=k.isMap;have i:=l.key a;refine⟨c,v,⟨_,u,fun x z=> ?_,fun x=> ?_⟩,r⟩
 .by_cases hx:x=g
  .subst hx;rw[Maps.atKey_put_same m i,CG];rfl
  .rw[Maps.atKey_put_other hx,CO _ _ hx];exact o x z
 .by_cases hx:x=g
  .subst hx;rw[Maps.has_put_same m i,CG];rfl
  .rw[Maps.has_put_other hx,CO _ _ hx];exact q x
theorem AP.look{w:Zh}{K t e:TypeId}{b n:Nat}{f:Lit->Option Value}(h:AP w K b n f)(k:Maps.Keyed prog K)(m:prog.underlying t=some (.map K e)){z:Value}(o:(zeroValue e).run prog w=.ok z w){c:Value}{g:Lit}(a:keyOf prog K c=some g):
 (Instr.lookup t (.map (some b)) c false).run prog w=.ok ((f g).getD z) w:=by
 obtain⟨D,i,j,_⟩:=h;obtain⟨v,q,l,d⟩:=i.lookup k m o (zd:=.held z) (zp:=[]) rfl a;rw[j]at d;simp only[Nd,Option.some.injEq,Prod.mk.injEq,DataW.held.injEq]at d;rw[l,d.1]
theorem AP.look_ok{w:Zh}{K t e:TypeId}{b n:Nat}{f:Lit->Option Value}(h:AP w K b n f)(l:Maps.Keyed prog K)(o:prog.underlying t=some (.map K e)){z:Value}(q:(zeroValue e).run prog w=.ok z w){c:Value}{g:Lit}(a:keyOf prog K c=some g):
 (Instr.lookup t (.map (some b)) c true).run prog w=.ok (.tuple #[(f g).getD z,.bool (f g).isSome]) w:=by
 obtain⟨D,i,j,k⟩:=h;obtain⟨v,r,m,d⟩:=i.look_ok l o q (zd:=.held z) (zp:=[]) rfl a;rw[j]at d;simp only[Nd,Option.some.injEq,Prod.mk.injEq,DataW.held.injEq]at d;rw[m,d.1,k]
end
end Go.Proofs.YtmjlkgpekcnacaaGreat
