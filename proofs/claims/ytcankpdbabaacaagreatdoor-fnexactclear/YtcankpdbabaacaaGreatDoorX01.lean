import Derived.Test.YtcankpdbabaacaaGreatDoorProg
import Derived.WalkKit
import Derived.ProofKit
import Derived.Deep.AppendLies
import Derived.Deep.QuietTactic
import Derived.BigQuiet
import Derived.Deep.Onto
import Derived.Laws.Cover1
import Derived.Deep.RegionWith
import Derived.Maps.AppendAt
import Derived.Maps.Range
import Derived.Shelf.Strings.Builder1
import Derived.Lib.AppendStr
set_option maxRecDepth 100000
set_option maxHeartbeats 16000000
namespace Go.Proofs.YtcankpdbabaacaaGreatDoor
open Go.ChangeShapes Go.WideShapes Go.ChangeAt Go.RowKit _root_.Go.Proofs.Tryz
abbrev Zz (w w':World):Prop:=Below w.heap.size w w'
theorem Zy {w:World} {o:Obj}:Below w.heap.size w (w.alloc o):=(Below.refl _ _).alloc (Nat.le_refl _) _
theorem Zx {n:Nat}:n<=n:=Nat.le_refl n
theorem Zw {α:Type _} {l:List α} {i:Nat} {a:α} (h:l[i]?=some a):∃h:i<l.length,l[i]=a:=List.getElem?_eq_some_iff.1 h
theorem Zv {α:Type _} {l:List α} {i:Nat} (h:i<l.length):l[i]?=some l[i]:=List.getElem?_eq_getElem h
theorem Zu {α:Type _} {i:Nat} {l:List α} (h:i<l.length):l.take (i+1)=l.take i++[l[i]]:=List.take_succ_eq_append_getElem h
theorem Zt {α:Type _} {i:Nat} {l:List α} (h:l.length<=i):l.take i=l:=List.take_of_length_le h
theorem Zs {α:Type _} {l:List α} {i:Nat} {a:α} (h:l[i]?=some a):a∈l:=List.mem_of_getElem? h
theorem Zr {a b c:Nat} (h:a<b) (k:b<=c):a<c:=Nat.lt_of_lt_of_le h k
theorem Zq {α:Type _} (l:List α) (i:Nat) (a:α):l.toArray.setIfInBounds i a=(l.set i a).toArray:=List.setIfInBounds_toArray l i a
theorem Zp {α:Type _} {x a:α} {l:List α}:(x::l).set 0 a=a::l:=List.set_cons_zero
theorem Zo {α:Type _} {x a:α} {l:List α} {i:Nat}:(x::l).set (i+1) a=x::l.set i a:=List.set_cons_succ
theorem Zn {a b:Prop} (x:a) (y:b):a/\b:=⟨x,y⟩
theorem Zm {a b c:Nat} (h:a<=b) (k:b<=c):a<=c:=Nat.le_trans h k
theorem _root_.Go.RowKit.Hid.o {p:Prop} (h:Hid p):p:=h
abbrev _root_.Go.Proofs.Zl:=List ByteArray
abbrev _root_.Go.Proofs.Zk:=Option Addr
abbrev _root_.Go.Proofs.Zj:=List Value
abbrev _root_.Go.Proofs.Zi:=ByteArray
abbrev _root_.Go.Proofs.Zh:=World
abbrev Zg (n:Int):Value:=.int .i64 n
abbrev Zf:Value:=.int .i64 0
abbrev Ze (b k:Nat):Addr:=⟨b,k,none⟩
abbrev Zd:Value:=.string ⟨#[]⟩
abbrev Zc:Value:=.slice none 0 0
theorem Zb {a b:Prop} (x:a) (y:b):a/\b:=⟨x,y⟩
abbrev _root_.Go.Proofs.Za(b n c:Nat):Value:=.slice (some ⟨b,0,none⟩) n c
abbrev _root_.Go.Proofs.Yz(b:Nat):Value:=.pointer (some ⟨b,0,none⟩)
abbrev _root_.Go.Proofs.Yy(b k:Nat):Value:=.pointer (some ⟨b,k,none⟩)
theorem _root_.Go.Proofs.Yx{p:Prop}(h:p):Hid p:=h
theorem _root_.Go.Proofs.Yw{p:Prop}(h:p:=by omega):p:=h
theorem _root_.Go.Proofs.Yv{p:Prop}(h:p:=by simp):p:=h
theorem _root_.Go.Proofs.Yu{p:Prop}(h:p:=by simp;omega):p:=h
theorem _root_.Go.Proofs.Yt{p:Prop}(h:p:=by kernel_rfl):p:=h
theorem _root_.Go.Proofs.Ys{p:Prop}(h:p:=by decide):p:=h
theorem _root_.Go.Proofs.Yr{p:Prop}(h:p:=by rfl):p:=h
theorem _root_.Go.Proofs.Yq{p:Prop}(h:p:=by unfold maxLen;omega):p:=h
theorem _root_.Go.Proofs.Yp{p:Prop}(h:p:=by go_num):p:=h
theorem _root_.Go.Proofs.Yo{p:Prop}(h:p:=by simp<;>omega):p:=h
theorem _root_.Go.Proofs.Yn{p:Prop}(h:p:=by first|omega|(simp;omega)):p:=h
abbrev Ym(f:Nat->Int):Array Value:=#[.int .u8 (f 0),.int .u8 (f 1),.int .u8 (f 2),.int .u8 (f 3),.int .u8 (f 4),.int .u8 (f 5),.int .u8 (f 6),.int .u8 (f 7)]
abbrev Yl(f:Nat->Int):List Value:=[.int .u8 (f 0),.int .u8 (f 1),.int .u8 (f 2),.int .u8 (f 3),.int .u8 (f 4),.int .u8 (f 5),.int .u8 (f 6),.int .u8 (f 7)]
abbrev Yk:Array Value:=#[.int .i64 0,.int .i64 0,.int .i64 0,.int .i64 0,.slice none 0 0,.slice none 0 0,.slice none 0 0]
abbrev Yj(a b c d:Int)(e:Option Addr)(f g:Nat)(h:Option Addr)(i j:Nat)(k:Option Addr)(l m:Nat):List Value:=[.int .i64 a,.int .i64 b,.int .i64 c,.int .i64 d,.slice e f g,.slice h i j,.slice k l m]
abbrev Yi(a b c d:Int)(e:Option Addr)(f g:Nat)(h:Option Addr)(i j:Nat)(k:Option Addr)(l m:Nat):Array Value:=#[.int .i64 a,.int .i64 b,.int .i64 c,.int .i64 d,.slice e f g,.slice h i j,.slice k l m]
abbrev Yh(a:Int)(b c:ByteArray)(d:Int)(e:ByteArray)(f:Option Addr)(g h:Nat):Array Value:=#[.int .i64 a,.string b,.string c,.int .i64 d,.string e,.slice f g h]
abbrev Yg:Array Value:=#[.int .i64 0,.int .i64 0,.int .i64 0,.int .i64 0,.int .i64 0,.slice none 0 0,.slice none 0 0,.slice none 0 0,.string ⟨#[]⟩,.int .i64 0,.string ⟨#[]⟩,.string ⟨#[]⟩]
abbrev Yf(a:Int):Array Value:=#[.int .i64 a,.int .i64 0,.int .i64 0,.int .i64 0,.int .i64 0,.slice none 0 0,.slice none 0 0,.slice none 0 0,.string ⟨#[]⟩,.int .i64 0,.string ⟨#[]⟩,.string ⟨#[]⟩]
abbrev Ye(a:Int)(b c:ByteArray)(d:Int)(e:ByteArray)(f:Option Addr)(g h:Nat):List Value:=[.int .i64 a,.string b,.string c,.int .i64 d,.string e,.slice f g h]
abbrev Yd(a:Int):List Value:=[.int .i64 a,.int .i64 0,.int .i64 0,.int .i64 0,.int .i64 0,.slice none 0 0,.slice none 0 0,.slice none 0 0,.string ⟨#[]⟩,.int .i64 0,.string ⟨#[]⟩,.string ⟨#[]⟩]
abbrev Yc:Array Value:=#[.int .i64 0,.string ⟨#[]⟩,.string ⟨#[]⟩,.int .i64 0,.string ⟨#[]⟩,.slice none 0 0]
abbrev Yb:List Value:=[.int .i64 0,.string ⟨#[]⟩,.string ⟨#[]⟩,.int .i64 0,.string ⟨#[]⟩,.slice none 0 0]
abbrev Ya(a:Int)(e:Option Addr)(f g:Nat)(h:Option Addr)(i j:Nat)(b c d:Int):Array Value:=#[.int .i64 a,.slice e f g,.slice h i j,.int .i64 b,.int .i64 c,.int .i64 d]
abbrev Xx:Array Value:=#[.int .i64 0,.int .i64 0,.int .i64 0,.slice none 0 0,.slice none 0 0,.int .i64 0,.int .i64 0,.int .i64 0,.int .i64 0,.slice none 0 0,.slice none 0 0,.slice none 0 0,.int .i64 0,.slice none 0 0,.slice none 0 0,.int .i64 0,.int .i64 0,.int .i64 0,.int .i64 0,.slice none 0 0]
abbrev Xw:List Value:=[.int .i64 0,.int .i64 0,.int .i64 0,.slice none 0 0,.slice none 0 0,.int .i64 0,.int .i64 0,.int .i64 0,.int .i64 0,.slice none 0 0,.slice none 0 0,.slice none 0 0,.int .i64 0,.slice none 0 0,.slice none 0 0,.int .i64 0,.int .i64 0,.int .i64 0,.int .i64 0,.slice none 0 0]
abbrev Xv:Array Value:=#[.int .i64 0,.int .i64 0,.slice none 0 0,.slice none 0 0,.int .i64 0,.int .i64 0,.int .i64 0,.int .i64 0,.slice none 0 0,.slice none 0 0,.slice none 0 0,.int .i64 0,.slice none 0 0,.slice none 0 0,.int .i64 0,.int .i64 0,.int .i64 0]
abbrev Xu:List Value:=[.int .i64 0,.int .i64 0,.slice none 0 0,.slice none 0 0,.int .i64 0,.int .i64 0,.int .i64 0,.int .i64 0,.slice none 0 0,.slice none 0 0,.slice none 0 0,.int .i64 0,.slice none 0 0,.slice none 0 0,.int .i64 0,.int .i64 0,.int .i64 0]
abbrev Xt:Array Value:=#[.int .i64 0,.int .i64 0,.int .i64 0,.int .i64 0,.int .i64 0,.slice none 0 0,.slice none 0 0,.slice none 0 0,.int .i64 0,.slice none 0 0,.slice none 0 0,.int .i64 0,.int .i64 0,.int .i64 0,.slice none 0 0]
abbrev Xs(a:Int)(e:Option Addr)(f g:Nat)(h:Option Addr)(i j:Nat)(b c d:Int):List Value:=[.int .i64 a,.slice e f g,.slice h i j,.int .i64 b,.int .i64 c,.int .i64 d]
abbrev Xp:Array Value:=#[.int .i64 0,.slice none 0 0,.slice none 0 0,.int .i64 0,.int .i64 0,.int .i64 0]
abbrev Xo:List Value:=[.int .i64 0,.slice none 0 0,.slice none 0 0,.int .i64 0,.int .i64 0,.int .i64 0]
abbrev Xn:List Value:=[.int .i64 0,.int .i64 0,.int .i64 0,.int .i64 0,.slice none 0 0,.slice none 0 0,.slice none 0 0]
abbrev Xm(a:Int):Array Value:=#[.int .i64 a,.int .i64 0,.int .i64 0,.slice none 0 0,.slice none 0 0,.int .i64 0,.int .i64 0,.int .i64 0,.int .i64 0,.slice none 0 0,.slice none 0 0,.slice none 0 0,.int .i64 0,.slice none 0 0,.slice none 0 0,.int .i64 0,.int .i64 0,.int .i64 0,.int .i64 0,.slice none 0 0]
abbrev Xl(a:Int):List Value:=[.int .i64 a,.int .i64 0,.int .i64 0,.slice none 0 0,.slice none 0 0,.int .i64 0,.int .i64 0,.int .i64 0,.int .i64 0,.slice none 0 0,.slice none 0 0,.slice none 0 0,.int .i64 0,.slice none 0 0,.slice none 0 0,.int .i64 0,.int .i64 0,.int .i64 0,.int .i64 0,.slice none 0 0]
theorem Rl{k:IntKind}{a b:Int}(h:a=b):Ending.returned (.int k a)=.returned (.int k b):=by rw[h]
def Ad(w:Zh)(B:Nat)(a:Zk)(ss:Zl):Prop:=
 ss=[]\/∃b off,a=some ⟨b,off,none⟩/\b<B/\∀i s,ss[i]?=some s->w.cell? (Ze b (off+i))=some (.string s)
theorem Ad.below{w f:Zh}{B:Nat}{a:Zk}{e:Zl}(h:Ad w B a e)(j:Below B w f):Ad f B a e:=by
 rcases h with h|⟨b,d,g,c,k⟩
 .exact .inl h
 .exact .inr ⟨b,d,g,c,fun i s l=>(j.cell (p:=⟨b,d+i,none⟩) c).trans (k i s l)⟩
theorem Ad.mono{w:Zh}{B B':Nat}{a:Zk}{c:Zl}(h:Ad w B a c)(i:B<=B'):Ad w B' a c:=by
 rcases h with h|⟨b,d,e,g,f⟩
 .exact .inl h
 .exact .inr ⟨b,d,e,Yw,f⟩
theorem Ad.at{w:Zh}{B:Nat}{a:Zk}{d:Zl}(h:Ad w B a d){k:Nat}(e:k<d.length):
 ∃b c,a=some ⟨b,c,none⟩/\b<B/\∀i s,d[i]?=some s->w.cell? (Ze b (c+i))=some (.string s):=by
 rcases h with h|h
 .subst h;simp at e
 .exact h
def ax(ss:Zl):Nat:=(ss.map ByteArray.size).sum
theorem Gt(a:Zl)(k:Nat)(s:Zi)(h:a[k]?=some s):ax (a.take (k+1))=ax (a.take k)+s.size:=by obtain⟨b,rfl⟩:=Zw h;unfold ax;rw[Zu b,List.map_append,List.sum_append];simp
theorem ba(a:Zl)(k:Nat):ax (a.take k)<=ax a:=by
 have h:ax a=ax (a.take k)+ax (a.drop k):=by unfold ax;rw[<-List.sum_append,<-List.map_append,List.take_append_drop]
 omega
theorem QS(a:Zl)(k:Nat)(s:Zi)(h:a[k]?=some s):s.size<=ax a:=by have:=Gt a k s h;have:=ba a (k+1);omega
theorem IE(a:Zk)(cap:Nat)(c:Zl)(left:Int)(w:Zh)(B:Nat)(d:Ad w B a c)
 (q:left<=1048576) (j:(c.length:Int)+ax c<=left):
 Calls prog 36 #[.slice a c.length cap,Zg left] w fun e n=>e=.returned (Zg (left -c.length -ax c))/\n=w:=by
 go_enter func36,ntmps36;go_wp2
 go_loop [1,5] (fun l i=>∃k:Nat,k<=c.length/\i=Zg k/\l=Zg (left -c.length -ax (c.take k))) (fun _ i=>c.length -(intOf i).toNat)
 case atStart=>exact⟨0,Nat.zero_le _,rfl,by simp[ax]⟩
 case round=>
  obtain⟨k,t,rfl,rfl⟩:=hrel;by_cases hlt:k<c.length
  .obtain⟨b,p,m,r,g⟩:=d.at hlt;subst m;have o:=g k c[k] (Zv hlt);have f:=Yx (Gt c k _ (Zv hlt));have h:=ba c (k+1);rw[f.o]at h;clear g d;generalize c[k]=s at *
   go_wp2;refine⟨⟨k+1,Yw,Yp,?_⟩,by simp[intOf];omega⟩;rw[f.o];go_num
  .go_wp2;go_ret;exact⟨Rl (by rw[Zt Yw]),rfl⟩
theorem Lf(a:Zk)(cap:Nat)(c:Zl)(left:Int)(w:Zh)(B:Nat)(d:Ad w B a c)
 (o:c.length<=maxLen) (g:∀s∈c,s.size<=maxLen)
 (u:0<=left) (v:left<=1048576) (m:left<(c.length:Int)+ax c):
 Calls prog 36 #[.slice a c.length cap,Zg left] w fun e p=>e=.returned (Zg (-1))/\p=w:=by
 unfold maxLen at o g;by_cases hn:left<c.length
 .go_enter func36,ntmps36;go_wp2;go_ret;exact⟨rfl,rfl⟩
 .go_enter func36,ntmps36;go_wp2
  go_loop [1,5] (fun l i=>∃k:Nat,k<=c.length/\i=Zg k/\l=Zg (left -c.length -ax (c.take k))/\(c.length:Int)+ax (c.take k)<=left) (fun _ i=>c.length -(intOf i).toNat)
  case atStart=>exact⟨0,Nat.zero_le _,rfl,by simp[ax],by simp[ax];omega⟩
  case round=>
   obtain⟨k,y,rfl,rfl,j⟩:=hrel;by_cases hlt:k<c.length
   .obtain⟨b,t,n,x,h⟩:=d.at hlt;subst n;have q:=h k c[k] (Zv hlt);have f:=Yx (Gt c k _ (Zv hlt));have r:=g c[k] (List.getElem_mem hlt);clear h d g;generalize c[k]=s at *
    by_cases hgo:left -c.length -ax (c.take k) -s.size<0
    .go_wp2;go_ret;exact⟨rfl,rfl⟩
    .go_wp2;refine⟨⟨k+1,Yw,Yp,?_,?_⟩,by simp[intOf];omega⟩
     .rw[f.o];go_num
     .rw[f.o];omega
   .exfalso;rw[Zt Yw]at j;omega
theorem Dw:(prog.info? 9).map (fun i=>(i.zero,i.size,i.bytes))=some (some Zd,1,16):=Yt
theorem Ad.own{w:Zh}{b:Nat}{g c:Nat}{a:Zl}(h:w.ownsRow b 9 1 (Za g a.length c) a.length (a.map Value.string)):Ad w w.heap.size (some ⟨g,0,none⟩) a:=by refine .inr ⟨g,0,rfl,(h.lt g rfl).2,fun i s e=> ?_⟩;obtain⟨d,rfl⟩:=Zw e;rw[Nat.zero_add,h.cellAt i Yw];simp[d]
theorem Vl(a:Zl)(k:Nat)(z:Value)(h:k<a.length):
 ((a.take k).map Value.string++List.replicate (a.length -k) z).set k (.string a[k])=(a.take (k+1)).map Value.string++List.replicate (a.length -(k+1)) z:=by
 have b:((a.take k).map Value.string).length=k:=Yu
 obtain⟨m,c⟩:∃m,a.length -k=m+1:=⟨a.length -k -1,Yw⟩;rw[c,show a.length -(k+1)=m from by omega,List.set_append_right _ _ Yw,b,Nat.sub_self,List.replicate_succ,Zp,Zu h,List.map_append,List.append_assoc];rfl
theorem IF(a:Zk)(cap:Nat)(c:Zl)(w:Zh)(j:Ad w w.heap.size a c)(t:c.length<=1048576):
 Calls prog 56 #[.slice a c.length cap] w fun e u=>∃g,e=.returned (Za g c.length c.length)/\w.heap.size<=g/\
  u.ownsRow w.heap.size 9 1 (Za g c.length c.length) c.length (c.map Value.string)/\Zz w u:=by
 obtain⟨E,D,x,y,z⟩:=info_parts Dw;go_enter func56,ntmps56;go_wp2_with (at_make;refine wpList_make_full _ rfl _ _ 22 rfl w.heap.size 9 E Zd 1 underlying22 D x y .i64 .i64 _ _ c.length rfl rfl rfl rfl ?c1 ?c2 ?c3 ?_)
 case c1=>rw[z];omega
 case c2=>unfold maxLen;omega
 case c3=>exact Zx
 intro J d f;have v:=(Below.refl _ _).grown f (Zx) Yv;rw[toList_madeCells_one]at d;clear f;go_wp2
 go_loopw [4] (fun i wr=>∃k:Nat,k<=c.length/\i=Zg k/\wr.ownsRow w.heap.size 9 1 (Za w.heap.size c.length c.length) c.length ((c.take k).map Value.string++List.replicate (c.length -k) Zd)/\Zz w wr) (fun i _=>c.length -(intOf i).toNat)
 case atStart=>exact⟨0,Nat.zero_le _,rfl,by simpa using d,v⟩
 case round=>
  obtain⟨k,I,rfl,d,h⟩:=hrel;by_cases hlt:k<c.length
  .obtain⟨b,A,B,C,r⟩:=j.at hlt;subst B;have F:=(h.cell (p:=⟨b,A+k,none⟩) C).trans (r k c[k] (Zv hlt));have l:Hid (((c.take k).map Value.string++List.replicate (c.length -k) (Value.string ⟨#[]⟩)).set k (.string c[k])=(c.take (k+1)).map Value.string++List.replicate (c.length -(k+1)) Zd):=Vl c k _ hlt;have q:=d.stored k (.string c[k]);have G:wr.cell? (Ze (w.heap.size) k)=some Zd:=by
    have t:((c.take k).map Value.string).length=k:=Yu
    rw[d.cellAt k Yw,List.getElem?_append_right Yw,t,Nat.sub_self,List.getElem?_replicate,if_pos Yw]
   have H:=d.frozenAt k;rw[l.o]at q;obtain⟨m,n⟩:=q;have o:=h.setCell (p:=⟨w.heap.size,k,none⟩) (Zx) (.string c[k]);have HS:Hid (_/\_):=Zn m o;clear r j m n o d l;generalize c[k]=s at *
   go_wp2;exact⟨⟨k+1,Yw,Yp,HS.o.1,HS.o.2⟩,by simp[intOf];omega⟩
  .go_wp2;go_ret;refine⟨_,rfl,Zx,?_,h⟩;rw[Zt Yw,show c.length -k=0 from by omega]at d;simpa using d
theorem GX(a j:Zk)(cap g:Nat)(c:Zl)(w:Zh)(B q:Nat)(f:Ad w B a c)(d:Ad w q j c)(C:c.length<=1048576):
 Calls prog 26 #[.slice a c.length cap,.slice j c.length g] w fun e t=>e=.returned (.bool true)/\∃n,t=w.drewN n:=by
 go_enter func26,ntmps26;go_wp2
 go_loopw [5] (fun i wr=>∃k n:Nat,k<=c.length/\i=Zg k/\wr=w.drewN n) (fun i _=>c.length -(intOf i).toNat)
 case atStart=>exact⟨0,0,Nat.zero_le _,rfl,rfl⟩
 case round=>
  obtain⟨k,n,A,rfl,rfl⟩:=hrel;by_cases hlt:k<c.length
  .obtain⟨b,x,r,z,l⟩:=f.at hlt;obtain⟨y,p,m,u,h⟩:=d.at hlt;subst r m;have v:=l k c[k] (Zv hlt);have o:=h k c[k] (Zv hlt);clear l h f d;generalize c[k]=s at *
   go_wp2;go_quiet (fail);go_wp2;exact⟨⟨k+1,_,Yw,Yp,rfl⟩,by simp[intOf];omega⟩
  .go_wp2;go_ret;exact⟨rfl,_,rfl⟩
theorem Ad.j{w b:Zh}{a:Zk}{d:Zl}(h:Ad w w.heap.size a d)(c:Zz w b):Ad b b.heap.size a d:=(h.below c).mono c.size
theorem Cb{B:Nat}{a w:Zh}(h:Below B a w)(n:Nat):Below B a (w.drewN n):=⟨h.os,h.tape,h.output,h.size,h.block⟩
theorem Ke{W a:Zh}(c:Zz W a):(∀b o,b<W.heap.size->a.cell? (Ze b o)=W.cell? (Ze b o))/\(∀b o,b<W.heap.size->a.frozen? ⟨b,o,none⟩=W.frozen? ⟨b,o,none⟩):=
 ⟨fun b o h=>c.cell (p:=⟨b,o,none⟩) h,fun b o h=>c.frozen (p:=⟨b,o,none⟩) h⟩
def Lg:Nat->Nat->Zi->Zi
 |0,_,o=>o
 |f+1,j,o=>if j=0 then o else Lg f (j/10) (strOfNums [48+(j:Int)%10]++o)
def BY(k:Nat):Zi:=⟨#[109]⟩++Lg k k ByteArray.empty
theorem Vm(f:Nat)(o:Zi):Lg f 0 o=o:=by cases f<;>simp[Lg]
theorem ZR(x:Int):(strOfNums [x]).size=1:=Yr
theorem FH(k:Nat)(w:Zh)(z:1<=k)(t:k<=1000000000):
 Calls prog 83 #[Zg k] w fun e n=>e=.returned (.string (BY k))/\Zz w n:=by
 have s:¬((k:Int)<=0):=Yw
 go_enter func83,ntmps83;go_wp2
 go_loopw [0,3] (fun v l wr=>∃(f j:Nat) (o:Zi),v=Zg j/\l=.string o/\j<=f/\o.size+j<=k/\Hid (Lg f j o=Lg k k ByteArray.empty)/\Zz w wr) (fun v _ _=>(intOf v).toNat)
 case atStart=>exact⟨k,k,ByteArray.empty,rfl,rfl,Zx,Yv,rfl,Below.refl _ _⟩
 case round=>
  obtain⟨f,j,o,rfl,rfl,q,y,c,d⟩:=hrel;by_cases hlt:0<j
  .have r:(0:Int)<j:=Yw
   have p:=run_convert_bytes_arg (P:=prog) (wr.alloc (Obj.cells #[Value.int IntKind.u8 (48+(j:Int)%10)] 5)) 102 5 underlying102 underlying5 wr.heap.size 0 1 1 [48+(j:Int)%10] rfl (fun i u=>by
    obtain rfl:i=0:=Yw
    simp) 9 underlying9
   obtain⟨b,rfl⟩:∃b,f=b+1:=⟨f -1,Yw⟩;have h:Hid (Lg b (j/10) (strOfNums [48+(j:Int)%10]++o)=Lg k k ByteArray.empty):=by have:=c.o;rw[Lg,if_neg Yw]at this;exact this
   have m:=ZR (48+(j:Int)%10);have a:(strOfNums [48+(j:Int)%10]++o).size=1+o.size:=by rw[ByteArray.size_append,m]
   have g:=Yx a;clear a;generalize strOfNums [48+(j:Int)%10]=x at *
   go_wp2;refine⟨⟨b,j/10,x++o,Yp,rfl,Yw,by rw[g.o];omega,h,d.alloc d.size _⟩,by simp[intOf];omega⟩
  .obtain rfl:j=0:=Yw
   have a:¬9223372036854775807<1+o.size:=Yw
   go_wp2;go_ret;refine⟨?_,d⟩;have:=c.o;rw[Vm]at this;unfold BY;rw[<-this];rfl
theorem Aw{a b c:Zh}{row:Option Nat}(d:a.grownBy b row)(e:b.grownBy c row):a.grownBy c row:=
 ⟨e.os.trans d.os,e.tape.trans d.tape,e.output.trans d.output,Zm d.size e.size,fun k g f=>(e.block k (Zr g d.size) f).trans (d.block k g f)⟩
theorem Aq{a b:Zh}(row:Option Nat)(h:Zz a b):a.grownBy b row:=⟨h.os,h.tape,h.output,h.size,fun k c _=>h.block k c⟩
theorem Ee(a:Zh)(row:Option Nat):a.grownBy a row:=⟨rfl,rfl,rfl,Zx,fun _ _ _=>rfl⟩
def marks(k n:Nat):Zl:=(List.range n).map fun i=>BY (k+i)
theorem BC(k n:Nat):(marks k n).length=n:=by simp[marks]
theorem Tg(k n i:Nat)(h:i<n):(marks k n)[i]?=some (BY (k+i)):=by simp[marks,h]
theorem Th(k i:Nat)(a:Zj)(h:i<a.length):((marks k i).map Value.string++a.drop i).set i (.string (BY (k+i)))=(marks k (i+1)).map Value.string++a.drop (i+1):=by
 have b:((marks k i).map Value.string).length=i:=by simp[BC]
 rw[List.set_append_right _ _ Yw,b,Nat.sub_self,List.drop_eq_getElem_cons h,Zp];simp[marks,List.range_succ]
theorem Ti(a:Zk)(n cap k h:Nat)(p:Zj)(w:Zh)(b:w.ownsRow h 9 1 (.slice a n cap) n p)(E:1<=k)(B:k+n<=100000000):
 Calls prog 33 #[.slice a n cap,Zg k] w fun e s=>e=.returned (Zg (k+n))/\s.ownsRow h 9 1 (.slice a n cap) n ((marks k n).map Value.string)/\w.grownBy s (Value.slice a n cap).ownBlock:=by
 go_enter func33,ntmps33;go_wp2
 go_loopw [1,5] (fun v i wr=>∃(j:Nat),j<=n/\i=Zg j/\v=Zg (k+j)/\wr.ownsRow h 9 1 (.slice a n cap) n ((marks k j).map Value.string++p.drop j)/\w.grownBy wr (Value.slice a n cap).ownBlock) (fun _ i _=>n -(intOf i).toNat)
 case atStart=>exact⟨0,Nat.zero_le _,rfl,Yv,by simpa [marks]using b,Ee _ _⟩
 case round=>
  have C:=b.1;clear b;obtain⟨j,D,rfl,rfl,b,f⟩:=hrel;by_cases hlt:j<n
  .obtain⟨g,u,r,y,A⟩:=b.form Yw;simp at r;obtain⟨rfl,rfl⟩:=r;have d:=FH (k+j) wr Yw Yw;rw[show((k+j:Nat):Int)=(k:Int)+j from by omega]at d;have x:(j:Int)<n:=Yw
   go_wp2_with fail;refine d.mono ?_;rintro e F ⟨rfl,m⟩;have c:=b.kept (Aq none m) (.inr (by simp[Value.ownBlock]));have l:=c.stored j (.string (BY (k+j)));rw[Th k j p Yw]at l;have t:=c.cellAt j Yw;rw[Zv (by simp[BC];omega)]at t;have z:=c.frozenAt j;have o:=Aw f (Aw (Aq _ m) l.2);have q:=Yx (Zn l.1 o);clear l o b c f d;go_wp2
   exact⟨⟨j+1,Yw,Yp,Yp,q.o.1,q.o.2⟩,by simp[intOf];omega⟩
  .obtain rfl:j=n:=Yw
   go_wp2;go_ret;refine⟨rfl,?_,f⟩;rw[List.drop_of_length_le Yw,List.append_nil]at b;exact b
theorem Fv(a:Zk)(n cap k B:Nat)(w:Zh)(f:Ad w B a (marks k n))(C:B<=w.heap.size)(E:1<=k)(A:k+n<=100000000):
 Calls prog 35 #[.slice a n cap,Zg k] w fun e u=>e=.returned (Zg (k+n))/\Zz w u:=by
 go_enter func35,ntmps35;go_wp2
 go_loopw [1,5] (fun v i wr=>∃(j:Nat),j<=n/\i=Zg j/\v=Zg (k+j)/\Zz w wr) (fun _ i _=>n -(intOf i).toNat)
 case atStart=>exact⟨0,Nat.zero_le _,rfl,Yv,Below.refl _ _⟩
 case round=>
  obtain⟨j,D,rfl,rfl,d⟩:=hrel;by_cases hlt:j<n
  .obtain⟨b,g,t,z,l⟩:=f.at (k:=j) (by rw[BC];exact hlt);subst t;have o:=(d.cell (p:=⟨b,g+j,none⟩) Yu).trans (l j _ (Tg k n j hlt));have c:=fun W=>FH (k+j) W Yw Yw;rw[show((k+j:Nat):Int)=(k:Int)+j from by omega]at c;have r:(j:Int)<n:=Yw
   have y:=d.size;have s:=Yx c;clear c l f;go_wp2;go_region_with (go_at_call 83;refine(s.o _).mono ?_;rintro e x ⟨rfl,h⟩;have q:x.cell? (Ze b (g+j))=some (.string (BY (k+j))):=(h.cell (p:=⟨b,g+j,none⟩) Yu).trans o;have m:=d.drew.trans (h.mono Yu))
   all_goals go_wp2
   all_goals exact⟨⟨j+1,Yw,Yp,Yp,m⟩,by simp[intOf];omega⟩
  .obtain rfl:j=n:=Yw
   go_wp2;go_ret;exact⟨rfl,d⟩
theorem Jm{a b:Nat}(h:b<a):some a≠some b:=fun e=>by have:=Option.some.inj e;omega
theorem Az(w:Zh)(g p:Nat)(v:Value):w.grownBy (w.setCell (Ze g p) v) (some g):=
 ⟨rfl,rfl,rfl,Yv,fun i _ a=>Below.heap_setCell _ _ _ _ (fun e=>a (by rw[e]))⟩
def Aa(w:Zh)(B:Nat)(l:Zj):Prop:=∀j v,l[j]?=some v->w.cell? (Ze B j)=some v/\w.frozen? ⟨B,j,none⟩=false
theorem Aa.lt{w:Zh}{B:Nat}{v:Value}{l:Zj}(h:Aa w B (v::l)):B<w.heap.size:=World.block_lt_of_cell? w _ (h 0 v rfl).1
theorem Aa.co{w f:Zh}{B b:Nat}{v:Value}{l:Zj}(h:Aa w B (v::l))(c:w.grownBy f (some b))(a:b<B):Aa f B (v::l):=by intro j x e;have d:=h.lt;exact⟨(c.cell_far ⟨B,j,none⟩ d (Jm a)).trans (h j x e).1,(c.frozen_far ⟨B,j,none⟩ d (Jm a)).trans (h j x e).2⟩
theorem Aa.below{w d:Zh}{B:Nat}{v:Value}{l:Zj}(h:Aa w B (v::l))(a:Zz w d):Aa d B (v::l):=by intro j x c;have b:=h.lt;exact⟨(a.cell (p:=⟨B,j,none⟩) b).trans (h j x c).1,(a.frozen (p:=⟨B,j,none⟩) b).trans (h j x c).2⟩
theorem Aa.new(w:Zh)(l:Zj)(T:TypeId):Aa (w.alloc (.cells l.toArray T)) w.heap.size l:=by intro j v a;refine⟨?_,Yv⟩;rw[World.cell?_alloc_at _ _ _ _ rfl];simpa using a
theorem Aa.bz{w g:Zh}{B c:Nat}{v:Value}{l:Zj}(h:Aa w B (v::l))(a:w.grownBy g (some c))(i:c≠B):Aa g B (v::l):=by intro j x f;have b:=h.lt;have d:some B≠some c:=fun e=>i (Option.some.inj e).symm;exact⟨(a.cell_far ⟨B,j,none⟩ b d).trans (h j x f).1,(a.frozen_far ⟨B,j,none⟩ b d).trans (h j x f).2⟩
theorem Aa.set{w:Zh}{B:Nat}{l:Zj}(h:Aa w B l)(j:Nat)(v:Value):Aa (w.setCell (Ze B j) v) B (l.set j v):=by
 intro i x a;by_cases hij:i=j
 .subst hij;have b:i<l.length:=by
   rcases Nat.lt_or_ge i l.length with c|c
   .exact c
   .rw[List.getElem?_eq_none (by simpa using c)]at a;cases a
  rw[List.getElem?_set_self b]at a;injection a with a;subst a;obtain⟨d,f⟩:=h i _ (Zv b);exact⟨by simp[go_sem,d],by simpa [go_sem]using f⟩
 .rw[List.getElem?_set_ne (fun e=>hij e.symm)]at a;obtain⟨d,f⟩:=h i x a;refine⟨?_,by simpa [go_sem]using f⟩;rw[World.cell?_setCell_other _ _ _ _ (by intro e;injection e;omega)];exact d
theorem AA{w W:Zh}{l:Zj}{T:TypeId}(h:W=w.alloc (.cells l.toArray T)):Below w.heap.size w W/\W.heap.size=w.heap.size+1/\Aa W w.heap.size l:=by subst h;exact⟨Zy,Yv,Aa.new w l T⟩
theorem Aa.alloc{w:Zh}{B:Nat}{l:Zj}(h:Aa w B l)(a:B<w.heap.size)(o:Obj):Aa (w.alloc o) B l:=fun j v b=>
 ⟨(((Below.refl w.heap.size w).alloc (Zx) o).cell (p:=⟨B,j,none⟩) a).trans (h j v b).1,(((Below.refl w.heap.size w).alloc (Zx) o).frozen (p:=⟨B,j,none⟩) a).trans (h j v b).2⟩
theorem Bo{w W:Zh}{l k:Zj}{T U:TypeId}(h:W=(w.alloc (.cells l.toArray T)).alloc (.cells k.toArray U)):Below w.heap.size w W/\W.heap.size=w.heap.size+2/\Aa W w.heap.size l/\Aa W (w.heap.size+1) k:=by obtain⟨a,d,e⟩:=AA (w:=w) (l:=l) (T:=T) rfl;obtain⟨f,b,c⟩:=AA h;rw[d]at b c;subst h;exact⟨a.trans (f.mono a.size),b,e.alloc Yw _,c⟩
theorem Bq{w W:Zh}{l k m:Zj}{T U V:TypeId}(h:W=((w.alloc (.cells l.toArray T)).alloc (.cells k.toArray U)).alloc (.cells m.toArray V)):Below w.heap.size w W/\W.heap.size=w.heap.size+3/\Aa W w.heap.size l/\Aa W (w.heap.size+1) k/\Aa W (w.heap.size+2) m:=by obtain⟨a,d,e,f⟩:=Bo (w:=w) (l:=l) (T:=T) (k:=k) (U:=U) rfl;obtain⟨g,b,c⟩:=AA h;rw[d]at b c;subst h;exact⟨a.trans (g.mono a.size),b,e.alloc Yw _,f.alloc Yw _,c⟩
theorem al4{w W:Zh}{l k m n:Zj}{T U V R:TypeId}(h:W=(((w.alloc (.cells l.toArray T)).alloc (.cells k.toArray U)).alloc (.cells m.toArray V)).alloc (.cells n.toArray R)):Below w.heap.size w W/\W.heap.size=w.heap.size+4/\Aa W w.heap.size l/\Aa W (w.heap.size+1) k/\Aa W (w.heap.size+2) m/\Aa W (w.heap.size+3) n:=by obtain⟨a,d,e,f,g⟩:=Bq (w:=w) (l:=l) (T:=T) (k:=k) (U:=U) (m:=m) (V:=V) rfl;obtain⟨i,b,c⟩:=AA h;rw[d]at b c;subst h;exact⟨a.trans (i.mono a.size),b,e.alloc Yw _,f.alloc Yw _,g.alloc Yw _,c⟩
theorem Aa.c2{w:Zh}{B:Nat}{t:Zj}{a b:Value}(h:Aa w B t)(i j:Nat)(c:t[i]?=some a:=by rfl)(d:t[j]?=some b:=by rfl):w.cell? (Ze B i)=some a/\w.cell? (Ze B j)=some b:=
 ⟨(h i _ c).1,(h j _ d).1⟩
theorem Aa.c3{w:Zh}{B:Nat}{t:Zj}{a b c:Value}(h:Aa w B t)(i j k:Nat)(d:t[i]?=some a:=by rfl)(e:t[j]?=some b:=by rfl)(f:t[k]?=some c:=by rfl):w.cell? (Ze B i)=some a/\w.cell? (Ze B j)=some b/\w.cell? (Ze B k)=some c:=
 ⟨(h i _ d).1,(h j _ e).1,(h k _ f).1⟩
theorem Aa.c4{w:Zh}{B:Nat}{t:Zj}{a b c d:Value}(h:Aa w B t)(i j k l:Nat)(e:t[i]?=some a:=by rfl)(f:t[j]?=some b:=by rfl)(g:t[k]?=some c:=by rfl)(m:t[l]?=some d:=by rfl):w.cell? (Ze B i)=some a/\w.cell? (Ze B j)=some b/\w.cell? (Ze B k)=some c/\w.cell? (Ze B l)=some d:=
 ⟨(h i _ e).1,(h j _ f).1,(h k _ g).1,(h l _ m).1⟩
theorem Aa.c6{w:Zh}{B:Nat}{t:Zj}{a b c d e f:Value}(h:Aa w B t)(i j k l m n:Nat)(g:t[i]?=some a:=by rfl)(o:t[j]?=some b:=by rfl)(p:t[k]?=some c:=by rfl)(q:t[l]?=some d:=by rfl)(r:t[m]?=some e:=by rfl)(s:t[n]?=some f:=by rfl):w.cell? (Ze B i)=some a/\w.cell? (Ze B j)=some b/\w.cell? (Ze B k)=some c/\w.cell? (Ze B l)=some d/\w.cell? (Ze B m)=some e/\w.cell? (Ze B n)=some f:=
 ⟨(h i _ g).1,(h j _ o).1,(h k _ p).1,(h l _ q).1,(h m _ r).1,(h n _ s).1⟩
theorem Aa.c7{w:Zh}{B:Nat}{t:Zj}{a b c d e f g:Value}(h:Aa w B t)(i j k l m n o:Nat)(p:t[i]?=some a:=by rfl)(q:t[j]?=some b:=by rfl)(r:t[k]?=some c:=by rfl)(s:t[l]?=some d:=by rfl)(u:t[m]?=some e:=by rfl)(v:t[n]?=some f:=by rfl)(x:t[o]?=some g:=by rfl):w.cell? (Ze B i)=some a/\w.cell? (Ze B j)=some b/\w.cell? (Ze B k)=some c/\w.cell? (Ze B l)=some d/\w.cell? (Ze B m)=some e/\w.cell? (Ze B n)=some f/\w.cell? (Ze B o)=some g:=
 ⟨(h i _ p).1,(h j _ q).1,(h k _ r).1,(h l _ s).1,(h m _ u).1,(h n _ v).1,(h o _ x).1⟩
structure Og (a b:Zh) (p q:Option Nat):Prop where
 os:b.os=a.os
 tape:b.tape=a.tape
 output:b.output=a.output
 size:a.heap.size<=b.heap.size
 block:∀k,k<a.heap.size->some k≠p->some k≠q->b.heap[k]?=a.heap[k]?
theorem Og.below{a b:Zh}{p q:Option Nat}(h:Og a b p q){B:Nat}(f:B<=a.heap.size)(c:∀k,p=some k->B<=k)(d:∀k,q=some k->B<=k):Below B a b:=
 ⟨h.os,h.tape,h.output,h.size,fun k g=>h.block k Yw (fun e=>by have:=c k e.symm;omega) (fun e=>by have:=d k e.symm;omega)⟩
theorem Og.row{a b:Zh}{p q:Option Nat}(h:Og a b p q){c:Nat}{e:TypeId}{v:Value}{n:Nat}{j:Zj}(i:a.ownsRow c e 1 v n j)(d:v.ownBlock=none\/(v.ownBlock≠p/\v.ownBlock≠q)):b.ownsRow c e 1 v n j:=by
 refine⟨i.1,?_⟩;rcases i.2 with m|⟨g,cap,k,rfl,r,f,o⟩
 .exact .inl m
 .refine .inr ⟨g,cap,k,rfl,r,?_,o⟩;have l:=(Array.getElem?_eq_some_iff.1 f).1;simp[Value.ownBlock]at d;exact(h.block g l d.1 d.2).trans f
theorem Ol{w c:Zh}{a:Nat}{v:Value}{n:Nat}{d:Zj}(h:w.ownsRow a 9 1 v n d)(b:Zz w c):c.ownsRow a 9 1 v n d:=by
 cases hv:v.ownBlock with
 |none=>exact h.kept (Aq none b) (.inl hv)
 |some g=>exact h.kept (Aq none b) (.inr (by rw[hv];simp))
theorem PL(t:Zi)(a:Zk)(cap:Nat)(b:Zl)(left:Int)(w:Zh)(c:Ad w w.heap.size a b)
 (h:left<=1048576) (g:(t.size:Int)+b.length+ax b<=left):
 Calls prog 135 #[.agg #[.string t,.slice a b.length cap],Zg left] w fun e f=>e=.returned (Zg (left -t.size -b.length -ax b))/\Zz w f:=by
 have d:Below w.heap.size w (w.alloc (.cells #[.string t,.slice a b.length cap] 150)):=Zy;go_enter func135,ntmps135;go_wp2_with (go_at_call 36;refine(IE a cap b _ _ w.heap.size (c.below d) Yw Yw).mono ?_;rintro e f ⟨rfl,rfl⟩);go_ret;exact⟨rfl,d⟩
theorem Rm(t:Zi)(a:Zk)(cap:Nat)(b:Zl)(left:Int)(w:Zh)(c:Ad w w.heap.size a b)
 (k:t.size<=maxLen) (i:b.length<=maxLen) (j:∀s∈b,s.size<=maxLen)
 (l:0<=left) (m:left<=1048576) (h:left<(t.size:Int)+b.length+ax b):
 Calls prog 135 #[.agg #[.string t,.slice a b.length cap],Zg left] w fun e f=>e=.returned (Zg (-1))/\Zz w f:=by
 have d:Below w.heap.size w (w.alloc (.cells #[.string t,.slice a b.length cap] 150)):=Zy;have g:=k;unfold maxLen at g;by_cases hn:left<t.size
 .go_enter func135,ntmps135;go_wp2;go_ret;exact⟨rfl,d⟩
 .go_enter func135,ntmps135;go_wp2_with (go_at_call 36;refine(Lf a cap b _ _ w.heap.size (c.below d) i j Yw Yw Yw).mono ?_;rintro e f ⟨rfl,rfl⟩);go_ret;exact⟨rfl,d⟩
theorem PM(t:Zi)(a:Zk)(cap:Nat)(b:Zl)(w:Zh)(d:Ad w w.heap.size a b)(k:b.length<=1048576):
 Calls prog 143 #[.agg #[.string t,.slice a b.length cap]] w fun e h=>∃g,e=.returned (.agg #[.string t,Za g b.length b.length])/\w.heap.size<=g/\
  h.ownsRow w.heap.size 9 1 (Za g b.length b.length) b.length (b.map Value.string)/\Zz w h:=by
 go_enter func143,ntmps143;go_wp2_with fail;refine(IF a cap b _ (d.j (((Zy).alloc Yv _).alloc Yu _)) k).mono ?_;rintro e n ⟨g,rfl,j,c,f⟩;obtain⟨i,m⟩:=Ke f;have l:=f.size;simp at l j;go_wp2;refine bodyPost_ret (v:=.agg #[.string t,Za g b.length b.length]) (by simp[results,results143,go_sem,i]) rfl ⟨g,rfl,Yw,?_,?_⟩
 .exact(ownsRow_setCell_below (ownsRow_setCell_below (ownsRow_setCell_below c Yv _) Yv _) Yv _).mono Yu
 .exact(((((Zy).alloc Yv _).alloc Yu _).trans (f.mono Yu)).setCell Yu _|>.setCell Yv _|>.setCell Yv _)
theorem PN(t:Zi)(a f:Zk)(cap b:Nat)(c:Zl)(w:Zh)(g:Ad w w.heap.size a c)(d:Ad w w.heap.size f c)(j:c.length<=1048576):
 Calls prog 170 #[.agg #[.string t,.slice a c.length cap],.agg #[.string t,.slice f c.length b]] w fun e i=>e=.returned (.bool true)/\Zz w i:=by
 have h:Below w.heap.size w ((w.alloc (.cells #[.string t,.slice a c.length cap] 64)).alloc (.cells #[.string t,.slice f c.length b] 64)):=(Zy).alloc Yv _;go_enter func170,ntmps170;go_wp2_with (go_at_call 26;refine(GX a f cap b c _ _ _ (g.below h) (d.below h) j).mono ?_;rintro e i ⟨rfl,n,rfl⟩);go_ret;exact⟨rfl,Cb h n⟩
def Gl(wd:Int)(ss:Zl)(i:Nat):Bool:=
 match ss[i]? with
 |none=>true
 |some s=>decide ((s.size:Int)=wd)&&(match i with
  |0=>true
  |j+1=>match ss[j]? with
   |none=>true
   |some r=>Op.bytesLess r.toList s.toList)
def DO(wd:Int)(ss:Zl):Bool:=(List.range ss.length).all (Gl wd ss)
theorem GN{b:Int}{a:Zl}{s:Zi}(h:a[0]?=some s):Gl b a 0=decide ((s.size:Int)=b):=by simp[Gl,h]
theorem Ef{b:Int}{a:Zl}{j:Nat}{s r:Zi}(h:a[j+1]?=some s)(c:a[j]?=some r):Gl b a (j+1)=(decide ((s.size:Int)=b)&&Op.bytesLess r.toList s.toList):=by simp[Gl,h,c]
theorem Fw{b:Int}{a:Zl}{k:Nat}(c:k<a.length)(h:Gl b a k=false):DO b a=false:=by unfold DO;rw[List.all_eq_false];exact⟨k,by simpa using c,by simp[h]⟩
theorem Lh{b:Int}{a:Zl}(h:∀i,i<a.length->Gl b a i=true):DO b a=true:=by unfold DO;rw[List.all_eq_true];intro i c;exact h i (by simpa using c)
theorem Ib{p:Nat->Prop}{k:Nat}(h:∀i,i<k->p i)(b:p k):∀i,i<k+1->p i:=by
 intro i c;rcases Nat.lt_or_ge i k with a|a
 .exact h i a
 .obtain rfl:i=k:=Yw
  exact b
theorem Ax{a b:Bool}(h:a=b):Ending.returned (.bool a)=.returned (.bool b):=by rw[h]
theorem Mf(a:Zk)(cap:Nat)(c:Zl)(l:Int)(w:Zh)(B:Nat)(m:Ad w B a c)(E:c.length<=1048576):
 Calls prog 235 #[.slice a c.length cap,Zg l] w fun e z=>e=.returned (.bool (decide (c.length<=30)&&DO l c))/\z=w:=by
 by_cases hn:30<c.length
 .go_enter func235,ntmps235;go_wp2;go_ret;exact⟨Ax Yu,rfl⟩
 .have v:Hid (decide (c.length<=30)=true):=by show _=_;simp;omega
  go_enter func235,ntmps235;go_wp2
  go_loop [12] (fun i=>∃k:Nat,k<=c.length/\i=Zg k/\Hid (∀i,i<k->Gl l c i=true)) (fun i=>c.length -(intOf i).toNat)
  case atStart=>exact⟨0,Nat.zero_le _,rfl,fun i h=>by omega⟩
  case round=>
   obtain⟨k,t,rfl,f⟩:=hrel;by_cases hlt:k<c.length
   .obtain⟨b,A,y,C,q⟩:=m.at hlt;subst y;have g:=Yx (Zv hlt);have o:=q k c[k] g
    match k,t,hlt,f,g,o with
    |0,t,hlt,f,g,o=>
     rw[Nat.add_zero]at o;clear q m;generalize c[0]=s at *
     by_cases hsz:(s.size:Int)=l
     .have u:((s.size:Int)==l)=true:=by simpa using hsz
      have n:=Yx hsz;clear hsz;go_wp2;exact⟨⟨1,Yw,rfl,Ib f (by rw[GN g];simpa using n.o)⟩,by simp[intOf];omega⟩
     .have u:((s.size:Int)==l)=false:=by simpa using hsz
      have n:=Yx hsz;clear hsz;go_wp2;go_ret;exact⟨Ax (by rw[Fw hlt (by rw[GN g,decide_eq_false n.o])];simp),rfl⟩
    |j+1,t,hlt,f,g,o=>
     have p:Hid (c[j]?=some c[j]):=Zv Yw;have x:=q j c[j] p;clear q m;generalize c[j+1]=s at *
     generalize c[j]=r at *
     by_cases hsz:(s.size:Int)=l
     .have u:((s.size:Int)==l)=true:=by simpa using hsz
      have n:=Yx hsz;clear hsz;by_cases d:Op.bytesLess r.toList s.toList=true
      .go_wp2;exact⟨⟨j+1+1,Yw,Yp,Ib f (by rw[Ef g p];simp[n.o,d])⟩,by simp[intOf];omega⟩
      .have d:Op.bytesLess r.toList s.toList=false:=by simpa using d
       go_wp2;go_ret;exact⟨Ax (by rw[Fw hlt (by rw[Ef g p];simp[d])];simp),rfl⟩
     .have u:((s.size:Int)==l)=false:=by simpa using hsz
      have n:=Yx hsz;clear hsz;go_wp2;go_ret;exact⟨Ax (by rw[Fw hlt (by rw[Ef g p,decide_eq_false n.o];rfl)];simp),rfl⟩
   .go_wp2;go_ret;exact⟨Ax (by rw[Lh (fun i D=>f i Yw),v.o];rfl),rfl⟩
def AO(t:Zi)(ss:Zl)(wd:Int):Bool:=decide (1<=wd/\wd<=8)&&(decide (t.size<=2000)&&(decide (ss.length<=30)&&DO wd ss))
theorem Gm{t:Zi}{b:Zl}{a:Int}(h:¬(1<=a/\a<=8)):AO t b a=false:=by unfold AO;rw[decide_eq_false h];rfl
theorem Kr{t:Zi}{a:Zl}{b:Int}(h:¬t.size<=2000):AO t a b=false:=by unfold AO;rw[decide_eq_false h];simp
theorem PO{t:Zi}{a:Zl}{b:Int}(h:¬a.length<=30):AO t a b=false:=by unfold AO;rw[decide_eq_false h];simp
theorem It{t:Zi}{a:Zl}{b:Int}(h:DO b a=false):AO t a b=false:=by unfold AO;rw[h];simp
theorem PQ{t:Zi}{b:Zl}{a:Int}(c:1<=a)(d:a<=8)(e:t.size<=2000)(f:b.length<=30)(g:DO a b=true):AO t b a=true:=by unfold AO;rw[g];simp[c,d,e,f]
theorem Ex(t:Zi)(a:Zk)(cap:Nat)(b:Zl)(c:Int)(w:Zh)(d:Ad w w.heap.size a b)(h:b.length<=1048576)(i:t.size<=maxLen):
 Calls prog 209 #[.agg #[.string t,.slice a b.length cap],Zg c] w fun e f=>e=.returned (.bool (AO t b c))/\f=w.alloc (.cells #[.string t,.slice a b.length cap] 64):=by
 have g:Below w.heap.size w (w.alloc (.cells #[.string t,.slice a b.length cap] 64)):=Zy;unfold maxLen at i;by_cases h1:1<=c
 .by_cases h2:c<=8
  .by_cases h3:t.size<=2000
   .go_enter func209,ntmps209;go_wp2_with (first
     |(go_at_call 235;refine(Mf a cap b c _ w.heap.size (d.below g) h).mono ?_;rintro e f ⟨rfl,rfl⟩)
     |go_in)
    go_ret;exact⟨Ax (by simp[AO,h1,h2,h3]),rfl⟩
   .have k:decide ((t.size:Int)<=2000)=false:=Yu
    go_enter func209,ntmps209;go_wp2;go_ret;exact⟨Ax (Kr Yw).symm,rfl⟩
  .have j:decide (c<=8)=false:=Yu
   go_enter func209,ntmps209;go_wp2;go_ret;exact⟨Ax (Gm Yw).symm,rfl⟩
 .go_enter func209,ntmps209;go_wp2;go_ret;exact⟨Ax (Gm Yw).symm,rfl⟩
theorem Dn(t:Zi)(a:Zk)(cap:Nat)(c:Zl)(l:Int)(w:Zh)(m:Ad w w.heap.size a c)(J:c.length<=1048576)(D:t.size<=maxLen):
 Calls prog 98 #[.agg #[.string t,.slice a c.length cap],Zg l] w fun e E=>e=.returned (.bool (AO t c l))/\Zz w E:=by
 have o:Below w.heap.size w (w.alloc (.cells #[.string t,.slice a c.length cap] 64)):=Zy;unfold maxLen at D;by_cases h1:1<=l
 .by_cases h2:l<=8
  .by_cases h3:t.size<=2000
   .have z:decide (2000<(t.size:Int))=false:=Yu
    by_cases h4:c.length<=30
    .have A:decide (30<(c.length:Int))=false:=Yu
     go_enter func98,ntmps98;go_wp2
     go_loopw [5] (fun i wr=>∃k n:Nat,k<=c.length/\i=Zg k/\Hid (∀i,i<k->Gl l c i=true)/\wr=(w.alloc (.cells #[.string t,.slice a c.length cap] 64)).drewN n) (fun i _=>c.length -(intOf i).toNat)
     case atStart=>exact⟨0,0,Nat.zero_le _,rfl,fun i h=>by omega,rfl⟩
     case round=>
      obtain⟨k,n,x,rfl,f,rfl⟩:=hrel;by_cases hlt:k<c.length
      .obtain⟨b,H,C,G,v⟩:=m.at hlt;subst C;have g:Hid (c[k]?=some c[k]):=Zv hlt;have q:=v k c[k] g
       match k,x,hlt,f,g,q with
       |0,x,hlt,f,g,q=>
        rw[Nat.add_zero]at q;clear v m;generalize c[0]=s at *
        by_cases hsz:(s.size:Int)=l
        .have y:((s.size:Int) !=l)=false:=by simpa using hsz
         have p:=Yx hsz;clear hsz;go_wp2;go_quiet (fail);go_wp2;exact⟨⟨1,_,Yw,rfl,Ib f (by rw[GN g];simpa using p.o),rfl⟩,by simp[intOf];omega⟩
        .have y:((s.size:Int) !=l)=true:=by simpa using hsz
         have p:=Yx hsz;clear hsz;go_wp2;go_quiet (fail);go_wp2;go_ret;exact⟨Ax (It (Fw hlt (by rw[GN g,decide_eq_false p.o]))).symm,Cb (Cb o _) _⟩
       |j+1,x,hlt,f,g,q=>
        have u:Hid (c[j]?=some c[j]):=Zv Yw;have B:=v j c[j] u;clear v m;generalize c[j+1]=s at *
        generalize c[j]=r at *
        by_cases hsz:(s.size:Int)=l
        .have y:((s.size:Int) !=l)=false:=by simpa using hsz
         have p:=Yx hsz;clear hsz;by_cases d:Op.bytesLess r.toList s.toList=true
         .go_wp2;go_quiet (fail);go_wp2;exact⟨⟨j+1+1,_,Yw,Yp,Ib f (by rw[Ef g u];simp[p.o,d]),rfl⟩,by simp[intOf];omega⟩
         .have d:Op.bytesLess r.toList s.toList=false:=by simpa using d
          go_wp2;go_quiet (fail);go_wp2;go_ret;exact⟨Ax (It (Fw hlt (by rw[Ef g u];simp[d]))).symm,Cb (Cb o _) _⟩
        .have y:((s.size:Int) !=l)=true:=by simpa using hsz
         have p:=Yx hsz;clear hsz;go_wp2;go_quiet (fail);go_wp2;go_ret;exact⟨Ax (It (Fw hlt (by rw[Ef g u,decide_eq_false p.o];rfl))).symm,Cb (Cb o _) _⟩
      .go_wp2;go_ret;exact⟨Ax (PQ h1 h2 h3 h4 (Lh (fun i I=>f i Yw))).symm,Cb o _⟩
    .have A:decide (30<(c.length:Int))=true:=Yu
     go_enter func98,ntmps98;go_wp2;go_ret;exact⟨Ax (PO Yw).symm,o⟩
   .have z:decide (2000<(t.size:Int))=true:=Yu
    go_enter func98,ntmps98;go_wp2;go_ret;exact⟨Ax (Kr Yw).symm,o⟩
  .have F:decide (l<=8)=false:=Yu
   go_enter func98,ntmps98;go_wp2;go_ret;exact⟨Ax (Gm Yw).symm,o⟩
 .go_enter func98,ntmps98;go_wp2;go_ret;exact⟨Ax (Gm Yw).symm,o⟩
end Go.Proofs.YtcankpdbabaacaaGreatDoor
namespace Go.Proofs
open Go.Shelf Go.RowKit
def Tryz.du:Go.Shelf.Ren:=⟨fun|169=>169|n=>n,fun|70=>219|9=>9|0=>0|72=>221|37=>102|127=>268|3=>3|5=>5|n=>n,fun|n=>n⟩
theorem Tryz.lays169:Go.Proofs.Lays.n169 Tryz.prog Tryz.du:={
 mixed:=Yt
 f169:=Tryz.func169.trans (congrArg some Yt)
 t0:=Tryz.underlying0
 a0:=Tryz.isAgg0
 z0:=Tryz.sizeOf0
 v0:=Tryz.zeroValue0
 t3:=Tryz.underlying3
 a3:=Tryz.isAgg3
 z3:=Tryz.sizeOf3
 v3:=Tryz.zeroValue3
 t9:=Tryz.underlying9
 a9:=Tryz.isAgg9
 z9:=Tryz.sizeOf9
 v9:=Tryz.zeroValue9
 t37:=Tryz.underlying102
 a37:=Tryz.isAgg102
 z37:=Tryz.sizeOf102
 v37:=Tryz.zeroValue102
 t70:=Tryz.underlying219
 a70:=Tryz.isAgg219
 z70:=Tryz.sizeOf219
 v70:=Tryz.zeroValue219
 t72:=Tryz.underlying221
 a72:=Tryz.isAgg221
 z72:=Tryz.sizeOf221
 v72:=Tryz.zeroValue221
 t127:=Tryz.underlying268
 a127:=Tryz.isAgg268
 z127:=Tryz.sizeOf268
 v127:=Tryz.zeroValue268}
theorem Tryz.ay:Builder.Extra Tryz.prog Tryz.du:={
 sizeBuilder:=Yt
 liesBuilder:=Yt
 t5:=Tryz.underlying5
 a5:=Tryz.isAgg5
 z5:=Tryz.sizeOf5
 v5:=Tryz.zeroValue5
 infoByte:=Yt
 cellsByte:=Yt
 sizeByte:=Yt
 neB5:=by decide}
theorem Tryz.Builder_String_any(B b:Nat)(l:List UInt8)(w:Zh)(h:Lib.IsBuilder 221 5 B b (Lib.byteCells l) w)(a:B<=w.heap.size):
 Calls Tryz.prog 169 #[Yz b] w fun e c=>e=.returned (.string ⟨l.toArray⟩)/\Below B w c:=
 Any.Builder_String_any Tryz.lays169 Tryz.ay B b l w h a
namespace YtcankpdbabaacaaGreatDoor
open Go.ChangeShapes Go.WideShapes Go.ChangeAt
theorem Jn(B b:Nat)(d:Zj)(w:Zh)(h:Lib.IsBuilder 221 5 B b d w):
 Calls Tryz.prog 208 #[Yz b] w fun e f=>e=.returned (.tuple #[])/\Lib.BuilderAt 221 5 B b (Yz b) d f/\Below B w f:=by
 have X:=Tryz.ay;obtain⟨j,c,g⟩:=Option.map_eq_some_iff.1 X.sizeBuilder;rcases h with h|h
 .have i:=h.cell0;have a:=h.shape;have k:=h.frozen0;go_enter Tryz.func208,Tryz.ntmps208;go_wp2;rw[Lib.run_to_unsafe w ⟨b,0,none⟩ Tryz.underlying219 Tryz.underlying214 c (by rw[g];decide) a (Nat.zero_lt_succ 1)];simp only[Result.andThen];rw[Oper.upon_value];go_wp2;rw[run_callFunc_extern Tryz.func234 Yt Yt Yt (e:=Extern.AbiNoEscape.same) Yt]
  rw[Lib.run_noEscape];simp only[Result.andThen];rw[Oper.upon_value];go_wp2;rw[Lib.run_from_unsafe w ⟨b,0,none⟩ Tryz.underlying214 Tryz.underlying219 c a X.liesBuilder];simp only[Result.andThen];rw[Oper.upon_value];go_wp2
  go_end0
  exact⟨rfl,h.used _,(Below.refl B w).setCell (p:=⟨b,0,none⟩) h.1 _⟩
 .have i:=h.cell0;go_enter Tryz.func208,Tryz.ntmps208;go_wp2;rw[Lib.run_neq_ptr_same w _ Tryz.underlying219 c];go_wp2
  go_end0
  exact⟨rfl,h,Below.refl B _⟩
theorem Fj(B b:Nat)(l:Zj)(c:Int)(w:Zh)(h:Lib.IsBuilder 221 5 B b l w)(hlen:l.length+1<=140737488355328)(N:B<=w.heap.size):
 Calls Tryz.prog 166 #[Yz b,.int .u8 c] w fun e z=>e=.returned .nilIface/\Lib.IsBuilder 221 5 B b (l++[.int .u8 c]) z/\Below B w z:=by
 have X:=Tryz.ay;obtain⟨K,I,E,F,G⟩:=info_parts X.infoByte;go_enter Tryz.func166,Tryz.ntmps166;go_wp2_with (go_at_call 208;refine(Jn B b l _ h).mono ?_);rintro e q ⟨rfl,H,i⟩;obtain⟨x,v,n,f,D⟩:=H;have c1:q.cell? (Ze b 1)=some v:=by rw[Lib.cell_of_heap n];rfl
 go_wp2_with (at_builtin;refine wpList_append_own _ rfl _ _ 102 rfl B 5 K (.int .u8 0) 1 1 Tryz.underlying102 I E F G rfl Ys _ _ _ rfl (f.alloc _) ⟨q.heap.size,0,none⟩ 1 1 [.int .u8 c] rfl rfl ?c1 ?c2 ?c3 ?c4 ?c5 ?_)
 case c1=>
  intro j u o
  match j,o with
  |0,o=>simp at o;subst o;simp[Addr.add]
 case c2=>intro u hu;simp at hu;subst hu;rfl
 case c3=>unfold maxLen;omega
 case c4=>omega
 case c5=>have:=i.size;simp;omega
 intro L A d a _;have C:b<q.heap.size:=by
  rcases Nat.lt_or_ge b q.heap.size with r|r
  .exact r
  .simp[Array.getElem?_eq_none r]at n
 have m:A.heap[b]?=some (.cells #[Yz b,v] 221 (0,0)):=by rw[a.block b Yu (fun e=>D e.symm),Lib.alloc_old _ _ _ C];exact n
 have O:A.cell? (Ze b 1)=some v:=by rw[Lib.cell_of_heap m];rfl
 have P:=Lib.frozen_of_heap m 1;obtain⟨t,y,cap,rfl⟩:∃t y cap,L=.slice t y cap:=by
  rcases d.2 with⟨s,_⟩|⟨g,cap,M,s,_⟩
  .exact⟨_,_,_,s⟩
  .exact⟨_,_,_,s⟩
 go_wp2;go_ret;refine⟨rfl,.inr ?_,?_⟩
 .exact Lib.BuilderAt.put (T:=221) (e:=5) x m (bs':=l++[.int .u8 c]) (by simpa using d) X.neB5
 .exact((i.alloc (by have:=i.size;omega) _).grown a (by have:=i.size;simp;omega) (fun k J=>(f.lt k J).1)).setCell (p:=⟨b,1,none⟩) x _
theorem Dx(B b:Nat)(f:Zj)(s:Zi)(w:Zh)(h:Lib.IsBuilder 221 5 B b f w)(hlen:f.length+s.size<=140737488355328)(L:B<=w.heap.size):
 Calls Tryz.prog 167 #[Yz b,.string s] w fun e u=>e=.returned (.tuple #[Zg s.size,.nilIface])/\Lib.IsBuilder 221 5 B b (f++Lib.byteCells s.data.toList) u/\Below B w u:=by
 have X:=Tryz.ay;obtain⟨I,G,C,D,E⟩:=info_parts X.infoByte;go_enter Tryz.func167,Tryz.ntmps167;go_wp2_with (go_at_call 208;refine(Jn B b f _ h).mono ?_);rintro e o ⟨rfl,F,i⟩;obtain⟨r,v,l,d,A⟩:=F;have M:o.cell? (Ze b 1)=some v:=by rw[Lib.cell_of_heap l];rfl
 go_wp2_with (at_builtin;refine Lib.wpList_append_own_string _ rfl _ _ 102 9 rfl B 5 I Tryz.underlying102 Tryz.underlying9 G C D E _ _ _ rfl d s rfl ?c3 ?c4 ?c5 ?_)
 case c3=>unfold maxLen;omega
 case c4=>omega
 case c5=>have:=i.size;omega
 intro J x c a _;have z:b<o.heap.size:=by
  rcases Nat.lt_or_ge b o.heap.size with m|m
  .exact m
  .simp[Array.getElem?_eq_none m]at l
 have j:x.heap[b]?=some (.cells #[Yz b,v] 221 (0,0)):=by rw[a.block b z (fun e=>A e.symm)];exact l
 have N:x.cell? (Ze b 1)=some v:=by rw[Lib.cell_of_heap j];rfl
 have O:=Lib.frozen_of_heap j 1;obtain⟨q,t,cap,rfl⟩:∃q t cap,J=.slice q t cap:=by
  rcases c.2 with⟨n,_⟩|⟨g,cap,K,n,_⟩
  .exact⟨_,_,_,n⟩
  .exact⟨_,_,_,n⟩
 go_wp2
 go_ret2
 refine⟨rfl,.inr ?_,?_⟩
 .have y:Lib.strCells s=Lib.byteCells s.data.toList:=rfl;rw[<-y];exact Lib.BuilderAt.put (T:=221) (e:=5) r j (bs':=f++Lib.strCells s) (by simpa [Lib.strCells_length]using c) X.neB5
 .exact(i.grown a (by have:=i.size;omega) (fun k H=>(d.lt k H).1)).setCell (p:=⟨b,1,none⟩) r _
end YtcankpdbabaacaaGreatDoor
end Go.Proofs
namespace Go.Proofs.YtcankpdbabaacaaGreatDoor
open Go.ChangeShapes Go.WideShapes Go.ChangeAt Go.RowKit _root_.Go.Proofs.Tryz
def flat(ss:Zl):List UInt8:=ss.flatMap (fun s=>s.data.toList)
theorem Tj(a:Zl)(k:Nat)(s:Zi)(h:a[k]?=some s):flat (a.take (k+1))=flat (a.take k)++s.data.toList:=by obtain⟨b,rfl⟩:=Zw h;unfold flat;rw[Zu b,List.flatMap_append];simp
theorem DE(a:Zl):(flat a).length=ax a:=by
 induction a with
 |nil=>rfl
 |cons s r ih=>
  unfold flat ax at *
  rw[List.flatMap_cons,List.length_append,ih];simp
def BE(t:Zi)(ss:Zl):List UInt8:=UInt8.ofNat ss.length::(flat ss++t.data.toList)
theorem Tk{c:Int}{b:Zl}(h:DO c b=true){i:Nat}{s:Zi}(a:b[i]?=some s):(s.size:Int)=c:=by unfold DO at h;rw[List.all_eq_true]at h;have d:=(Zw a).1;have:=h i (by simpa using d);unfold Gl at this;rw[a]at this;simp at this;exact this.1
theorem Ro(a:Zl)(n:Nat)(h:∀s∈a,s.size=n):ax a=a.length *n:=by
 induction a with
 |nil=>simp[ax]
 |cons s r ih=>
  have b:=h s Yv;have c:=ih (fun s d=>h s (by simp[d]));unfold ax at *
  rw[List.map_cons,List.sum_cons,c,b,List.length_cons,Nat.add_mul,Nat.one_mul,Nat.add_comm]
structure Fx (t:Zi) (ss:Zl) (wd:Int):Prop where
 lo:1<=wd
 hi:wd<=8
 M:t.size<=2000
 B:ss.length<=30
 all:DO wd ss=true
theorem BL{t:Zi}{a:Zl}{b:Int}(h:AO t a b=true):Fx t a b:=by unfold AO at h;simp at h;exact⟨h.1.1,h.1.2,h.2.1,h.2.2.1,h.2.2.2⟩
theorem Fx.size{t:Zi}{ss:Zl}{a:Int}(h:Fx t ss a){i:Nat}{s:Zi}(b:ss[i]?=some s):(s.size:Int)=a:=Tk h.all b
theorem Fx.ax{t:Zi}{a:Zl}{b:Int}(h:Fx t a b):ax a=a.length *b.toNat:=by refine Ro a _ fun s d=> ?_;obtain⟨i,c⟩:=List.getElem?_of_mem d;have:=h.size c;omega
theorem Fx.ba{t:Zi}{a:Zl}{b:Int}(h:Fx t a b):YtcankpdbabaacaaGreatDoor.ax a<=240:=by have c:=h.ax;have d:a.length *b.toNat<=30 *8:=Nat.mul_le_mul h.B (by have:=h.hi;omega);omega
theorem MB:(prog.info? 5).map (fun i=>(i.zero,i.size,i.bytes))=some (some (.int .u8 0),1,1):=Yt
theorem Jv(n:Nat)(h:n<=30):Value.int .u8 (n:Int)=.int .u8 ((UInt8.ofNat n).toNat:Int):=by
 have:(UInt8.ofNat n).toNat=n:=Yu
 rw[this]
theorem MC(a:Zl)(k:Nat)(s:Zi)(h:a[k]?=some s)(c:UInt8):
 Lib.byteCells (c::flat (a.take k))++Lib.strCells s=Lib.byteCells (c::flat (a.take (k+1))):=by
 rw[Tj a k s h,Lib.strCells_eq,<-Lib.byteCells_append];rfl
theorem MD(t:Zi)(a:Zk)(cap:Nat)(d:Zl)(Q:Int)(w:Zh)(q:Ad w w.heap.size a d)(G:AO t d Q=true):
 Calls prog 55 #[.agg #[.string t,.slice a d.length cap],Zg Q] w fun e w'=>e=.returned (.string ⟨(BE t d).toArray⟩)/\Zz w w':=by
 have N:=BL G;have zI:=N.ba;have E:=N.B;have R:=N.M;have zK:=Yx (Jv d.length E);obtain⟨U,T,H,I,J⟩:=info_parts MB;have F:Below w.heap.size w (w.alloc (.cells #[.string t,.slice a d.length cap] 64)):=Zy;go_enter func55,ntmps55;go_wp2_with fail;refine(Dn t a cap d Q _ (q.j F) Yw Yq).mono ?_;rintro e x ⟨rfl,u⟩;rw[G];obtain⟨X,zA⟩:=Ke u;have O:=u.size;simp at O;go_wp2
 have o:(x.alloc (.cells #[.int .u8 d.length] 5)).ownsRow (w.heap.size+1) 5 1 (Za x.heap.size 1 1) 1 (Lib.byteCells (UInt8.ofNat d.length::flat (d.take 0))):=by have:=World.ownsRow_lit (base:=w.heap.size+1) (e:=5) (size:=1) x #[.int .u8 d.length] 1 O (by simp[maxLen]) rfl;simpa [Lib.byteCells,flat,Jv d.length E]using this
 have n:Below (w.heap.size+1) (w.alloc (.cells #[.string t,.slice a d.length cap] 64)) (x.alloc (.cells #[.int .u8 d.length] 5)):=by have:=u.alloc (by simpa using O) (.cells #[.int .u8 d.length] 5);simpa using this
 go_loopw [5,6] (fun zG i wr=>∃(k g c:Nat),k<=d.length/\i=Zg k/\zG=Za g (1+ax (d.take k)) c/\
  wr.ownsRow (w.heap.size+1) 5 1 (Za g (1+ax (d.take k)) c) (1+ax (d.take k)) (Lib.byteCells (UInt8.ofNat d.length::flat (d.take k)))/\
  Below (w.heap.size+1) (w.alloc (.cells #[.string t,.slice a d.length cap] 64)) wr) (fun _ i _=>d.length -(intOf i).toNat)
 case atStart=>exact⟨0,x.heap.size,1,Nat.zero_le _,rfl,by simp[ax],by simpa [ax]using o,n⟩
 case round=>
  clear o n X zA u;obtain⟨k,g,c,C,rfl,rfl,m,h⟩:=hrel;have r:wr.cell? (Ze (w.heap.size) 1)=some (.slice a d.length cap):=by rw[h.cell (p:=⟨w.heap.size,1,none⟩) Yv];simp
  have zF:=h.size;simp at zF;have zH:=ba d k;by_cases hlt:k<d.length
  .obtain⟨b,K,ha,W,S⟩:=q.at hlt;subst ha;have A:Hid (d[k]?=some d[k]):=Zv hlt;have Y:wr.cell? (Ze b (K+k))=some (.string d[k]):=by rw[h.cell (p:=⟨b,K+k,none⟩) Yu,World.cell?_alloc_past _ _ _ W];exact S k _ A
   have z:=Yx (Gt d k _ A);have zB:=Yx (MC d k _ A (UInt8.ofNat d.length));have D:=ba d (k+1);rw[z.o]at D;clear S q;generalize d[k]=s at *
   go_wp2_with (at_builtin;refine Lib.wpList_append_own_string _ rfl _ _ 102 9 rfl (w.heap.size+1) 5 U underlying102 underlying9 T H I J _ _ _ rfl m s rfl ?c3 ?c4 ?c5 ?_)
   case c3=>unfold maxLen;omega
   case c4=>omega
   case c5=>omega
   intro v' V f l _;obtain⟨M,L,B,zC,zE⟩:=f.form Yw;subst B;have y:=h.grown l Yw (fun k C=>(m.lt k C).1);rw[zB.o]at f;clear m h l r Y;go_wp2;refine⟨⟨k+1,M,L,Yw,Yp,?_,?_,y⟩,by simp[intOf];omega⟩
   .rw[z.o,Nat.add_assoc]
   .rw[z.o,<-Nat.add_assoc];exact f
  .have v:wr.cell? (Ze (w.heap.size) 0)=some (.string t):=by rw[h.cell (p:=⟨w.heap.size,0,none⟩) Yv];simp
   rw[Zt Yw]at m |-;go_wp2_with (at_builtin;refine Lib.wpList_append_own_string _ rfl _ _ 102 9 rfl (w.heap.size+1) 5 U underlying102 underlying9 T H I J _ _ _ rfl m t rfl ?c3 ?c4 ?c5 ?_)
   case c3=>unfold maxLen;omega
   case c4=>omega
   case c5=>omega
   intro v' V f l _;obtain⟨M,L,B,zC,zE⟩:=f.form Yw;subst B;have y:=h.grown l Yw (fun k C=>(m.lt k C).1);have Z:Lib.byteCells (UInt8.ofNat d.length::flat d)++Lib.strCells t=Lib.byteCells (BE t d):=by rw[Lib.strCells_eq,<-Lib.byteCells_append];rfl
   rw[Z]at f;have hlen:1+ax d+t.size=(BE t d).length:=by have:=DE d;simp[BE,this];omega
   rw[hlen]at f |-;have zJ:=run_convert_bytes_back (P:=prog) V 102 9 5 ⟨M,0,none⟩ L (BE t d) underlying102 underlying5 underlying9 (fun j hj=>f.cells rfl j _ (by simp[Lib.byteCells,hj]));clear m h l r v f;go_wp2;go_ret;refine⟨rfl,?_⟩;exact F.trans (y.mono Yw)
theorem Vn(t:Zi)(a:Zk)(cap:Nat)(b:Zl)(f:Int)(w:Zh)(c:Ad w w.heap.size a b)(h:AO t b f=false)(i:b.length<=1048576)(j:t.size<=maxLen):
 Calls prog 55 #[.agg #[.string t,.slice a b.length cap],Zg f] w fun e k=>e=.returned (.string ByteArray.empty)/\Zz w k:=by
 have d:Below w.heap.size w (w.alloc (.cells #[.string t,.slice a b.length cap] 64)):=Zy;go_enter func55,ntmps55;go_wp2_with fail;refine(Dn t a cap b f _ (c.j d) i j).mono ?_;rintro e l ⟨rfl,g⟩;rw[h];go_wp2;go_ret;exact⟨rfl,d.trans (g.mono Yv)⟩
theorem Vo(t:Zi)(a:Zk)(cap:Nat)(b:Zl)(f:Int)(w:Zh)(c:Ad w w.heap.size a b)(g:AO t b f=false)(h:b.length<=1048576)(i:t.size<=maxLen):
 Calls prog 168 #[.agg #[.string t,.slice a b.length cap],Zg f] w fun e j=>e=.returned (.string ByteArray.empty)/\Zz w j:=by
 have d:Below w.heap.size w (w.alloc (.cells #[.string t,.slice a b.length cap] 64)):=Zy;go_enter func168,ntmps168;go_wp2_with fail;refine(Ex t a cap b f _ (c.j d) h i).mono ?_;rintro e k ⟨rfl,rfl⟩;rw[g];go_wp2;go_ret;exact⟨rfl,d.alloc Yv _⟩
theorem ME(t:Zi)(a:Zk)(cap:Nat)(c:Zl)(N:Int)(w:Zh)(l:Ad w w.heap.size a c)(J:AO t c N=true):
 Calls prog 168 #[.agg #[.string t,.slice a c.length cap],Zg N] w fun e w'=>e=.returned (.string ⟨(BE t c).toArray⟩)/\Zz w w':=by
 have M:=BL J;have zA:=M.ba;have Q:=M.B;have O:=M.M;have E:Below w.heap.size w (w.alloc (.cells #[.string t,.slice a c.length cap] 64)):=Zy;obtain⟨W,n⟩:∃W,W=(w.alloc (.cells #[.string t,.slice a c.length cap] 64)).alloc (.cells #[.string t,.slice a c.length cap] 64):=⟨_,rfl⟩;have C:Below w.heap.size w W:=by rw[n];exact E.alloc Yv _
 have D:W.heap.size=w.heap.size+1+1:=by rw[n];simp
 have R:W.cell? (Ze (w.heap.size) 0)=some (.string t):=by rw[n];simp
 have S:W.cell? (Ze (w.heap.size) 1)=some (.slice a c.length cap):=by rw[n];simp
 have h:=l.below C;have Z:=Yx n;go_enter func168,ntmps168;go_wp2_with fail;refine(Ex t a cap c N _ (l.j E) Yw Yq).mono ?_;rintro e u ⟨rfl,K⟩;rw[<-Z.o]at K;subst K;clear n;rw[J];have g:=Lib.fresh_isBuilder 221 5 u;have v:Below u.heap.size u (u.alloc (.cells #[.pointer none,Zc] 221)):=Zy;rw[D]at g v;go_wp2_with fail
 refine(Fj (w.heap.size+1+1) (w.heap.size+1+1) [] _ _ g Yv (by simp[D])).mono ?_;rintro e w2 ⟨rfl,j,F⟩;have q:=v.trans F;have A:w2.cell? (Ze (w.heap.size) 1)=some (.slice a c.length cap):=(q.cell (p:=⟨w.heap.size,1,none⟩) Yu).trans S;have I:[]++[Value.int .u8 (c.length:Int)]=Lib.byteCells (UInt8.ofNat c.length::flat (c.take 0)):=by simp[Lib.byteCells,flat,Jv c.length Q]
 rw[I]at j;clear g v F I;go_wp2
 go_loopw [20] (fun i wr=>∃(k:Nat),k<=c.length/\i=Zg k/\Lib.IsBuilder 221 5 (w.heap.size+1+1) (w.heap.size+1+1) (Lib.byteCells (UInt8.ofNat c.length::flat (c.take k))) wr/\
  Below (w.heap.size+1+1) u wr) (fun i _=>c.length -(intOf i).toNat)
 case atStart=>exact⟨0,Nat.zero_le _,rfl,j,q⟩
 case round=>
  clear j q A;obtain⟨k,hk,rfl,g,d⟩:=hrel;have zB:=d.size;have y:=ba c k;have H:=DE (c.take k);have r:Hid ((Lib.byteCells (UInt8.ofNat c.length::flat (c.take k))).length=1+ax (c.take k)):=by show _=_;rw[Lib.byteCells_length,List.length_cons,H];omega
  clear H;by_cases hlt:k<c.length
  .obtain⟨b,L,ha,q,P⟩:=h.at hlt;subst ha;have x:Hid (c[k]?=some c[k]):=Zv hlt;have V:wr.cell? (Ze b (L+k))=some (.string c[k]):=by rw[d.cell (p:=⟨b,L+k,none⟩) Yu];exact P k _ x
   have U:=Yx (Gt c k _ x);have X:=Yx (MC c k _ x (UInt8.ofNat c.length));have B:=ba c (k+1);rw[U.o]at B;clear P l h;generalize c[k]=s at *
   go_wp2_with fail;refine(Dx (w.heap.size+1+1) (w.heap.size+1+1) _ s _ g (by rw[r.o];omega) Yw).mono ?_;rintro e w3 ⟨rfl,f,m⟩;rw[<-Lib.strCells_eq,X.o]at f;have o:=d.trans m;clear g d m V;go_wp2;exact⟨⟨k+1,Yw,Yp,f,o⟩,by simp[intOf];omega⟩
  .have z:wr.cell? (Ze (w.heap.size) 0)=some (.string t):=(d.cell (p:=⟨w.heap.size,0,none⟩) Yu).trans R;rw[Zt Yw]at g r y;go_wp2_with fail;refine(Dx (w.heap.size+1+1) (w.heap.size+1+1) _ t _ g (by rw[r.o];omega) Yw).mono ?_;rintro e w3 ⟨rfl,f,m⟩;have G:Lib.byteCells (UInt8.ofNat c.length::flat c)++Lib.byteCells t.data.toList=Lib.byteCells (BE t c):=by rw[<-Lib.byteCells_append];rfl
   rw[G]at f;have o:=d.trans m;have Y:=o.size;clear g d m G r z;go_wp2_with fail;refine(Tryz.Builder_String_any (w.heap.size+1+1) (w.heap.size+1+1) _ _ f Yw).mono ?_;rintro e w4 ⟨rfl,T⟩;go_wp2;go_ret;exact⟨rfl,C.trans ((o.trans T).mono Yw)⟩
def AJ(t:Zi)(ss:Zl)(wd:Int):Zi:=if AO t ss wd=true then ⟨(BE t ss).toArray⟩else ByteArray.empty
theorem MF(t:Zi)(a:Zk)(cap:Nat)(b:Zl)(c:Int)(w:Zh)(d:Ad w w.heap.size a b)(f:b.length<=1048576)(g:t.size<=maxLen):
 Calls prog 55 #[.agg #[.string t,.slice a b.length cap],Zg c] w fun e h=>e=.returned (.string (AJ t b c))/\Zz w h:=by
 cases hok:AO t b c with
 |true=>rw[show AJ t b c=⟨(BE t b).toArray⟩from by unfold AJ;rw[if_pos hok]];exact MD t a cap b c w d hok
 |false=>rw[show AJ t b c=ByteArray.empty from by unfold AJ;rw[if_neg (by rw[hok];decide)]];exact Vn t a cap b c w d hok f g
theorem MG(t:Zi)(a:Zk)(cap:Nat)(b:Zl)(c:Int)(w:Zh)(d:Ad w w.heap.size a b)(f:b.length<=1048576)(g:t.size<=maxLen):
 Calls prog 168 #[.agg #[.string t,.slice a b.length cap],Zg c] w fun e h=>e=.returned (.string (AJ t b c))/\Zz w h:=by
 cases hok:AO t b c with
 |true=>rw[show AJ t b c=⟨(BE t b).toArray⟩from by unfold AJ;rw[if_pos hok]];exact ME t a cap b c w d hok
 |false=>rw[show AJ t b c=ByteArray.empty from by unfold AJ;rw[if_neg (by rw[hok];decide)]];exact Vo t a cap b c w d hok f g
theorem PR{a:Int}:0<=IntKind.u64.wrap a/\IntKind.u64.wrap a<18446744073709551616:=by simp[IntKind.wrap,IntKind.bits,IntKind.signed];omega
def QT(v:Int)(b:UInt8):Int:=IntKind.u64.wrap (bits BinOp.xor IntKind.u64 v (IntKind.u64.wrap b.toNat) *1099511628211)
def EX(l:List UInt8):Int:=l.foldl QT 14695981039346656037
theorem QU(l:List UInt8):0<=EX l/\EX l<18446744073709551616:=by
 unfold EX;rcases l.eq_nil_or_concat with rfl|⟨r,b,rfl⟩
 .simp
 .simp only[List.concat_eq_append,List.foldl_append,List.foldl_cons,List.foldl_nil];exact PR
theorem MH(s:Zi)(k:Nat)(h:k<s.size):EX (s.data.toList.take (k+1))=QT (EX (s.data.toList.take k)) s[k]:=by rw[Zu (by simpa using h)];unfold EX;rw[List.foldl_append];rfl
def DP(v:Int):Nat->List Int
 |0=>[]
 |k+1=>(v/256^k%256)::DP v k
theorem DQ(v:Int)(k:Nat):(DP v k).length=k:=by
 induction k with
 |zero=>rfl
 |succ k ih=>simp[DP,ih]
theorem PS(v:Int)(k:Nat):∀i,i<k->(DP v k)[i]?=some (v/256^(k -1 -i)%256):=by
 induction k with
 |zero=>intro i h;omega
 |succ k ih=>
  intro i h
  match i with
  |0=>simp[DP]
  |i+1=>rw[DP,List.getElem?_cons_succ,ih i Yw,show k -1 -i=k+1 -1 -(i+1)from by omega]
def Hd(v:Int)(k:Nat):Zj:=(DP v k).map (Value.int .u8)
theorem Li(v:Int)(k:Nat):(Hd v k).length=k:=by simp[Hd,DQ]
theorem Vp(v:Int)(k:Nat):v/256^k/256=v/256^(k+1):=by rw[Int.ediv_ediv_of_nonneg (Int.pow_nonneg Ys),Int.pow_succ]
theorem ZS(v:Int)(k:Nat)(a:0<=v)(h:v<18446744073709551616):0<=v/256^k/\v/256^k<18446744073709551616:=by have b:(0:Int)<256^k:=Int.pow_pos Ys;exact⟨Int.ediv_nonneg a (Int.le_of_lt b),Int.lt_of_le_of_lt (Int.ediv_le_self _ a) h⟩
def EN(l:List UInt8)(n:Nat):Zi:=strOfNums (DP (EX l) n)
theorem infoByte:(prog.info? 5).map (fun i=>(i.zero,i.size,i.bytes))=some (some (.int .u8 0),1,1):=Yt
theorem Vq(s:Zi)(h:Int)(w:Zh)(C:s.size<=maxLen)(J:1<=h)(K:h<=8):
 Calls prog 171 #[.string s,Zg h] w fun e E=>e=.returned (.string (EN s.data.toList h.toNat))/\Zz w E:=by
 unfold maxLen at C;obtain⟨D,n,r,t,x⟩:=info_parts infoByte;go_enter func171,ntmps171;go_wp2
 go_loop [5,6] (fun v i=>∃(k:Nat),k<=s.size/\i=Zg k/\v=.int .u64 (EX (s.data.toList.take k))) (fun _ i=>s.size -(intOf i).toNat)
 case atStart=>exact⟨0,Nat.zero_le _,rfl,rfl⟩
 case round=>
  obtain⟨k,o,rfl,rfl⟩:=hrel;by_cases hlt:k<s.size
  .have HS:=Yx (MH s k hlt);go_wp2;exact⟨⟨k+1,Yw,Yp,by rw[HS.o];rfl⟩,by simp[intOf];omega⟩
  .have B:Hid (EX (s.data.toList.take k)=EX s.data.toList):=by show _=_;rw[Zt Yu]
   have l:=QU (s.data.toList.take k);generalize EX (s.data.toList.take k)=V at *
   go_wp2
   go_loopw [5,7,8] (fun v y i wr=>∃(k:Nat) (g c:Nat),k<=h/\i=Zg k/\v=.int .u64 (V/256^k)/\y=Za g k c/\wr.ownsRow w.heap.size 5 1 (Za g k c) k (Hd V k)/\Zz w wr/\w.heap.size<=wr.heap.size) (fun _ _ i _=>(h -intOf i).toNat)
   case atStart=>exact⟨0,_,_,Yw,rfl,Yv,rfl,World.ownsRow_lit w #[] 0 (Zx) (by simp[maxLen]) rfl,Zy,Yv⟩
   case round=>
    obtain⟨j,g,c,L,rfl,rfl,rfl,f,d,m⟩:=hrel;by_cases hlt2:j<h
    .have G:=ZS V j l.1 l.2;go_wp2_with (first
      |(at_builtin;refine wpList_append_own _ rfl _ _ 102 rfl w.heap.size 5 D (.int .u8 0) 1 1 underlying102 n r t x rfl Ys _ 1 [.int .u8 (V/256^j%256)] rfl ?c0 ⟨g,0,none⟩ j c (Hd V j) rfl (by rw[Li];omega) ?c1 ?c2 ?c3 ?c4 ?c5 ?_)
      |go_in)
     case c0=>exact World.ownsRow_lit wr _ 1 m (by simp[maxLen]) rfl
     case c1=>exact(f.alloc _).cells rfl
     case c2=>intro u hu;obtain⟨_,_,rfl⟩:=List.mem_map.1 hu;rfl
     case c3=>unfold maxLen;omega
     case c4=>omega
     case c5=>simp;omega
     intro M N a b _;obtain⟨A,z,q,H,I⟩:=a.form Yw;subst q;have p:=(d.alloc m _).grown b Yu (by intro k o;simp[Value.ownBlock]at o;omega);rw[Nat.add_comm 1 j]at a |-;clear f d b;go_wp2;refine⟨⟨j+1,A,z,Yw,Yp,by rw[<-Vp],rfl,a,p,Yw⟩,by simp[intOf];omega⟩
    .obtain rfl:(j:Int)=h:=Yw
     have F:=run_convert_bytes_arg (P:=prog) wr 102 5 underlying102 underlying5 g 0 j c (DP V j) (DQ V j) (fun i n=>by
      rw[Nat.zero_add,f.cellAt i Yw];have:=DQ V j;simp[Hd,List.getD,Zv (show i<(DP V j).length by omega)]) 9 underlying9
     go_wp2;go_ret;refine⟨?_,d⟩;unfold EN;rw[<-B.o];rfl
theorem XO{k:IntKind}{a b:Int}(h:a=b):Ending.returned (.int k a)=.returned (.int k b):=by rw[h]
theorem XP(s:Zi)(w:Zh)(a:s.size<=maxLen):
 Calls prog 238 #[.string s] w fun e b=>e=.returned (.int .u64 (EX s.data.toList))/\b=w:=by
 unfold maxLen at a;go_enter func238,ntmps238;go_wp2
 go_loop [3,7] (fun v i=>∃(k:Nat),k<=s.size/\i=Zg k/\v=.int .u64 (EX (s.data.toList.take k))) (fun _ i=>s.size -(intOf i).toNat)
 case atStart=>exact⟨0,Nat.zero_le _,rfl,rfl⟩
 case round=>
  obtain⟨k,c,rfl,rfl⟩:=hrel;by_cases hlt:k<s.size
  .have HS:=Yx (MH s k hlt);go_wp2;exact⟨⟨k+1,Yw,Yp,by rw[HS.o];rfl⟩,by simp[intOf];omega⟩
  .go_wp2;go_ret;exact⟨XO (by rw[Zt Yu]),rfl⟩
def Ll(v wd:Int)(j:Nat):Int:=v/2^(8 *(wd -1 -(j:Int))).toNat%256
def De(v wd:Int)(k j:Nat):Int:=if j<k then Ll v wd j else 0
def EO(v wd:Int)(k:Nat):Array Value:= #[.int .u8 (De v wd k 0),.int .u8 (De v wd k 1),.int .u8 (De v wd k 2),.int .u8 (De v wd k 3),.int .u8 (De v wd k 4),.int .u8 (De v wd k 5),.int .u8 (De v wd k 6),.int .u8 (De v wd k 7)]
theorem Dm(v a:Int)(k j:Nat)(h:j<8):(EO v a k)[j]?=some (.int .u8 (De v a k j)):=by
 match j,h with
 |0,_=>rfl|1,_=>rfl|2,_=>rfl|3,_=>rfl|4,_=>rfl|5,_=>rfl|6,_=>rfl|7,_=>rfl
theorem Rp(v a:Int):EO v a 0= #[.int .u8 0,.int .u8 0,.int .u8 0,.int .u8 0,.int .u8 0,.int .u8 0,.int .u8 0,.int .u8 0]:=by simp[EO,De]
theorem Tl(v a:Int)(k:Nat)(h:k<8):(EO v a k).setIfInBounds k (.int .u8 (Ll v a k))=EO v a (k+1):=by
 match k,h with
 |0,_|1,_|2,_|3,_|4,_|5,_|6,_|7,_=>simp[EO,De]
theorem Tm(v:Int)(k j:Nat)(h:j<k):Ll v k j=v/256^(k -1 -j)%256:=by unfold Ll;rw[show(8 *((k:Int) -1 -(j:Int))).toNat=8 *(k -1 -j)from by omega,Int.pow_mul];rfl
theorem Vr(v a:Int)(w:Zh)(n:1<=a)(o:a<=8)(_hv0:0<=v)(_hv:v<18446744073709551616):
 Calls prog 237 #[.int .u64 v,Zg a] w fun e b=>e=.returned (.agg (Ym (De v a a.toNat)))/\b=(w.alloc (.cells (EO v a a.toNat) 183)).alloc (.cells (EO v a a.toNat) 183):=by
 go_enter func237,ntmps237;go_wp2
 go_loopw [8] (fun i wr=>∃k:Nat,k<=a/\i=Zg k/\wr=(w.alloc (Obj.cells
  #[Value.int IntKind.u8 0,Value.int IntKind.u8 0,Value.int IntKind.u8 0,Value.int IntKind.u8 0,
   Value.int IntKind.u8 0,Value.int IntKind.u8 0,Value.int IntKind.u8 0,Value.int IntKind.u8 0]
  183)).alloc (.cells (EO v a k) 183)) (fun i _=>(a -intOf i).toNat)
 case atStart=>exact⟨0,Yw,rfl,by rw[Rp]⟩
 case round=>
  obtain⟨k,q,rfl,rfl⟩:=hrel;by_cases hlt:k<a
  .have p:=Dm v a k k Yw;go_wp2;refine⟨⟨k+1,Yw,Yp,?_⟩,by simp[intOf];omega⟩;have:=Tl v a k Yw;unfold Ll at this;rw[this]
  .obtain rfl:(k:Int)=a:=Yw
   have c:=Dm v k k 0 Yw;have d:=Dm v k k 1 Yw;have f:=Dm v k k 2 Yw;have g:=Dm v k k 3 Yw;have h:=Dm v k k 4 Yw;have j:=Dm v k k 5 Yw;have l:=Dm v k k 6 Yw;have m:=Dm v k k 7 Yw;go_wp2;exact bodyPost_ret (v:=.agg (EO v k k)) (by simp[results,results237,go_sem];rfl) rfl ⟨rfl,rfl⟩
theorem Vs(s:Zi)(a:Int)(w:Zh)(l:s.size<=maxLen)(f:1<=a)(h:a<=8):
 Calls prog 215 #[.string s,Zg a] w fun e d=>e=.returned (.string (EN s.data.toList a.toNat))/\Zz w d:=by
 have b:=QU s.data.toList;obtain⟨n,rfl⟩:∃n:Nat,a=n:=⟨a.toNat,Yw⟩;have j:∀(W:Zh) (g:Nat),g=W.heap.size->Sem.run prog (convert 102 9 (Za g n 8)) (W.alloc (Obj.cells (EO (EX s.data.toList) n n) 183))=.ok (.string (EN s.data.toList n)) (W.alloc (Obj.cells (EO (EX s.data.toList) n n) 183)):=fun W g k=>k▸
  run_convert_bytes_arg (P:=prog) _ 102 5 underlying102 underlying5 W.heap.size 0 n 8 (DP (EX s.data.toList) n) (DQ _ n) (fun i c=>by
   rw[Nat.zero_add,World.cell?_alloc_new,Dm _ _ _ _ Yw];simp only[List.getD,PS _ n i c,Option.getD_some];unfold De;rw[if_pos c,Tm _ _ _ c]) 9 underlying9
 have m:(0:Int)<=n:=Yw
 unfold EO at j;go_enter func215,ntmps215;go_wp2_with (first
  |(go_at_call 238;refine(XP s _ l).mono ?_;rintro e d ⟨rfl,rfl⟩)
  |(go_at_call 237;refine(Vr _ _ _ f h b.1 b.2).mono ?_;rintro e d ⟨rfl,rfl⟩)
  |go_in)
 go_ret;refine⟨rfl,?_⟩;exact(((Zy).alloc Yv _).alloc Yu _)
def Om(b:UInt8):Bool:=decide ((33:Int)<=(b.toNat:Int)/\(b.toNat:Int)<=126)
def nameBytes(s:Zi):Bool:=s.data.toList.all Om
def Dg(s:Zi):Bool:=decide (1<=s.size/\s.size<=40)&&nameBytes s
theorem FI{s:Zi}{k:Nat}(a:k<s.size)(h:¬((33:Int)<=(s[k].toNat:Int)/\(s[k].toNat:Int)<=126)):nameBytes s=false:=by unfold nameBytes;rw[List.all_eq_false];refine⟨s[k],?_,by unfold Om;simpa using h⟩;exact List.mem_of_getElem (l:=s.data.toList) (i:=k) (h:=by simpa using a) rfl
theorem Jo{s:Zi}(h:∀k (a:k<s.size),(33:Int)<=(s[k].toNat:Int)/\(s[k].toNat:Int)<=126):nameBytes s=true:=by unfold nameBytes;rw[List.all_eq_true];intro b c;obtain⟨k,a,rfl⟩:=List.getElem_of_mem c;exact decide_eq_true (h k (by simpa using a))
def Rq(s:Zi)(k:Nat):Prop:=∀i (hi:i<s.size),i<k->(33:Int)<=(s[i].toNat:Int)/\(s[i].toNat:Int)<=126
theorem MI{s:Zi}{k:Nat}(h:Rq s k)(f:k<s.size)(b:(33:Int)<=(s[k].toNat:Int))(c:(s[k].toNat:Int)<=126):Rq s (k+1):=by
 intro i d e;rcases Nat.lt_or_ge i k with a|a
 .exact h i d a
 .obtain rfl:i=k:=Yw
  exact⟨b,c⟩
theorem Tp(s:Zi)(w:Zh)(m:s.size<=maxLen):
 Calls prog 233 #[.string s] w fun e n=>e=.returned (.bool (Dg s))/\n=w:=by
 unfold maxLen at m;by_cases h1:1<=s.size
 .by_cases h2:s.size<=40
  .have b:decide ((s.size:Int)<1)=false:=Yu
   have g:decide ((40:Int)<(s.size:Int))=false:=Yu
   have j:Hid (decide (1<=s.size/\s.size<=40)=true):=by show _=_;simp;omega
   go_enter func233,ntmps233;go_wp2
   go_loop [14] (fun i=>∃k:Nat,k<=s.size/\i=Zg k/\Hid (Rq s k)) (fun i=>s.size -(intOf i).toNat)
   case atStart=>exact⟨0,Nat.zero_le _,rfl,fun i _ h=>by omega⟩
   case round=>
    obtain⟨k,o,rfl,c⟩:=hrel;by_cases hlt:k<s.size
    .by_cases b1:(s[k].toNat:Int)<33
     .have d:decide ((s[k].toNat:Int)<33)=true:=by simpa using b1
      go_wp2;go_ret;exact⟨Ax (by unfold Dg;rw[FI hlt Yw];simp),rfl⟩
     .have d:decide ((s[k].toNat:Int)<33)=false:=by simpa using b1
      by_cases b2:(126:Int)<(s[k].toNat:Int)
      .have f:decide ((126:Int)<(s[k].toNat:Int))=true:=by simpa using b2
       go_wp2;go_ret;exact⟨Ax (by unfold Dg;rw[FI hlt Yw];simp),rfl⟩
      .have f:decide ((126:Int)<(s[k].toNat:Int))=false:=by simpa using b2
       have HU:=Yx (MI c hlt Yw Yw);go_wp2;exact⟨⟨k+1,Yw,Yp,HU⟩,by simp[intOf];omega⟩
    .have a:=Jo (s:=s) (fun i l=>c i l Yw);go_wp2;go_ret;exact⟨Ax (by unfold Dg;rw[a,j.o];rfl),rfl⟩
  .have b:decide ((s.size:Int)<1)=false:=Yu
   have g:decide ((40:Int)<(s.size:Int))=true:=Yu
   go_enter func233,ntmps233;go_wp2;go_ret;exact⟨Ax (by unfold Dg;rw[decide_eq_false Yw];rfl),rfl⟩
 .have b:decide ((s.size:Int)<1)=true:=Yu
  go_enter func233,ntmps233;go_wp2;go_ret;exact⟨Ax (by unfold Dg;rw[decide_eq_false Yw];rfl),rfl⟩
theorem MJ(s:Zi)(w:Zh)(g:s.size<=maxLen):
 Calls prog 97 #[.string s] w fun e j=>e=.returned (.bool (Dg s))/\j=w:=by
 unfold maxLen at g;go_enter func97,ntmps97;go_wp2
 go_loop [3] (fun i=>∃k:Nat,k<=s.size/\i=Zg k/\Hid (Rq s k)) (fun i=>s.size -(intOf i).toNat)
 case atStart=>exact⟨0,Nat.zero_le _,rfl,fun i _ h=>by omega⟩
 case round=>
  obtain⟨k,m,rfl,b⟩:=hrel;by_cases hlt:k<s.size
  .by_cases b1:(s[k].toNat:Int)<33
   .have c:decide ((s[k].toNat:Int)<33)=true:=by simpa using b1
    go_wp2;go_ret;exact⟨Ax (by unfold Dg;rw[FI hlt Yw];simp),rfl⟩
   .have c:decide ((s[k].toNat:Int)<33)=false:=by simpa using b1
    by_cases b2:(126:Int)<(s[k].toNat:Int)
    .have d:decide ((126:Int)<(s[k].toNat:Int))=true:=by simpa using b2
     go_wp2;go_ret;exact⟨Ax (by unfold Dg;rw[FI hlt Yw];simp),rfl⟩
    .have d:decide ((126:Int)<(s[k].toNat:Int))=false:=by simpa using b2
     have HU:=Yx (MI b hlt Yw Yw);go_wp2;exact⟨⟨k+1,Yw,Yp,HU⟩,by simp[intOf];omega⟩
  .have a:=Jo (s:=s) (fun i f=>b i f Yw);by_cases h1:1<=s.size
   .go_wp2;go_ret;refine⟨Ax ?_,rfl⟩;unfold Dg;rw[a,Bool.and_true];simp[h1];omega
   .have l:decide ((1:Int)<=(s.size:Int))=false:=Yu
    go_wp2;go_ret;exact⟨Ax (by unfold Dg;rw[decide_eq_false Yw];rfl),rfl⟩
end Go.Proofs.YtcankpdbabaacaaGreatDoor
