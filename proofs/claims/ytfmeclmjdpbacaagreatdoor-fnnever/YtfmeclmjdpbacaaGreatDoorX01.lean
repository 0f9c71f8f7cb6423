import Derived.Test.YtfmeclmjdpbacaaGreatDoorProg
import Derived.WalkKit
import Derived.ProofKit
import Derived.Deep.AppendLies
import Derived.Deep.QuietTactic
import Derived.BigQuiet
import Derived.Deep.Onto
import Derived.Laws.Cover1
import Derived.Deep.RegionWith
import Derived.Maps.AppendAt
import Derived.Maps.Range
import Derived.Shelf.Strings.Builder1
import Derived.Lib.AppendStr
import Derived.Lib.SmallJoins
import Derived.OneCell
import Derived.Deep.DeepCutAuto
import Derived.Laws.CopyRow
import Derived.Maps.OwnSet
import Derived.DeepKeys5
set_option maxRecDepth 100000
set_option maxHeartbeats 16000000
open Option renaming some->ai,none->an
open Bool renaming true->ay,false->ba
open Go.RowKit renaming Below->bg
open Decidable renaming decide->bq
open Go.Obj renaming cells->bs
open Go.Value renaming slice->bx,agg->ca,bool->ec,ownBlock->ef
open Or renaming inl->cr,inr->ct
open List renaming length->ed,toArray->ee
open Go.World renaming cell?->eh,ownsRow->ej,grownBy->ek
open Go renaming maxLen->eo
namespace Go.Proofs.YtfmeclmjdpbacaaGreatDoor
open ChangeShapes WideShapes ChangeAt RowKit _root_.Go.Proofs.Tryz List World Value
theorem _root_.Go.Proofs.Ae{B:Nat}{w:World}:Below B w w:=Below.refl _ _
theorem _root_.Go.Proofs.Ag{α:Type _}(a:α):∃x,x=a:=⟨a,rfl⟩
theorem _root_.Go.RowKit.Hid.Ak{P:Program}{f:Nat}{a:Array Value}{w:World}{Q R:Ending->World->Prop}(h:Hid (Calls P f a w Q))(k:∀e w,Q e w->R e w):Calls P f a w R:=Calls.mono h k
theorem _root_.Go.Proofs.Am{α:Type _}{a b:List α}:(a++b).length=a.length+b.length:=List.length_append
theorem _root_.Go.Proofs.Aq(w:World)(o:Obj):(w.alloc o).1.size=w.1.size+1:=World.size_alloc w o
theorem _root_.Go.Proofs.Aw(n:Nat):0<=n:=Nat.zero_le n
theorem _root_.Go.Proofs.Ax(n:Nat):0+n=n:=Nat.zero_add n
theorem _root_.Go.Proofs.Az{α:Type _}{l:List α}:l.toArray.size=l.length:=List.size_toArray
theorem _root_.Go.Proofs.A0{α:Type _}{i:Nat}{b:α}{l:Array α}:l[i]?=some b<->∃h,l[i]=b:=Array.getElem?_eq_some_iff
theorem _root_.Go.Proofs.A1(b k i:Nat):(Addr.mk b k none).add i=⟨b,k+i,none⟩:=Go.WideShapes.add_plain b k i
theorem _root_.Go.Proofs.A2{α:Type _}{a b:α}(h:some a=some b):a=b:=Option.some.inj h
theorem _root_.Go.Proofs.A3{α:Type _}{a:α}{l:List α}(h:a∈l):∃i:Nat,l[i]?=some a:=List.getElem?_of_mem h
theorem _root_.Go.Proofs.A4(w:World)(a:Addr){u:Value}(h:w.cell? a=some u):a.block<w.1.size:=w.block_lt_of_cell? a h
theorem _root_.Go.Proofs.A5{α:Type _}{a:α}{s t:List α}:a∈s++t<->a∈s\/a∈t:=List.mem_append
theorem _root_.Go.Proofs.A6{α:Type _}{a:α}{o:Option α}:a∈o.toList<->o=some a:=Option.mem_toList
theorem _root_.Go.Proofs.A7{α:Type _}{β:Type _}{l:List α}(f:α->β):(l.map f).length=l.length:=List.length_map f
theorem _root_.Go.Proofs.A8{α:Type _}{p:α->Bool}{l:List α}{x:α}:x∈l.filter p<->x∈l/\p x=true:=List.mem_filter
theorem _root_.Go.Proofs.A9{α:Type _}{l:List α}(h:l.length=0):l=[]:=List.eq_nil_of_length_eq_zero h
theorem _root_.Go.Proofs.Bh{α:Type _}{b:α}{l:List α}{a:α}:a∈b::l<->a=b\/a∈l:=List.mem_cons
theorem _root_.Go.Proofs.B0(n m:Nat):n<m\/n>=m:=Nat.lt_or_ge n m
theorem _root_.Go.Proofs.B8{α:Type _}{l:Array α}{i:Nat}(h:i<l.size):l[i]?=some l[i]:=Array.getElem?_eq_getElem h
theorem _root_.Go.Proofs.Cl{α:Type _}{i:Nat}{l:List α}:(l.take i).length=min i l.length:=List.length_take
theorem _root_.Go.Proofs.Co{P:Program}{f:Func}{R:Ending->World->Prop}{a:Act}{w:World}(v:Value)(h:Sem.run P (results f a.tmps) w=.ok v w)(k:R (.returned v) w)(d:a.defers=[]:=by rfl):bodyPost P f R .ret a w:=bodyPost_ret h d k
abbrev _root_.Go.Proofs.Cw{α:Type _}(a:Option Addr)(l:List α)(c:Nat):Value:=bx a (ed l) c
abbrev _root_.Go.Proofs.Cx(a:Option Addr)(n c:Nat):Value:=bx a n c
abbrev _root_.Go.Proofs.C2{α:Type _}(b:Nat)(l:List α)(c:Nat):Value:=bx (ai ⟨b,0,an⟩) (ed l) c
abbrev _root_.Go.Proofs.C0(s:ByteArray):Value:=.string s
abbrev _root_.Go.Proofs.C1(v:Value):Ending:=.returned v
abbrev _root_.Go.Proofs.C3{α β γ:Type _}(a b c d:Int)(e:Option Addr)(f:List α)(g:Nat)(h:Option Addr)(i:List β)(j:Nat)(k:Option Addr)(l:List γ)(m:Nat):List Value:=[.int .i64 a,.int .i64 b,.int .i64 c,.int .i64 d,bx e (ed f) g,bx h (ed i) j,bx k (ed l) m]
abbrev _root_.Go.Proofs.C4{α β γ:Type _}(a b c d:Int)(e:Option Addr)(f:List α)(g:Nat)(h:Option Addr)(i:List β)(j:Nat)(k:Option Addr)(l:List γ)(m:Nat):Array Value:=#[.int .i64 a,.int .i64 b,.int .i64 c,.int .i64 d,bx e (ed f) g,bx h (ed i) j,bx k (ed l) m]
abbrev _root_.Go.World.ae(w:World)(c:Array Value)(t:TypeId):World:=w.alloc (bs c t)
abbrev _root_.Go.World.af(w:World)(b k:Nat)(v:Value):World:=w.setCell ⟨b,k,an⟩ v
theorem _root_.Go.Proofs.C8{a p:Prop}(h:a)(k:a->p:=by intro h;omega):p:=k h
theorem _root_.Go.Proofs.C9{a p:Prop}(h:a)(k:a->p:=by intro h;simpa using h):p:=k h
abbrev _root_.Go.Proofs.Dg:=Value
abbrev _root_.Eq.ag:=@Eq.trans
abbrev _root_.Go.RowKit.Below.ag:=@Go.RowKit.Below.trans
abbrev _root_.Go.World.grownBy.ag:=@Go.World.grownBy.trans
abbrev _root_.Iff.ag:=@Iff.trans
abbrev _root_.List.Perm.ag:=@List.Perm.trans
abbrev _root_.List.Sublist.ag:=@List.Sublist.trans
abbrev _root_.Go.RowKit.Below.ah:=@Go.RowKit.Below.mono
abbrev _root_.Go.Calls.ah:=@Go.Calls.mono
abbrev _root_.Go.World.ownsRow.ah:=@Go.World.ownsRow.mono
abbrev _root_.Go.CallsIn.ah:=@Go.CallsIn.mono
abbrev _root_.Go.RoundIn.ah:=@Go.RoundIn.mono
theorem _root_.Go.Proofs.Du(w:World)(c:Array Value)(t:TypeId):∃x,x=w.alloc (.cells c t):=⟨_,rfl⟩
theorem _root_.Go.Proofs.D2(w:World)(b k:Nat)(v:Value):∃x,x=w.setCell ⟨b,k,none⟩ v:=⟨_,rfl⟩
abbrev D4:=Calls prog
abbrev Zz (w w':World):Prop:=bg w.1.size w w'
theorem Zy {w:World} {o:Obj}:bg w.1.size w (w.alloc o):=(Below.refl _ _).alloc (Nat.le_refl _) _
theorem Zx {n:Nat}:n<=n:=Nat.le_refl n
theorem Zw {α:Type _} {l:List α} {i:Nat} {a:α} (h:l[i]?=ai a):∃h:i<ed l,l[i]=a:=List.getElem?_eq_some_iff.1 h
theorem Zv {α:Type _} {l:List α} {i:Nat} (h:i<ed l):l[i]?=ai l[i]:=List.getElem?_eq_getElem h
theorem Zu {α:Type _} {i:Nat} {l:List α} (h:i<ed l):l.take (i+1)=l.take i++[l[i]]:=List.take_succ_eq_append_getElem h
theorem Zt {α:Type _} {i:Nat} {l:List α} (h:ed l<=i):l.take i=l:=List.take_of_length_le h
theorem Zs {α:Type _} {l:List α} {i:Nat} {a:α} (h:l[i]?=ai a):a∈l:=List.mem_of_getElem? h
theorem Zr {a b c:Nat} (h:a<b) (k:b<=c):a<c:=Nat.lt_of_lt_of_le h k
theorem Zq {α:Type _} (l:List α) (i:Nat) (a:α):(ee l).setIfInBounds i a=ee (l.set i a):=List.setIfInBounds_toArray l i a
theorem Zp {α:Type _} {x a:α} {l:List α}:(x::l).set 0 a=a::l:=List.set_cons_zero
theorem Zo {α:Type _} {x a:α} {l:List α} {i:Nat}:(x::l).set (i+1) a=x::l.set i a:=List.set_cons_succ
theorem Zn {a b:Prop} (x:a) (y:b):a/\b:=⟨x,y⟩
theorem Zm {a b c:Nat} (h:a<=b) (k:b<=c):a<=c:=Nat.le_trans h k
theorem _root_.Go.RowKit.Hid.o {p:Prop} (h:Hid p):p:=h
abbrev _root_.Go.Proofs.Zl:=List ByteArray
abbrev _root_.Go.Proofs.Zk:=Option Addr
abbrev _root_.Go.Proofs.Zj:=List Value
abbrev _root_.Go.Proofs.Zi:=ByteArray
abbrev _root_.Go.Proofs.Zh:=World
abbrev Zg (n:Int):Value:=.int .i64 n
abbrev Ze:Value:=.int .i64 0
abbrev Zd (b k:Nat):Addr:=⟨b,k,an⟩
abbrev Zc:Value:=.string ⟨#[]⟩
abbrev Zb:Value:=bx an 0 0
theorem Za {a b:Prop} (x:a) (y:b):a/\b:=⟨x,y⟩
abbrev _root_.Go.Proofs.Yz(b n c:Nat):Value:=bx (ai ⟨b,0,an⟩) n c
abbrev _root_.Go.Proofs.Yy(b:Nat):Value:=.pointer (ai ⟨b,0,an⟩)
abbrev _root_.Go.Proofs.Yx(b k:Nat):Value:=.pointer (ai ⟨b,k,an⟩)
theorem _root_.Go.Proofs.D7{p:Prop}(h:p:=by simp[ownBlock];omega):p:=h
theorem _root_.Go.Proofs.D8{p:Prop}(h:p:=by simp[results,results122,go_sem,y0,y1,y2,y3,y4,y5,y6,y7,y8,y9,zO,zP,Cp]):p:=h
theorem _root_.Go.Proofs.D9{p:Prop}(h:p:=by simp[results,results15,go_sem,l,C,F,G,H,I]):p:=h
theorem _root_.Go.Proofs.Ef{p:Prop}(h:p:=by simp[oneCell']):p:=h
theorem _root_.Go.Proofs.Ei{p:Prop}(h:p:=by simp[results,results38,go_sem,E,F,G,H,I,J,K,L,M,N,p,t]):p:=h
theorem _root_.Go.Proofs.Ew{p:Prop}(h:p:=by simp[results,results123,go_sem,y0,y1,y2,y3,y4,y5,y6,y7,y8,y9,O,P]):p:=h
theorem _root_.Go.Proofs.E7{p:Prop}(h:p:=by simp[results,results66,go_sem,r0,n]):p:=h
theorem _root_.Go.Proofs.E8{p:Prop}(h:p:=by rw[Az,r.1.1];kernel_rfl):p:=h
theorem _root_.Go.Proofs.E9{p:Prop}(h:p:=by rw[show H.toArray.size=12 from by rw[Az];exact yU];exact(Aa.ir (l:=z12) nB).there):p:=h
theorem _root_.Go.Proofs.Ff{p:Prop}(h:p:=by rw[g];simp[go_sem]):p:=h
theorem _root_.Go.Proofs.Fl{p:Prop}(h:p:=by simp[results,results33,go_sem]):p:=h
theorem _root_.Go.Proofs.F0{p:Prop}(h:p:=by simp[results,results86,go_sem, *]):p:=h
theorem _root_.Go.Proofs.F1{p:Prop}(h:p:=by rw[b];simp[go_sem]):p:=h
theorem _root_.Go.Proofs.F2{p:Prop}(h:p:=by rw[F.1.1];kernel_rfl):p:=h
theorem _root_.Go.Proofs.F3{p:Prop}(h:p:=by simp[go_sem]):p:=h
theorem _root_.Go.Proofs.F4{p:Prop}(h:p:=by unfold IntKind.wrap;simp[IntKind.signed,IntKind.bits];omega):p:=h
theorem _root_.Go.Proofs.F5{p:Prop}(h:p:=by simp[results,results129,go_sem,Q,R,S,U,X,Y,Z,y7,y8,y9,O,P]):p:=h
theorem _root_.Go.Proofs.F6{p:Prop}(h:p:=by show _=_;rw[HD.o];unfold less;rw[hless];rfl):p:=h
theorem _root_.Go.Proofs.F7{p:Prop}(h:p:=by simpa [ownBlock]using e):p:=h
theorem _root_.Go.Proofs.F9{p:Prop}(h:p:=by rw[IntKind.wrap_i64];omega):p:=h
theorem _root_.Go.Proofs.Ge{p:Prop}(h:p:=by obtain⟨D,⟨d,clock,e,g⟩,i⟩:=h;exact⟨D,⟨d,clock,j.ag e,g⟩,i⟩):p:=h
theorem _root_.Go.Proofs.Gj{p:Prop}(h:p:=by have:=t.size;first|omega|(simp at this;omega)):p:=h
theorem _root_.Go.Proofs.Gl{p:Prop}(h:p:=by rw[d.cell (p:=⟨w.1.size,1,none⟩) Yu];simp):p:=h
theorem _root_.Go.Proofs.G0{p:Prop}(h:p:=by simp[results,results122,go_sem,y0,y1,y2,y3,y4,y5,y6,y7,y8,y9,zO,zP]):p:=h
theorem _root_.Go.Proofs.G1{p:Prop}(h:p:=by exact Or.inl ⟨Yp,λX hX=>by have h1:=(hX.1 0 _ rfl).1;go_simp⟩):p:=h
theorem _root_.Go.Proofs.G2{p:Prop}(h:p:=by simp[results,results208,go_sem]):p:=h
theorem _root_.Go.Proofs.G3{p:Prop}(h:p:=by simp[results,results121,go_sem]):p:=h
theorem _root_.Go.Proofs.G5{p:Prop}(h:p:=by rw[r.1.1];kernel_rfl):p:=h
theorem _root_.Go.Proofs.G7{p:Prop}(h:p:=by obtain⟨i,f,d⟩:=h;exact⟨i,f.ah e,d⟩):p:=h
theorem _root_.Go.Proofs.G8{p:Prop}(h:p:=by obtain⟨i,f,e⟩:=h;exact⟨i,ownsRow_setCell_below f d u,e⟩):p:=h
theorem _root_.Go.Proofs.G9{p:Prop}(h:p:=by show e.dt v r=_;simp[Ed.dt,hk1]):p:=h
theorem _root_.Go.Proofs.Hh{p:Prop}(h:p:=by first|omega|simp):p:=h
theorem _root_.Go.Proofs.Hn{p:Prop}(h:p:=by intro b q;unfold vB;simp at q |-;rcases q with rfl|q<;>simp[*]):p:=h
theorem _root_.Go.Proofs.Hr{p:Prop}(h:p:=by rw[Az,F.1.1];kernel_rfl):p:=h
theorem _root_.Go.Proofs.H9{p:Prop}(h:p:=by simp[results,results124,go_sem,T,U,Y,Z,i,X,y6,y7,y8,y9,H,J]):p:=h
theorem _root_.Go.Proofs.Ia{p:Prop}(h:p:=by simp[results,results126,go_sem,R,S,T,U,Y,Z,y6,y7,y8,y9,E,F]):p:=h
theorem _root_.Go.Proofs.It{p:Prop}(h:p:=by simp[results,results128,go_sem,Q,R,S,T,U,Z,y6,y7,y8,y9,D,E]):p:=h
theorem _root_.Go.Proofs.I0{p:Prop}(h:p:=by unfold DG;rw[FW hlt Yv];simp):p:=h
theorem _root_.Go.Proofs.I1{p:Prop}(h:p:=by simp[Act.eval,Act.put]):p:=h
theorem _root_.Go.Proofs.I2{p:Prop}(h:p:=by simp[results,results127,go_sem,S,T,U,Y,Z,i,X,y7,y8,y9,G,I]):p:=h
theorem _root_.Go.Proofs.I3{p:Prop}(h:p:=by kernel_rfl):p:=h
theorem _root_.Go.Proofs.I4{p:Prop}(h:p:=by show x.T.size<=maxLen;have:=HO.2.2.2.1;unfold maxLen;omega):p:=h
theorem _root_.Go.Proofs.I5{p:Prop}(h:p:=by show x.T.size<=maxLen;have:=C.2.2.2.1;unfold maxLen;omega):p:=h
theorem _root_.Go.Proofs.I6{p:Prop}(h:p:=by unfold DG;rw[decide_eq_false Yv];rfl):p:=h
theorem _root_.Go.Proofs.I7{p:Prop}(h:p:=by rw[f];simp[go_sem]):p:=h
theorem _root_.Go.Proofs.I8{p:Prop}(h:p:=by unfold BJ;simp[a]):p:=h
theorem _root_.Go.Proofs.I9{p:Prop}(h:p:=by show _=_;simpa [DW]using hs):p:=h
theorem _root_.Go.Proofs.Ja{p:Prop}(h:p:=by simp[vB]):p:=h
theorem _root_.Go.Proofs.J0{p:Prop}(h:p:=by have:=R.o;simp;omega):p:=h
theorem _root_.Go.Proofs.J1{p:Prop}(h:p:=by rw[c.2.1];kernel_rfl):p:=h
theorem _root_.Go.Proofs.J2{p:Prop}(h:p:=by rw[b.2.1];kernel_rfl):p:=h
theorem _root_.Go.Proofs.J3{p:Prop}(h:p:=by intro v Q;simp at Q;omega):p:=h
theorem _root_.Go.Proofs.J4{p:Prop}(h:p:=by simp[results,results79,go_sem, *]):p:=h
theorem _root_.Go.Proofs.J5{p:Prop}(h:p:=by rw[hY];exact Aa.new P _ _):p:=h
theorem _root_.Go.Proofs.J6{p:Prop}(h:p:=by have:=R.o;omega):p:=h
theorem _root_.Go.Proofs.J7{p:Prop}(h:p:=by have:=l.size;have:=zB.size;omega):p:=h
theorem _root_.Go.Proofs.J8{p:Prop}(h:p:=by simp[By]):p:=h
theorem _root_.Go.Proofs.J9{p:Prop}(h:p:=by simp[results,results170,go_sem]):p:=h
theorem _root_.Go.Proofs.Kf{p:Prop}(h:p:=by simp[results,results79,go_sem]):p:=h
theorem _root_.Go.Proofs.Kg{p:Prop}(h:p:=by simp):p:=h
theorem _root_.Go.Proofs.K2{p:Prop}(h:p:=by simpa [Value.ownBlock]using l):p:=h
theorem _root_.Go.Proofs.K3{p:Prop}(h:p:=by rw[ByteArray.toList_eq];simp):p:=h
theorem _root_.Go.Proofs.K5{p:Prop}(h:p:=by intro v hv;simp at hv;omega):p:=h
theorem _root_.Go.Proofs.K6{p:Prop}(h:p:=by rw[f];exact A.setCell (Zx) _):p:=h
theorem _root_.Go.Proofs.K7{p:Prop}(h:p:=by show v.ro<=_;omega):p:=h
theorem _root_.Go.Proofs.K8{p:Prop}(h:p:=by rw[c];simp[go_sem]):p:=h
theorem _root_.Go.Proofs.K9{p:Prop}(h:p:=by rw[h]):p:=h
theorem _root_.Go.Proofs.Lg{p:Prop}(h:p:=by simp[vB,j]):p:=h
theorem _root_.Go.Proofs.Lh{p:Prop}(h:p:=by omega):p:=h
theorem _root_.Go.Proofs.Yw{p:Prop}(h:p):Hid p:=h
theorem _root_.Go.Proofs.Yv{p:Prop}(h:p:=by omega):p:=h
theorem _root_.Go.Proofs.Yu{p:Prop}(h:p:=by simp):p:=h
theorem _root_.Go.Proofs.Yt{p:Prop}(h:p:=by simp;omega):p:=h
theorem _root_.Go.Proofs.Ys{p:Prop}(h:p:=by simp[intOf];omega):p:=h
theorem _root_.Go.Proofs.Yr{p:Prop}(h:p:=by kernel_rfl):p:=h
theorem _root_.Go.Proofs.Yq{p:Prop}(h:p:=by decide):p:=h
theorem _root_.Go.Proofs.Yp{p:Prop}(h:p:=by rfl):p:=h
theorem _root_.Go.Proofs.Yo{p:Prop}(h:p:=by unfold maxLen;omega):p:=h
theorem _root_.Go.Proofs.Yn{p:Prop}(h:p:=by go_num):p:=h
theorem _root_.Go.Proofs.Ym{p:Prop}(h:p:=by simp<;>omega):p:=h
theorem _root_.Go.Proofs.Yl{p:Prop}(h:p:=by first|omega|(simp;omega)):p:=h
abbrev Yk(f:Nat->Int):Array Value:=#[.int .u8 (f 0),.int .u8 (f 1),.int .u8 (f 2),.int .u8 (f 3),.int .u8 (f 4),.int .u8 (f 5),.int .u8 (f 6),.int .u8 (f 7)]
abbrev Yj(f:Nat->Int):List Value:=[.int .u8 (f 0),.int .u8 (f 1),.int .u8 (f 2),.int .u8 (f 3),.int .u8 (f 4),.int .u8 (f 5),.int .u8 (f 6),.int .u8 (f 7)]
abbrev Yi:Array Value:=#[.int .i64 0,.int .i64 0,.int .i64 0,.int .i64 0,bx an 0 0,bx an 0 0,bx an 0 0]
abbrev Yh(a b c d:Int)(e:Option Addr)(f g:Nat)(h:Option Addr)(i j:Nat)(k:Option Addr)(l m:Nat):List Value:=[.int .i64 a,.int .i64 b,.int .i64 c,.int .i64 d,bx e f g,bx h i j,bx k l m]
abbrev Yg(a b c d:Int)(e:Option Addr)(f g:Nat)(h:Option Addr)(i j:Nat)(k:Option Addr)(l m:Nat):Array Value:=#[.int .i64 a,.int .i64 b,.int .i64 c,.int .i64 d,bx e f g,bx h i j,bx k l m]
abbrev Ye(a:Int)(b c:ByteArray)(d:Int)(e:ByteArray)(f:Option Addr)(g h:Nat):Array Value:=#[.int .i64 a,.string b,.string c,.int .i64 d,.string e,bx f g h]
abbrev Yd:Array Value:=#[.int .i64 0,.int .i64 0,.int .i64 0,.int .i64 0,.int .i64 0,bx an 0 0,bx an 0 0,bx an 0 0,.string ⟨#[]⟩,.int .i64 0,.string ⟨#[]⟩,.string ⟨#[]⟩]
abbrev Yc(a:Int):Array Value:=#[.int .i64 a,.int .i64 0,.int .i64 0,.int .i64 0,.int .i64 0,bx an 0 0,bx an 0 0,bx an 0 0,.string ⟨#[]⟩,.int .i64 0,.string ⟨#[]⟩,.string ⟨#[]⟩]
abbrev Yb(a:Int)(e:Option Addr)(f g:Nat)(h:Option Addr)(i j:Nat)(b c d:Int):Array Value:=#[.int .i64 a,bx e f g,bx h i j,.int .i64 b,.int .i64 c,.int .i64 d]
abbrev Ya:Array Value:=#[.int .i64 0,.string ⟨#[]⟩,.int .i64 0,.string ⟨#[]⟩,.int .i64 0,.int .i64 0]
abbrev Xz:List Value:=[.int .i64 0,.string ⟨#[]⟩,.int .i64 0,.string ⟨#[]⟩,.int .i64 0,.int .i64 0]
abbrev Xy:Array Value:=#[.int .i64 0,.string ⟨#[]⟩,.string ⟨#[]⟩,.int .i64 0,.string ⟨#[]⟩,bx an 0 0]
abbrev Xx:List Value:=[.int .i64 0,.string ⟨#[]⟩,.string ⟨#[]⟩,.int .i64 0,.string ⟨#[]⟩,bx an 0 0]
abbrev Xw(a:Int)(b c:ByteArray)(d:Int)(e:ByteArray)(f:Option Addr)(g h:Nat):List Value:=[.int .i64 a,.string b,.string c,.int .i64 d,.string e,bx f g h]
abbrev Xv:Array Value:=#[.int .i64 0,bx an 0 0,bx an 0 0,.int .i64 0,.int .i64 0,.int .i64 0]
abbrev Xu(a:Int)(e:Option Addr)(f g:Nat)(h:Option Addr)(i j:Nat)(b c d:Int):List Value:=[.int .i64 a,bx e f g,bx h i j,.int .i64 b,.int .i64 c,.int .i64 d]
abbrev Xt:List Value:=[.int .i64 0,bx an 0 0,bx an 0 0,.int .i64 0,.int .i64 0,.int .i64 0]
abbrev Xs(a:Int):List Value:=[.int .i64 a,.int .i64 0,.int .i64 0,.int .i64 0,.int .i64 0,bx an 0 0,bx an 0 0,bx an 0 0,.string ⟨#[]⟩,.int .i64 0,.string ⟨#[]⟩,.string ⟨#[]⟩]
abbrev Xp:Array Value:=#[.int .i64 0,.int .i64 0,bx an 0 0,bx an 0 0,.int .i64 0,.int .i64 0,.int .i64 0,.int .i64 0,bx an 0 0,bx an 0 0,bx an 0 0,.int .i64 0,bx an 0 0,bx an 0 0,.int .i64 0,.int .i64 0,.int .i64 0]
abbrev Xo:List Value:=[.int .i64 0,.int .i64 0,bx an 0 0,bx an 0 0,.int .i64 0,.int .i64 0,.int .i64 0,.int .i64 0,bx an 0 0,bx an 0 0,bx an 0 0,.int .i64 0,bx an 0 0,bx an 0 0,.int .i64 0,.int .i64 0,.int .i64 0]
abbrev Xn:Array Value:=#[.int .i64 0,.int .i64 0,.int .i64 0,bx an 0 0,bx an 0 0,.int .i64 0,.int .i64 0,.int .i64 0,.int .i64 0,bx an 0 0,bx an 0 0,bx an 0 0,.int .i64 0,bx an 0 0,bx an 0 0,.int .i64 0,.int .i64 0,.int .i64 0,.string ⟨#[]⟩,.int .i64 0,.string ⟨#[]⟩,.string ⟨#[]⟩]
abbrev Xm(a:Int):List Value:=[.int .i64 a,.int .i64 0,.int .i64 0,bx an 0 0,bx an 0 0,.int .i64 0,.int .i64 0,.int .i64 0,.int .i64 0,bx an 0 0,bx an 0 0,bx an 0 0,.int .i64 0,bx an 0 0,bx an 0 0,.int .i64 0,.int .i64 0,.int .i64 0,.string ⟨#[]⟩,.int .i64 0,.string ⟨#[]⟩,.string ⟨#[]⟩]
abbrev Xl(a:Int):Array Value:=#[.int .i64 a,.int .i64 0,.int .i64 0,bx an 0 0,bx an 0 0,.int .i64 0,.int .i64 0,.int .i64 0,.int .i64 0,bx an 0 0,bx an 0 0,bx an 0 0,.int .i64 0,bx an 0 0,bx an 0 0,.int .i64 0,.int .i64 0,.int .i64 0,.string ⟨#[]⟩,.int .i64 0,.string ⟨#[]⟩,.string ⟨#[]⟩]
abbrev Xi:Array Value:=#[.int .i64 0,.int .i64 0,.int .i64 0,bx an 0 0,bx an 0 0,.int .i64 0,.int .i64 0,.int .i64 0,.int .i64 0,bx an 0 0,bx an 0 0,bx an 0 0,.int .i64 0,bx an 0 0,bx an 0 0,.int .i64 0,.int .i64 0,.int .i64 0,.int .i64 0,bx an 0 0]
abbrev Xh(a:Int):List Value:=[.int .i64 a,.int .i64 0,.int .i64 0,bx an 0 0,bx an 0 0,.int .i64 0,.int .i64 0,.int .i64 0,.int .i64 0,bx an 0 0,bx an 0 0,bx an 0 0,.int .i64 0,bx an 0 0,bx an 0 0,.int .i64 0,.int .i64 0,.int .i64 0,.int .i64 0,bx an 0 0]
abbrev Xg(a:Int):Array Value:=#[.int .i64 a,.int .i64 0,.int .i64 0,bx an 0 0,bx an 0 0,.int .i64 0,.int .i64 0,.int .i64 0,.int .i64 0,bx an 0 0,bx an 0 0,bx an 0 0,.int .i64 0,bx an 0 0,bx an 0 0,.int .i64 0,.int .i64 0,.int .i64 0,.int .i64 0,bx an 0 0]
abbrev Xf:List Value:=[.int .i64 0,.int .i64 0,.int .i64 0,bx an 0 0,bx an 0 0,.int .i64 0,.int .i64 0,.int .i64 0,.int .i64 0,bx an 0 0,bx an 0 0,bx an 0 0,.int .i64 0,bx an 0 0,bx an 0 0,.int .i64 0,.int .i64 0,.int .i64 0,.string ⟨#[]⟩,.int .i64 0,.string ⟨#[]⟩,.string ⟨#[]⟩]
theorem Pm{k:IntKind}{a b:Int}(h:a=b):Ending.returned (.int k a)=C1 (.int k b):=K9
def Ad(w:Zh)(B:Nat)(a:Zk)(ss:Zl):Prop:=
 ss=[]\/∃b off,a=ai ⟨b,off,an⟩/\b<B/\∀i s,ss[i]?=ai s->eh w (Zd b (off+i))=ai (.string s)
theorem Ad.A{w f:Zh}{B:Nat}{a:Zk}{e:Zl}(h:Ad w B a e)(j:bg B w f):Ad f B a e:=by
 rcases h with h|⟨b,d,g,c,k⟩
 .exact cr h
 exact ct ⟨b,d,g,c,λi s l=>(j.cell (p:=⟨b,d+i,an⟩) c).ag (k i s l)⟩
theorem Ad.mono{w:Zh}{B B':Nat}{a:Zk}{c:Zl}(h:Ad w B a c)(i:B<=B'):Ad w B' a c:=by
 rcases h with h|⟨b,d,e,g,f⟩
 .exact cr h
 exact ct ⟨b,d,e,Yv,f⟩
abbrev Ad.ah:=@Ad.mono
theorem Ad.at{w:Zh}{B:Nat}{a:Zk}{d:Zl}(h:Ad w B a d){k:Nat}(e:k<ed d):
 ∃b c,a=ai ⟨b,c,an⟩/\b<B/\∀i s,d[i]?=ai s->eh w (Zd b (c+i))=ai (C0 s):=by
 rcases h with h|h
 .subst h;simp at e
 exact h
def bz(ss:Zl):Nat:=(ss.map ByteArray.size).sum
theorem ND(a:Zl)(k:Nat)(s:Zi)(h:a[k]?=ai s):bz (a.take (k+1))=bz (a.take k)+s.size:=by obtain⟨b,rfl⟩:=Zw h;unfold bz;rw[Zu b,map_append,sum_append];simp
theorem bu(a:Zl)(k:Nat):bz (a.take k)<=bz a:=by
 have h:bz a=bz (a.take k)+bz (a.drop k):=by unfold bz;rw[<-sum_append,<-map_append,take_append_drop]
 omega
theorem CQ:(prog.info? 9).map (λi=>(i.zero,i.size,i.bytes))=ai (ai Zc,1,16):=Yr
theorem Ad.own{w:Zh}{base:Nat}{g c:Nat}{ss:Zl}(h:ej w base 9 1 (Yz g (ed ss) c) (ed ss) (ss.map string)):Ad w w.1.size (ai ⟨g,0,an⟩) ss:=by refine ct ⟨g,0,rfl,(h.lt g rfl).2,λi s b=> ?_⟩;obtain⟨a,rfl⟩:=Zw b;rw[Ax,h.cellAt i Yv];simp[a]
theorem Ad.U{w b:Zh}{a:Zk}{d:Zl}(h:Ad w w.1.size a d)(c:Zz w b):Ad b b.1.size a d:=(h.A c).ah c.size
theorem Cg{B:Nat}{a w:Zh}(h:bg B a w)(n:Nat):bg B a (w.drewN n):=⟨h.os,h.tape,h.output,h.size,h.block⟩
theorem YP{W a:Zh}(c:Zz W a):(∀b o,b<W.1.size->eh a (Zd b o)=eh W (Zd b o))/\(∀b o,b<W.1.size->a.frozen? ⟨b,o,an⟩=W.frozen? ⟨b,o,an⟩):=
 ⟨λb o h=>c.cell (p:=⟨b,o,an⟩) h,λb o h=>c.frozen (p:=⟨b,o,an⟩) h⟩
theorem AF{a b c:Zh}{f:Option Nat}(d:ek a b f)(e:ek b c f):ek a c f:=
 ⟨e.os.ag d.os,e.tape.ag d.tape,e.output.ag d.output,Zm d.size e.size,λk h g=>(e.block k (Zr h d.size) g).ag (d.block k h g)⟩
theorem Al{a b:Zh}(c:Option Nat)(h:Zz a b):ek a b c:=⟨h.os,h.tape,h.output,h.size,λk d _=>h.block k d⟩
theorem Bv(a:Zh)(b:Option Nat):ek a a b:=⟨rfl,rfl,rfl,Zx,λ_ _ _=>rfl⟩
theorem Jg{a b:Nat}(h:b<a):ai a≠ai b:=λe=>C8 (A2 e)
theorem Ao(w:Zh)(g p:Nat)(v:Dg):ek w (w.setCell (Zd g p) v) (ai g):=
 ⟨rfl,rfl,rfl,Yu,λi _ a=>Below.heap_setCell _ _ _ _ (λe=>a (by rw[e]))⟩
def Aa(w:Zh)(B:Nat)(l:Zj):Prop:=∀j v,l[j]?=ai v->eh w (Zd B j)=ai v/\w.frozen? ⟨B,j,an⟩=ba
theorem Aa.lt{w:Zh}{B:Nat}{v:Dg}{l:Zj}(h:Aa w B (v::l)):B<w.1.size:=A4 w _ (h 0 v rfl).1
theorem Aa.br{w f:Zh}{B b:Nat}{v:Dg}{l:Zj}(h:Aa w B (v::l))(c:ek w f (ai b))(a:b<B):Aa f B (v::l):=by intro j x e;have d:=h.lt;exact⟨(c.cell_far ⟨B,j,an⟩ d (Jg a)).ag (h j x e).1,(c.frozen_far ⟨B,j,an⟩ d (Jg a)).ag (h j x e).2⟩
theorem Aa.A{w d:Zh}{B:Nat}{v:Dg}{l:Zj}(h:Aa w B (v::l))(a:Zz w d):Aa d B (v::l):=by intro j x c;have b:=h.lt;exact⟨(a.cell (p:=⟨B,j,an⟩) b).ag (h j x c).1,(a.frozen (p:=⟨B,j,an⟩) b).ag (h j x c).2⟩
theorem Aa.new(w:Zh)(l:Zj)(T:TypeId):Aa (w.alloc (bs (ee l) T)) w.1.size l:=by intro j v a;refine⟨?_,Yu⟩;rw[cell?_alloc_at _ _ _ _ rfl];simpa using a
theorem Aa.az{w f:Zh}{B c:Nat}{v:Dg}{l:Zj}(h:Aa w B (v::l))(a:ek w f (ai c))(g:c≠B):Aa f B (v::l):=by
 intro j x e;have b:=h.lt;have d:ai B≠ai c:=Yt;exact⟨(a.cell_far ⟨B,j,an⟩ b d).ag (h j x e).1,(a.frozen_far ⟨B,j,an⟩ b d).ag (h j x e).2⟩
theorem Aa.set{w:Zh}{B:Nat}{l:Zj}(h:Aa w B l)(j:Nat)(v:Dg):Aa (w.setCell (Zd B j) v) B (l.set j v):=by
 intro i x a;by_cases hij:i=j
 .subst hij;have b:i<ed l:=by
   rcases B0 i (ed l) with c|c
   .exact c
   rw[getElem?_eq_none (C9 c)]at a;cases a
  rw[getElem?_set_self b]at a;injection a with a;subst a;obtain⟨d,f⟩:=h i _ (Zv b);exact⟨by simp[go_sem,d],by simpa [go_sem]using f⟩
 rw[getElem?_set_ne (λe=>hij e.symm)]at a;have⟨d,f⟩:=h i x a;refine⟨?_,by simpa [go_sem]using f⟩;rw[cell?_setCell_other _ _ _ _ (by intro e;injection e;omega)];exact d
theorem Av{w W:Zh}{l:Zj}{T:TypeId}(h:W=w.alloc (bs (ee l) T)):bg w.1.size w W/\W.1.size=w.1.size+1/\Aa W w.1.size l:=by subst h;exact⟨Zy,Yu,Aa.new w l T⟩
theorem Aa.alloc{w:Zh}{B:Nat}{l:Zj}(h:Aa w B l)(a:B<w.1.size)(o:Obj):Aa (w.alloc o) B l:=λj v b=>
 ⟨(((Below.refl w.1.size w).alloc (Zx) o).cell (p:=⟨B,j,an⟩) a).ag (h j v b).1,(((Below.refl w.1.size w).alloc (Zx) o).frozen (p:=⟨B,j,an⟩) a).ag (h j v b).2⟩
theorem AT{w W:Zh}{l k:Zj}{T U:TypeId}(h:W=(w.alloc (bs (ee l) T)).alloc (bs (ee k) U)):bg w.1.size w W/\W.1.size=w.1.size+2/\Aa W w.1.size l/\Aa W (w.1.size+1) k:=by obtain⟨a,d,e⟩:=Av (w:=w) (l:=l) (T:=T) rfl;have⟨f,b,c⟩:=Av h;rw[d]at b c;subst h;exact⟨a.ag (f.ah a.size),b,e.alloc Yv _,c⟩
theorem Bq{w W:Zh}{l k m:Zj}{T U V:TypeId}(h:W=((w.alloc (bs (ee l) T)).alloc (bs (ee k) U)).alloc (bs (ee m) V)):bg w.1.size w W/\W.1.size=w.1.size+3/\Aa W w.1.size l/\Aa W (w.1.size+1) k/\Aa W (w.1.size+2) m:=by obtain⟨a,d,e,f⟩:=AT (w:=w) (l:=l) (T:=T) (k:=k) (U:=U) rfl;have⟨g,b,c⟩:=Av h;rw[d]at b c;subst h;exact⟨a.ag (g.ah a.size),b,e.alloc Yv _,f.alloc Yv _,c⟩
theorem al4{w W:Zh}{l k m n:Zj}{T U V R:TypeId}(h:W=(((w.alloc (bs (ee l) T)).alloc (bs (ee k) U)).alloc (bs (ee m) V)).alloc (bs (ee n) R)):bg w.1.size w W/\W.1.size=w.1.size+4/\Aa W w.1.size l/\Aa W (w.1.size+1) k/\Aa W (w.1.size+2) m/\Aa W (w.1.size+3) n:=by obtain⟨a,d,e,f,g⟩:=Bq (w:=w) (l:=l) (T:=T) (k:=k) (U:=U) (m:=m) (V:=V) rfl;have⟨i,b,c⟩:=Av h;rw[d]at b c;subst h;exact⟨a.ag (i.ah a.size),b,e.alloc Yv _,f.alloc Yv _,g.alloc Yv _,c⟩
theorem Aa.c2{w:Zh}{B:Nat}{t:Zj}{a b:Dg}(h:Aa w B t)(i j:Nat)(c:t[i]?=ai a:=by rfl)(d:t[j]?=ai b:=by rfl):eh w (Zd B i)=ai a/\eh w (Zd B j)=ai b:=
 ⟨(h i _ c).1,(h j _ d).1⟩
theorem Aa.c3{w:Zh}{B:Nat}{t:Zj}{a b c:Dg}(h:Aa w B t)(i j k:Nat)(d:t[i]?=ai a:=by rfl)(e:t[j]?=ai b:=by rfl)(f:t[k]?=ai c:=by rfl):eh w (Zd B i)=ai a/\eh w (Zd B j)=ai b/\eh w (Zd B k)=ai c:=
 ⟨(h i _ d).1,(h j _ e).1,(h k _ f).1⟩
theorem Aa.c4{w:Zh}{B:Nat}{t:Zj}{a b c d:Dg}(h:Aa w B t)(i j k l:Nat)(e:t[i]?=ai a:=by rfl)(f:t[j]?=ai b:=by rfl)(g:t[k]?=ai c:=by rfl)(m:t[l]?=ai d:=by rfl):eh w (Zd B i)=ai a/\eh w (Zd B j)=ai b/\eh w (Zd B k)=ai c/\eh w (Zd B l)=ai d:=
 ⟨(h i _ e).1,(h j _ f).1,(h k _ g).1,(h l _ m).1⟩
theorem Aa.c6{w:Zh}{B:Nat}{t:Zj}{a b c d e f:Dg}(h:Aa w B t)(i j k l m n:Nat)(g:t[i]?=ai a:=by rfl)(o:t[j]?=ai b:=by rfl)(p:t[k]?=ai c:=by rfl)(q:t[l]?=ai d:=by rfl)(r:t[m]?=ai e:=by rfl)(s:t[n]?=ai f:=by rfl):eh w (Zd B i)=ai a/\eh w (Zd B j)=ai b/\eh w (Zd B k)=ai c/\eh w (Zd B l)=ai d/\eh w (Zd B m)=ai e/\eh w (Zd B n)=ai f:=
 ⟨(h i _ g).1,(h j _ o).1,(h k _ p).1,(h l _ q).1,(h m _ r).1,(h n _ s).1⟩
theorem Aa.c7{w:Zh}{B:Nat}{t:Zj}{a b c d e f g:Dg}(h:Aa w B t)(i j k l m n o:Nat)(p:t[i]?=ai a:=by rfl)(q:t[j]?=ai b:=by rfl)(r:t[k]?=ai c:=by rfl)(s:t[l]?=ai d:=by rfl)(u:t[m]?=ai e:=by rfl)(v:t[n]?=ai f:=by rfl)(x:t[o]?=ai g:=by rfl):eh w (Zd B i)=ai a/\eh w (Zd B j)=ai b/\eh w (Zd B k)=ai c/\eh w (Zd B l)=ai d/\eh w (Zd B m)=ai e/\eh w (Zd B n)=ai f/\eh w (Zd B o)=ai g:=
 ⟨(h i _ p).1,(h j _ q).1,(h k _ r).1,(h l _ s).1,(h m _ u).1,(h n _ v).1,(h o _ x).1⟩
structure YQ (a b:Zh) (p q:Option Nat):Prop where
 os:b.os=a.os
 tape:b.tape=a.tape
 output:b.output=a.output
 size:a.1.size<=b.1.size
 block:∀k,k<a.1.size->ai k≠p->ai k≠q->b.1[k]?=a.1[k]?
theorem YQ.A{a b:Zh}{p q:Option Nat}(h:YQ a b p q){B:Nat}(f:B<=a.1.size)(c:∀k,p=ai k->B<=k)(d:∀k,q=ai k->B<=k):bg B a b:=
 ⟨h.os,h.tape,h.output,h.size,λk g=>h.block k Yv (λe=>C8 (c k e.symm)) (λe=>C8 (d k e.symm))⟩
theorem GF{w:Zh}{c:Nat}{v:Dg}{b:Zl}(h:ej w c 9 1 v (ed b) (b.map string)):∃a d,v=Cx a (ed b) d/\Ad w w.1.size a b:=by
 rcases h.2 with⟨e,f⟩|⟨g,d,i,e,_⟩
 .exact⟨an,0,by rw[e,f],cr (A9 f)⟩
 subst e;exact⟨_,_,rfl,Ad.own h⟩
theorem DF{w c:Zh}{a:Nat}{v:Dg}{n:Nat}{d:Zj}(h:ej w a 9 1 v n d)(b:Zz w c):ej c a 9 1 v n d:=by
 cases hv:ef v with
 |none=>exact h.kept (Al an b) (cr hv)
 |some g=>exact h.kept (Al an b) (ct (by rw[hv];simp))
theorem Iz{w:Zh}{a:Nat}{v b:Dg}{f:Nat}{h:Zj}(d:ej w a 9 1 b f h)(c:∀g,ef v=ai g->g<a):ef v=an\/ef v≠ef b:=by
 cases hv:ef v with
 |none=>exact cr rfl
 |some g=>exact ct (λe=>by have:=(d.lt g e.symm).1;have:=c g hv;omega)
def Gu(wd:Int)(ss:Zl)(i:Nat):Bool:=
 match ss[i]? with
 |none=>ay
 |some s=>decide ((s.size:Int)=wd)&&(match i with
  |0=>ay
  |j+1=>match ss[j]? with
   |none=>ay
   |some r=>Op.bytesLess r.toList s.toList)
def Ek(wd:Int)(ss:Zl):Bool:=(List.range (ed ss)).all (Gu wd ss)
theorem Hc{b:Int}{a:Zl}{s:Zi}(h:a[0]?=ai s):Gu b a 0=bq ((s.size:Int)=b):=by simp[Gu,h]
theorem EC{b:Int}{a:Zl}{j:Nat}{s r:Zi}(h:a[j+1]?=ai s)(c:a[j]?=ai r):Gu b a (j+1)=(bq ((s.size:Int)=b)&&Op.bytesLess r.toList s.toList):=by simp[Gu,h,c]
theorem FN{b:Int}{a:Zl}{k:Nat}(c:k<ed a)(h:Gu b a k=ba):Ek b a=ba:=by unfold Ek;rw[all_eq_false];exact⟨k,C9 c,by simp[h]⟩
theorem Mg{b:Int}{a:Zl}(h:∀i,i<ed a->Gu b a i=ay):Ek b a=ay:=by unfold Ek;rw[all_eq_true];intro i c;exact h i (C9 c)
theorem IA{p:Nat->Prop}{k:Nat}(h:∀i,i<k->p i)(b:p k):∀i,i<k+1->p i:=by
 intro i c;rcases B0 i k with a|a
 .exact h i a
 obtain rfl:i=k:=Yv;exact b
theorem AE{a b:Bool}(h:a=b):Ending.returned (ec a)=C1 (ec b):=K9
theorem MZ{a:Zk}(u:Nat){c:Zl}(l:Int){w:Zh}{B:Nat}(d:Ad w B a c)(C:ed c<=1048576):
 D4 234 #[Cx a (ed c) u,Zg l] w λe f=>e=C1 (ec (bq (ed c<=30)&&Ek l c))/\f=w:=by
 by_cases hn:30<ed c
 .delta D4;go_in;go_wp2;go_ret;exact⟨AE Yt,rfl⟩
 have v:Hid (bq (ed c<=30)=ay):=by show _=_;simp;omega
 delta D4;go_in;go_wp2
 go_loop [12] (λi=>∃k:Nat,k<=ed c/\i=Zg k/\Hid (∀i,i<k->Gu l c i=ay)) (λi=>ed c -(intOf i).toNat)
 case atStart=>exact⟨0,Aw _,rfl,λi h=>Yv⟩
 obtain⟨k,q,rfl,f⟩:=hrel;by_cases hlt:k<ed c
 case neg=>go_wp2;go_ret;exact⟨AE (by rw[Mg (λi p=>f i Yv),v.o];rfl),rfl⟩
 obtain⟨b,z,y,A,p⟩:=d.at hlt;subst y;have g:=Yw (Zv hlt);have n:=p k c[k] g
 match k,q,hlt,f,g,n with
 |0,q,hlt,f,g,n=>
  rw[Nat.add_zero]at n;clear p d;generalize c[0]=s at *
  by_cases hsz:(s.size:Int)=l
  .have t:((s.size:Int)==l)=ay:=Yt;have m:=Yw hsz;clear hsz;go_wp2;exact⟨⟨1,Yv,rfl,IA f (by rw[Hc g];simpa using m.o)⟩,Ys⟩
  have t:((s.size:Int)==l)=ba:=Yt
  have m:=Yw hsz;clear hsz;go_wp2;go_ret;exact⟨AE (by rw[FN hlt (by rw[Hc g,decide_eq_false m.o])];simp),rfl⟩
 |j+1,q,hlt,f,g,n=>
  have o:Hid (c[j]?=ai c[j]):=Zv Yv;have x:=p j c[j] o;clear p d;generalize c[j+1]=s at *
  generalize c[j]=r at *
  by_cases hsz:(s.size:Int)=l
  .have t:((s.size:Int)==l)=ay:=Yt;have m:=Yw hsz;clear hsz;by_cases d:Op.bytesLess r.toList s.toList=ay
   .go_wp2;exact⟨⟨j+1+1,Yv,Yn,IA f (by rw[EC g o];simp[m.o,d])⟩,Ys⟩
   have d:Op.bytesLess r.toList s.toList=ba:=C9 d;go_wp2;go_ret;exact⟨AE (by rw[FN hlt (by rw[EC g o];simp[d])];simp),rfl⟩
  have t:((s.size:Int)==l)=ba:=Yt;have m:=Yw hsz;clear hsz;go_wp2;go_ret;exact⟨AE (by rw[FN hlt (by rw[EC g o,decide_eq_false m.o];rfl)];simp),rfl⟩
def AL(t:Zi)(ss:Zl)(wd:Int):Bool:=bq (1<=wd/\wd<=8)&&(bq (t.size<=2000)&&(bq (ed ss<=30)&&Ek wd ss))
theorem Gv{t:Zi}{b:Zl}{a:Int}(h:¬(1<=a/\a<=8)):AL t b a=ba:=by unfold AL;rw[decide_eq_false h];rfl
theorem Ll{t:Zi}{a:Zl}{b:Int}(h:¬t.size<=2000):AL t a b=ba:=by unfold AL;rw[decide_eq_false h];simp
theorem QP{t:Zi}{a:Zl}{b:Int}(h:¬ed a<=30):AL t a b=ba:=by unfold AL;rw[decide_eq_false h];simp
theorem IY{t:Zi}{a:Zl}{b:Int}(h:Ek b a=ba):AL t a b=ba:=by unfold AL;rw[h];simp
theorem QQ{t:Zi}{b:Zl}{a:Int}(c:1<=a)(d:a<=8)(e:t.size<=2000)(f:ed b<=30)(g:Ek a b=ay):AL t b a=ay:=by unfold AL;rw[g];simp[c,d,e,f]
theorem EP(t:Zi){a:Zk}(c:Nat){b:Zl}(d:Int){w:Zh}(f:Ad w w.1.size a b)(i:ed b<=1048576)(j:t.size<=eo):
 D4 207 #[ca #[C0 t,Cx a (ed b) c],Zg d] w λe g=>e=C1 (ec (AL t b d))/\g=w.alloc (bs #[C0 t,Cx a (ed b) c] 48):=by
 have h:bg w.1.size w (w.alloc (bs #[C0 t,Cw a b c] 48)):=Zy;unfold eo at j;by_cases h1:1<=d
 .by_cases h2:d<=8
  .by_cases h3:t.size<=2000
   .delta D4;go_in;go_wp2_with (first
     |(go_at_call 234;refine(MZ c d (f.A h) i).ah ?_;rintro e g ⟨rfl,rfl⟩)
     |go_in)
    go_ret;exact⟨AE (by simp[AL,h1,h2,h3]),rfl⟩
   have l:bq ((t.size:Int)<=2000)=ba:=Yt;delta D4;go_in;go_wp2;go_ret;exact⟨AE (Ll Yv).symm,rfl⟩
  have k:bq (d<=8)=ba:=Yt;delta D4;go_in;go_wp2;go_ret;exact⟨AE (Gv Yv).symm,rfl⟩
 delta D4;go_in;go_wp2;go_ret;exact⟨AE (Gv Yv).symm,rfl⟩
theorem EQ(t:Zi){a:Zk}(u:Nat){c:Zl}(l:Int){w:Zh}(d:Ad w w.1.size a c)(G:ed c<=1048576)(D:t.size<=eo):
 D4 87 #[ca #[C0 t,Cx a (ed c) u],Zg l] w λe f=>e=C1 (ec (AL t c l))/\Zz w f:=by
 have m:bg w.1.size w (w.alloc (bs #[C0 t,Cw a c u] 48)):=Zy;unfold eo at D;by_cases h1:1<=l
 case neg=>delta D4;go_in;go_wp2;go_ret;exact⟨AE (Gv Yv).symm,m⟩
 by_cases h2:l<=8
 case neg=>
  have v:bq (l<=8)=ba:=Yt;delta D4;go_in;go_wp2;go_ret;exact⟨AE (Gv Yv).symm,m⟩
 by_cases h3:t.size<=2000
 case neg=>
  have z:bq (2000<(t.size:Int))=ay:=Yt;delta D4;go_in;go_wp2;go_ret;exact⟨AE (Ll Yv).symm,m⟩
 have z:bq (2000<(t.size:Int))=ba:=Yt;by_cases h4:ed c<=30
 case neg=>
  have A:bq (30<(ed c:Int))=ay:=Yt;delta D4;go_in;go_wp2;go_ret;exact⟨AE (QP Yv).symm,m⟩
 have A:bq (30<(ed c:Int))=ba:=Yt;delta D4;go_in;go_wp2;go_loopw [5] (λi wr=>∃k n:Nat,k<=ed c/\i=Zg k/\Hid (∀i,i<k->Gu l c i=ay)/\wr=(w.alloc (bs #[C0 t,Cw a c u] 48)).drewN n) (λi _=>ed c -(intOf i).toNat)
 case atStart=>exact⟨0,0,Aw _,rfl,λi h=>Yv,rfl⟩
 obtain⟨k,n,x,rfl,f,rfl⟩:=hrel;by_cases hlt:k<ed c
 case neg=>go_wp2;go_ret;exact⟨AE (QQ h1 h2 h3 h4 (Mg (λi v=>f i Yv))).symm,Cg m _⟩
 obtain⟨b,F,C,E,v⟩:=d.at hlt;subst C;have g:Hid (c[k]?=ai c[k]):=Zv hlt;have p:=v k c[k] g
 match k,x,hlt,f,g,p with
 |0,x,hlt,f,g,p=>
  rw[Nat.add_zero]at p;clear v d;generalize c[0]=s at *
  by_cases hsz:(s.size:Int)=l
  .have y:((s.size:Int) !=l)=ba:=Yt;have o:=Yw hsz;clear hsz;go_wp2;go_quiet (fail);go_wp2;exact⟨⟨1,_,Yv,rfl,IA f (by rw[Hc g];simpa using o.o),rfl⟩,Ys⟩
  have y:((s.size:Int) !=l)=ay:=Yt
  have o:=Yw hsz;clear hsz;go_wp2;go_quiet (fail);go_wp2;go_ret;exact⟨AE (IY (FN hlt (by rw[Hc g,decide_eq_false o.o]))).symm,Cg (Cg m _) _⟩
 |j+1,x,hlt,f,g,p=>
  have q:Hid (c[j]?=ai c[j]):=Zv Yv;have B:=v j c[j] q;clear v d;generalize c[j+1]=s at *
  generalize c[j]=r at *
  by_cases hsz:(s.size:Int)=l
  .have y:((s.size:Int) !=l)=ba:=Yt;have o:=Yw hsz;clear hsz;by_cases d:Op.bytesLess r.toList s.toList=ay
   .go_wp2;go_quiet (fail);go_wp2;exact⟨⟨j+1+1,_,Yv,Yn,IA f (by rw[EC g q];simp[o.o,d]),rfl⟩,Ys⟩
   have d:Op.bytesLess r.toList s.toList=ba:=C9 d;go_wp2;go_quiet (fail);go_wp2;go_ret;exact⟨AE (IY (FN hlt (by rw[EC g q];simp[d]))).symm,Cg (Cg m _) _⟩
  have y:((s.size:Int) !=l)=ay:=Yt;have o:=Yw hsz;clear hsz;go_wp2;go_quiet (fail);go_wp2;go_ret;exact⟨AE (IY (FN hlt (by rw[EC g q,decide_eq_false o.o];rfl))).symm,Cg (Cg m _) _⟩
end Go.Proofs.YtfmeclmjdpbacaaGreatDoor
namespace Go.Proofs
open Go.Shelf Go.RowKit
def Tryz.fp:Go.Shelf.Ren:=⟨fun|169=>166|n=>n,fun|70=>214|9=>9|0=>0|72=>216|37=>22|127=>263|3=>3|5=>5|n=>n,fun|n=>n⟩
theorem Tryz.lays169:Go.Proofs.Lays.n169 Tryz.prog Tryz.fp:={
 mixed:=Yr
 f169:=Tryz.func166.ag (congrArg ai Yr)
 t0:=Tryz.underlying0
 a0:=Tryz.isAgg0
 z0:=Tryz.sizeOf0
 v0:=Tryz.zeroValue0
 t3:=Tryz.underlying3
 a3:=Tryz.isAgg3
 z3:=Tryz.sizeOf3
 v3:=Tryz.zeroValue3
 t9:=Tryz.underlying9
 a9:=Tryz.isAgg9
 z9:=Tryz.sizeOf9
 v9:=Tryz.zeroValue9
 t37:=Tryz.underlying22
 a37:=Tryz.isAgg22
 z37:=Tryz.sizeOf22
 v37:=Tryz.zeroValue22
 t70:=Tryz.underlying214
 a70:=Tryz.isAgg214
 z70:=Tryz.sizeOf214
 v70:=Tryz.zeroValue214
 t72:=Tryz.underlying216
 a72:=Tryz.isAgg216
 z72:=Tryz.sizeOf216
 v72:=Tryz.zeroValue216
 t127:=Tryz.underlying263
 a127:=Tryz.isAgg263
 z127:=Tryz.sizeOf263
 v127:=Tryz.zeroValue263}
theorem Tryz.bj:Builder.Extra Tryz.prog Tryz.fp:={
 sizeBuilder:=Yr
 liesBuilder:=Yr
 t5:=Tryz.underlying5
 a5:=Tryz.isAgg5
 z5:=Tryz.sizeOf5
 v5:=Tryz.zeroValue5
 infoByte:=Yr
 cellsByte:=Yr
 sizeByte:=Yr
 neB5:=by decide}
theorem Tryz.Builder_String_any(B b:Nat)(l:List UInt8)(w:Zh)(h:Lib.IsBuilder 216 5 B b (Lib.byteCells l) w)(a:B<=w.1.size):
 Calls Tryz.prog 166 #[Yy b] w λe c=>e=C1 (C0 ⟨ee l⟩)/\bg B w c:=
 Any.Builder_String_any Tryz.lays169 Tryz.bj B b l w h a
namespace YtfmeclmjdpbacaaGreatDoor
open Go.ChangeShapes Go.WideShapes Go.ChangeAt
theorem JT{B b:Nat}{d:Zj}{w:Zh}(h:Lib.IsBuilder 216 5 B b d w):
 Calls Tryz.prog 206 #[Yy b] w λe a=>e=C1 (.tuple #[])/\Lib.BuilderAt 216 5 B b (Yy b) d a/\bg B w a:=by
 have X:=Tryz.bj;have⟨j,c,f⟩:=Option.map_eq_some_iff.1 X.sizeBuilder;rcases h with h|h
 .obtain⟨g,a,i⟩:=h.cell0,h.shape,h.frozen0;go_enter Tryz.func206,Tryz.ntmps206;go_wp2;rw[Lib.run_to_unsafe w ⟨b,0,an⟩ Tryz.underlying214 Tryz.underlying209 c (by rw[f];decide) a (Nat.zero_lt_succ 1)];simp only[Result.andThen];rw[Oper.upon_value];go_wp2;rw[run_callFunc_extern Tryz.func233 Yr Yr Yr (e:=Extern.AbiNoEscape.same) Yr];rw[Lib.run_noEscape];simp only[Result.andThen];rw[Oper.upon_value];go_wp2;rw[Lib.run_from_unsafe w ⟨b,0,an⟩ Tryz.underlying209 Tryz.underlying214 c a X.liesBuilder];simp only[Result.andThen];rw[Oper.upon_value];go_wp2;go_end0;exact⟨rfl,h.used _,(Below.refl B w).setCell (p:=⟨b,0,an⟩) h.1 _⟩
 have g:=h.cell0;go_enter Tryz.func206,Tryz.ntmps206;go_wp2;rw[Lib.run_neq_ptr_same w _ Tryz.underlying214 c];go_wp2;go_end0;exact⟨rfl,h,Below.refl B _⟩
theorem FH{B b:Nat}{i:Zj}(c:Int){w:Zh}(h:Lib.IsBuilder 216 5 B b i w)(hlen:ed i+1<=140737488355328)(O:B<=w.1.size):
 Calls Tryz.prog 163 #[Yy b,.int .u8 c] w λe a=>e=C1 .nilIface/\Lib.IsBuilder 216 5 B b (i++[.int .u8 c]) a/\bg B w a:=by
 have X:=Tryz.bj;have⟨L,J,F,G,H⟩:=info_parts X.infoByte;go_enter Tryz.func163,Tryz.ntmps163;go_wp2_with (go_at_call 206;refine(JT h).ah ?_);rintro e q ⟨rfl,I,r⟩;obtain⟨y,v,n,d,E⟩:=I;have c1:eh q (Zd b 1)=ai v:=by rw[Lib.cell_of_heap n];rfl
 go_wp2_with (at_builtin;refine wpList_append_own _ rfl _ _ 22 rfl B 5 L (.int .u8 0) 1 1 Tryz.underlying22 J F G H rfl Yq _ _ _ rfl (d.alloc _) ⟨q.1.size,0,an⟩ 1 1 [.int .u8 c] rfl rfl ?c1 ?c2 ?c3 ?c4 ?c5 ?_)
 case c1=>
  intro j u o
  match j,o with
  |0,o=>simp at o;subst o;simp[Addr.add]
 case c2=>intro u z;simp at z;subst z;rfl
 case c3=>unfold eo;omega
 case c4=>omega
 case c5=>have:=r.size;simp;omega
 intro M C f a _;have D:b<q.1.size:=by
  rcases B0 b q.1.size with s|s
  .exact s
  simp[Array.getElem?_eq_none s]at n
 have m:C.1[b]?=ai (bs #[Yy b,v] 216 (0,0)):=by rw[a.block b Yt (λe=>E e.symm),Lib.alloc_old _ _ _ D];exact n
 have P:eh C (Zd b 1)=ai v:=by rw[Lib.cell_of_heap m];rfl
 have Q:=Lib.frozen_of_heap m 1;obtain⟨x,A,l,rfl⟩:∃x A l,M=Cx x A l:=by
  rcases f.2 with⟨t,_⟩|⟨g,l,N,t,_⟩
  .exact⟨_,_,_,t⟩
  exact⟨_,_,_,t⟩
 go_wp2;go_ret;refine⟨rfl,ct ?_,?_⟩
 .exact Lib.BuilderAt.put (T:=216) (e:=5) y m (bs':=i++[.int .u8 c]) Yt X.neB5
 exact((r.alloc Yv _).grown a Yt (λk K=>(d.lt k K).1)).setCell (p:=⟨b,1,an⟩) y _
theorem DT{B b:Nat}{f:Zj}(s:Zi){w:Zh}(h:Lib.IsBuilder 216 5 B b f w)(hlen:ed f+s.size<=140737488355328)(L:B<=w.1.size):
 Calls Tryz.prog 164 #[Yy b,C0 s] w λe a=>e=C1 (.tuple #[Zg s.size,.nilIface])/\Lib.IsBuilder 216 5 B b (f++Lib.byteCells s.data.toList) a/\bg B w a:=by
 have X:=Tryz.bj;have⟨I,G,C,D,E⟩:=info_parts X.infoByte;go_enter Tryz.func164,Tryz.ntmps164;go_wp2_with (go_at_call 206;refine(JT h).ah ?_);rintro e q ⟨rfl,F,m⟩;obtain⟨t,v,l,d,A⟩:=F;have M:eh q (Zd b 1)=ai v:=by rw[Lib.cell_of_heap l];rfl
 go_wp2_with (at_builtin;refine Lib.wpList_append_own_string _ rfl _ _ 22 9 rfl B 5 I Tryz.underlying22 Tryz.underlying9 G C D E _ _ _ rfl d s rfl ?c3 ?c4 ?c5 ?_)
 case c3=>unfold eo;omega
 case c4=>omega
 case c5=>have:=m.size;omega
 intro J x c a _;have z:b<q.1.size:=by
  rcases B0 b q.1.size with n|n
  .exact n
  simp[Array.getElem?_eq_none n]at l
 have j:x.1[b]?=ai (bs #[Yy b,v] 216 (0,0)):=by rw[a.block b z (λe=>A e.symm)];exact l
 have N:eh x (Zd b 1)=ai v:=by rw[Lib.cell_of_heap j];rfl
 have O:=Lib.frozen_of_heap j 1;obtain⟨r,u,i,rfl⟩:∃r u i,J=Cx r u i:=by
  rcases c.2 with⟨o,_⟩|⟨g,i,K,o,_⟩
  .exact⟨_,_,_,o⟩
  exact⟨_,_,_,o⟩
 go_wp2
 go_ret2
 refine⟨rfl,ct ?_,?_⟩
 .have y:Lib.strCells s=Lib.byteCells s.data.toList:=rfl;rw[<-y];exact Lib.BuilderAt.put (T:=216) (e:=5) t j (bs':=f++Lib.strCells s) (by simpa [Lib.strCells_length]using c) X.neB5
 exact(m.grown a Yv (λk H=>(d.lt k H).1)).setCell (p:=⟨b,1,an⟩) t _
end YtfmeclmjdpbacaaGreatDoor
end Go.Proofs
namespace Go.Proofs.YtfmeclmjdpbacaaGreatDoor
open ChangeShapes WideShapes ChangeAt RowKit _root_.Go.Proofs.Tryz List World Value
def flat(ss:Zl):List UInt8:=ss.flatMap (fun s=>s.data.toList)
theorem TU(a:Zl)(k:Nat)(s:Zi)(h:a[k]?=ai s):flat (a.take (k+1))=flat (a.take k)++s.data.toList:=by obtain⟨b,rfl⟩:=Zw h;unfold flat;rw[Zu b,flatMap_append];simp
theorem De(a:Zl):ed (flat a)=bz a:=by
 induction a with
 |nil=>rfl
 |cons s r ih=>
  unfold flat bz at *
  rw[flatMap_cons,Am,ih];simp
def Bu(t:Zi)(ss:Zl):List UInt8:=UInt8.ofNat (ed ss)::(flat ss++t.data.toList)
theorem TV{c:Int}{b:Zl}(h:Ek c b=ay){i:Nat}{s:Zi}(a:b[i]?=ai s):(s.size:Int)=c:=by unfold Ek at h;rw[all_eq_true]at h;have d:=(Zw a).1;have:=h i Yt;unfold Gu at this;rw[a]at this;simp at this;exact this.1
theorem Sn(a:Zl)(n:Nat)(h:∀s∈a,s.size=n):bz a=ed a *n:=by
 induction a with
 |nil=>simp[bz]
 |cons s r ih=>
  have b:=h s Yu;have c:=ih (λs d=>h s (by simp[d]));unfold bz at *
  rw[map_cons,sum_cons,c,b,length_cons,Nat.add_mul,Nat.one_mul,Nat.add_comm]
structure FO (t:Zi) (ss:Zl) (wd:Int):Prop where
 lo:1<=wd
 hi:wd<=8
 Q:t.size<=2000
 C:ed ss<=30
 all:Ek wd ss=ay
theorem Bs{t:Zi}{a:Zl}{b:Int}(h:AL t a b=ay):FO t a b:=by unfold AL at h;simp at h;exact⟨h.1.1,h.1.2,h.2.1,h.2.2.1,h.2.2.2⟩
theorem FO.size{t:Zi}{ss:Zl}{a:Int}(h:FO t ss a){i:Nat}{s:Zi}(b:ss[i]?=ai s):(s.size:Int)=a:=TV h.all b
theorem FO.bz{t:Zi}{a:Zl}{b:Int}(h:FO t a b):bz a=ed a *b.toNat:=by refine Sn a _ λs d=> ?_;have⟨i,c⟩:=A3 d;have:=h.size c;omega
theorem FO.bu{t:Zi}{a:Zl}{b:Int}(h:FO t a b):YtfmeclmjdpbacaaGreatDoor.bz a<=240:=by have c:=h.bz;have d:ed a *b.toNat<=30 *8:=Nat.mul_le_mul h.C (C8 h.hi);omega
theorem NE:(prog.info? 5).map (λi=>(i.zero,i.size,i.bytes))=ai (ai (.int .u8 0),1,1):=Yr
theorem NF(n:Nat)(h:n<=30):int .u8 (n:Int)=.int .u8 ((UInt8.ofNat n).toNat:Int):=by
 have:(UInt8.ofNat n).toNat=n:=Yt;rw[this]
theorem NG(a:Zl)(k:Nat)(s:Zi)(h:a[k]?=ai s)(c:UInt8):
 Lib.byteCells (c::flat (a.take k))++Lib.strCells s=Lib.byteCells (c::flat (a.take (k+1))):=by
 rw[TU a k s h,Lib.strCells_eq,<-Lib.byteCells_append];rfl
theorem NH(t:Zi)(a:Zk)(n:Nat)(d:Zl)(N:Int)(w:Zh)(o:Ad w w.1.size a d)(E:AL t d N=ay):
 D4 43 #[ca #[C0 t,Cx a (ed d) n],Zg N] w λe f=>e=C1 (C0 ⟨ee (Bu t d)⟩)/\Zz w f:=by
 have L:=Bs E;obtain⟨zC,U,O,S,R,F,G,H⟩:=L.bu,L.C,L.Q,info_parts NE;have D:bg w.1.size w (w.alloc (bs #[C0 t,Cw a d n] 48)):=Zy;delta D4;go_in;go_wp2_with fail;refine(EQ t n N (o.U D) Yv Yo).ah ?_;rintro e u ⟨rfl,v⟩;rw[E];have⟨zE,zH⟩:=YP v;have M:=v.size;simp at M;go_wp2;have r:ej (u.alloc (bs #[.int .u8 (ed d)] 5)) (w.1.size+1) 5 1 (Yz u.1.size 1 1) 1 (Lib.byteCells (UInt8.ofNat (ed d)::flat (d.take 0))):=by have:=ownsRow_lit (base:=w.1.size+1) (e:=5) (size:=1) u #[.int .u8 (ed d)] 1 M (by simp[eo]) rfl;simpa [Lib.byteCells,flat,NF (ed d) U]using this
 have q:bg (w.1.size+1) (w.alloc (bs #[C0 t,Cw a d n] 48)) (u.alloc (bs #[.int .u8 (ed d)] 5)):=by have:=v.alloc (C9 M) (bs #[.int .u8 (ed d)] 5);simpa using this
 go_loopw [5,6] (λf i wr=>∃(k g c:Nat),k<=ed d/\i=Zg k/\f=Yz g (1+bz (d.take k)) c/\
  ej wr (w.1.size+1) 5 1 (Yz g (1+bz (d.take k)) c) (1+bz (d.take k)) (Lib.byteCells (UInt8.ofNat (ed d)::flat (d.take k)))/\
  bg (w.1.size+1) (w.alloc (bs #[C0 t,Cw a d n] 48)) wr) (λ_ i _=>ed d -(intOf i).toNat)
 case atStart=>exact⟨0,u.1.size,1,Aw _,rfl,by simp[bz],by simpa [bz]using r,q⟩
 obtain⟨k,g,c,B,rfl,rfl,l,h⟩:=hrel;have zB:eh wr (Zd (w.1.size) 1)=ai (Cw a d n):=by rw[h.cell (p:=⟨w.1.size,1,an⟩) Yu];simp
 have i:=h.size;simp at i;have zA:=bu d k;by_cases hlt:k<ed d
 .obtain⟨b,I,ha,V,hc⟩:=o.at hlt;subst ha;have z:Hid (d[k]?=ai d[k]):=Zv hlt;have zF:eh wr (Zd b (I+k))=ai (C0 d[k]):=by rw[h.cell (p:=⟨b,I+k,an⟩) Yt,cell?_alloc_past _ _ _ V];exact hc k _ z
  obtain⟨y,X,C⟩:=Yw (ND d k _ z),Yw (NG d k _ z (UInt8.ofNat (ed d))),bu d (k+1);rw[y.o]at C;generalize d[k]=s at *
  go_wp2_with (at_builtin;refine Lib.wpList_append_own_string _ rfl _ _ 22 9 rfl (w.1.size+1) 5 S underlying22 underlying9 R F G H _ _ _ rfl l s rfl ?c3 ?c4 ?c5 ?_)
  case c3=>unfold eo;omega
  case c4=>omega
  case c5=>omega
  intro v' T f m _;have⟨K,J,A,Y,Z⟩:=f.form Yv;subst A;have x:=h.grown m Yv (λk B=>(l.lt k B).1);rw[X.o]at f;go_wp2;refine⟨⟨k+1,K,J,Yv,Yn,?_,?_,x⟩,Ys⟩
  .rw[y.o,Nat.add_assoc]
  rw[y.o,<-Nat.add_assoc];exact f
 have Q:eh wr (Zd (w.1.size) 0)=ai (C0 t):=by rw[h.cell (p:=⟨w.1.size,0,an⟩) Yu];simp
 rw[Zt Yv]at l |-;go_wp2_with (at_builtin;refine Lib.wpList_append_own_string _ rfl _ _ 22 9 rfl (w.1.size+1) 5 S underlying22 underlying9 R F G H _ _ _ rfl l t rfl ?c3 ?c4 ?c5 ?_)
 case c3=>unfold eo;omega
 case c4=>omega
 case c5=>omega
 intro v' T f m _;have⟨K,J,A,Y,Z⟩:=f.form Yv;subst A;have x:=h.grown m Yv (λk B=>(l.lt k B).1);have W:Lib.byteCells (UInt8.ofNat (ed d)::flat d)++Lib.strCells t=Lib.byteCells (Bu t d):=by rw[Lib.strCells_eq,<-Lib.byteCells_append];rfl
 rw[W]at f;have hlen:1+bz d+t.size=ed (Bu t d):=by have:=De d;simp[Bu,this];omega
 rw[hlen]at f |-;have zG:=run_convert_bytes_back (P:=prog) T 22 9 5 ⟨K,0,an⟩ J (Bu t d) underlying22 underlying5 underlying9 (λj hj=>f.cells rfl j _ (by simp[Lib.byteCells,hj]));go_wp2;go_ret;refine⟨rfl,?_⟩;exact D.ag (x.ah Yv)
theorem VP(t:Zi){a:Zk}(c:Nat){b:Zl}(g:Int){w:Zh}(d:Ad w w.1.size a b)(i:AL t b g=ba)(j:ed b<=1048576)(k:t.size<=eo):
 D4 43 #[ca #[C0 t,Cx a (ed b) c],Zg g] w λe f=>e=C1 (C0 ByteArray.empty)/\Zz w f:=by
 have f:bg w.1.size w (w.alloc (bs #[C0 t,Cw a b c] 48)):=Zy;delta D4;go_in;go_wp2_with fail;refine(EQ t c g (d.U f) j k).ah ?_;rintro e l ⟨rfl,h⟩;rw[i];go_wp2;go_ret;exact⟨rfl,f.ag (h.ah Yu)⟩
theorem VQ(t:Zi){a:Zk}(c:Nat){b:Zl}(g:Int){w:Zh}(d:Ad w w.1.size a b)(h:AL t b g=ba)(i:ed b<=1048576)(j:t.size<=eo):
 D4 165 #[ca #[C0 t,Cx a (ed b) c],Zg g] w λe f=>e=C1 (C0 ByteArray.empty)/\Zz w f:=by
 have f:bg w.1.size w (w.alloc (bs #[C0 t,Cw a b c] 48)):=Zy;delta D4;go_in;go_wp2_with fail;refine(EP t c g (d.U f) i j).ah ?_;rintro e k ⟨rfl,rfl⟩;rw[h];go_wp2;go_ret;exact⟨rfl,f.alloc Yu _⟩
theorem NI(t:Zi)(a:Zk)(g:Nat)(c:Zl)(G:Int)(w:Zh)(l:Ad w w.1.size a c)(C:AL t c G=ay):
 D4 165 #[ca #[C0 t,Cx a (ed c) g],Zg G] w λe d=>e=C1 (C0 ⟨ee (Bu t c)⟩)/\Zz w d:=by
 have F:=Bs C;obtain⟨zA,I,H⟩:=F.bu,F.C,F.Q;have A:bg w.1.size w (w.alloc (bs #[C0 t,Cw a c g] 48)):=Zy;have⟨W,d⟩:=Ag ((w.alloc (bs #[C0 t,Cw a c g] 48)).alloc (bs #[C0 t,Cw a c g] 48));have z:bg w.1.size w W:=by rw[d];exact A.alloc Yu _
 have L:W.1.size=w.1.size+1+1:=by rw[d];simp
 have J:eh W (Zd (w.1.size) 0)=ai (C0 t):=by rw[d];simp
 have K:eh W (Zd (w.1.size) 1)=ai (Cw a c g):=by rw[d];simp
 have n:=l.A z;have X:=Yw d;delta D4;go_in;go_wp2_with fail;refine(EP t g G (l.U A) Yv Yo).ah ?_;rintro e o ⟨rfl,D⟩;rw[<-X.o]at D;subst D;clear d;rw[C];have h:=Lib.fresh_isBuilder 216 5 o;have B:bg o.1.size o (o.alloc (bs #[.pointer an,Zb] 216)):=Zy;rw[L]at h B;go_wp2_with fail;refine(FH _ h Yu Yt).ah ?_;rintro e w2 ⟨rfl,j,M⟩;have r:=B.ag M;have U:eh w2 (Zd (w.1.size) 1)=ai (Cw a c g):=(r.cell (p:=⟨w.1.size,1,an⟩) Yt).ag K;have S:[]++[int .u8 (ed c:Int)]=Lib.byteCells (UInt8.ofNat (ed c)::flat (c.take 0)):=by simp[Lib.byteCells,flat,NF (ed c) I]
 rw[S]at j;go_wp2;go_loopw [20] (λi wr=>∃(k:Nat),k<=ed c/\i=Zg k/\Lib.IsBuilder 216 5 (w.1.size+1+1) (w.1.size+1+1) (Lib.byteCells (UInt8.ofNat (ed c)::flat (c.take k))) wr/\
  bg (w.1.size+1+1) o wr) (λi _=>ed c -(intOf i).toNat)
 case atStart=>exact⟨0,Aw _,rfl,j,r⟩
 obtain⟨k,hk,rfl,h,d⟩:=hrel;obtain⟨zC,x,Q⟩:=d.size,bu c k,De (c.take k);have u:Hid (ed (Lib.byteCells (UInt8.ofNat (ed c)::flat (c.take k)))=1+bz (c.take k)):=by show _=_;rw[Lib.byteCells_length,length_cons,Q];omega
 by_cases hlt:k<ed c
 .obtain⟨b,E,Y,r,Z⟩:=n.at hlt;subst Y;have v:Hid (c[k]?=ai c[k]):=Zv hlt;have zB:eh wr (Zd b (E+k))=ai (C0 c[k]):=by rw[d.cell (p:=⟨b,E+k,an⟩) Yt];exact Z k _ v
  obtain⟨O,R,y⟩:=Yw (ND c k _ v),Yw (NG c k _ v (UInt8.ofNat (ed c))),bu c (k+1);rw[O.o]at y;generalize c[k]=s at *
  go_wp2_with fail;refine(DT s h (by rw[u.o];omega) Yv).ah ?_;rintro e i ⟨rfl,f,q⟩;rw[<-Lib.strCells_eq,R.o]at f;have m:=d.ag q;go_wp2;exact⟨⟨k+1,Yv,Yn,f,m⟩,Ys⟩
 have T:eh wr (Zd (w.1.size) 0)=ai (C0 t):=(d.cell (p:=⟨w.1.size,0,an⟩) Yt).ag J;rw[Zt Yv]at h u x;go_wp2_with fail;refine(DT t h (by rw[u.o];omega) Yv).ah ?_;rintro e i ⟨rfl,f,q⟩;have P:Lib.byteCells (UInt8.ofNat (ed c)::flat c)++Lib.byteCells t.data.toList=Lib.byteCells (Bu t c):=by rw[<-Lib.byteCells_append];rfl
 rw[P]at f;have m:=d.ag q;have V:=m.size;go_wp2_with fail;refine(Tryz.Builder_String_any (w.1.size+1+1) (w.1.size+1+1) _ _ f Yv).ah ?_;rintro e w4 ⟨rfl,N⟩;go_wp2;go_ret;exact⟨rfl,z.ag ((m.ag N).ah Yv)⟩
def AH(t:Zi)(ss:Zl)(wd:Int):Zi:=if AL t ss wd=ay then ⟨ee (Bu t ss)⟩else ByteArray.empty
theorem Kh(t:Zi){a:Zk}(f:Nat){b:Zl}(c:Int){w:Zh}(d:Ad w w.1.size a b)(g:ed b<=1048576)(h:t.size<=eo):
 D4 43 #[ca #[C0 t,Cx a (ed b) f],Zg c] w λe i=>e=C1 (C0 (AH t b c))/\Zz w i:=by
 cases hok:AL t b c with
 |true=>rw[show AH t b c=⟨ee (Bu t b)⟩from by unfold AH;rw[if_pos hok]];exact NH t a f b c w d hok
 |false=>rw[show AH t b c=ByteArray.empty from by unfold AH;rw[if_neg Yt]];exact VP t f c d hok g h
theorem Ki(t:Zi)(a:Zk)(f:Nat)(b:Zl)(c:Int)(w:Zh)(d:Ad w w.1.size a b)(g:ed b<=1048576)(h:t.size<=eo):
 D4 165 #[ca #[C0 t,Cx a (ed b) f],Zg c] w λe i=>e=C1 (C0 (AH t b c))/\Zz w i:=by
 cases hok:AL t b c with
 |true=>rw[show AH t b c=⟨ee (Bu t b)⟩from by unfold AH;rw[if_pos hok]];exact NI t a f b c w d hok
 |false=>rw[show AH t b c=ByteArray.empty from by unfold AH;rw[if_neg Yt]];exact VQ t f c d hok g h
theorem QR{a:Int}:0<=IntKind.u64.wrap a/\IntKind.u64.wrap a<18446744073709551616:=by simp[IntKind.wrap,IntKind.bits,IntKind.signed];omega
def RG(v:Int)(b:UInt8):Int:=IntKind.u64.wrap (bits BinOp.xor IntKind.u64 v (IntKind.u64.wrap b.toNat) *1099511628211)
def Fv(l:List UInt8):Int:=l.foldl RG 14695981039346656037
theorem RH(l:List UInt8):0<=Fv l/\Fv l<18446744073709551616:=by
 unfold Fv;rcases l.eq_nil_or_concat with rfl|⟨r,b,rfl⟩
 .simp
 simp only[concat_eq_append,foldl_append,foldl_cons,foldl_nil];exact QR
theorem NJ(s:Zi)(k:Nat)(h:k<s.size):Fv (s.data.toList.take (k+1))=RG (Fv (s.data.toList.take k)) s[k]:=by rw[Zu (C9 h)];unfold Fv;rw[foldl_append];rfl
def El(v:Int):Nat->List Int
 |0=>[]
 |k+1=>(v/256^k%256)::El v k
theorem DE(v:Int)(k:Nat):ed (El v k)=k:=by
 induction k with
 |zero=>rfl
 |succ k ih=>simp[El,ih]
theorem QS(v:Int)(k:Nat):∀i,i<k->(El v k)[i]?=ai (v/256^(k -1 -i)%256):=by
 induction k with
 |zero=>intro i h;omega
 |succ k ih=>
  intro i h
  match i with
  |0=>simp[El]
  |i+1=>rw[El,getElem?_cons_succ,ih i Yv,show k -1 -i=k+1 -1 -(i+1)from by omega]
def Ht(v:Int)(k:Nat):Zj:=(El v k).map (Value.int .u8)
theorem Mh(v:Int)(k:Nat):ed (Ht v k)=k:=by simp[Ht,DE]
theorem VR(v:Int)(k:Nat):v/256^k/256=v/256^(k+1):=by rw[Int.ediv_ediv_of_nonneg (Int.pow_nonneg Yq),Int.pow_succ]
theorem Acg(v:Int)(k:Nat)(a:0<=v)(h:v<18446744073709551616):0<=v/256^k/\v/256^k<18446744073709551616:=by have b:(0:Int)<256^k:=Int.pow_pos Yq;exact⟨Int.ediv_nonneg a (Int.le_of_lt b),Int.lt_of_le_of_lt (Int.ediv_le_self _ a) h⟩
def CV(l:List UInt8)(n:Nat):Zi:=strOfNums (El (Fv l) n)
theorem infoByte:(prog.info? 5).map (λi=>(i.zero,i.size,i.bytes))=ai (ai (.int .u8 0),1,1):=Yr
theorem LJ(s:Zi)(h:Int)(w:Zh)(B:s.size<=eo)(H:1<=h)(I:h<=8):
 D4 58 #[C0 s,Zg h] w λe a=>e=C1 (C0 (CV s.data.toList h.toNat))/\Zz w a:=by
 unfold eo at B;have⟨D,n,r,t,x⟩:=info_parts infoByte;delta D4;go_in;go_wp2
 go_loop [5,6] (λv i=>∃(k:Nat),k<=s.size/\i=Zg k/\v=.int .u64 (Fv (s.data.toList.take k))) (λ_ i=>s.size -(intOf i).toNat)
 case atStart=>exact⟨0,Aw _,rfl,rfl⟩
 obtain⟨k,o,rfl,rfl⟩:=hrel;by_cases hlt:k<s.size
 .have HS:=Yw (NJ s k hlt);go_wp2;exact⟨⟨k+1,Yv,Yn,by rw[HS.o];rfl⟩,Ys⟩
 have A:Hid (Fv (s.data.toList.take k)=Fv s.data.toList):=by show _=_;rw[Zt Yt]
 have l:=RH (s.data.toList.take k);generalize Fv (s.data.toList.take k)=V at *
 go_wp2;go_loopw [5,7,8] (λv a i wr=>∃(k:Nat) (g c:Nat),k<=h/\i=Zg k/\v=.int .u64 (V/256^k)/\a=Yz g k c/\ej wr w.1.size 5 1 (Yz g k c) k (Ht V k)/\Zz w wr/\w.1.size<=wr.1.size) (λ_ _ i _=>(h -intOf i).toNat)
 case atStart=>exact⟨0,_,_,Yv,rfl,Yu,rfl,ownsRow_lit w #[] 0 (Zx) Yv rfl,Zy,Yu⟩
 obtain⟨j,g,c,J,rfl,rfl,rfl,f,d,m⟩:=hrel;by_cases hlt2:j<h
 .have E:=Acg V j l.1 l.2;go_wp2_with (first
   |(at_builtin;refine wpList_append_own _ rfl _ _ 22 rfl w.1.size 5 D (.int .u8 0) 1 1 underlying22 n r t x rfl Yq _ 1 [.int .u8 (V/256^j%256)] rfl ?c0 ⟨g,0,an⟩ j c (Ht V j) rfl (by rw[Mh];omega) ?c1 ?c2 ?c3 ?c4 ?c5 ?_)
   |go_in)
  case c0=>exact ownsRow_lit wr _ 1 m (by simp[eo]) rfl
  case c1=>exact(f.alloc _).cells rfl
  case c2=>intro u C;obtain⟨_,_,rfl⟩:=mem_map.1 C;rfl
  case c3=>unfold eo;omega
  case c4=>omega
  case c5=>simp;omega
  intro K L a b _;have⟨z,y,q,F,G⟩:=a.form Yv;subst q;have p:=(d.alloc m _).grown b Yt (by intro k o;simp[ownBlock]at o;omega);rw[Nat.add_comm 1 j]at a |-;clear f d b;go_wp2;refine⟨⟨j+1,z,y,Yv,Yn,by rw[<-VR],rfl,a,p,Yv⟩,Ys⟩
 obtain rfl:(j:Int)=h:=Yv;have b:=run_convert_bytes_arg (P:=prog) wr 22 5 underlying22 underlying5 g 0 j c (El V j) (DE V j) (λi n=>by
  rw[Ax,f.cellAt i Yv];have:=DE V j;simp[Ht,getD,Zv (show i<ed (El V j) by omega)]) 9 underlying9
 go_wp2;go_ret;refine⟨?_,d⟩;unfold CV;rw[<-A.o];rfl
theorem ZQ{k:IntKind}{a b:Int}(h:a=b):Ending.returned (.int k a)=.returned (.int k b):=K9
theorem ZR(s:Zi)(w:Zh)(a:s.size<=eo):
 Calls prog 236 #[.string s] w fun e b=>e=.returned (.int .u64 (Fv s.data.toList))/\b=w:=by
 unfold eo at a;go_in;go_wp2
 go_loop [3,7] (fun v i=>∃(k:Nat),k<=s.size/\i=Zg k/\v=.int .u64 (Fv (s.data.toList.take k))) (fun _ i=>s.size -(intOf i).toNat)
 case atStart=>exact⟨0,Nat.zero_le _,rfl,rfl⟩
 obtain⟨k,b,rfl,rfl⟩:=hrel;by_cases hlt:k<s.size
 .have HS:=Yw (NJ s k hlt);go_wp2;exact⟨⟨k+1,Yv,Yn,by rw[HS.o];rfl⟩,Ys⟩
 go_wp2;go_ret;exact⟨ZQ (by rw[Zt Yt]),rfl⟩
def Mi(v wd:Int)(j:Nat):Int:=v/2^(8 *(wd -1 -(j:Int))).toNat%256
def Dp(v wd:Int)(k j:Nat):Int:=if j<k then Mi v wd j else 0
def Fg(v wd:Int)(k:Nat):Array Value:= #[.int .u8 (Dp v wd k 0),.int .u8 (Dp v wd k 1),.int .u8 (Dp v wd k 2),.int .u8 (Dp v wd k 3),.int .u8 (Dp v wd k 4),.int .u8 (Dp v wd k 5),.int .u8 (Dp v wd k 6),.int .u8 (Dp v wd k 7)]
theorem Dy(v a:Int)(k j:Nat)(h:j<8):(Fg v a k)[j]?=ai (.int .u8 (Dp v a k j)):=by
 match j,h with
 |0,_=>rfl|1,_=>rfl|2,_=>rfl|3,_=>rfl|4,_=>rfl|5,_=>rfl|6,_=>rfl|7,_=>rfl
theorem Sp(v a:Int):Fg v a 0= #[.int .u8 0,.int .u8 0,.int .u8 0,.int .u8 0,.int .u8 0,.int .u8 0,.int .u8 0,.int .u8 0]:=by simp[Fg,Dp]
theorem TW(v a:Int)(k:Nat)(h:k<8):(Fg v a k).setIfInBounds k (.int .u8 (Mi v a k))=Fg v a (k+1):=by
 match k,h with
 |0,_|1,_|2,_|3,_|4,_|5,_|6,_|7,_=>simp[Fg,Dp]
theorem TY(v:Int)(k j:Nat)(h:j<k):Mi v k j=v/256^(k -1 -j)%256:=by unfold Mi;rw[show(8 *((k:Int) -1 -(j:Int))).toNat=8 *(k -1 -j)from by omega,Int.pow_mul];rfl
theorem VS(v a:Int)(w:Zh)(m:1<=a)(n:a<=8)(_hv0:0<=v)(_hv:v<18446744073709551616):
 D4 235 #[.int .u64 v,Zg a] w λe b=>e=C1 (ca (Yk (Dp v a a.toNat)))/\b=(w.alloc (bs (Fg v a a.toNat) 160)).alloc (bs (Fg v a a.toNat) 160):=by
 delta D4;go_in;go_wp2;go_loopw [8] (λi wr=>∃k:Nat,k<=a/\i=Zg k/\wr=(w.alloc (Obj.cells
  #[int IntKind.u8 0,int IntKind.u8 0,int IntKind.u8 0,int IntKind.u8 0,
   int IntKind.u8 0,int IntKind.u8 0,int IntKind.u8 0,int IntKind.u8 0]
  160)).alloc (bs (Fg v a k) 160)) (λi _=>(a -intOf i).toNat)
 case atStart=>exact⟨0,Yv,rfl,by rw[Sp]⟩
 obtain⟨k,p,rfl,rfl⟩:=hrel;by_cases hlt:k<a
 .have o:=Dy v a k k Yv;go_wp2;refine⟨⟨k+1,Yv,Yn,?_⟩,Ys⟩;have:=TW v a k Yv;unfold Mi at this;rw[this]
 obtain rfl:(k:Int)=a:=Yv;have b:=Dy v k k 0 Yv;have c:=Dy v k k 1 Yv;have d:=Dy v k k 2 Yv;have f:=Dy v k k 3 Yv;have g:=Dy v k k 4 Yv;have h:=Dy v k k 5 Yv;have j:=Dy v k k 6 Yv;have l:=Dy v k k 7 Yv;go_wp2;exact Co (ca (Fg v k k)) (by simp[results,results235,go_sem];rfl) ⟨rfl,rfl⟩
theorem VT(s:Zi)(a:Int)(w:Zh)(k:s.size<=eo)(f:1<=a)(h:a<=8):
 D4 213 #[C0 s,Zg a] w λe d=>e=C1 (C0 (CV s.data.toList a.toNat))/\Zz w d:=by
 have b:=RH s.data.toList;obtain⟨n,rfl⟩:∃n:Nat,a=n:=⟨a.toNat,Yv⟩;have j:∀(W:Zh) (g:Nat),g=W.1.size->Sem.run prog (convert 22 9 (Yz g n 8)) (W.alloc (Obj.cells (Fg (Fv s.data.toList) n n) 160))=.ok (C0 (CV s.data.toList n)) (W.alloc (Obj.cells (Fg (Fv s.data.toList) n n) 160)):=λW g c=>c▸
  run_convert_bytes_arg (P:=prog) _ 22 5 underlying22 underlying5 W.1.size 0 n 8 (El (Fv s.data.toList) n) (DE _ n) (λi c=>by
   rw[Ax,cell?_alloc_new,Dy _ _ _ _ Yv];simp only[getD,QS _ n i c,Option.getD_some];unfold Dp;rw[if_pos c,TY _ _ _ c]) 9 underlying9
 have c:(0:Int)<=n:=Yv
 unfold Fg at j;delta D4;go_in;go_wp2_with (first
  |(go_at_call 236;refine(ZR s _ k).ah ?_;rintro e d ⟨rfl,rfl⟩)
  |(go_at_call 235;refine(VS _ _ _ f h b.1 b.2).ah ?_;rintro e d ⟨rfl,rfl⟩)
  |go_in)
 go_ret;refine⟨rfl,?_⟩;exact(((Zy).alloc Yu _).alloc Yt _)
def Pr(b:UInt8):Bool:=bq ((33:Int)<=(b.toNat:Int)/\(b.toNat:Int)<=126)
def nameBytes(s:Zi):Bool:=s.data.toList.all Pr
def DG(s:Zi):Bool:=bq (1<=s.size/\s.size<=40)&&nameBytes s
theorem FW{s:Zi}{k:Nat}(a:k<s.size)(h:¬((33:Int)<=(s[k].toNat:Int)/\(s[k].toNat:Int)<=126)):nameBytes s=ba:=by unfold nameBytes;rw[all_eq_false];refine⟨s[k],?_,by unfold Pr;simpa using h⟩;exact mem_of_getElem (l:=s.data.toList) (i:=k) (h:=C9 a) rfl
theorem JU{s:Zi}(h:∀k (a:k<s.size),(33:Int)<=(s[k].toNat:Int)/\(s[k].toNat:Int)<=126):nameBytes s=ay:=by unfold nameBytes;rw[all_eq_true];intro b c;obtain⟨k,a,rfl⟩:=getElem_of_mem c;exact decide_eq_true (h k (C9 a))
def Sq(s:Zi)(k:Nat):Prop:=∀i (hi:i<s.size),i<k->(33:Int)<=(s[i].toNat:Int)/\(s[i].toNat:Int)<=126
theorem NK{s:Zi}{k:Nat}(h:Sq s k)(f:k<s.size)(b:(33:Int)<=(s[k].toNat:Int))(c:(s[k].toNat:Int)<=126):Sq s (k+1):=by
 intro i d e;rcases B0 i k with a|a
 .exact h i d a
 obtain rfl:i=k:=Yv;exact⟨b,c⟩
theorem TZ(s:Zi)(w:Zh)(m:s.size<=eo):
 D4 226 #[C0 s] w λe a=>e=C1 (ec (DG s))/\a=w:=by
 unfold eo at m;by_cases h1:1<=s.size
 case neg=>
  have b:bq ((s.size:Int)<1)=ay:=Yt;delta D4;go_in;go_wp2;go_ret;exact⟨AE I6,rfl⟩
 by_cases h2:s.size<=40
 case neg=>
  have b:bq ((s.size:Int)<1)=ba:=Yt;have g:bq ((40:Int)<(s.size:Int))=ay:=Yt;delta D4;go_in;go_wp2;go_ret;exact⟨AE I6,rfl⟩
 have b:bq ((s.size:Int)<1)=ba:=Yt;have g:bq ((40:Int)<(s.size:Int))=ba:=Yt;have j:Hid (bq (1<=s.size/\s.size<=40)=ay):=by show _=_;simp;omega
 delta D4;go_in;go_wp2
 go_loop [14] (λi=>∃k:Nat,k<=s.size/\i=Zg k/\Hid (Sq s k)) (λi=>s.size -(intOf i).toNat)
 case atStart=>exact⟨0,Aw _,rfl,λi _ h=>Yv⟩
 obtain⟨k,n,rfl,c⟩:=hrel;by_cases hlt:k<s.size
 .by_cases b1:(s[k].toNat:Int)<33
  .have d:bq ((s[k].toNat:Int)<33)=ay:=Yt;go_wp2;go_ret;exact⟨AE I0,rfl⟩
  have d:bq ((s[k].toNat:Int)<33)=ba:=Yt;by_cases b2:(126:Int)<(s[k].toNat:Int)
  .have f:bq ((126:Int)<(s[k].toNat:Int))=ay:=Yt;go_wp2;go_ret;exact⟨AE I0,rfl⟩
  have f:bq ((126:Int)<(s[k].toNat:Int))=ba:=Yt;have HU:=Yw (NK c hlt Yv Yv);go_wp2;exact⟨⟨k+1,Yv,Yn,HU⟩,Ys⟩
 have a:=JU (s:=s) (λi l=>c i l Yv);go_wp2;go_ret;exact⟨AE (by unfold DG;rw[a,j.o];rfl),rfl⟩
theorem Ua(s:Zi)(w:Zh)(g:s.size<=eo):
 D4 147 #[C0 s] w λe a=>e=C1 (ec (DG s))/\a=w:=by
 unfold eo at g;delta D4;go_in;go_wp2
 go_loop [3] (λi=>∃k:Nat,k<=s.size/\i=Zg k/\Hid (Sq s k)) (λi=>s.size -(intOf i).toNat)
 case atStart=>exact⟨0,Aw _,rfl,λi _ h=>Yv⟩
 obtain⟨k,j,rfl,b⟩:=hrel;by_cases hlt:k<s.size
 .by_cases b1:(s[k].toNat:Int)<33
  .have c:bq ((s[k].toNat:Int)<33)=ay:=Yt;go_wp2;go_ret;exact⟨AE I0,rfl⟩
  have c:bq ((s[k].toNat:Int)<33)=ba:=Yt;by_cases b2:(126:Int)<(s[k].toNat:Int)
  .have d:bq ((126:Int)<(s[k].toNat:Int))=ay:=Yt;go_wp2;go_ret;exact⟨AE I0,rfl⟩
  have d:bq ((126:Int)<(s[k].toNat:Int))=ba:=Yt;have HU:=Yw (NK b hlt Yv Yv);go_wp2;exact⟨⟨k+1,Yv,Yn,HU⟩,Ys⟩
 have a:=JU (s:=s) (λi f=>b i f Yv);by_cases h1:1<=s.size
 .go_wp2;go_ret;refine⟨AE ?_,rfl⟩;unfold DG;rw[a,Bool.and_true];simp[h1];omega
 have f:bq ((1:Int)<=(s.size:Int))=ba:=Yt;go_wp2;go_ret;exact⟨AE I6,rfl⟩
structure Kd where
 sum:Zi
 born:Int
 Q:Zi
 C:Zl
abbrev _root_.Go.Proofs.C5:=List Kd
structure Pd where
 name:Zi
 sum:Zi
abbrev _root_.Go.Proofs.C7:=List Pd
structure Ld where
 M:Int
 sum:Zi
 ci:Int
abbrev _root_.Go.Proofs.C6:=List Ld
def NL(w:Zh)(B:Nat)(b o:Nat)(k:Kd):Prop:=
 eh w (Zd b o)=ai (.string k.sum)/\eh w (Zd b (o+1))=ai (Zg k.born)/\eh w (Zd b (o+2))=ai (.string k.Q)/\
  ∃ra rc,eh w (Zd b (o+3))=ai (bx ra (ed k.C) rc)/\Ad w B ra k.C
def BH(w:Zh)(B:Nat)(a:Zk)(ks:List Kd):Prop:=
 ks=[]\/∃b off,a=ai ⟨b,off,an⟩/\b<B/\∀i k,ks[i]?=ai k->NL w B b (off+i *4) k
def Bd(w:Zh)(B:Nat)(a:Zk)(ps:List Pd):Prop:=
 ps=[]\/∃b off,a=ai ⟨b,off,an⟩/\b<B/\∀i p,ps[i]?=ai p->eh w (Zd b (off+i *2))=ai (.string p.name)/\eh w (Zd b (off+i *2+1))=ai (.string p.sum)
def Ba(w:Zh)(B:Nat)(a:Zk)(ls:List Ld):Prop:=
 ls=[]\/∃b off,a=ai ⟨b,off,an⟩/\b<B/\∀i l,ls[i]?=ai l->eh w (Zd b (off+i *3))=ai (Zg l.M)/\eh w (Zd b (off+i *3+1))=ai (.string l.sum)/\eh w (Zd b (off+i *3+2))=ai (Zg l.ci)
theorem NL.A{w d:Zh}{B b o:Nat}{k:Kd}(h:NL w B b o k)(c:bg B w d)(a:b<B):NL d B b o k:=by obtain⟨e,f,g,l,m,i,j⟩:=h;exact⟨(c.cell (p:=⟨b,o,an⟩) a).ag e,(c.cell (p:=⟨b,o+1,an⟩) a).ag f,(c.cell (p:=⟨b,o+2,an⟩) a).ag g,l,m,(c.cell (p:=⟨b,o+3,an⟩) a).ag i,j.A c⟩
theorem NL.mono{w:Zh}{B B' b o:Nat}{k:Kd}(h:NL w B b o k)(g:B<=B'):NL w B' b o k:=by obtain⟨a,c,d,i,j,e,f⟩:=h;exact⟨a,c,d,i,j,e,f.ah g⟩
abbrev NL.ah:=@NL.mono
theorem BH.A{w e:Zh}{B:Nat}{a:Zk}{d:C5}(h:BH w B a d)(j:bg B w e):BH e B a d:=by
 rcases h with h|⟨b,f,g,c,l⟩
 .exact cr h
 exact ct ⟨b,f,g,c,λi k m=>(l i k m).A j c⟩
theorem BH.mono{w:Zh}{B B':Nat}{a:Zk}{c:C5}(h:BH w B a c)(f:B<=B'):BH w B' a c:=by
 rcases h with h|⟨b,d,e,l,g⟩
 .exact cr h
 exact ct ⟨b,d,e,Yv,λi k j=>(g i k j).ah f⟩
abbrev BH.ah:=@BH.mono
theorem BH.at{w:Zh}{B:Nat}{a:Zk}{d:C5}(h:BH w B a d){i:Nat}(e:i<ed d):
 ∃b c,a=ai ⟨b,c,an⟩/\b<B/\∀i k,d[i]?=ai k->NL w B b (c+i *4) k:=by
 rcases h with h|h
 .subst h;simp at e
 exact h
theorem Bd.A{w l:Zh}{B:Nat}{a:Zk}{j:C7}(h:Bd w B a j)(e:bg B w l):Bd l B a j:=by
 rcases h with h|⟨b,d,m,c,f⟩
 .exact cr h
 exact ct ⟨b,d,m,c,λi k g=>⟨(e.cell (p:=⟨b,d+i *2,an⟩) c).ag (f i k g).1,(e.cell (p:=⟨b,d+i *2+1,an⟩) c).ag (f i k g).2⟩⟩
theorem Bd.mono{w:Zh}{B B':Nat}{a:Zk}{c:C7}(h:Bd w B a c)(i:B<=B'):Bd w B' a c:=by
 rcases h with h|⟨b,d,e,g,f⟩
 .exact cr h
 exact ct ⟨b,d,e,Yv,f⟩
abbrev Bd.ah:=@Bd.mono
theorem Bd.at{w:Zh}{B:Nat}{a:Zk}{d:C7}(h:Bd w B a d){i:Nat}(e:i<ed d):
 ∃b c,a=ai ⟨b,c,an⟩/\b<B/\∀i p,d[i]?=ai p->eh w (Zd b (c+i *2))=ai (C0 p.name)/\eh w (Zd b (c+i *2+1))=ai (C0 p.sum):=by
 rcases h with h|h
 .subst h;simp at e
 exact h
theorem Ba.A{w l:Zh}{B:Nat}{a:Zk}{j:C6}(h:Ba w B a j)(e:bg B w l):Ba l B a j:=by
 rcases h with h|⟨b,d,m,c,f⟩
 .exact cr h
 exact ct ⟨b,d,m,c,λi k g=>⟨(e.cell (p:=⟨b,d+i *3,an⟩) c).ag (f i k g).1,(e.cell (p:=⟨b,d+i *3+1,an⟩) c).ag (f i k g).2.1,(e.cell (p:=⟨b,d+i *3+2,an⟩) c).ag (f i k g).2.2⟩⟩
theorem Ba.mono{w:Zh}{B B':Nat}{a:Zk}{c:C6}(h:Ba w B a c)(i:B<=B'):Ba w B' a c:=by
 rcases h with h|⟨b,d,e,g,f⟩
 .exact cr h
 exact ct ⟨b,d,e,Yv,f⟩
abbrev Ba.ah:=@Ba.mono
theorem Ba.at{w:Zh}{B:Nat}{a:Zk}{d:C6}(h:Ba w B a d){i:Nat}(e:i<ed d):
 ∃b c,a=ai ⟨b,c,an⟩/\b<B/\∀i l,d[i]?=ai l->eh w (Zd b (c+i *3))=ai (Zg l.M)/\eh w (Zd b (c+i *3+1))=ai (C0 l.sum)/\eh w (Zd b (c+i *3+2))=ai (Zg l.ci):=by
 rcases h with h|h
 .subst h;simp at e
 exact h
def less(a b:Zi):Bool:=Op.bytesLess a.toList b.toList
def Sr(k:Kd)(wd:Int):Zi:=CV (AH k.Q k.C wd).data.toList wd.toNat
structure Ach (wd now given births:Int):Prop where
 jt:1<=wd
 wd2:wd<=8
 dv:0<=now
 now2:now<=1000000000
 cg:0<=given
 given2:given<=1000000000
 aj:0<=births
 births2:births<=1000000000
structure Afx (wd:Int) (ks:List Kd) (i:Nat) (k:Kd):Prop where
 ok:AL k.Q k.C wd=ay
 sum:k.sum=Sr k wd
 up:∀j p,i=j+1->ks[j]?=ai p->less p.sum k.sum=ay
structure Aci (births:Int) (ks:List Kd) (i:Nat) (k:Kd):Prop where
 lo:1<=k.born
 hi:k.born<=births
 new:∀j p,j<i->ks[j]?=ai p->p.born≠k.born
def As(ks:List Kd)(s:Zi):Prop:=∃u∈ks,u.sum=s
def YR(ks:List Kd)(k:Kd):Prop:=∀r∈k.C,∃u∈ks,u.sum=r/\u.born<k.born
structure Aep (ks:List Kd) (ps:List Pd) (i:Nat) (p:Pd):Prop where
 name:DG p.name=ay
 up:∀j q,i=j+1->ps[j]?=ai q->less q.name p.name=ay
 sum:As ks p.sum
structure ZS (now given:Int) (ks:List Kd) (ls:List Ld) (i:Nat) (l:Ld):Prop where
 lo:1<=l.M
 hi:l.M<=given
 up:∀j q,i=j+1->ls[j]?=ai q->q.M<l.M
 sum:As ks l.sum
 til1:now<l.ci
 til2:l.ci<=now+100000
structure Jh (wd now given births:Int) (ks:List Kd) (ps:List Pd) (ls:List Ld):Prop where
 gi:Ach wd now given births
 nth:ed ks<=600
 np:ed ps<=100
 nl:ed ls<=200
 th:∀(i:Nat) k,ks[i]?=ai k->Afx wd ks i k
 born:∀(i:Nat) k,ks[i]?=ai k->Aci births ks i k
 ref:∀(i:Nat) k,ks[i]?=ai k->YR ks k
 co:∀(i:Nat) p,ps[i]?=ai p->Aep ks ps i p
 ft:∀(i:Nat) l,ls[i]?=ai l->ZS now given ks ls i l
theorem VU{w:Zh}{a:Nat}{v:Dg}{n:Nat}{d:Zj}(h:ej w a 9 1 v n d)(c:v≠Zb):∃g b,v=Yz g n b:=by
 rcases Joins.ownsRow_forms h with⟨e,_⟩|b
 .exact absurd e c
 exact b
theorem Ad.fj{w:Zh}{B g:Nat}{c:Zl}(h:Ad w B (ai ⟨g,0,an⟩) c):∀j u,(c.map string)[j]?=ai u->eh w ((⟨g,0,an⟩:Addr).add j)=ai u:=by
 intro j u a;rw[getElem?_map]at a;cases hs:c[j]? with
 |none=>rw[hs]at a;cases a
 |some s=>
  rw[hs]at a;cases a;rcases h with h|⟨b,f,d,_,e⟩
  .subst h;simp at hs
  cases d;have:=e j s hs;rw[A1];simpa using this
theorem Acj(b:Zl):∀u∈b.map string,u.oneCell'=ay:=λu a=>by obtain⟨s,_,rfl⟩:=mem_map.1 a;rfl
def kB(s:Zi)(i:Nat):Int:=((s.data.toList[i]?).getD 0).toNat
def CJ(s:Zi):Array Value:= #[.int .u8 (kB s 0),.int .u8 (kB s 1),.int .u8 (kB s 2),.int .u8 (kB s 3),.int .u8 (kB s 4),.int .u8 (kB s 5),.int .u8 (kB s 6),.int .u8 (kB s 7)]
def DO:Array Value:= #[.int .u8 0,.int .u8 0,.int .u8 0,.int .u8 0,.int .u8 0,.int .u8 0,.int .u8 0,.int .u8 0]
def NM(s:Zi):Zj:=List.take (Nat.min s.size 8) (List.map (fun b=>Value.int .u8 b.toNat) s.data.toList)
theorem CI(s:Zi):ed s.data.toList=s.size:=Yu
theorem Mj(s:Zi):ed (NM s)=min s.size 8:=by have:=CI s;simp only[NM,Cl,A7,this];show min (min s.size 8) s.size=_;omega
theorem ZT(s:Zi)(i:Nat)(h:i<min s.size 8):(NM s)[i]?=ai (.int .u8 (kB s i)):=by have a:=CI s;unfold NM kB;rw[List.getElem?_take_of_lt (by show i<min s.size 8;exact h),List.getElem?_map,Zv Yv];simp
theorem ZU(s:Zi):ee (DO.toList.take (0+0)++NM s++DO.toList.drop (0+0+ed (NM s)))=CJ s:=by
 apply Array.ext';apply List.ext_getElem?;intro i;have c:=Mj s;simp only[Nat.add_zero,List.take_zero,List.nil_append,Nat.zero_add];by_cases h:i<min s.size 8
 .rw[List.getElem?_append_left Yv,ZT s i h];have b:i<8:=Yv
  match i,b with
  |0,_|1,_|2,_|3,_|4,_|5,_|6,_|7,_=>rfl
 rw[List.getElem?_append_right Yv,c,List.getElem?_drop,show min s.size 8+(i -min s.size 8)=i from by omega];by_cases b:i<8
 .have a:kB s i=0:=by have d:=CI s;unfold kB;rw[List.getElem?_eq_none Yv];rfl
  match i,b,a with
  |0,_,a|1,_,a|2,_,a|3,_,a|4,_,a|5,_,a|6,_,a|7,_,a=>simp[DO,CJ,a]
 rw[List.getElem?_eq_none (by simp[DO];omega),List.getElem?_eq_none (by simp[CJ];omega)]
theorem Ps(w:Zh)(a b:Array Value)(t:TypeId):(w.alloc (bs a t)).setRow w.1.size b=w.alloc (bs b t):=by
 unfold setRow alloc;congr 1;apply Array.ext
 .simp
 intro i d c;simp only[Array.getElem_modify,Array.getElem_push];split
 .rename_i h
  subst h;simp
 rename_i h
 simp at c;rw[dif_pos Yv,dif_pos Yv]
theorem Pt(w:Zh)(s:Zi)(d:TypeId):
 (Builtin.copy_ #[22,9] d #[Yz w.1.size 8 8,C0 s]).run prog (w.alloc (bs DO 160))=.ok (goInt (Nat.min s.size 8)) (w.alloc (bs (CJ s) 160)):=by
 obtain⟨h,c,e,f,g⟩:=info_parts NE;have a:=run_storeCells_at (P:=prog) w.1.size 0 160 (NM s) 0 DO (w.alloc (bs DO 160)) (heap_alloc_new w _) (by rw[Mj];simp[DO];omega) (λv b=>by
  have b:=mem_of_mem_take b;simp only[mem_map]at b;obtain⟨_,_,rfl⟩:=b;rfl)
 rw[ZU,Ps]at a;unfold NM at a;simp[Builtin.copy_,run_underlying underlying22,Builtin.lenOf,Builtin.firstCells,sizeOf,typeInfo,c,a,Result.andThen]
def Ce(s:Zi):Value:=ca (CJ s)
theorem FP(s:Zi)(w:Zh):
 D4 132 #[C0 s] w λe a=>e=C1 (Ce s)/\Zz w a:=by
 have b:∀a,(Builtin.copy_ #[22,9] a #[Yz (w.1.size+1) 8 8,C0 s]).run prog ((w.alloc (bs DO 160)).alloc (bs DO 160))=.ok (goInt (Nat.min s.size 8)) ((w.alloc (bs DO 160)).alloc (bs (CJ s) 160)):=λa=>by have:=Pt (w.alloc (bs DO 160)) s a;rwa[show(w.alloc (bs DO 160)).1.size=w.1.size+1 from by simp]at this
 unfold CJ DO at b;delta D4;go_in;go_wp2;refine Co (Ce s) (by simp[results,results132,go_sem,Ce,CJ]) ⟨rfl,?_⟩;exact(Zy).alloc Yu _
theorem Aeq(s:Zi)(i:Nat):0<=kB s i/\kB s i<256:=by unfold kB;have:=((s.data.toList[i]?).getD 0).toNat_lt;omega
theorem Aer(s:Zi)(i:Nat):(Lit.int .u8 (kB s i)).wf=ay:=by
 have:=Aeq s i;have a:IntKind.u8.min=0:=Yq;have b:IntKind.u8.max=255:=Yq;simp only[Lit.wf,a,b,Bool.and_eq_true,decide_eq_true_eq];omega
theorem Ack:prog.keyType 160=ay:=Yr
theorem YS:prog.cellsOf 160=8:=Yr
theorem Aes:prog.cellsOf 5=1:=Yr
theorem VV:prog.underlying 160=ai (.array 8 5):=Yr
theorem Acl:∃n,prog.types.size=n+1:=⟨prog.types.size -1,Yr⟩
theorem Pu(s:Zi):∃l,keyOf prog 160 (Ce s)=ai l:=by obtain⟨n,a⟩:=Acl;unfold keyOf;rw[VV,a];simp only[Ack,Ce,formed,VV,YS,CJ];simp[Value.cells,Program.keyLits,YS,Aes,range_succ,Aer]
noncomputable def keyL (s:Zi):Lit:=(Pu s).choose
theorem CW(s:Zi):keyOf prog 160 (Ce s)=ai (keyL s):=(Pu s).choose_spec
theorem Aet:laidOutB prog=ay:=Yr
theorem keyed:Maps.Keyed prog 160:=Maps.Keyed.of_law (deep_law_gate Aet (of_decide_eq_true Yr) (of_decide_eq_true Yr) Ack (by rw[VV]))
theorem key_inj{s t:Zi}(h:keyL s=keyL t)(p:s.size=t.size)(o:s.size<=8):s=t:=by
 have a:=CW t;rw[<-h]at a;have c:=keyed.inj (CW s) a;clear a h;have n:∀i,i<8->kB s i=kB t i:=by
  simp only[Ce,CJ,agg.injEq,Array.mk.injEq,List.cons.injEq,int.injEq,true_and,and_true]at c;obtain⟨d,e,f,g,j,k,l,m⟩:=c;intro i a
  match i,a with
  |0,_=>exact d
  |1,_=>exact e
  |2,_=>exact f
  |3,_=>exact g
  |4,_=>exact j
  |5,_=>exact k
  |6,_=>exact l
  |7,_=>exact m
 have q:=CI s;have r:=CI t;have b:s.data.toList=t.data.toList:=by
  apply ext_getElem?;intro i;by_cases a:i<s.size
  .have:=n i Yv;unfold kB at this;rw[Zv Yv,Zv Yv]at this |-;simp only[Option.getD_some]at this;congr 1;exact UInt8.toNat_inj.1 Yv
  rw[getElem?_eq_none Yv,getElem?_eq_none Yv]
 cases s;cases t;simp only[Array.toList_inj]at b;rw[b]
open Classical in
noncomputable def upd (f:Lit->Option Value) (kl:Lit) (v:Value):Lit->Option Value:=fun x=>if x=kl then ai v else f x
theorem DZ(f:Lit->Option Value)(a:Lit)(v:Dg):upd f a v a=ai v:=by simp[upd]
theorem DV(f:Lit->Option Value){a x:Lit}(v:Dg)(h:x≠a):upd f a v x=f x:=by simp[upd,h]
def Pn(v:Value):Option (DataW Value×List MemPlace):=ai (.held v,[])
def AY(w:Zh)(K:TypeId)(b n:Nat)(f:Lit->Option Value):Prop:=
 ∃D:DataW Value,w.ownsMap prog K Pn b n D/\(∀kl z,D.atKey kl (.held z)=.held ((f kl).getD z))/\∀kl,Maps.has D kl=(f kl).isSome
theorem AY.new(w:Zh)(K:TypeId):AY (w.alloc (.map #[] 0)) K w.1.size 0 (λ_=>an):=
 ⟨.map [],ownsMap_made _ _ _ _,λ_ _=>rfl,λ_=>rfl⟩
theorem AY.ak{w a:Zh}{K:TypeId}{b n:Nat}{f:Lit->Option Value}(h:AY w K b n f){B:Nat}(j:bg B w a)(i:b<B):AY a K b n f:=by obtain⟨D,⟨c,clock,d,e⟩,g⟩:=h;exact⟨D,⟨c,clock,(j.block b i).ag d,e⟩,g⟩
theorem AY.lt{w:Zh}{K:TypeId}{b n:Nat}{f:Lit->Option Value}(h:AY w K b n f):b<w.1.size:=h.choose_spec.1.lt
theorem AY.put{w:Zh}{K t e:TypeId}{b n:Nat}{f:Lit->Option Value}(h:AY w K b n f)(l:Maps.Keyed prog K)(v:prog.underlying t=ai (.map K e))(r:n<eo){j val:Dg}{g:Lit}(a:keyOf prog K j=ai g):
 ∃c,(Instr.mapUpdate t (.map (ai b)) j val).run prog w=.ok () c/\AY c K b (n+1) (upd f g val)/\ek w c (ai b):=by
 obtain⟨D,k,o,p⟩:=h;obtain⟨⟨c,u,s,q⟩,m,i⟩:=k.update l v r a (d:=.held val) (ps:=[]) (val:=val) rfl,k.isMap,l.key a;refine⟨c,u,⟨_,s,λx z=> ?_,λx=> ?_⟩,q⟩
 .by_cases hx:x=g
  .subst hx;rw[Maps.atKey_put_same m i,DZ];rfl
  rw[Maps.atKey_put_other hx,DV _ _ hx];exact o x z
 by_cases hx:x=g
 .subst hx;rw[Maps.has_put_same m i,DZ];rfl
 rw[Maps.has_put_other hx,DV _ _ hx];exact p x
theorem AY.look{w:Zh}{K t e:TypeId}{b n:Nat}{f:Lit->Option Value}(h:AY w K b n f)(k:Maps.Keyed prog K)(m:prog.underlying t=ai (.map K e)){z:Dg}(o:(zeroValue e).run prog w=.ok z w){c:Dg}{g:Lit}(a:keyOf prog K c=ai g):
 (Instr.lookup t (.map (ai b)) c ba).run prog w=.ok ((f g).getD z) w:=by
 obtain⟨D,i,j,_⟩:=h;obtain⟨v,p,l,d⟩:=i.lookup k m o (zd:=.held z) (zp:=[]) rfl a;rw[j]at d;simp only[Pn,Option.some.injEq,Prod.mk.injEq,DataW.held.injEq]at d;rw[l,d.1]
theorem AY.look_ok{w:Zh}{K t e:TypeId}{b n:Nat}{f:Lit->Option Value}(h:AY w K b n f)(l:Maps.Keyed prog K)(o:prog.underlying t=ai (.map K e)){z:Dg}(p:(zeroValue e).run prog w=.ok z w){c:Dg}{g:Lit}(a:keyOf prog K c=ai g):
 (Instr.lookup t (.map (ai b)) c ay).run prog w=.ok (.tuple #[(f g).getD z,.bool (f g).isSome]) w:=by
 obtain⟨D,i,j,k⟩:=h;obtain⟨v,q,m,d⟩:=i.look_ok l o p (zd:=.held z) (zp:=[]) rfl a;rw[j]at d;simp only[Pn,Option.some.injEq,Prod.mk.injEq,DataW.held.injEq]at d;rw[m,d.1,k]
structure Afy (ks:List Kd):Prop where
 len:ed ks<=eo
 sum:∀k∈ks,k.sum.size<=eo
 Q:∀k∈ks,k.Q.size<=eo
 C:∀k∈ks,ed k.C<=eo
 ref:∀k∈ks,∀s∈k.C,s.size<=eo
structure Afz (ps:List Pd):Prop where
 len:ed ps<=eo
 name:∀p∈ps,p.name.size<=eo
 sum:∀p∈ps,p.sum.size<=eo
structure Aga (ls:List Ld):Prop where
 len:ed ls<=eo
 sum:∀l∈ls,l.sum.size<=eo
def BA(w:Zh)(b:Nat)(wd now given births:Int)(T P L:Value):Prop:=
 eh w (Zd b 0)=ai (Zg wd)/\eh w (Zd b 1)=ai (Zg now)/\eh w (Zd b 2)=ai (Zg given)/\eh w (Zd b 3)=ai (Zg births)/\
  eh w (Zd b 4)=ai T/\eh w (Zd b 5)=ai P/\eh w (Zd b 6)=ai L/\b<w.1.size
theorem BA.new(w:Zh)(d c b a:Int)(T P L:Dg)(t:TypeId):BA (w.alloc (bs #[Zg d,Zg c,Zg b,Zg a,T,P,L] t)) w.1.size d c b a T P L:=
 ⟨Yu,Yu,Yu,Yu,Yu,Yu,Yu,Yu⟩
theorem BA.ak{w g:Zh}{b B:Nat}{i f c a:Int}{T P L:Dg}(h:BA w b i f c a T P L)(d:bg B w g)(e:b<B):BA g b i f c a T P L:=by
 obtain⟨j,k,l,m,n,o,q,r⟩:=h;exact⟨(d.cell (p:=⟨b,0,an⟩) e).ag j,(d.cell (p:=⟨b,1,an⟩) e).ag k,(d.cell (p:=⟨b,2,an⟩) e).ag l,(d.cell (p:=⟨b,3,an⟩) e).ag m,
  (d.cell (p:=⟨b,4,an⟩) e).ag n,(d.cell (p:=⟨b,5,an⟩) e).ag o,(d.cell (p:=⟨b,6,an⟩) e).ag q,Zr r d.size⟩
theorem BA.A{w e:Zh}{b:Nat}{f d c a:Int}{T P L:Dg}(h:BA w b f d c a T P L)(g:Zz w e):BA e b f d c a T P L:=h.ak g h.2.2.2.2.2.2.2
structure BV (w:Zh) (B:Nat) (a p l:Zk) (ks:List Kd) (ps:List Pd) (ls:List Ld):Prop where
 k:BH w B a ks
 p:Bd w B p ps
 l:Ba w B l ls
theorem BV.U{w c:Zh}{a p l:Zk}{d:C5}{f:C7}{e:C6}(h:BV w w.1.size a p l d f e)(b:Zz w c):BV c c.1.size a p l d f e:=
 ⟨(h.k.A b).ah b.size,(h.p.A b).ah b.size,(h.l.A b).ah b.size⟩
theorem BV.ak{w f:Zh}{B:Nat}{a p l:Zk}{c:C5}{e:C7}{d:C6}(h:BV w B a p l c e d)(b:bg B w f):BV f B a p l c e d:=
 ⟨h.k.A b,h.p.A b,h.l.A b⟩
theorem BV.mono{w:Zh}{B B':Nat}{a p l:Zk}{c:C5}{e:C7}{d:C6}(h:BV w B a p l c e d)(b:B<=B'):BV w B' a p l c e d:=
 ⟨h.k.ah b,h.p.ah b,h.l.ah b⟩
abbrev BV.ah:=@BV.mono
structure Agb (ks:List Kd) (ps:List Pd) (ls:List Ld):Prop where
 k:ed ks<=1048576
 r:∀k∈ks,ed k.C<=1048576
 p:ed ps<=1048576
 l:ed ls<=1048576
def ZV(w:Zh)(lo g c:Nat)(rs:Zl):Prop:=ej w lo 9 1 (bx (ai ⟨g,0,an⟩) (ed rs) c) (ed rs) (rs.map Value.string)
def Acm(w:Zh)(lo:Nat)(xs:Zj)(i:Nat)(x:Kd):Prop:=
 xs[i *4]?=ai (.string x.sum)/\xs[i *4+1]?=ai (Zg x.born)/\xs[i *4+2]?=ai (.string x.Q)/\
  ∃g,xs[i *4+3]?=ai (bx (ai ⟨g,0,an⟩) (ed x.C) (ed x.C))/\ZV w lo g (ed x.C) x.C
theorem Jv:(prog.info? 50).map (λi=>(i.zero,i.size,i.bytes))=ai (ai (ca #[Zc,Ze,Zc,Zb]),4,64):=Yr
def Agc(xs:Zj)(n:Nat):Prop:=∀(i j q q' m c m' c':Nat),i<j->j<n->xs[i *4+3]?=ai (bx (ai ⟨q,0,an⟩) m c)->xs[j *4+3]?=ai (bx (ai ⟨q',0,an⟩) m' c')->q<q'
def LK(w:Zh)(lo g:Nat)(ks:List Kd):Prop:=
 ∃xs,ej w lo 50 4 (bx (ai ⟨g,0,an⟩) (ed ks) (ed ks)) (ed ks) xs/\(∀i x,ks[i]?=ai x->Acm w (g+1) xs i x)/\Agc xs (ed ks)
theorem Ji:(prog.info? 148).map (λi=>(i.zero,i.size,i.bytes))=ai (ai (ca #[Zc,Zc]),2,32):=Yr
def Na(w:Zh)(lo g:Nat)(ps:List Pd):Prop:=
 ∃xs,ej w lo 148 2 (bx (ai ⟨g,0,an⟩) (ed ps) (ed ps)) (ed ps) xs/\∀i x,ps[i]?=ai x->xs[i *2]?=ai (.string x.name)/\xs[i *2+1]?=ai (.string x.sum)
theorem IB:(prog.info? 112).map (λi=>(i.zero,i.size,i.bytes))=ai (ai (ca #[Ze,Zc,Ze]),3,32):=Yr
def Nb(w:Zh)(lo g:Nat)(ls:List Ld):Prop:=
 ∃xs,ej w lo 112 3 (bx (ai ⟨g,0,an⟩) (ed ls) (ed ls)) (ed ls) xs/\∀i x,ls[i]?=ai x->xs[i *3]?=ai (Zg x.M)/\xs[i *3+1]?=ai (.string x.sum)/\xs[i *3+2]?=ai (Zg x.ci)
theorem LK.setCell{w:Zh}{b g:Nat}{d:C5}(h:LK w b g d){a:Addr}(m:a.block<b)(u:Dg):LK (w.setCell a u) b g d:=by obtain⟨r,c,o,n⟩:=h;have:=(c.lt g rfl).1;refine⟨r,ownsRow_setCell_below c m u,λi x p=> ?_,n⟩;have⟨e,f,j,q,k,l⟩:=o i x p;exact⟨e,f,j,q,k,ownsRow_setCell_below l Yv u⟩
theorem Na.setCell{w:Zh}{b g:Nat}{c:C7}(h:Na w b g c){a:Addr}(d:a.block<b)(u:Dg):Na (w.setCell a u) b g c:=G8
theorem Nb.setCell{w:Zh}{b g:Nat}{c:C6}(h:Nb w b g c){a:Addr}(d:a.block<b)(u:Dg):Nb (w.setCell a u) b g c:=G8
theorem LK.mono{w:Zh}{c a g:Nat}{b:C5}(h:LK w c g b)(e:a<=c):LK w a g b:=G7
abbrev LK.ah:=@LK.mono
theorem Na.mono{w:Zh}{b a g:Nat}{c:C7}(h:Na w b g c)(e:a<=b):Na w a g c:=G7
abbrev Na.ah:=@Na.mono
theorem Nb.mono{w:Zh}{b a g:Nat}{c:C6}(h:Nb w b g c)(e:a<=b):Nb w a g c:=G7
abbrev Nb.ah:=@Nb.mono
theorem toList_inj{a b:Zi}(h:a.toList=b.toList):a=b:=by rw[ByteArray.toList_eq,ByteArray.toList_eq]at h;cases a;cases b;simp only[Array.toList_inj]at h;rw[h]
theorem BZ{a b:Zi}(h:¬a=b):(a.toList==b.toList)=ba:=by rw[beq_eq_false_iff_ne];exact λe=>h (toList_inj e)
theorem Pv(x:List UInt8):∀y,Op.bytesLess x y=ay↔x<y:=by
 induction x with
 |nil=>intro y;cases y<;>simp[Op.bytesLess]
 |cons a x ih=>
  intro y;cases y with
  |nil=>simp[Op.bytesLess]
  |cons b y=>have:=ih y;rw[cons_lt_cons_iff,<-this];simp only[Op.bytesLess];by_cases h1:a<b<;>by_cases h2:a=b<;>simp[h1,h2]
theorem Cz(a:Zi):less a a=ba:=by
 unfold less;cases h:Op.bytesLess a.toList a.toList with
 |false=>rfl
 |true=>exact absurd ((Pv _ _).1 h) (List.lt_irrefl _)
theorem CE{a b c:Zi}(h:less a b=ay)(k:less b c=ay):less a c=ay:=by
 unfold less at *
 rw[Pv]at *
 exact List.lt_trans h k
def Df(ks:List Kd)(s:Zi):Int:=match ks.findIdx? (fun k=>decide (k.sum=s))with
 |some i=>(i:Int)
 |none=> -1
theorem Ub{a:C5}{s:Zi}{k:Nat}(d:k<ed a)(h:a[k].sum=s)(b:∀j x,j<k->a[j]?=ai x->x.sum≠s):Df a s=k:=by
 have:a.findIdx? (λk=>decide (k.sum=s))=ai k:=by rw[findIdx?_eq_some_iff_getElem];refine⟨d,C9 h,λj c=> ?_⟩;simpa using b j _ c (Zv Yv)
 simp[Df,this]
theorem Ss{a:C5}{s:Zi}(b:∀j x,j<ed a->a[j]?=ai x->x.sum≠s):Df a s= -1:=by
 have:a.findIdx? (λk=>decide (k.sum=s))=an:=by rw[findIdx?_eq_none_iff];intro x d;obtain⟨j,c,rfl⟩:=getElem_of_mem d;simpa using b j _ c (Zv c)
 simp[Df,this]
theorem Fz(a:C5)(s:Zi):(Df a s= -1/\¬As a s)\/∃i k,Df a s=(i:Nat)/\a[i]?=ai k/\k.sum=s:=by
 unfold Df;cases h:a.findIdx? (λk=>decide (k.sum=s))with
 |none=>rw[findIdx?_eq_none_iff]at h;exact cr ⟨rfl,λ⟨u,hu,e⟩=>by simpa [e]using h u hu⟩
 |some i=>rw[findIdx?_eq_some_iff_getElem]at h;obtain⟨c,b,_⟩:=h;exact ct ⟨i,a[i],rfl,Zv c,C9 b⟩
theorem FK(t n g d:Int){a:Zk}(p:Nat)(P L:Dg){c:C5}(s:Zi){w:Zh}{B:Nat}(l:BH w B a c)(D:B<=w.1.size)(G:ed c<=1048576):
 D4 125 #[ca #[Zg t,Zg n,Zg g,Zg d,Cx a (ed c) p,P,L],C0 s] w λe f=>e=C1 (Zg (Df c s))/\Zz w f:=by
 have m:bg w.1.size w (w.alloc (bs #[Zg t,Zg n,Zg g,Zg d,Cw a c p,P,L] 30)):=Zy;delta D4;go_in;go_wp2
 go_loop [5] (λi=>∃k:Nat,k<=ed c/\i=Zg k/\Hid (∀j x,j<k->c[j]?=ai x->x.sum≠s)) (λi=>ed c -(intOf i).toNat)
 case atStart=>exact⟨0,Aw _,rfl,λj x h=>Yv⟩
 obtain⟨k,F,rfl,f⟩:=hrel;by_cases hlt:k<ed c
 case neg=>go_wp2;go_ret;exact⟨Pm (Ss (λj x z=>f j x Yv)).symm,m⟩
 obtain⟨b,u,v,E,r⟩:=l.at hlt;subst v;have o:Hid (c[k]?=ai c[k]):=Zv hlt;obtain⟨q,_,_,_⟩:=r k _ o;clear r l;have l:b<w.1.size:=Yv;by_cases he:c[k].sum=s
 .have y:=Yw (Ub hlt he f);have A:eh w (Zd b (u+k *4))=ai (C0 s):=by rw[<-he];exact q
  clear q he;go_wp2;go_ret;exact⟨Pm y.symm,m⟩
 have C:=BZ he;have r:Hid (∀j x,j<k+1->c[j]?=ai x->x.sum≠s):=by
  intro j x z l;rcases B0 j k with q|q
  .exact f j x q l
  obtain rfl:j=k:=Yv;rw[o.o]at l;cases l;exact he
 clear he f o;generalize c[k]=x at *
 go_wp2;exact⟨⟨k+1,Yv,Yn,r⟩,Ys⟩
