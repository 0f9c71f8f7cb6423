import Derived.Test.YtfehblndlffcmaaGreatDoorProg
import Derived.WalkKit
import Derived.ProofKit
import Derived.Deep.AppendLies
import Derived.Deep.QuietTactic
import Derived.BigQuiet
import Derived.Deep.Onto
import Derived.Laws.Cover1
import Derived.Deep.RegionWith
import Derived.Maps.AppendAt
import Derived.Maps.Range
import Derived.Shelf.Strings.Builder1
import Derived.Lib.AppendStr
import Derived.Lib.SmallJoins
import Derived.OneCell
import Derived.Deep.DeepCutAuto
import Derived.Laws.CopyRow
import Derived.Maps.OwnSet
import Derived.DeepKeys5
import Derived.Deep.Upon
import Derived.Deep.DrawnRows
import Derived.Deep.RegionHeld3
import Derived.Sort.Walk0
set_option maxRecDepth 100000
set_option maxHeartbeats 16000000
open Option renaming some->an,none->ba
open Bool renaming true->bg,false->bq
open Go.RowKit renaming Below->bs
open Decidable renaming decide->bx
open Go.Obj renaming cells->ca
open Go.Value renaming slice->cr,agg->ct,bool->ef,ownBlock->ej
open Or renaming inl->dp,inr->eb
open List renaming length->eh,toArray->ei
open Go.World renaming cell?->ek,frozen?->el,ownsRow->eo,grownBy->ep
open Go renaming maxLen->ew
namespace Go.Proofs.YtfehblndlffcmaaGreatDoor
open ChangeShapes WideShapes ChangeAt RowKit _root_.Go.Proofs.Tryz List World Value
theorem _root_.Go.Proofs.Ae{B:Nat}{w:World}:Below B w w:=Below.refl _ _
theorem _root_.Go.Proofs.Ag{α:Type _}(a:α):∃x,x=a:=⟨a,rfl⟩
theorem _root_.Go.RowKit.Hid.Aj{P:Program}{f:Nat}{a:Array Value}{w:World}{Q R:Ending->World->Prop}(h:Hid (Calls P f a w Q))(k:∀e w,Q e w->R e w):Calls P f a w R:=Calls.mono h k
theorem _root_.Go.Proofs.Am{α:Type _}{a b:List α}:(a++b).length=a.length+b.length:=List.length_append
theorem _root_.Go.Proofs.Ao(w:World)(o:Obj):(w.alloc o).1.size=w.1.size+1:=World.size_alloc w o
theorem _root_.Go.Proofs.Aq(n:Nat):0<=n:=Nat.zero_le n
theorem _root_.Go.Proofs.Ay(n:Nat):0+n=n:=Nat.zero_add n
theorem _root_.Go.Proofs.A0{α:Type _}{l:List α}:l.toArray.size=l.length:=List.size_toArray
theorem _root_.Go.Proofs.A6{α:Type _}{i:Nat}{b:α}{l:Array α}:l[i]?=some b<->∃h,l[i]=b:=Array.getElem?_eq_some_iff
theorem _root_.Go.Proofs.A7(b k i:Nat):(Addr.mk b k none).add i=⟨b,k+i,none⟩:=Go.WideShapes.add_plain b k i
theorem _root_.Go.Proofs.A8{α:Type _}{a b:α}(h:some a=some b):a=b:=Option.some.inj h
theorem _root_.Go.Proofs.A9{α:Type _}{a:α}{l:List α}(h:a∈l):∃i:Nat,l[i]?=some a:=List.getElem?_of_mem h
theorem _root_.Go.Proofs.Bf(w:World)(a:Addr){u:Value}(h:w.cell? a=some u):a.block<w.1.size:=w.block_lt_of_cell? a h
theorem _root_.Go.Proofs.Bw{α:Type _}{a:α}{s t:List α}:a∈s++t<->a∈s\/a∈t:=List.mem_append
theorem _root_.Go.Proofs.By{α:Type _}{a:α}{o:Option α}:a∈o.toList<->o=some a:=Option.mem_toList
theorem _root_.Go.Proofs.B0{α:Type _}{β:Type _}{l:List α}(f:α->β):(l.map f).length=l.length:=List.length_map f
theorem _root_.Go.Proofs.B6{α:Type _}{p:α->Bool}{l:List α}{x:α}:x∈l.filter p<->x∈l/\p x=true:=List.mem_filter
theorem _root_.Go.Proofs.B8{α:Type _}{l:List α}(h:l.length=0):l=[]:=List.eq_nil_of_length_eq_zero h
theorem _root_.Go.Proofs.Cf{α:Type _}{b:α}{l:List α}{a:α}:a∈b::l<->a=b\/a∈l:=List.mem_cons
theorem _root_.Go.Proofs.Cg(n m:Nat):n<m\/n>=m:=Nat.lt_or_ge n m
theorem _root_.Go.Proofs.Ci{α:Type _}{l:Array α}{i:Nat}(h:i<l.size):l[i]?=some l[i]:=Array.getElem?_eq_getElem h
theorem _root_.Go.Proofs.C0{α:Type _}{i:Nat}{l:List α}:(l.take i).length=min i l.length:=List.length_take
theorem _root_.Go.Proofs.C1{P:Program}{f:Func}{R:Ending->World->Prop}{a:Act}{w:World}(v:Value)(h:Sem.run P (results f a.tmps) w=.ok v w)(k:R (.returned v) w)(d:a.defers=[]:=by rfl):bodyPost P f R .ret a w:=bodyPost_ret h d k
abbrev _root_.Go.Proofs.C2{α:Type _}(a:Option Addr)(l:List α)(c:Nat):Value:=cr a (eh l) c
abbrev _root_.Go.Proofs.C3(a:Option Addr)(n c:Nat):Value:=cr a n c
abbrev _root_.Go.Proofs.C6{α:Type _}(b:Nat)(l:List α)(c:Nat):Value:=cr (an ⟨b,0,ba⟩) (eh l) c
abbrev _root_.Go.Proofs.C4(s:ByteArray):Value:=.string s
abbrev _root_.Go.Proofs.C5(v:Value):Ending:=.returned v
abbrev _root_.Go.Proofs.C7{α β γ:Type _}(a b c d:Int)(e:Option Addr)(f:List α)(g:Nat)(h:Option Addr)(i:List β)(j:Nat)(k:Option Addr)(l:List γ)(m:Nat):List Value:=[.int .i64 a,.int .i64 b,.int .i64 c,.int .i64 d,cr e (eh f) g,cr h (eh i) j,cr k (eh l) m]
abbrev _root_.Go.Proofs.C8{α β γ:Type _}(a b c d:Int)(e:Option Addr)(f:List α)(g:Nat)(h:Option Addr)(i:List β)(j:Nat)(k:Option Addr)(l:List γ)(m:Nat):Array Value:=#[.int .i64 a,.int .i64 b,.int .i64 c,.int .i64 d,cr e (eh f) g,cr h (eh i) j,cr k (eh l) m]
abbrev _root_.Go.World.ae(w:World)(c:Array Value)(t:TypeId):World:=w.alloc (ca c t)
abbrev _root_.Go.World.af(w:World)(b k:Nat)(v:Value):World:=w.setCell ⟨b,k,ba⟩ v
theorem _root_.Go.Proofs.Dl{a p:Prop}(h:a)(k:a->p:=by intro h;omega):p:=k h
theorem _root_.Go.Proofs.D2{a p:Prop}(h:a)(k:a->p:=by intro h;simpa using h):p:=k h
abbrev _root_.Go.Proofs.D4:=Value
abbrev _root_.Eq.ag:=@Eq.trans
abbrev _root_.Go.RowKit.Below.ag:=@Go.RowKit.Below.trans
abbrev _root_.Go.World.grownBy.ag:=@Go.World.grownBy.trans
abbrev _root_.Iff.ag:=@Iff.trans
abbrev _root_.List.Perm.ag:=@List.Perm.trans
abbrev _root_.List.Sublist.ag:=@List.Sublist.trans
abbrev _root_.Go.RowKit.Below.ai:=@Go.RowKit.Below.mono
abbrev _root_.Go.Calls.ai:=@Go.Calls.mono
abbrev _root_.Go.World.ownsRow.ai:=@Go.World.ownsRow.mono
abbrev _root_.Go.CallsIn.ai:=@Go.CallsIn.mono
abbrev _root_.Go.RoundIn.ai:=@Go.RoundIn.mono
theorem _root_.Go.Proofs.D6(w:World)(c:Array Value)(t:TypeId):∃x,x=w.alloc (.cells c t):=⟨_,rfl⟩
theorem _root_.Go.Proofs.D7(w:World)(b k:Nat)(v:Value):∃x,x=w.setCell ⟨b,k,none⟩ v:=⟨_,rfl⟩
abbrev D8:=Calls prog
abbrev Zz (w w':World):Prop:=bs w.1.size w w'
theorem Zy {w:World} {o:Obj}:bs w.1.size w (w.alloc o):=(Below.refl _ _).alloc (Nat.le_refl _) _
theorem Zx {n:Nat}:n<=n:=Nat.le_refl n
theorem Zw {α:Type _} {l:List α} {i:Nat} {a:α} (h:l[i]?=an a):∃h:i<eh l,l[i]=a:=List.getElem?_eq_some_iff.1 h
theorem Zv {α:Type _} {l:List α} {i:Nat} (h:i<eh l):l[i]?=an l[i]:=List.getElem?_eq_getElem h
theorem Zu {α:Type _} {i:Nat} {l:List α} (h:i<eh l):l.take (i+1)=l.take i++[l[i]]:=List.take_succ_eq_append_getElem h
theorem Zt {α:Type _} {i:Nat} {l:List α} (h:eh l<=i):l.take i=l:=List.take_of_length_le h
theorem Zs {α:Type _} {l:List α} {i:Nat} {a:α} (h:l[i]?=an a):a∈l:=List.mem_of_getElem? h
theorem Zr {a b c:Nat} (h:a<b) (k:b<=c):a<c:=Nat.lt_of_lt_of_le h k
theorem Zq {α:Type _} (l:List α) (i:Nat) (a:α):(ei l).setIfInBounds i a=ei (l.set i a):=List.setIfInBounds_toArray l i a
theorem Zp {α:Type _} {x a:α} {l:List α}:(x::l).set 0 a=a::l:=List.set_cons_zero
theorem Zo {α:Type _} {x a:α} {l:List α} {i:Nat}:(x::l).set (i+1) a=x::l.set i a:=List.set_cons_succ
theorem Zn {a b:Prop} (x:a) (y:b):a/\b:=⟨x,y⟩
theorem Zm {a b c:Nat} (h:a<=b) (k:b<=c):a<=c:=Nat.le_trans h k
theorem _root_.Go.RowKit.Hid.o {p:Prop} (h:Hid p):p:=h
abbrev _root_.Go.Proofs.Zl:=List ByteArray
abbrev _root_.Go.Proofs.Zk:=Option Addr
abbrev _root_.Go.Proofs.Zj:=List Value
abbrev _root_.Go.Proofs.Zi:=ByteArray
abbrev _root_.Go.Proofs.Zh:=World
abbrev Zg (n:Int):Value:=.int .i64 n
abbrev Ze:Value:=.int .i64 0
abbrev Zd (b k:Nat):Addr:=⟨b,k,ba⟩
abbrev Zc:Value:=.string ⟨#[]⟩
abbrev Zb:Value:=cr ba 0 0
theorem Za {a b:Prop} (x:a) (y:b):a/\b:=⟨x,y⟩
abbrev _root_.Go.Proofs.Yz(b n c:Nat):Value:=cr (an ⟨b,0,ba⟩) n c
abbrev _root_.Go.Proofs.Yy(b:Nat):Value:=.pointer (an ⟨b,0,ba⟩)
abbrev _root_.Go.Proofs.Yx(b k:Nat):Value:=.pointer (an ⟨b,k,ba⟩)
theorem _root_.Go.Proofs.D9{p:Prop}(h:p:=by omega):p:=h
theorem _root_.Go.Proofs.Ez{p:Prop}(h:p:=by kernel_rfl):p:=h
theorem _root_.Go.Proofs.E7{p:Prop}(h:p:=by simp):p:=h
theorem _root_.Go.Proofs.E8{p:Prop}(h:p:=by simp;omega):p:=h
theorem _root_.Go.Proofs.E9{p:Prop}(h:p:=by simp[results,results76,go_sem,y0,y1,y2,y3,y4,y5,y6,y7,y8,y9,zO,zP,Cr]):p:=h
theorem _root_.Go.Proofs.Fo{p:Prop}(h:p:=by simp[ownBlock];omega):p:=h
theorem _root_.Go.Proofs.Fu{p:Prop}(h:p:=by simp[results,results70,go_sem,l,C,F,G,H,I]):p:=h
theorem _root_.Go.Proofs.F0{p:Prop}(h:p:=by unfold IntKind.wrap;simp[IntKind.signed,IntKind.bits];omega):p:=h
theorem _root_.Go.Proofs.F1{p:Prop}(h:p:=by rfl):p:=h
theorem _root_.Go.Proofs.F2{p:Prop}(h:p:=by simp[results,results101,go_sem,y0,y1,y2,y3,y4,y5,y6,y7,y8,y9,T,U,V,Y,Z]):p:=h
theorem _root_.Go.Proofs.F3{p:Prop}(h:p:=by simp[results,results20,go_sem,E,F,G,H,I,J,K,L,M,N,p,t]):p:=h
theorem _root_.Go.Proofs.F4{p:Prop}(h:p:=by simp[results,results77,go_sem,y0,y1,y2,y3,y4,y5,y6,y7,y8,y9,O,P]):p:=h
theorem _root_.Go.Proofs.F5{p:Prop}(h:p:=by simp[results,results26,go_sem,r0,n]):p:=h
theorem _root_.Go.Proofs.F6{p:Prop}(h:p:=by intro i hi;simp at hi;rcases(show i=0\/i=1\/i=2\/i=3 by omega)with rfl|rfl|rfl|rfl<;>first|exact⟨_,by decide,rfl⟩|omega):p:=h
theorem _root_.Go.Proofs.F7{p:Prop}(h:p:=by rw[show H.toArray.size=12 from by rw[A0];exact yU];exact(Aa.jm (l:=z12) nB).there):p:=h
theorem _root_.Go.Proofs.F9{p:Prop}(h:p:=by simp[results,results10,go_sem,x,y,z,A,B,C,D,E,F,G,g,i]):p:=h
theorem _root_.Go.Proofs.Gb{p:Prop}(h:p:=by simp[results,results24,go_sem]):p:=h
theorem _root_.Go.Proofs.Gl{p:Prop}(h:p:=by simp[results,results101,go_sem,u0,u1,u2,u3,u4,u5,u6,u7,u8,u9,V,Z,h,t,zA]):p:=h
theorem _root_.Go.Proofs.G0{p:Prop}(h:p:=by unfold Bj at h9;rw[if_neg (Ne.symm h6)]at h9;exact h9):p:=h
theorem _root_.Go.Proofs.G1{p:Prop}(h:p:=by rw[P.o];kernel_rfl):p:=h
theorem _root_.Go.Proofs.G2{p:Prop}(h:p:=by simp[results,results71,go_sem, *]):p:=h
theorem _root_.Go.Proofs.G3{p:Prop}(h:p:=by simp[oneCell']):p:=h
theorem _root_.Go.Proofs.G5{p:Prop}(h:p:=by rw[F.1.1];kernel_rfl):p:=h
theorem _root_.Go.Proofs.G7{p:Prop}(h:p:=by rw[IntKind.wrap_i64];omega):p:=h
theorem _root_.Go.Proofs.G8{p:Prop}(h:p:=by have h1:=Aa.new (w.alloc (.cells #[C2 a f c,C2 b i d] 25)) Xn 34;rw[Ao]at h1;rw[k];exact h1):p:=h
theorem _root_.Go.Proofs.G9{p:Prop}(h:p:=by rw[((Below.refl b.1.size b).alloc (Zx) _).cell (p:=⟨w.1.size+1,0,none⟩) Yt];exact r0):p:=h
theorem _root_.Go.Proofs.Hd{p:Prop}(h:p:=by simp[results,results83,go_sem,Q,R,S,U,X,Y,Z,y7,y8,y9,O,P]):p:=h
theorem _root_.Go.Proofs.Hh{p:Prop}(h:p:=by show _=_;rw[HD.o];unfold less;rw[hless];rfl):p:=h
theorem _root_.Go.Proofs.Hn{p:Prop}(h:p:=by simpa [ownBlock]using e):p:=h
theorem _root_.Go.Proofs.Hr{p:Prop}(h:p:=by obtain⟨i,f,e⟩:=h;exact⟨i,f.kept (Af none d) (.inr (by simp[ownBlock])),e⟩):p:=h
theorem _root_.Go.Proofs.H0{p:Prop}(h:p:=by simp[ownBlock]):p:=h
theorem _root_.Go.Proofs.H9{p:Prop}(h:p:=by decide):p:=h
theorem _root_.Go.Proofs.Ir{p:Prop}(h:p:=by simp[results,results67,go_sem,y0,y1,y2,y3,y4,y5,y6,y7,y8,y9,a,j,zF,zG,zH]):p:=h
theorem _root_.Go.Proofs.I0{p:Prop}(h:p:=by rw[d.cell (p:=⟨w.1.size,1,none⟩) Yu];simp):p:=h
theorem _root_.Go.Proofs.I1{p:Prop}(h:p:=by simp[results,results76,go_sem,y0,y1,y2,y3,y4,y5,y6,y7,y8,y9,zO,zP]):p:=h
theorem _root_.Go.Proofs.I2{p:Prop}(h:p:=by exact Or.inl ⟨Yp,λX hX=>by have h1:=(hX.1 0 _ rfl).1;go_simp⟩):p:=h
theorem _root_.Go.Proofs.I3{p:Prop}(h:p:=by rw[I];exact⟨rfl,by simp[Fm,Bd,oneCell']⟩):p:=h
theorem _root_.Go.Proofs.I4{p:Prop}(h:p:=by rw[e];rfl):p:=h
theorem _root_.Go.Proofs.I5{p:Prop}(h:p:=by simp[results,results150,go_sem]):p:=h
theorem _root_.Go.Proofs.I6{p:Prop}(h:p:=by simp;exact⟨I,h0⟩):p:=h
theorem _root_.Go.Proofs.I7{p:Prop}(h:p:=by obtain⟨i,f,d⟩:=h;exact⟨i,f.ai e,d⟩):p:=h
theorem _root_.Go.Proofs.I8{p:Prop}(h:p:=by have f:=C.low.size;have F:=zA.1.size;omega):p:=h
theorem _root_.Go.Proofs.I9{p:Prop}(h:p:=by obtain⟨i,f,e⟩:=h;exact⟨i,ownsRow_setCell_below f d u,e⟩):p:=h
theorem _root_.Go.Proofs.J0{p:Prop}(h:p:=by simp[results,results75,go_sem]):p:=h
theorem _root_.Go.Proofs.J1{p:Prop}(h:p:=by intro b q;unfold vB;simp at q |-;rcases q with rfl|q<;>simp[*]):p:=h
theorem _root_.Go.Proofs.J2{p:Prop}(h:p:=by rw[HL.1];kernel_rfl):p:=h
theorem _root_.Go.Proofs.J3{p:Prop}(h:p:=by rw[A0,F.1.1];kernel_rfl):p:=h
theorem _root_.Go.Proofs.J4{p:Prop}(h:p:=by rw[A0,a.1.1];kernel_rfl):p:=h
theorem _root_.Go.Proofs.J5{p:Prop}(h:p:=by unfold maxLen;omega):p:=h
theorem _root_.Go.Proofs.J6{p:Prop}(h:p:=by unfold CP;rw[FR hlt Yv];simp):p:=h
theorem _root_.Go.Proofs.J7{p:Prop}(h:p:=by simp[Act.eval,Act.put]):p:=h
theorem _root_.Go.Proofs.J8{p:Prop}(h:p:=by simp[results,results78,go_sem,T,U,Y,Z,i,X,y6,y7,y8,y9,H,J]):p:=h
theorem _root_.Go.Proofs.J9{p:Prop}(h:p:=by simp[results,results80,go_sem,R,S,T,U,Y,Z,y6,y7,y8,y9,E,F]):p:=h
theorem _root_.Go.Proofs.Kt{p:Prop}(h:p:=by simp[results,results82,go_sem,Q,R,S,T,U,Z,y6,y7,y8,y9,D,E]):p:=h
theorem _root_.Go.Proofs.K2{p:Prop}(h:p:=by simp[results,results81,go_sem,S,T,U,Y,Z,i,X,y7,y8,y9,G,I]):p:=h
theorem _root_.Go.Proofs.K3{p:Prop}(h:p:=by show _/\_;rw[j];exact⟨Aa.dq [Ze] _ [Zg n,D] y.box,rfl⟩):p:=h
theorem _root_.Go.Proofs.K5{p:Prop}(h:p:=by show _=_;rw[H.o];unfold BR;rw[if_neg (by rw[hin];decide)]):p:=h
theorem _root_.Go.Proofs.K6{p:Prop}(h:p:=by unfold CP;rw[decide_eq_false Yv];rfl):p:=h
theorem _root_.Go.Proofs.K7{p:Prop}(h:p:=by unfold BP;simp[a]):p:=h
theorem _root_.Go.Proofs.K8{p:Prop}(h:p:=by show _=_;simpa [Et]using hs):p:=h
theorem _root_.Go.Proofs.K9{p:Prop}(h:p:=by rw[a.1.1];kernel_rfl):p:=h
theorem _root_.Go.Proofs.L0{p:Prop}(h:p:=by simp;have:=O.o;omega):p:=h
theorem _root_.Go.Proofs.L4{p:Prop}(h:p:=by intro v Q;simp at Q;omega):p:=h
theorem _root_.Go.Proofs.L5{p:Prop}(h:p:=by simp[results,results44,go_sem, *]):p:=h
theorem _root_.Go.Proofs.L6{p:Prop}(h:p:=by rw[hY];exact Aa.new P _ _):p:=h
theorem _root_.Go.Proofs.L7{p:Prop}(h:p:=by rw[I.2.2.1.1];kernel_rfl):p:=h
theorem _root_.Go.Proofs.L8{p:Prop}(h:p:=by rw[F.o];rfl):p:=h
theorem _root_.Go.Proofs.L9{p:Prop}(h:p:=by simp[Bz]):p:=h
theorem _root_.Go.Proofs.M0{p:Prop}(h:p:=by simp[results,results126,go_sem]):p:=h
theorem _root_.Go.Proofs.M1{p:Prop}(h:p:=by simp[results,results44,go_sem]):p:=h
theorem _root_.Go.Proofs.M4{p:Prop}(h:p:=by rw[D.1.2.1];kernel_rfl):p:=h
theorem _root_.Go.Proofs.M5{p:Prop}(h:p:=by rw[b];simp[go_sem]):p:=h
theorem _root_.Go.Proofs.M6{p:Prop}(h:p:=by simpa [Value.ownBlock]using l):p:=h
theorem _root_.Go.Proofs.M7{p:Prop}(h:p:=by rw[C.2.1];kernel_rfl):p:=h
theorem _root_.Go.Proofs.M8{p:Prop}(h:p:=by rw[ByteArray.toList_eq];simp):p:=h
theorem _root_.Go.Proofs.M9{p:Prop}(h:p:=by intro v hv;simp at hv;omega):p:=h
theorem _root_.Go.Proofs.Ng{p:Prop}(h:p:=by rw[f];exact A.setCell (Zx) _):p:=h
theorem _root_.Go.Proofs.N0{p:Prop}(h:p:=by rw[h]):p:=h
theorem _root_.Go.Proofs.N1{p:Prop}(h:p:=by simp[vB]):p:=h
theorem _root_.Go.Proofs.N2{p:Prop}(h:p:=by rw[C0];omega):p:=h
theorem _root_.Go.Proofs.N3{p:Prop}(h:p:=by injection e):p:=h
theorem _root_.Go.Proofs.N4{p:Prop}(h:p:=by rw[c];simp[go_sem]):p:=h
theorem _root_.Go.Proofs.N5{p:Prop}(h:p:=by rw[g];simp[go_sem]):p:=h
theorem _root_.Go.Proofs.N6{p:Prop}(h:p:=by rw[f];simp[go_sem]):p:=h
theorem _root_.Go.Proofs.N7{p:Prop}(h:p:=by rw[e];simp):p:=h
theorem _root_.Go.Proofs.N8{p:Prop}(h:p:=by rw[B0];omega):p:=h
theorem _root_.Go.Proofs.N9{p:Prop}(h:p:=by simp[go_sem]):p:=h
theorem _root_.Go.Proofs.Yw{p:Prop}(h:p):Hid p:=h
theorem _root_.Go.Proofs.Yv{p:Prop}(h:p:=by omega):p:=h
theorem _root_.Go.Proofs.Yu{p:Prop}(h:p:=by simp):p:=h
theorem _root_.Go.Proofs.Yt{p:Prop}(h:p:=by simp;omega):p:=h
theorem _root_.Go.Proofs.Ys{p:Prop}(h:p:=by simp[intOf];omega):p:=h
theorem _root_.Go.Proofs.Yr{p:Prop}(h:p:=by kernel_rfl):p:=h
theorem _root_.Go.Proofs.Yq{p:Prop}(h:p:=by decide):p:=h
theorem _root_.Go.Proofs.Yp{p:Prop}(h:p:=by rfl):p:=h
theorem _root_.Go.Proofs.Yo{p:Prop}(h:p:=by unfold maxLen;omega):p:=h
theorem _root_.Go.Proofs.Yn{p:Prop}(h:p:=by go_num):p:=h
theorem _root_.Go.Proofs.Ym{p:Prop}(h:p:=by simp<;>omega):p:=h
theorem _root_.Go.Proofs.Yl{p:Prop}(h:p:=by first|omega|(simp;omega)):p:=h
abbrev Yk(f:Nat->Int):Array Value:=#[.int .u8 (f 0),.int .u8 (f 1),.int .u8 (f 2),.int .u8 (f 3),.int .u8 (f 4),.int .u8 (f 5),.int .u8 (f 6),.int .u8 (f 7)]
abbrev Yj(f:Nat->Int):List Value:=[.int .u8 (f 0),.int .u8 (f 1),.int .u8 (f 2),.int .u8 (f 3),.int .u8 (f 4),.int .u8 (f 5),.int .u8 (f 6),.int .u8 (f 7)]
abbrev Yi:Array Value:=#[.int .i64 0,.int .i64 0,.int .i64 0,.int .i64 0,cr ba 0 0,cr ba 0 0,cr ba 0 0]
abbrev Yh(a b c d:Int)(e:Option Addr)(f g:Nat)(h:Option Addr)(i j:Nat)(k:Option Addr)(l m:Nat):List Value:=[.int .i64 a,.int .i64 b,.int .i64 c,.int .i64 d,cr e f g,cr h i j,cr k l m]
abbrev Yg(a b c d:Int)(e:Option Addr)(f g:Nat)(h:Option Addr)(i j:Nat)(k:Option Addr)(l m:Nat):Array Value:=#[.int .i64 a,.int .i64 b,.int .i64 c,.int .i64 d,cr e f g,cr h i j,cr k l m]
abbrev Ye(a:Int)(b c:ByteArray)(d:Int)(e:ByteArray)(f:Option Addr)(g h:Nat):Array Value:=#[.int .i64 a,.string b,.string c,.int .i64 d,.string e,cr f g h]
abbrev Yd:Array Value:=#[.int .i64 0,.int .i64 0,.int .i64 0,.int .i64 0,.int .i64 0,cr ba 0 0,cr ba 0 0,cr ba 0 0,.string ⟨#[]⟩,.int .i64 0,.string ⟨#[]⟩,.string ⟨#[]⟩]
abbrev Yc(a:Int):Array Value:=#[.int .i64 a,.int .i64 0,.int .i64 0,.int .i64 0,.int .i64 0,cr ba 0 0,cr ba 0 0,cr ba 0 0,.string ⟨#[]⟩,.int .i64 0,.string ⟨#[]⟩,.string ⟨#[]⟩]
abbrev Yb:Array Value:=#[.int .i64 0,.string ⟨#[]⟩,.string ⟨#[]⟩,.int .i64 0,.string ⟨#[]⟩,cr ba 0 0]
abbrev Ya:List Value:=[.int .i64 0,.string ⟨#[]⟩,.string ⟨#[]⟩,.int .i64 0,.string ⟨#[]⟩,cr ba 0 0]
abbrev Xz(a:Int)(b c:ByteArray)(d:Int)(e:ByteArray)(f:Option Addr)(g h:Nat):List Value:=[.int .i64 a,.string b,.string c,.int .i64 d,.string e,cr f g h]
abbrev Xy(a:Int)(e:Option Addr)(f g:Nat)(h:Option Addr)(i j:Nat)(b c d:Int):Array Value:=#[.int .i64 a,cr e f g,cr h i j,.int .i64 b,.int .i64 c,.int .i64 d]
abbrev Xx:Array Value:=#[.int .i64 0,.string ⟨#[]⟩,.int .i64 0,.string ⟨#[]⟩,.int .i64 0,.int .i64 0]
abbrev Xw:List Value:=[.int .i64 0,.string ⟨#[]⟩,.int .i64 0,.string ⟨#[]⟩,.int .i64 0,.int .i64 0]
abbrev Xv:Array Value:=#[.int .i64 0,.int .i64 0,.int .i64 0,.int .i64 0,.int .i64 0,cr ba 0 0,cr ba 0 0,cr ba 0 0,.int .i64 0,cr ba 0 0,cr ba 0 0,.int .i64 0,.int .i64 0,.int .i64 0,cr ba 0 0]
abbrev Xu(a:Int)(e:Option Addr)(f g:Nat)(h:Option Addr)(i j:Nat)(b c d:Int):List Value:=[.int .i64 a,cr e f g,cr h i j,.int .i64 b,.int .i64 c,.int .i64 d]
abbrev Xt:Array Value:=#[.int .i64 0,cr ba 0 0,cr ba 0 0,.int .i64 0,.int .i64 0,.int .i64 0]
abbrev Xs:List Value:=[.int .i64 0,cr ba 0 0,cr ba 0 0,.int .i64 0,.int .i64 0,.int .i64 0]
abbrev Xr(a:Int):List Value:=[.int .i64 a,.int .i64 0,.int .i64 0,.int .i64 0,.int .i64 0,cr ba 0 0,cr ba 0 0,cr ba 0 0,.string ⟨#[]⟩,.int .i64 0,.string ⟨#[]⟩,.string ⟨#[]⟩]
abbrev Xo:Array Value:=#[.int .i64 0,.int .i64 0,cr ba 0 0,cr ba 0 0,.int .i64 0,.int .i64 0,.int .i64 0,.int .i64 0,cr ba 0 0,cr ba 0 0,cr ba 0 0,.int .i64 0,cr ba 0 0,cr ba 0 0,.int .i64 0,.int .i64 0,.int .i64 0]
abbrev Xn:List Value:=[.int .i64 0,.int .i64 0,cr ba 0 0,cr ba 0 0,.int .i64 0,.int .i64 0,.int .i64 0,.int .i64 0,cr ba 0 0,cr ba 0 0,cr ba 0 0,.int .i64 0,cr ba 0 0,cr ba 0 0,.int .i64 0,.int .i64 0,.int .i64 0]
abbrev Xk:Array Value:=#[.int .i64 0,.int .i64 0,.int .i64 0,cr ba 0 0,cr ba 0 0,.int .i64 0,.int .i64 0,.int .i64 0,.int .i64 0,cr ba 0 0,cr ba 0 0,cr ba 0 0,.int .i64 0,cr ba 0 0,cr ba 0 0,.int .i64 0,.int .i64 0,.int .i64 0,.string ⟨#[]⟩,.int .i64 0,.string ⟨#[]⟩,.string ⟨#[]⟩]
abbrev Xj(a:Int):List Value:=[.int .i64 a,.int .i64 0,.int .i64 0,cr ba 0 0,cr ba 0 0,.int .i64 0,.int .i64 0,.int .i64 0,.int .i64 0,cr ba 0 0,cr ba 0 0,cr ba 0 0,.int .i64 0,cr ba 0 0,cr ba 0 0,.int .i64 0,.int .i64 0,.int .i64 0,.string ⟨#[]⟩,.int .i64 0,.string ⟨#[]⟩,.string ⟨#[]⟩]
abbrev Xi(a:Int):Array Value:=#[.int .i64 a,.int .i64 0,.int .i64 0,cr ba 0 0,cr ba 0 0,.int .i64 0,.int .i64 0,.int .i64 0,.int .i64 0,cr ba 0 0,cr ba 0 0,cr ba 0 0,.int .i64 0,cr ba 0 0,cr ba 0 0,.int .i64 0,.int .i64 0,.int .i64 0,.string ⟨#[]⟩,.int .i64 0,.string ⟨#[]⟩,.string ⟨#[]⟩]
abbrev Xh(a:Int):Array Value:=#[.int .i64 a,.int .i64 0,.int .i64 0,.int .i64 0,.int .i64 0,cr ba 0 0,cr ba 0 0,cr ba 0 0,.int .i64 0,cr ba 0 0,cr ba 0 0,.int .i64 0,.int .i64 0,.int .i64 0,cr ba 0 0]
theorem Sb{k:IntKind}{a b:Int}(h:a=b):Ending.returned (.int k a)=C5 (.int k b):=N0
def Ab(w:Zh)(B:Nat)(a:Zk)(ss:Zl):Prop:=
 ss=[]\/∃b off,a=an ⟨b,off,ba⟩/\b<B/\∀i s,ss[i]?=an s->ek w (Zd b (off+i))=an (.string s)
theorem Ab.A{w f:Zh}{B:Nat}{a:Zk}{e:Zl}(h:Ab w B a e)(j:bs B w f):Ab f B a e:=by
 rcases h with h|⟨b,d,g,c,k⟩
 .exact dp h
 exact eb ⟨b,d,g,c,λi s l=>(j.cell (p:=⟨b,d+i,ba⟩) c).ag (k i s l)⟩
theorem Ab.mono{w:Zh}{B B':Nat}{a:Zk}{c:Zl}(h:Ab w B a c)(i:B<=B'):Ab w B' a c:=by
 rcases h with h|⟨b,d,e,g,f⟩
 .exact dp h
 exact eb ⟨b,d,e,Yv,f⟩
abbrev Ab.ai:=@Ab.mono
theorem Ab.at{w:Zh}{B:Nat}{a:Zk}{d:Zl}(h:Ab w B a d){k:Nat}(e:k<eh d):
 ∃b c,a=an ⟨b,c,ba⟩/\b<B/\∀i s,d[i]?=an s->ek w (Zd b (c+i))=an (C4 s):=by
 rcases h with h|h
 .subst h;simp at e
 exact h
def bz(ss:Zl):Nat:=(ss.map ByteArray.size).sum
theorem Nj(a:Zl)(k:Nat)(s:Zi)(h:a[k]?=an s):bz (a.take (k+1))=bz (a.take k)+s.size:=by obtain⟨b,rfl⟩:=Zw h;unfold bz;rw[Zu b,map_append,sum_append];simp
theorem bn(a:Zl)(k:Nat):bz (a.take k)<=bz a:=by
 have h:bz a=bz (a.take k)+bz (a.drop k):=by unfold bz;rw[<-sum_append,<-map_append,take_append_drop]
 omega
theorem Ck:(prog.info? 9).map (λi=>(i.zero,i.size,i.bytes))=an (an Zc,1,16):=Yr
theorem Ab.own{w:Zh}{b:Nat}{g c:Nat}{a:Zl}(h:eo w b 9 1 (Yz g (eh a) c) (eh a) (a.map string)):Ab w w.1.size (an ⟨g,0,ba⟩) a:=by refine eb ⟨g,0,rfl,(h.lt g rfl).2,λi s e=> ?_⟩;obtain⟨d,rfl⟩:=Zw e;rw[Ay,h.cellAt i Yv];simp[d]
theorem Ab.X{w b:Zh}{a:Zk}{d:Zl}(h:Ab w w.1.size a d)(c:Zz w b):Ab b b.1.size a d:=(h.A c).ai c.size
theorem Bx{B:Nat}{a w:Zh}(h:bs B a w)(n:Nat):bs B a (w.drewN n):=⟨h.os,h.tape,h.output,h.size,h.block⟩
theorem XY{W a:Zh}(c:Zz W a):(∀b o,b<W.1.size->ek a (Zd b o)=ek W (Zd b o))/\(∀b o,b<W.1.size->el a ⟨b,o,ba⟩=el W ⟨b,o,ba⟩):=
 ⟨λb o h=>c.cell (p:=⟨b,o,ba⟩) h,λb o h=>c.frozen (p:=⟨b,o,ba⟩) h⟩
theorem Ai{a b c:Zh}{f:Option Nat}(d:ep a b f)(e:ep b c f):ep a c f:=
 ⟨e.os.ag d.os,e.tape.ag d.tape,e.output.ag d.output,Zm d.size e.size,λk h g=>(e.block k (Zr h d.size) g).ag (d.block k h g)⟩
theorem Af{a b:Zh}(c:Option Nat)(h:Zz a b):ep a b c:=⟨h.os,h.tape,h.output,h.size,λk d _=>h.block k d⟩
theorem AO(a:Zh)(b:Option Nat):ep a a b:=⟨rfl,rfl,rfl,Zx,λ_ _ _=>rfl⟩
theorem JI{a b:Nat}(h:b<a):an a≠an b:=λe=>Dl (A8 e)
theorem As(w:Zh)(g p:Nat)(v:D4):ep w (w.setCell (Zd g p) v) (an g):=
 ⟨rfl,rfl,rfl,Yu,λi _ a=>Below.heap_setCell _ _ _ _ (λe=>a (by rw[e]))⟩
def Aa(w:Zh)(B:Nat)(l:Zj):Prop:=∀j v,l[j]?=an v->ek w (Zd B j)=an v/\el w ⟨B,j,ba⟩=bq
theorem Aa.lt{w:Zh}{B:Nat}{v:D4}{l:Zj}(h:Aa w B (v::l)):B<w.1.size:=Bf w _ (h 0 v rfl).1
theorem Aa.co{w f:Zh}{B b:Nat}{v:D4}{l:Zj}(h:Aa w B (v::l))(c:ep w f (an b))(a:b<B):Aa f B (v::l):=by intro j x e;have d:=h.lt;exact⟨(c.cell_far ⟨B,j,ba⟩ d (JI a)).ag (h j x e).1,(c.frozen_far ⟨B,j,ba⟩ d (JI a)).ag (h j x e).2⟩
theorem Aa.A{w d:Zh}{B:Nat}{v:D4}{l:Zj}(h:Aa w B (v::l))(a:Zz w d):Aa d B (v::l):=by intro j x c;have b:=h.lt;exact⟨(a.cell (p:=⟨B,j,ba⟩) b).ag (h j x c).1,(a.frozen (p:=⟨B,j,ba⟩) b).ag (h j x c).2⟩
theorem Aa.new(w:Zh)(l:Zj)(T:TypeId):Aa (w.alloc (ca (ei l) T)) w.1.size l:=by intro j v a;refine⟨?_,Yu⟩;rw[cell?_alloc_at _ _ _ _ rfl];simpa using a
theorem Aa.au{w f:Zh}{B c:Nat}{v:D4}{l:Zj}(h:Aa w B (v::l))(a:ep w f (an c))(g:c≠B):Aa f B (v::l):=by
 intro j x e;have b:=h.lt;have d:an B≠an c:=Yt;exact⟨(a.cell_far ⟨B,j,ba⟩ b d).ag (h j x e).1,(a.frozen_far ⟨B,j,ba⟩ b d).ag (h j x e).2⟩
theorem Aa.set{w:Zh}{B:Nat}{l:Zj}(h:Aa w B l)(j:Nat)(v:D4):Aa (w.setCell (Zd B j) v) B (l.set j v):=by
 intro i x a;by_cases hij:i=j
 .subst hij;have b:i<eh l:=by
   rcases Cg i (eh l) with c|c
   .exact c
   rw[getElem?_eq_none (D2 c)]at a;cases a
  rw[getElem?_set_self b]at a;injection a with a;subst a;obtain⟨d,f⟩:=h i _ (Zv b);exact⟨by simp[go_sem,d],by simpa [go_sem]using f⟩
 rw[getElem?_set_ne (λe=>hij e.symm)]at a;have⟨d,f⟩:=h i x a;refine⟨?_,by simpa [go_sem]using f⟩;rw[cell?_setCell_other _ _ _ _ (by intro e;injection e;omega)];exact d
theorem Ax{w W:Zh}{l:Zj}{T:TypeId}(h:W=w.alloc (ca (ei l) T)):bs w.1.size w W/\W.1.size=w.1.size+1/\Aa W w.1.size l:=by subst h;exact⟨Zy,Yu,Aa.new w l T⟩
theorem Aa.alloc{w:Zh}{B:Nat}{l:Zj}(h:Aa w B l)(a:B<w.1.size)(o:Obj):Aa (w.alloc o) B l:=λj v b=>
 ⟨(((Below.refl w.1.size w).alloc (Zx) o).cell (p:=⟨B,j,ba⟩) a).ag (h j v b).1,(((Below.refl w.1.size w).alloc (Zx) o).frozen (p:=⟨B,j,ba⟩) a).ag (h j v b).2⟩
theorem AQ{w W:Zh}{l k:Zj}{T U:TypeId}(h:W=(w.alloc (ca (ei l) T)).alloc (ca (ei k) U)):bs w.1.size w W/\W.1.size=w.1.size+2/\Aa W w.1.size l/\Aa W (w.1.size+1) k:=by obtain⟨a,d,e⟩:=Ax (w:=w) (l:=l) (T:=T) rfl;have⟨f,b,c⟩:=Ax h;rw[d]at b c;subst h;exact⟨a.ag (f.ai a.size),b,e.alloc Yv _,c⟩
theorem BI{w W:Zh}{l k m:Zj}{T U V:TypeId}(h:W=((w.alloc (ca (ei l) T)).alloc (ca (ei k) U)).alloc (ca (ei m) V)):bs w.1.size w W/\W.1.size=w.1.size+3/\Aa W w.1.size l/\Aa W (w.1.size+1) k/\Aa W (w.1.size+2) m:=by obtain⟨a,d,e,f⟩:=AQ (w:=w) (l:=l) (T:=T) (k:=k) (U:=U) rfl;have⟨g,b,c⟩:=Ax h;rw[d]at b c;subst h;exact⟨a.ag (g.ai a.size),b,e.alloc Yv _,f.alloc Yv _,c⟩
theorem al4{w W:Zh}{l k m n:Zj}{T U V R:TypeId}(h:W=(((w.alloc (ca (ei l) T)).alloc (ca (ei k) U)).alloc (ca (ei m) V)).alloc (ca (ei n) R)):bs w.1.size w W/\W.1.size=w.1.size+4/\Aa W w.1.size l/\Aa W (w.1.size+1) k/\Aa W (w.1.size+2) m/\Aa W (w.1.size+3) n:=by obtain⟨a,d,e,f,g⟩:=BI (w:=w) (l:=l) (T:=T) (k:=k) (U:=U) (m:=m) (V:=V) rfl;have⟨i,b,c⟩:=Ax h;rw[d]at b c;subst h;exact⟨a.ag (i.ai a.size),b,e.alloc Yv _,f.alloc Yv _,g.alloc Yv _,c⟩
theorem Aa.c2{w:Zh}{B:Nat}{t:Zj}{a b:D4}(h:Aa w B t)(i j:Nat)(c:t[i]?=an a:=by rfl)(d:t[j]?=an b:=by rfl):ek w (Zd B i)=an a/\ek w (Zd B j)=an b:=
 ⟨(h i _ c).1,(h j _ d).1⟩
theorem Aa.c3{w:Zh}{B:Nat}{t:Zj}{a b c:D4}(h:Aa w B t)(i j k:Nat)(d:t[i]?=an a:=by rfl)(e:t[j]?=an b:=by rfl)(f:t[k]?=an c:=by rfl):ek w (Zd B i)=an a/\ek w (Zd B j)=an b/\ek w (Zd B k)=an c:=
 ⟨(h i _ d).1,(h j _ e).1,(h k _ f).1⟩
theorem Aa.c4{w:Zh}{B:Nat}{t:Zj}{a b c d:D4}(h:Aa w B t)(i j k l:Nat)(e:t[i]?=an a:=by rfl)(f:t[j]?=an b:=by rfl)(g:t[k]?=an c:=by rfl)(m:t[l]?=an d:=by rfl):ek w (Zd B i)=an a/\ek w (Zd B j)=an b/\ek w (Zd B k)=an c/\ek w (Zd B l)=an d:=
 ⟨(h i _ e).1,(h j _ f).1,(h k _ g).1,(h l _ m).1⟩
theorem Aa.c6{w:Zh}{B:Nat}{t:Zj}{a b c d e f:D4}(h:Aa w B t)(i j k l m n:Nat)(g:t[i]?=an a:=by rfl)(o:t[j]?=an b:=by rfl)(p:t[k]?=an c:=by rfl)(q:t[l]?=an d:=by rfl)(r:t[m]?=an e:=by rfl)(s:t[n]?=an f:=by rfl):ek w (Zd B i)=an a/\ek w (Zd B j)=an b/\ek w (Zd B k)=an c/\ek w (Zd B l)=an d/\ek w (Zd B m)=an e/\ek w (Zd B n)=an f:=
 ⟨(h i _ g).1,(h j _ o).1,(h k _ p).1,(h l _ q).1,(h m _ r).1,(h n _ s).1⟩
theorem Aa.c7{w:Zh}{B:Nat}{t:Zj}{a b c d e f g:D4}(h:Aa w B t)(i j k l m n o:Nat)(p:t[i]?=an a:=by rfl)(q:t[j]?=an b:=by rfl)(r:t[k]?=an c:=by rfl)(s:t[l]?=an d:=by rfl)(u:t[m]?=an e:=by rfl)(v:t[n]?=an f:=by rfl)(x:t[o]?=an g:=by rfl):ek w (Zd B i)=an a/\ek w (Zd B j)=an b/\ek w (Zd B k)=an c/\ek w (Zd B l)=an d/\ek w (Zd B m)=an e/\ek w (Zd B n)=an f/\ek w (Zd B o)=an g:=
 ⟨(h i _ p).1,(h j _ q).1,(h k _ r).1,(h l _ s).1,(h m _ u).1,(h n _ v).1,(h o _ x).1⟩
structure OF (a b:Zh) (p q:Option Nat):Prop where
 os:b.os=a.os
 tape:b.tape=a.tape
 output:b.output=a.output
 size:a.1.size<=b.1.size
 block:∀k,k<a.1.size->an k≠p->an k≠q->b.1[k]?=a.1[k]?
theorem OF.A{a b:Zh}{p q:Option Nat}(h:OF a b p q){B:Nat}(f:B<=a.1.size)(c:∀k,p=an k->B<=k)(d:∀k,q=an k->B<=k):bs B a b:=
 ⟨h.os,h.tape,h.output,h.size,λk g=>h.block k Yv (λe=>Dl (c k e.symm)) (λe=>Dl (d k e.symm))⟩
theorem OF.row{a b:Zh}{p q:Option Nat}(h:OF a b p q){c:Nat}{e:TypeId}{v:D4}{n:Nat}{j:Zj}(i:eo a c e 1 v n j)(d:ej v=ba\/(ej v≠p/\ej v≠q)):eo b c e 1 v n j:=by
 refine⟨i.1,?_⟩;rcases i.2 with o|⟨g,k,l,rfl,s,f,r⟩
 .exact dp o
 refine eb ⟨g,k,l,rfl,s,?_,r⟩;have m:=(A6.1 f).1;simp[ownBlock]at d;exact(h.block g m d.1 d.2).ag f
theorem Jg{w c:Zh}{a:Nat}{v:D4}{n:Nat}{d:Zj}(h:eo w a 9 1 v n d)(b:Zz w c):eo c a 9 1 v n d:=by
 cases hv:ej v with
 |none=>exact h.kept (Af ba b) (dp hv)
 |some g=>exact h.kept (Af ba b) (eb (by rw[hv];simp))
def Gx(wd:Int)(ss:Zl)(i:Nat):Bool:=
 match ss[i]? with
 |none=>bg
 |some s=>decide ((s.size:Int)=wd)&&(match i with
  |0=>bg
  |j+1=>match ss[j]? with
   |none=>bg
   |some r=>Op.bytesLess r.toList s.toList)
def DS(wd:Int)(ss:Zl):Bool:=(List.range (eh ss)).all (Gx wd ss)
theorem Hf{b:Int}{a:Zl}{s:Zi}(h:a[0]?=an s):Gx b a 0=bx ((s.size:Int)=b):=by simp[Gx,h]
theorem En{b:Int}{a:Zl}{j:Nat}{s r:Zi}(h:a[j+1]?=an s)(c:a[j]?=an r):Gx b a (j+1)=(bx ((s.size:Int)=b)&&Op.bytesLess r.toList s.toList):=by simp[Gx,h,c]
theorem FC{b:Int}{a:Zl}{k:Nat}(c:k<eh a)(h:Gx b a k=bq):DS b a=bq:=by unfold DS;rw[all_eq_false];exact⟨k,D2 c,by simp[h]⟩
theorem LJ{b:Int}{a:Zl}(h:∀i,i<eh a->Gx b a i=bg):DS b a=bg:=by unfold DS;rw[all_eq_true];intro i c;exact h i (D2 c)
theorem It{p:Nat->Prop}{k:Nat}(h:∀i,i<k->p i)(b:p k):∀i,i<k+1->p i:=by
 intro i c;rcases Cg i k with a|a
 .exact h i a
 obtain rfl:i=k:=Yv;exact b
theorem AH{a b:Bool}(h:a=b):Ending.returned (ef a)=C5 (ef b):=N0
theorem ML{a:Zk}(u:Nat){c:Zl}(l:Int){w:Zh}{B:Nat}(d:Ab w B a c)(C:eh c<=1048576):
 D8 199 #[C3 a (eh c) u,Zg l] w λe f=>e=C5 (ef (bx (eh c<=30)&&DS l c))/\f=w:=by
 by_cases hn:30<eh c
 .delta D8;go_in;go_wp2;go_ret;exact⟨AH Yt,rfl⟩
 have v:Hid (bx (eh c<=30)=bg):=by show _=_;simp;omega
 delta D8;go_in;go_wp2
 go_loop [12] (λi=>∃k:Nat,k<=eh c/\i=Zg k/\Hid (∀i,i<k->Gx l c i=bg)) (λi=>eh c -(intOf i).toNat)
 case atStart=>exact⟨0,Aq _,rfl,λi h=>Yv⟩
 obtain⟨k,q,rfl,f⟩:=hrel;by_cases hlt:k<eh c
 case neg=>go_wp2;go_ret;exact⟨AH (by rw[LJ (λi p=>f i Yv),v.o];rfl),rfl⟩
 obtain⟨b,z,y,A,p⟩:=d.at hlt;subst y;have g:=Yw (Zv hlt);have n:=p k c[k] g
 match k,q,hlt,f,g,n with
 |0,q,hlt,f,g,n=>
  rw[Nat.add_zero]at n;clear p d;generalize c[0]=s at *
  by_cases hsz:(s.size:Int)=l
  .have t:((s.size:Int)==l)=bg:=Yt;have m:=Yw hsz;clear hsz;go_wp2;exact⟨⟨1,Yv,rfl,It f (by rw[Hf g];simpa using m.o)⟩,Ys⟩
  have t:((s.size:Int)==l)=bq:=Yt
  have m:=Yw hsz;clear hsz;go_wp2;go_ret;exact⟨AH (by rw[FC hlt (by rw[Hf g,decide_eq_false m.o])];simp),rfl⟩
 |j+1,q,hlt,f,g,n=>
  have o:Hid (c[j]?=an c[j]):=Zv Yv;have x:=p j c[j] o;clear p d;generalize c[j+1]=s at *
  generalize c[j]=r at *
  by_cases hsz:(s.size:Int)=l
  .have t:((s.size:Int)==l)=bg:=Yt;have m:=Yw hsz;clear hsz;by_cases d:Op.bytesLess r.toList s.toList=bg
   .go_wp2;exact⟨⟨j+1+1,Yv,Yn,It f (by rw[En g o];simp[m.o,d])⟩,Ys⟩
   have d:Op.bytesLess r.toList s.toList=bq:=D2 d;go_wp2;go_ret;exact⟨AH (by rw[FC hlt (by rw[En g o];simp[d])];simp),rfl⟩
  have t:((s.size:Int)==l)=bq:=Yt;have m:=Yw hsz;clear hsz;go_wp2;go_ret;exact⟨AH (by rw[FC hlt (by rw[En g o,decide_eq_false m.o];rfl)];simp),rfl⟩
def AL(t:Zi)(ss:Zl)(wd:Int):Bool:=bx (1<=wd/\wd<=8)&&(bx (t.size<=2000)&&(bx (eh ss<=30)&&DS wd ss))
theorem Gy{t:Zi}{b:Zl}{a:Int}(h:¬(1<=a/\a<=8)):AL t b a=bq:=by unfold AL;rw[decide_eq_false h];rfl
theorem KX{t:Zi}{a:Zl}{b:Int}(h:¬t.size<=2000):AL t a b=bq:=by unfold AL;rw[decide_eq_false h];simp
theorem QA{t:Zi}{a:Zl}{b:Int}(h:¬eh a<=30):AL t a b=bq:=by unfold AL;rw[decide_eq_false h];simp
theorem IJ{t:Zi}{a:Zl}{b:Int}(h:DS b a=bq):AL t a b=bq:=by unfold AL;rw[h];simp
theorem QB{t:Zi}{b:Zl}{a:Int}(c:1<=a)(d:a<=8)(e:t.size<=2000)(f:eh b<=30)(g:DS a b=bg):AL t b a=bg:=by unfold AL;rw[g];simp[c,d,e,f]
theorem EJ(t:Zi){a:Zk}(c:Nat){b:Zl}(d:Int){w:Zh}(f:Ab w w.1.size a b)(i:eh b<=1048576)(j:t.size<=ew):
 D8 178 #[ct #[C4 t,C3 a (eh b) c],Zg d] w λe g=>e=C5 (ef (AL t b d))/\g=w.alloc (ca #[C4 t,C3 a (eh b) c] 76):=by
 have h:bs w.1.size w (w.alloc (ca #[C4 t,C2 a b c] 76)):=Zy;unfold ew at j;by_cases h1:1<=d
 .by_cases h2:d<=8
  .by_cases h3:t.size<=2000
   .delta D8;go_in;go_wp2_with (first
     |(go_at_call 199;refine(ML c d (f.A h) i).ai ?_;rintro e g ⟨rfl,rfl⟩)
     |go_in)
    go_ret;exact⟨AH (by simp[AL,h1,h2,h3]),rfl⟩
   have l:bx ((t.size:Int)<=2000)=bq:=Yt;delta D8;go_in;go_wp2;go_ret;exact⟨AH (KX Yv).symm,rfl⟩
  have k:bx (d<=8)=bq:=Yt;delta D8;go_in;go_wp2;go_ret;exact⟨AH (Gy Yv).symm,rfl⟩
 delta D8;go_in;go_wp2;go_ret;exact⟨AH (Gy Yv).symm,rfl⟩
theorem DT(t:Zi){a:Zk}(u:Nat){c:Zl}(l:Int){w:Zh}(d:Ab w w.1.size a c)(G:eh c<=1048576)(D:t.size<=ew):
 D8 98 #[ct #[C4 t,C3 a (eh c) u],Zg l] w λe f=>e=C5 (ef (AL t c l))/\Zz w f:=by
 have m:bs w.1.size w (w.alloc (ca #[C4 t,C2 a c u] 76)):=Zy;unfold ew at D;by_cases h1:1<=l
 case neg=>delta D8;go_in;go_wp2;go_ret;exact⟨AH (Gy Yv).symm,m⟩
 by_cases h2:l<=8
 case neg=>
  have v:bx (l<=8)=bq:=Yt;delta D8;go_in;go_wp2;go_ret;exact⟨AH (Gy Yv).symm,m⟩
 by_cases h3:t.size<=2000
 case neg=>
  have z:bx (2000<(t.size:Int))=bg:=Yt;delta D8;go_in;go_wp2;go_ret;exact⟨AH (KX Yv).symm,m⟩
 have z:bx (2000<(t.size:Int))=bq:=Yt;by_cases h4:eh c<=30
 case neg=>
  have A:bx (30<(eh c:Int))=bg:=Yt;delta D8;go_in;go_wp2;go_ret;exact⟨AH (QA Yv).symm,m⟩
 have A:bx (30<(eh c:Int))=bq:=Yt;delta D8;go_in;go_wp2;go_loopw [5] (λi wr=>∃k n:Nat,k<=eh c/\i=Zg k/\Hid (∀i,i<k->Gx l c i=bg)/\wr=(w.alloc (ca #[C4 t,C2 a c u] 76)).drewN n) (λi _=>eh c -(intOf i).toNat)
 case atStart=>exact⟨0,0,Aq _,rfl,λi h=>Yv,rfl⟩
 obtain⟨k,n,x,rfl,f,rfl⟩:=hrel;by_cases hlt:k<eh c
 case neg=>go_wp2;go_ret;exact⟨AH (QB h1 h2 h3 h4 (LJ (λi v=>f i Yv))).symm,Bx m _⟩
 obtain⟨b,F,C,E,v⟩:=d.at hlt;subst C;have g:Hid (c[k]?=an c[k]):=Zv hlt;have p:=v k c[k] g
 match k,x,hlt,f,g,p with
 |0,x,hlt,f,g,p=>
  rw[Nat.add_zero]at p;clear v d;generalize c[0]=s at *
  by_cases hsz:(s.size:Int)=l
  .have y:((s.size:Int) !=l)=bq:=Yt;have o:=Yw hsz;clear hsz;go_wp2;go_quiet (fail);go_wp2;exact⟨⟨1,_,Yv,rfl,It f (by rw[Hf g];simpa using o.o),rfl⟩,Ys⟩
  have y:((s.size:Int) !=l)=bg:=Yt
  have o:=Yw hsz;clear hsz;go_wp2;go_quiet (fail);go_wp2;go_ret;exact⟨AH (IJ (FC hlt (by rw[Hf g,decide_eq_false o.o]))).symm,Bx (Bx m _) _⟩
 |j+1,x,hlt,f,g,p=>
  have q:Hid (c[j]?=an c[j]):=Zv Yv;have B:=v j c[j] q;clear v d;generalize c[j+1]=s at *
  generalize c[j]=r at *
  by_cases hsz:(s.size:Int)=l
  .have y:((s.size:Int) !=l)=bq:=Yt;have o:=Yw hsz;clear hsz;by_cases d:Op.bytesLess r.toList s.toList=bg
   .go_wp2;go_quiet (fail);go_wp2;exact⟨⟨j+1+1,_,Yv,Yn,It f (by rw[En g q];simp[o.o,d]),rfl⟩,Ys⟩
   have d:Op.bytesLess r.toList s.toList=bq:=D2 d;go_wp2;go_quiet (fail);go_wp2;go_ret;exact⟨AH (IJ (FC hlt (by rw[En g q];simp[d]))).symm,Bx (Bx m _) _⟩
  have y:((s.size:Int) !=l)=bg:=Yt;have o:=Yw hsz;clear hsz;go_wp2;go_quiet (fail);go_wp2;go_ret;exact⟨AH (IJ (FC hlt (by rw[En g q,decide_eq_false o.o];rfl))).symm,Bx (Bx m _) _⟩
end Go.Proofs.YtfehblndlffcmaaGreatDoor
namespace Go.Proofs
open Go.Shelf Go.RowKit
def Tryz.ff:Go.Shelf.Ren:=⟨fun|169=>183|n=>n,fun|70=>254|9=>9|0=>0|72=>256|37=>22|127=>274|3=>3|5=>5|n=>n,fun|n=>n⟩
theorem Tryz.lays169:Go.Proofs.Lays.n169 Tryz.prog Tryz.ff:={
 mixed:=Yr
 f169:=Tryz.func183.ag (congrArg an Yr)
 t0:=Tryz.underlying0
 a0:=Tryz.isAgg0
 z0:=Tryz.sizeOf0
 v0:=Tryz.zeroValue0
 t3:=Tryz.underlying3
 a3:=Tryz.isAgg3
 z3:=Tryz.sizeOf3
 v3:=Tryz.zeroValue3
 t9:=Tryz.underlying9
 a9:=Tryz.isAgg9
 z9:=Tryz.sizeOf9
 v9:=Tryz.zeroValue9
 t37:=Tryz.underlying22
 a37:=Tryz.isAgg22
 z37:=Tryz.sizeOf22
 v37:=Tryz.zeroValue22
 t70:=Tryz.underlying254
 a70:=Tryz.isAgg254
 z70:=Tryz.sizeOf254
 v70:=Tryz.zeroValue254
 t72:=Tryz.underlying256
 a72:=Tryz.isAgg256
 z72:=Tryz.sizeOf256
 v72:=Tryz.zeroValue256
 t127:=Tryz.underlying274
 a127:=Tryz.isAgg274
 z127:=Tryz.sizeOf274
 v127:=Tryz.zeroValue274}
theorem Tryz.az:Builder.Extra Tryz.prog Tryz.ff:={
 sizeBuilder:=Yr
 liesBuilder:=Yr
 t5:=Tryz.underlying5
 a5:=Tryz.isAgg5
 z5:=Tryz.sizeOf5
 v5:=Tryz.zeroValue5
 infoByte:=Yr
 cellsByte:=Yr
 sizeByte:=Yr
 neB5:=by decide}
theorem Tryz.Builder_String_any(B b:Nat)(l:List UInt8)(w:Zh)(h:Lib.IsBuilder 256 5 B b (Lib.byteCells l) w)(a:B<=w.1.size):
 Calls Tryz.prog 183 #[Yy b] w λe c=>e=C5 (C4 ⟨ei l⟩)/\bs B w c:=
 Any.Builder_String_any Tryz.lays169 Tryz.az B b l w h a
namespace YtfehblndlffcmaaGreatDoor
open Go.ChangeShapes Go.WideShapes Go.ChangeAt
theorem JJ{B b:Nat}{d:Zj}{w:Zh}(h:Lib.IsBuilder 256 5 B b d w):
 Calls Tryz.prog 200 #[Yy b] w λe a=>e=C5 (.tuple #[])/\Lib.BuilderAt 256 5 B b (Yy b) d a/\bs B w a:=by
 have X:=Tryz.az;have⟨j,c,f⟩:=Option.map_eq_some_iff.1 X.sizeBuilder;rcases h with h|h
 .obtain⟨g,a,i⟩:=h.cell0,h.shape,h.frozen0;go_enter Tryz.func200,Tryz.ntmps200;go_wp2;rw[Lib.run_to_unsafe w ⟨b,0,ba⟩ Tryz.underlying254 Tryz.underlying193 c (by rw[f];decide) a (Nat.zero_lt_succ 1)];simp only[Result.andThen];rw[Oper.upon_value];go_wp2;rw[run_callFunc_extern Tryz.func213 Yr Yr Yr (e:=Extern.AbiNoEscape.same) Yr];rw[Lib.run_noEscape];simp only[Result.andThen];rw[Oper.upon_value];go_wp2;rw[Lib.run_from_unsafe w ⟨b,0,ba⟩ Tryz.underlying193 Tryz.underlying254 c a X.liesBuilder];simp only[Result.andThen];rw[Oper.upon_value];go_wp2;go_end0;exact⟨rfl,h.used _,(Below.refl B w).setCell (p:=⟨b,0,ba⟩) h.1 _⟩
 have g:=h.cell0;go_enter Tryz.func200,Tryz.ntmps200;go_wp2;rw[Lib.run_neq_ptr_same w _ Tryz.underlying254 c];go_wp2;go_end0;exact⟨rfl,h,Below.refl B _⟩
theorem Oe{B b:Nat}{i:Zj}(c:Int){w:Zh}(h:Lib.IsBuilder 256 5 B b i w)(hlen:eh i+1<=140737488355328)(O:B<=w.1.size):
 Calls Tryz.prog 181 #[Yy b,.int .u8 c] w λe a=>e=C5 .nilIface/\Lib.IsBuilder 256 5 B b (i++[.int .u8 c]) a/\bs B w a:=by
 have X:=Tryz.az;have⟨L,J,F,G,H⟩:=info_parts X.infoByte;go_enter Tryz.func181,Tryz.ntmps181;go_wp2_with (go_at_call 200;refine(JJ h).ai ?_);rintro e q ⟨rfl,I,r⟩;obtain⟨y,v,n,d,E⟩:=I;have c1:ek q (Zd b 1)=an v:=by rw[Lib.cell_of_heap n];rfl
 go_wp2_with (at_builtin;refine wpList_append_own _ rfl _ _ 22 rfl B 5 L (.int .u8 0) 1 1 Tryz.underlying22 J F G H rfl Yq _ _ _ rfl (d.alloc _) ⟨q.1.size,0,ba⟩ 1 1 [.int .u8 c] rfl rfl ?c1 ?c2 ?c3 ?c4 ?c5 ?_)
 case c1=>
  intro j u o
  match j,o with
  |0,o=>simp at o;subst o;simp[Addr.add]
 case c2=>intro u z;simp at z;subst z;rfl
 case c3=>unfold ew;omega
 case c4=>omega
 case c5=>have:=r.size;simp;omega
 intro M C f a _;have D:b<q.1.size:=by
  rcases Cg b q.1.size with s|s
  .exact s
  simp[Array.getElem?_eq_none s]at n
 have m:C.1[b]?=an (ca #[Yy b,v] 256 (0,0)):=by rw[a.block b Yt (λe=>E e.symm),Lib.alloc_old _ _ _ D];exact n
 have P:ek C (Zd b 1)=an v:=by rw[Lib.cell_of_heap m];rfl
 have Q:=Lib.frozen_of_heap m 1;obtain⟨x,A,l,rfl⟩:∃x A l,M=C3 x A l:=by
  rcases f.2 with⟨t,_⟩|⟨g,l,N,t,_⟩
  .exact⟨_,_,_,t⟩
  exact⟨_,_,_,t⟩
 go_wp2;go_ret;refine⟨rfl,eb ?_,?_⟩
 .exact Lib.BuilderAt.put (T:=256) (e:=5) y m (bs':=i++[.int .u8 c]) Yt X.neB5
 exact((r.alloc Yv _).grown a Yt (λk K=>(d.lt k K).1)).setCell (p:=⟨b,1,ba⟩) y _
theorem Iu{B b:Nat}{f:Zj}(s:Zi){w:Zh}(h:Lib.IsBuilder 256 5 B b f w)(hlen:eh f+s.size<=140737488355328)(L:B<=w.1.size):
 Calls Tryz.prog 182 #[Yy b,C4 s] w λe a=>e=C5 (.tuple #[Zg s.size,.nilIface])/\Lib.IsBuilder 256 5 B b (f++Lib.byteCells s.data.toList) a/\bs B w a:=by
 have X:=Tryz.az;have⟨I,G,C,D,E⟩:=info_parts X.infoByte;go_enter Tryz.func182,Tryz.ntmps182;go_wp2_with (go_at_call 200;refine(JJ h).ai ?_);rintro e q ⟨rfl,F,m⟩;obtain⟨t,v,l,d,A⟩:=F;have M:ek q (Zd b 1)=an v:=by rw[Lib.cell_of_heap l];rfl
 go_wp2_with (at_builtin;refine Lib.wpList_append_own_string _ rfl _ _ 22 9 rfl B 5 I Tryz.underlying22 Tryz.underlying9 G C D E _ _ _ rfl d s rfl ?c3 ?c4 ?c5 ?_)
 case c3=>unfold ew;omega
 case c4=>omega
 case c5=>have:=m.size;omega
 intro J x c a _;have z:b<q.1.size:=by
  rcases Cg b q.1.size with n|n
  .exact n
  simp[Array.getElem?_eq_none n]at l
 have j:x.1[b]?=an (ca #[Yy b,v] 256 (0,0)):=by rw[a.block b z (λe=>A e.symm)];exact l
 have N:ek x (Zd b 1)=an v:=by rw[Lib.cell_of_heap j];rfl
 have O:=Lib.frozen_of_heap j 1;obtain⟨r,u,i,rfl⟩:∃r u i,J=C3 r u i:=by
  rcases c.2 with⟨o,_⟩|⟨g,i,K,o,_⟩
  .exact⟨_,_,_,o⟩
  exact⟨_,_,_,o⟩
 go_wp2
 go_ret2
 refine⟨rfl,eb ?_,?_⟩
 .have y:Lib.strCells s=Lib.byteCells s.data.toList:=rfl;rw[<-y];exact Lib.BuilderAt.put (T:=256) (e:=5) t j (bs':=f++Lib.strCells s) (by simpa [Lib.strCells_length]using c) X.neB5
 exact(m.grown a Yv (λk H=>(d.lt k H).1)).setCell (p:=⟨b,1,ba⟩) t _
end YtfehblndlffcmaaGreatDoor
end Go.Proofs
namespace Go.Proofs.YtfehblndlffcmaaGreatDoor
open ChangeShapes WideShapes ChangeAt RowKit _root_.Go.Proofs.Tryz List World Value
def flat(ss:Zl):List UInt8:=ss.flatMap (fun s=>s.data.toList)
theorem TD(a:Zl)(k:Nat)(s:Zi)(h:a[k]?=an s):flat (a.take (k+1))=flat (a.take k)++s.data.toList:=by obtain⟨b,rfl⟩:=Zw h;unfold flat;rw[Zu b,flatMap_append];simp
theorem DK(a:Zl):eh (flat a)=bz a:=by
 induction a with
 |nil=>rfl
 |cons s r ih=>
  unfold flat bz at *
  rw[flatMap_cons,Am,ih];simp
def BX(t:Zi)(ss:Zl):List UInt8:=UInt8.ofNat (eh ss)::(flat ss++t.data.toList)
theorem TE{c:Int}{b:Zl}(h:DS c b=bg){i:Nat}{s:Zi}(a:b[i]?=an s):(s.size:Int)=c:=by unfold DS at h;rw[all_eq_true]at h;have d:=(Zw a).1;have:=h i Yt;unfold Gx at this;rw[a]at this;simp at this;exact this.1
theorem Sc(a:Zl)(n:Nat)(h:∀s∈a,s.size=n):bz a=eh a *n:=by
 induction a with
 |nil=>simp[bz]
 |cons s r ih=>
  have b:=h s Yu;have c:=ih (λs d=>h s (by simp[d]));unfold bz at *
  rw[map_cons,sum_cons,c,b,length_cons,Nat.add_mul,Nat.one_mul,Nat.add_comm]
structure FE (t:Zi) (ss:Zl) (wd:Int):Prop where
 lo:1<=wd
 hi:wd<=8
 i:t.size<=2000
 D:eh ss<=30
 all:DS wd ss=bg
theorem BC{t:Zi}{a:Zl}{b:Int}(h:AL t a b=bg):FE t a b:=by unfold AL at h;simp at h;exact⟨h.1.1,h.1.2,h.2.1,h.2.2.1,h.2.2.2⟩
theorem FE.size{t:Zi}{ss:Zl}{a:Int}(h:FE t ss a){i:Nat}{s:Zi}(b:ss[i]?=an s):(s.size:Int)=a:=TE h.all b
theorem FE.bz{t:Zi}{a:Zl}{b:Int}(h:FE t a b):bz a=eh a *b.toNat:=by refine Sc a _ λs d=> ?_;have⟨i,c⟩:=A9 d;have:=h.size c;omega
theorem FE.bn{t:Zi}{a:Zl}{b:Int}(h:FE t a b):YtfehblndlffcmaaGreatDoor.bz a<=240:=by have c:=h.bz;have d:eh a *b.toNat<=30 *8:=Nat.mul_le_mul h.D (Dl h.hi);omega
theorem Nk:(prog.info? 5).map (λi=>(i.zero,i.size,i.bytes))=an (an (.int .u8 0),1,1):=Yr
theorem Nl(n:Nat)(h:n<=30):int .u8 (n:Int)=.int .u8 ((UInt8.ofNat n).toNat:Int):=by
 have:(UInt8.ofNat n).toNat=n:=Yt;rw[this]
theorem Nn(a:Zl)(k:Nat)(s:Zi)(h:a[k]?=an s)(c:UInt8):
 Lib.byteCells (c::flat (a.take k))++Lib.strCells s=Lib.byteCells (c::flat (a.take (k+1))):=by
 rw[TD a k s h,Lib.strCells_eq,<-Lib.byteCells_append];rfl
theorem No(t:Zi)(a:Zk)(n:Nat)(d:Zl)(N:Int)(w:Zh)(o:Ab w w.1.size a d)(E:AL t d N=bg):
 D8 65 #[ct #[C4 t,C3 a (eh d) n],Zg N] w λe f=>e=C5 (C4 ⟨ei (BX t d)⟩)/\Zz w f:=by
 have L:=BC E;obtain⟨zC,U,O,S,R,F,G,H⟩:=L.bn,L.D,L.i,info_parts Nk;have D:bs w.1.size w (w.alloc (ca #[C4 t,C2 a d n] 76)):=Zy;delta D8;go_in;go_wp2_with fail;refine(DT t n N (o.X D) Yv Yo).ai ?_;rintro e u ⟨rfl,v⟩;rw[E];have⟨zE,zH⟩:=XY v;have M:=v.size;simp at M;go_wp2;have r:eo (u.alloc (ca #[.int .u8 (eh d)] 5)) (w.1.size+1) 5 1 (Yz u.1.size 1 1) 1 (Lib.byteCells (UInt8.ofNat (eh d)::flat (d.take 0))):=by have:=ownsRow_lit (base:=w.1.size+1) (e:=5) (size:=1) u #[.int .u8 (eh d)] 1 M (by simp[ew]) rfl;simpa [Lib.byteCells,flat,Nl (eh d) U]using this
 have q:bs (w.1.size+1) (w.alloc (ca #[C4 t,C2 a d n] 76)) (u.alloc (ca #[.int .u8 (eh d)] 5)):=by have:=v.alloc (D2 M) (ca #[.int .u8 (eh d)] 5);simpa using this
 go_loopw [5,6] (λf i wr=>∃(k g c:Nat),k<=eh d/\i=Zg k/\f=Yz g (1+bz (d.take k)) c/\
  eo wr (w.1.size+1) 5 1 (Yz g (1+bz (d.take k)) c) (1+bz (d.take k)) (Lib.byteCells (UInt8.ofNat (eh d)::flat (d.take k)))/\
  bs (w.1.size+1) (w.alloc (ca #[C4 t,C2 a d n] 76)) wr) (λ_ i _=>eh d -(intOf i).toNat)
 case atStart=>exact⟨0,u.1.size,1,Aq _,rfl,by simp[bz],by simpa [bz]using r,q⟩
 obtain⟨k,g,c,B,rfl,rfl,l,h⟩:=hrel;have zB:ek wr (Zd (w.1.size) 1)=an (C2 a d n):=by rw[h.cell (p:=⟨w.1.size,1,ba⟩) Yu];simp
 have i:=h.size;simp at i;have zA:=bn d k;by_cases hlt:k<eh d
 .obtain⟨b,I,ha,V,hc⟩:=o.at hlt;subst ha;have z:Hid (d[k]?=an d[k]):=Zv hlt;have zF:ek wr (Zd b (I+k))=an (C4 d[k]):=by rw[h.cell (p:=⟨b,I+k,ba⟩) Yt,cell?_alloc_past _ _ _ V];exact hc k _ z
  obtain⟨y,X,C⟩:=Yw (Nj d k _ z),Yw (Nn d k _ z (UInt8.ofNat (eh d))),bn d (k+1);rw[y.o]at C;generalize d[k]=s at *
  go_wp2_with (at_builtin;refine Lib.wpList_append_own_string _ rfl _ _ 22 9 rfl (w.1.size+1) 5 S underlying22 underlying9 R F G H _ _ _ rfl l s rfl ?c3 ?c4 ?c5 ?_)
  case c3=>unfold ew;omega
  case c4=>omega
  case c5=>omega
  intro v' T f m _;have⟨K,J,A,Y,Z⟩:=f.form Yv;subst A;have x:=h.grown m Yv (λk B=>(l.lt k B).1);rw[X.o]at f;go_wp2;refine⟨⟨k+1,K,J,Yv,Yn,?_,?_,x⟩,Ys⟩
  .rw[y.o,Nat.add_assoc]
  rw[y.o,<-Nat.add_assoc];exact f
 have Q:ek wr (Zd (w.1.size) 0)=an (C4 t):=by rw[h.cell (p:=⟨w.1.size,0,ba⟩) Yu];simp
 rw[Zt Yv]at l |-;go_wp2_with (at_builtin;refine Lib.wpList_append_own_string _ rfl _ _ 22 9 rfl (w.1.size+1) 5 S underlying22 underlying9 R F G H _ _ _ rfl l t rfl ?c3 ?c4 ?c5 ?_)
 case c3=>unfold ew;omega
 case c4=>omega
 case c5=>omega
 intro v' T f m _;have⟨K,J,A,Y,Z⟩:=f.form Yv;subst A;have x:=h.grown m Yv (λk B=>(l.lt k B).1);have W:Lib.byteCells (UInt8.ofNat (eh d)::flat d)++Lib.strCells t=Lib.byteCells (BX t d):=by rw[Lib.strCells_eq,<-Lib.byteCells_append];rfl
 rw[W]at f;have hlen:1+bz d+t.size=eh (BX t d):=by have:=DK d;simp[BX,this];omega
 rw[hlen]at f |-;have zG:=run_convert_bytes_back (P:=prog) T 22 9 5 ⟨K,0,ba⟩ J (BX t d) underlying22 underlying5 underlying9 (λj hj=>f.cells rfl j _ (by simp[Lib.byteCells,hj]));go_wp2;go_ret;refine⟨rfl,?_⟩;exact D.ag (x.ai Yv)
theorem VI(t:Zi){a:Zk}(c:Nat){b:Zl}(g:Int){w:Zh}(d:Ab w w.1.size a b)(i:AL t b g=bq)(j:eh b<=1048576)(k:t.size<=ew):
 D8 65 #[ct #[C4 t,C3 a (eh b) c],Zg g] w λe f=>e=C5 (C4 ByteArray.empty)/\Zz w f:=by
 have f:bs w.1.size w (w.alloc (ca #[C4 t,C2 a b c] 76)):=Zy;delta D8;go_in;go_wp2_with fail;refine(DT t c g (d.X f) j k).ai ?_;rintro e l ⟨rfl,h⟩;rw[i];go_wp2;go_ret;exact⟨rfl,f.ag (h.ai Yu)⟩
theorem VJ(t:Zi){a:Zk}(c:Nat){b:Zl}(g:Int){w:Zh}(d:Ab w w.1.size a b)(h:AL t b g=bq)(i:eh b<=1048576)(j:t.size<=ew):
 D8 159 #[ct #[C4 t,C3 a (eh b) c],Zg g] w λe f=>e=C5 (C4 ByteArray.empty)/\Zz w f:=by
 have f:bs w.1.size w (w.alloc (ca #[C4 t,C2 a b c] 76)):=Zy;delta D8;go_in;go_wp2_with fail;refine(EJ t c g (d.X f) i j).ai ?_;rintro e k ⟨rfl,rfl⟩;rw[h];go_wp2;go_ret;exact⟨rfl,f.alloc Yu _⟩
theorem TF(t:Zi){a:Zk}(g:Nat){c:Zl}(G:Int){w:Zh}(l:Ab w w.1.size a c)(C:AL t c G=bg):
 D8 159 #[ct #[C4 t,C3 a (eh c) g],Zg G] w λe d=>e=C5 (C4 ⟨ei (BX t c)⟩)/\Zz w d:=by
 have F:=BC C;obtain⟨zA,I,H⟩:=F.bn,F.D,F.i;have A:bs w.1.size w (w.alloc (ca #[C4 t,C2 a c g] 76)):=Zy;have⟨W,d⟩:=Ag ((w.alloc (ca #[C4 t,C2 a c g] 76)).alloc (ca #[C4 t,C2 a c g] 76));have z:bs w.1.size w W:=by rw[d];exact A.alloc Yu _
 have L:W.1.size=w.1.size+1+1:=by rw[d];simp
 have J:ek W (Zd (w.1.size) 0)=an (C4 t):=by rw[d];simp
 have K:ek W (Zd (w.1.size) 1)=an (C2 a c g):=by rw[d];simp
 have n:=l.A z;have X:=Yw d;delta D8;go_in;go_wp2_with fail;refine(EJ t g G (l.X A) Yv Yo).ai ?_;rintro e o ⟨rfl,D⟩;rw[<-X.o]at D;subst D;clear d;rw[C];have h:=Lib.fresh_isBuilder 256 5 o;have B:bs o.1.size o (o.alloc (ca #[.pointer ba,Zb] 256)):=Zy;rw[L]at h B;go_wp2_with fail;refine(Oe _ h Yu Yt).ai ?_;rintro e w2 ⟨rfl,j,M⟩;have r:=B.ag M;have U:ek w2 (Zd (w.1.size) 1)=an (C2 a c g):=(r.cell (p:=⟨w.1.size,1,ba⟩) Yt).ag K;have S:[]++[int .u8 (eh c:Int)]=Lib.byteCells (UInt8.ofNat (eh c)::flat (c.take 0)):=by simp[Lib.byteCells,flat,Nl (eh c) I]
 rw[S]at j;go_wp2;go_loopw [20] (λi wr=>∃(k:Nat),k<=eh c/\i=Zg k/\Lib.IsBuilder 256 5 (w.1.size+1+1) (w.1.size+1+1) (Lib.byteCells (UInt8.ofNat (eh c)::flat (c.take k))) wr/\
  bs (w.1.size+1+1) o wr) (λi _=>eh c -(intOf i).toNat)
 case atStart=>exact⟨0,Aq _,rfl,j,r⟩
 obtain⟨k,hk,rfl,h,d⟩:=hrel;obtain⟨zC,x,Q⟩:=d.size,bn c k,DK (c.take k);have u:Hid (eh (Lib.byteCells (UInt8.ofNat (eh c)::flat (c.take k)))=1+bz (c.take k)):=by show _=_;rw[Lib.byteCells_length,length_cons,Q];omega
 by_cases hlt:k<eh c
 .obtain⟨b,E,Y,r,Z⟩:=n.at hlt;subst Y;have v:Hid (c[k]?=an c[k]):=Zv hlt;have zB:ek wr (Zd b (E+k))=an (C4 c[k]):=by rw[d.cell (p:=⟨b,E+k,ba⟩) Yt];exact Z k _ v
  obtain⟨O,R,y⟩:=Yw (Nj c k _ v),Yw (Nn c k _ v (UInt8.ofNat (eh c))),bn c (k+1);rw[O.o]at y;generalize c[k]=s at *
  go_wp2_with fail;refine(Iu s h (by rw[u.o];omega) Yv).ai ?_;rintro e i ⟨rfl,f,q⟩;rw[<-Lib.strCells_eq,R.o]at f;have m:=d.ag q;go_wp2;exact⟨⟨k+1,Yv,Yn,f,m⟩,Ys⟩
 have T:ek wr (Zd (w.1.size) 0)=an (C4 t):=(d.cell (p:=⟨w.1.size,0,ba⟩) Yt).ag J;rw[Zt Yv]at h u x;go_wp2_with fail;refine(Iu t h (by rw[u.o];omega) Yv).ai ?_;rintro e i ⟨rfl,f,q⟩;have P:Lib.byteCells (UInt8.ofNat (eh c)::flat c)++Lib.byteCells t.data.toList=Lib.byteCells (BX t c):=by rw[<-Lib.byteCells_append];rfl
 rw[P]at f;have m:=d.ag q;have V:=m.size;go_wp2_with fail;refine(Tryz.Builder_String_any (w.1.size+1+1) (w.1.size+1+1) _ _ f Yv).ai ?_;rintro e w4 ⟨rfl,N⟩;go_wp2;go_ret;exact⟨rfl,z.ag ((m.ag N).ai Yv)⟩
def AG(t:Zi)(ss:Zl)(wd:Int):Zi:=if AL t ss wd=bg then ⟨ei (BX t ss)⟩else ByteArray.empty
theorem GJ(t:Zi){a:Zk}(f:Nat){b:Zl}(c:Int){w:Zh}(d:Ab w w.1.size a b)(g:eh b<=1048576)(h:t.size<=ew):
 D8 65 #[ct #[C4 t,C3 a (eh b) f],Zg c] w λe i=>e=C5 (C4 (AG t b c))/\Zz w i:=by
 cases hok:AL t b c with
 |true=>rw[show AG t b c=⟨ei (BX t b)⟩from by unfold AG;rw[if_pos hok]];exact No t a f b c w d hok
 |false=>rw[show AG t b c=ByteArray.empty from by unfold AG;rw[if_neg Yt]];exact VI t f c d hok g h
theorem Np(t:Zi){a:Zk}(f:Nat){b:Zl}(c:Int){w:Zh}(d:Ab w w.1.size a b)(g:eh b<=1048576)(h:t.size<=ew):
 D8 159 #[ct #[C4 t,C3 a (eh b) f],Zg c] w λe i=>e=C5 (C4 (AG t b c))/\Zz w i:=by
 cases hok:AL t b c with
 |true=>rw[show AG t b c=⟨ei (BX t b)⟩from by unfold AG;rw[if_pos hok]];exact TF t f c d hok
 |false=>rw[show AG t b c=ByteArray.empty from by unfold AG;rw[if_neg Yt]];exact VJ t f c d hok g h
theorem QC{a:Int}:0<=IntKind.u64.wrap a/\IntKind.u64.wrap a<18446744073709551616:=by simp[IntKind.wrap,IntKind.bits,IntKind.signed];omega
def Rq(v:Int)(b:UInt8):Int:=IntKind.u64.wrap (bits BinOp.xor IntKind.u64 v (IntKind.u64.wrap b.toNat) *1099511628211)
def Fh(l:List UInt8):Int:=l.foldl Rq 14695981039346656037
theorem Rr(l:List UInt8):0<=Fh l/\Fh l<18446744073709551616:=by
 unfold Fh;rcases l.eq_nil_or_concat with rfl|⟨r,b,rfl⟩
 .simp
 simp only[concat_eq_append,foldl_append,foldl_cons,foldl_nil];exact QC
theorem Nq(s:Zi)(k:Nat)(h:k<s.size):Fh (s.data.toList.take (k+1))=Rq (Fh (s.data.toList.take k)) s[k]:=by rw[Zu (D2 h)];unfold Fh;rw[foldl_append];rfl
def DV(v:Int):Nat->List Int
 |0=>[]
 |k+1=>(v/256^k%256)::DV v k
theorem Dq(v:Int)(k:Nat):eh (DV v k)=k:=by
 induction k with
 |zero=>rfl
 |succ k ih=>simp[DV,ih]
theorem QD(v:Int)(k:Nat):∀i,i<k->(DV v k)[i]?=an (v/256^(k -1 -i)%256):=by
 induction k with
 |zero=>intro i h;omega
 |succ k ih=>
  intro i h
  match i with
  |0=>simp[DV]
  |i+1=>rw[DV,getElem?_cons_succ,ih i Yv,show k -1 -i=k+1 -1 -(i+1)from by omega]
def Hw(v:Int)(k:Nat):Zj:=(DV v k).map (Value.int .u8)
theorem LK(v:Int)(k:Nat):eh (Hw v k)=k:=by simp[Hw,Dq]
theorem VK(v:Int)(k:Nat):v/256^k/256=v/256^(k+1):=by rw[Int.ediv_ediv_of_nonneg (Int.pow_nonneg Yq),Int.pow_succ]
theorem Abf(v:Int)(k:Nat)(a:0<=v)(h:v<18446744073709551616):0<=v/256^k/\v/256^k<18446744073709551616:=by have b:(0:Int)<256^k:=Int.pow_pos Yq;exact⟨Int.ediv_nonneg a (Int.le_of_lt b),Int.lt_of_le_of_lt (Int.ediv_le_self _ a) h⟩
def Ds(l:List UInt8)(n:Nat):Zi:=strOfNums (DV (Fh l) n)
theorem infoByte:(prog.info? 5).map (λi=>(i.zero,i.size,i.bytes))=an (an (.int .u8 0),1,1):=Yr
theorem Jh(s:Zi)(h:Int)(w:Zh)(C:s.size<=ew)(I:1<=h)(J:h<=8):
 D8 64 #[C4 s,Zg h] w λe a=>e=C5 (C4 (Ds s.data.toList h.toNat))/\Zz w a:=by
 unfold ew at C;have⟨E,n,r,t,x⟩:=info_parts infoByte;delta D8;go_in;go_wp2
 go_loop [5,6] (λv i=>∃(k:Nat),k<=s.size/\i=Zg k/\v=.int .u64 (Fh (s.data.toList.take k))) (λ_ i=>s.size -(intOf i).toNat)
 case atStart=>exact⟨0,Aq _,rfl,rfl⟩
 obtain⟨k,o,rfl,rfl⟩:=hrel;by_cases hlt:k<s.size
 .have y:=Yw (Nq s k hlt);go_wp2;exact⟨⟨k+1,Yv,Yn,by rw[y.o];rfl⟩,Ys⟩
 have B:Hid (Fh (s.data.toList.take k)=Fh s.data.toList):=by show _=_;rw[Zt Yt]
 have l:=Rr (s.data.toList.take k);generalize Fh (s.data.toList.take k)=V at *
 go_wp2;go_loopw [5,7,8] (λv a i wr=>∃(k:Nat) (g c:Nat),k<=h/\i=Zg k/\v=.int .u64 (V/256^k)/\a=Yz g k c/\eo wr w.1.size 5 1 (Yz g k c) k (Hw V k)/\Zz w wr/\w.1.size<=wr.1.size) (λ_ _ i _=>(h -intOf i).toNat)
 case atStart=>exact⟨0,_,_,Yv,rfl,Yu,rfl,ownsRow_lit w #[] 0 (Zx) Yv rfl,Zy,Yu⟩
 obtain⟨j,g,c,K,rfl,rfl,rfl,f,d,m⟩:=hrel;by_cases hlt2:j<h
 .have F:=Abf V j l.1 l.2;go_wp2_with (first
   |(at_builtin;refine wpList_append_own _ rfl _ _ 22 rfl w.1.size 5 E (.int .u8 0) 1 1 underlying22 n r t x rfl Yq _ 1 [.int .u8 (V/256^j%256)] rfl ?c0 ⟨g,0,ba⟩ j c (Hw V j) rfl (by rw[LK];omega) ?c1 ?c2 ?c3 ?c4 ?c5 ?_)
   |go_in)
  case c0=>exact ownsRow_lit wr _ 1 m (by simp[ew]) rfl
  case c1=>exact(f.alloc _).cells rfl
  case c2=>intro u D;obtain⟨_,_,rfl⟩:=mem_map.1 D;rfl
  case c3=>unfold ew;omega
  case c4=>omega
  case c5=>simp;omega
  intro L M a b _;have⟨A,z,q,G,H⟩:=a.form Yv;subst q;have p:=(d.alloc m _).grown b Yt (by intro k o;simp[ownBlock]at o;omega);rw[Nat.add_comm 1 j]at a |-;clear f d b;go_wp2;refine⟨⟨j+1,A,z,Yv,Yn,by rw[<-VK],rfl,a,p,Yv⟩,Ys⟩
 obtain rfl:(j:Int)=h:=Yv;have b:=run_convert_bytes_arg (P:=prog) wr 22 5 underlying22 underlying5 g 0 j c (DV V j) (Dq V j) (λi n=>by
  rw[Ay,f.cellAt i Yv];have:=Dq V j;simp[Hw,getD,Zv (show i<eh (DV V j) by omega)]) 9 underlying9
 go_wp2;go_ret;refine⟨?_,d⟩;unfold Ds;rw[<-B.o];rfl
theorem YT(s:Zi)(a:Int)(w:Zh)(h:a<1\/8<a):
 D8 64 #[C4 s,Zg a] w λe b=>e=C5 (C4 ByteArray.empty)/\b=w:=by
 rcases h with h|h
 .have b:¬1<=a:=Yv;delta D8;go_in;go_wp2;go_ret;exact⟨rfl,rfl⟩
 have b:1<=a:=Yv;have c:bx (a<=8)=bq:=Yt;delta D8;go_in;go_wp2;go_ret;exact⟨rfl,rfl⟩
theorem YU{k:IntKind}{a b:Int}(h:a=b):Ending.returned (.int k a)=C5 (.int k b):=N0
theorem YV(s:Zi)(w:Zh)(b:s.size<=ew):
 D8 185 #[C4 s] w λe a=>e=C5 (.int .u64 (Fh s.data.toList))/\a=w:=by
 unfold ew at b;delta D8;go_in;go_wp2
 go_loop [3,7] (λv i=>∃(k:Nat),k<=s.size/\i=Zg k/\v=.int .u64 (Fh (s.data.toList.take k))) (λ_ i=>s.size -(intOf i).toNat)
 case atStart=>exact⟨0,Aq _,rfl,rfl⟩
 obtain⟨k,c,rfl,rfl⟩:=hrel;by_cases hlt:k<s.size
 .have a:=Yw (Nq s k hlt);go_wp2;exact⟨⟨k+1,Yv,Yn,by rw[a.o];rfl⟩,Ys⟩
 go_wp2;go_ret;exact⟨YU (by rw[Zt Yt]),rfl⟩
def LL(v wd:Int)(j:Nat):Int:=v/2^(8 *(wd -1 -(j:Int))).toNat%256
def Dc(v wd:Int)(k j:Nat):Int:=if j<k then LL v wd j else 0
def ET(v wd:Int)(k:Nat):Array Value:= #[.int .u8 (Dc v wd k 0),.int .u8 (Dc v wd k 1),.int .u8 (Dc v wd k 2),.int .u8 (Dc v wd k 3),.int .u8 (Dc v wd k 4),.int .u8 (Dc v wd k 5),.int .u8 (Dc v wd k 6),.int .u8 (Dc v wd k 7)]
theorem Dm(v a:Int)(k j:Nat)(h:j<8):(ET v a k)[j]?=an (.int .u8 (Dc v a k j)):=by
 match j,h with
 |0,_=>rfl|1,_=>rfl|2,_=>rfl|3,_=>rfl|4,_=>rfl|5,_=>rfl|6,_=>rfl|7,_=>rfl
theorem Sd(v a:Int):ET v a 0= #[.int .u8 0,.int .u8 0,.int .u8 0,.int .u8 0,.int .u8 0,.int .u8 0,.int .u8 0,.int .u8 0]:=by simp[ET,Dc]
theorem TG(v a:Int)(k:Nat)(h:k<8):(ET v a k).setIfInBounds k (.int .u8 (LL v a k))=ET v a (k+1):=by
 match k,h with
 |0,_|1,_|2,_|3,_|4,_|5,_|6,_|7,_=>simp[ET,Dc]
theorem TH(v:Int)(k j:Nat)(h:j<k):LL v k j=v/256^(k -1 -j)%256:=by unfold LL;rw[show(8 *((k:Int) -1 -(j:Int))).toNat=8 *(k -1 -j)from by omega,Int.pow_mul];rfl
theorem VL(v a:Int)(w:Zh)(m:1<=a)(n:a<=8)(_hv0:0<=v)(_hv:v<18446744073709551616):
 D8 184 #[.int .u64 v,Zg a] w λe b=>e=C5 (ct (Yk (Dc v a a.toNat)))/\b=(w.alloc (ca (ET v a a.toNat) 122)).alloc (ca (ET v a a.toNat) 122):=by
 delta D8;go_in;go_wp2;go_loopw [8] (λi wr=>∃k:Nat,k<=a/\i=Zg k/\wr=(w.alloc (Obj.cells
  #[int IntKind.u8 0,int IntKind.u8 0,int IntKind.u8 0,int IntKind.u8 0,
   int IntKind.u8 0,int IntKind.u8 0,int IntKind.u8 0,int IntKind.u8 0]
  122)).alloc (ca (ET v a k) 122)) (λi _=>(a -intOf i).toNat)
 case atStart=>exact⟨0,Yv,rfl,by rw[Sd]⟩
 obtain⟨k,p,rfl,rfl⟩:=hrel;by_cases hlt:k<a
 .have o:=Dm v a k k Yv;go_wp2;refine⟨⟨k+1,Yv,Yn,?_⟩,Ys⟩;have:=TG v a k Yv;unfold LL at this;rw[this]
 obtain rfl:(k:Int)=a:=Yv;have b:=Dm v k k 0 Yv;have c:=Dm v k k 1 Yv;have d:=Dm v k k 2 Yv;have f:=Dm v k k 3 Yv;have g:=Dm v k k 4 Yv;have h:=Dm v k k 5 Yv;have j:=Dm v k k 6 Yv;have l:=Dm v k k 7 Yv;go_wp2;exact C1 (ct (ET v k k)) (by simp[results,results184,go_sem];rfl) ⟨rfl,rfl⟩
theorem VM(s:Zi)(a:Int)(w:Zh)(k:s.size<=ew)(f:1<=a)(h:a<=8):
 D8 160 #[C4 s,Zg a] w λe d=>e=C5 (C4 (Ds s.data.toList a.toNat))/\Zz w d:=by
 have b:=Rr s.data.toList;obtain⟨n,rfl⟩:∃n:Nat,a=n:=⟨a.toNat,Yv⟩;have j:∀(W:Zh) (g:Nat),g=W.1.size->Sem.run prog (convert 22 9 (Yz g n 8)) (W.alloc (Obj.cells (ET (Fh s.data.toList) n n) 122))=.ok (C4 (Ds s.data.toList n)) (W.alloc (Obj.cells (ET (Fh s.data.toList) n n) 122)):=λW g c=>c▸
  run_convert_bytes_arg (P:=prog) _ 22 5 underlying22 underlying5 W.1.size 0 n 8 (DV (Fh s.data.toList) n) (Dq _ n) (λi c=>by
   rw[Ay,cell?_alloc_new,Dm _ _ _ _ Yv];simp only[getD,QD _ n i c,Option.getD_some];unfold Dc;rw[if_pos c,TH _ _ _ c]) 9 underlying9
 have c:(0:Int)<=n:=Yv
 unfold ET at j;delta D8;go_in;go_wp2_with (first
  |(go_at_call 185;refine(YV s _ k).ai ?_;rintro e d ⟨rfl,rfl⟩)
  |(go_at_call 184;refine(VL _ _ _ f h b.1 b.2).ai ?_;rintro e d ⟨rfl,rfl⟩)
  |go_in)
 go_ret;refine⟨rfl,?_⟩;exact(((Zy).alloc Yu _).alloc Yt _)
def OM(b:UInt8):Bool:=bx ((33:Int)<=(b.toNat:Int)/\(b.toNat:Int)<=126)
def nameBytes(s:Zi):Bool:=s.data.toList.all OM
def CP(s:Zi):Bool:=bx (1<=s.size/\s.size<=40)&&nameBytes s
theorem FR{s:Zi}{k:Nat}(a:k<s.size)(h:¬((33:Int)<=(s[k].toNat:Int)/\(s[k].toNat:Int)<=126)):nameBytes s=bq:=by unfold nameBytes;rw[all_eq_false];refine⟨s[k],?_,by unfold OM;simpa using h⟩;exact mem_of_getElem (l:=s.data.toList) (i:=k) (h:=D2 a) rfl
theorem JK{s:Zi}(h:∀k (a:k<s.size),(33:Int)<=(s[k].toNat:Int)/\(s[k].toNat:Int)<=126):nameBytes s=bg:=by unfold nameBytes;rw[all_eq_true];intro b c;obtain⟨k,a,rfl⟩:=getElem_of_mem c;exact decide_eq_true (h k (D2 a))
def Se(s:Zi)(k:Nat):Prop:=∀i (hi:i<s.size),i<k->(33:Int)<=(s[i].toNat:Int)/\(s[i].toNat:Int)<=126
theorem Nr{s:Zi}{k:Nat}(h:Se s k)(f:k<s.size)(b:(33:Int)<=(s[k].toNat:Int))(c:(s[k].toNat:Int)<=126):Se s (k+1):=by
 intro i d e;rcases Cg i k with a|a
 .exact h i d a
 obtain rfl:i=k:=Yv;exact⟨b,c⟩
theorem TI(s:Zi)(w:Zh)(m:s.size<=ew):
 D8 179 #[C4 s] w λe a=>e=C5 (ef (CP s))/\a=w:=by
 unfold ew at m;by_cases h1:1<=s.size
 case neg=>
  have b:bx ((s.size:Int)<1)=bg:=Yt;delta D8;go_in;go_wp2;go_ret;exact⟨AH K6,rfl⟩
 by_cases h2:s.size<=40
 case neg=>
  have b:bx ((s.size:Int)<1)=bq:=Yt;have g:bx ((40:Int)<(s.size:Int))=bg:=Yt;delta D8;go_in;go_wp2;go_ret;exact⟨AH K6,rfl⟩
 have b:bx ((s.size:Int)<1)=bq:=Yt;have g:bx ((40:Int)<(s.size:Int))=bq:=Yt;have j:Hid (bx (1<=s.size/\s.size<=40)=bg):=by show _=_;simp;omega
 delta D8;go_in;go_wp2
 go_loop [14] (λi=>∃k:Nat,k<=s.size/\i=Zg k/\Hid (Se s k)) (λi=>s.size -(intOf i).toNat)
 case atStart=>exact⟨0,Aq _,rfl,λi _ h=>Yv⟩
 obtain⟨k,n,rfl,c⟩:=hrel;by_cases hlt:k<s.size
 .by_cases b1:(s[k].toNat:Int)<33
  .have d:bx ((s[k].toNat:Int)<33)=bg:=Yt;go_wp2;go_ret;exact⟨AH J6,rfl⟩
  have d:bx ((s[k].toNat:Int)<33)=bq:=Yt;by_cases b2:(126:Int)<(s[k].toNat:Int)
  .have f:bx ((126:Int)<(s[k].toNat:Int))=bg:=Yt;go_wp2;go_ret;exact⟨AH J6,rfl⟩
  have f:bx ((126:Int)<(s[k].toNat:Int))=bq:=Yt;have HU:=Yw (Nr c hlt Yv Yv);go_wp2;exact⟨⟨k+1,Yv,Yn,HU⟩,Ys⟩
 have a:=JK (s:=s) (λi l=>c i l Yv);go_wp2;go_ret;exact⟨AH (by unfold CP;rw[a,j.o];rfl),rfl⟩
theorem Ns(s:Zi)(w:Zh)(g:s.size<=ew):
 D8 118 #[C4 s] w λe a=>e=C5 (ef (CP s))/\a=w:=by
 unfold ew at g;delta D8;go_in;go_wp2
 go_loop [3] (λi=>∃k:Nat,k<=s.size/\i=Zg k/\Hid (Se s k)) (λi=>s.size -(intOf i).toNat)
 case atStart=>exact⟨0,Aq _,rfl,λi _ h=>Yv⟩
 obtain⟨k,j,rfl,b⟩:=hrel;by_cases hlt:k<s.size
 .by_cases b1:(s[k].toNat:Int)<33
  .have c:bx ((s[k].toNat:Int)<33)=bg:=Yt;go_wp2;go_ret;exact⟨AH J6,rfl⟩
  have c:bx ((s[k].toNat:Int)<33)=bq:=Yt;by_cases b2:(126:Int)<(s[k].toNat:Int)
  .have d:bx ((126:Int)<(s[k].toNat:Int))=bg:=Yt;go_wp2;go_ret;exact⟨AH J6,rfl⟩
  have d:bx ((126:Int)<(s[k].toNat:Int))=bq:=Yt;have HU:=Yw (Nr b hlt Yv Yv);go_wp2;exact⟨⟨k+1,Yv,Yn,HU⟩,Ys⟩
 have a:=JK (s:=s) (λi f=>b i f Yv);by_cases h1:1<=s.size
 .go_wp2;go_ret;refine⟨AH ?_,rfl⟩;unfold CP;rw[a,Bool.and_true];simp[h1];omega
 have f:bx ((1:Int)<=(s.size:Int))=bq:=Yt;go_wp2;go_ret;exact⟨AH K6,rfl⟩
structure Kd where
 sum:Zi
 born:Int
 i:Zi
 D:Zl
abbrev _root_.Go.Proofs.C9:=List Kd
structure Pd where
 name:Zi
 sum:Zi
abbrev _root_.Go.Proofs.Db:=List Pd
structure Ld where
 R:Int
 sum:Zi
 bj:Int
abbrev _root_.Go.Proofs.Da:=List Ld
def Nt(w:Zh)(B:Nat)(b o:Nat)(k:Kd):Prop:=
 ek w (Zd b o)=an (.string k.sum)/\ek w (Zd b (o+1))=an (Zg k.born)/\ek w (Zd b (o+2))=an (.string k.i)/\
  ∃ra rc,ek w (Zd b (o+3))=an (cr ra (eh k.D) rc)/\Ab w B ra k.D
def Br(w:Zh)(B:Nat)(a:Zk)(ks:List Kd):Prop:=
 ks=[]\/∃b off,a=an ⟨b,off,ba⟩/\b<B/\∀i k,ks[i]?=an k->Nt w B b (off+i *4) k
def AS(w:Zh)(B:Nat)(a:Zk)(ps:List Pd):Prop:=
 ps=[]\/∃b off,a=an ⟨b,off,ba⟩/\b<B/\∀i p,ps[i]?=an p->ek w (Zd b (off+i *2))=an (.string p.name)/\ek w (Zd b (off+i *2+1))=an (.string p.sum)
def AR(w:Zh)(B:Nat)(a:Zk)(ls:List Ld):Prop:=
 ls=[]\/∃b off,a=an ⟨b,off,ba⟩/\b<B/\∀i l,ls[i]?=an l->ek w (Zd b (off+i *3))=an (Zg l.R)/\ek w (Zd b (off+i *3+1))=an (.string l.sum)/\ek w (Zd b (off+i *3+2))=an (Zg l.bj)
theorem Nt.A{w d:Zh}{B b o:Nat}{k:Kd}(h:Nt w B b o k)(c:bs B w d)(a:b<B):Nt d B b o k:=by obtain⟨e,f,g,l,m,i,j⟩:=h;exact⟨(c.cell (p:=⟨b,o,ba⟩) a).ag e,(c.cell (p:=⟨b,o+1,ba⟩) a).ag f,(c.cell (p:=⟨b,o+2,ba⟩) a).ag g,l,m,(c.cell (p:=⟨b,o+3,ba⟩) a).ag i,j.A c⟩
theorem Nt.mono{w:Zh}{B B' b o:Nat}{k:Kd}(h:Nt w B b o k)(g:B<=B'):Nt w B' b o k:=by obtain⟨a,c,d,i,j,e,f⟩:=h;exact⟨a,c,d,i,j,e,f.ai g⟩
abbrev Nt.ai:=@Nt.mono
theorem Br.A{w e:Zh}{B:Nat}{a:Zk}{d:C9}(h:Br w B a d)(j:bs B w e):Br e B a d:=by
 rcases h with h|⟨b,f,g,c,l⟩
 .exact dp h
 exact eb ⟨b,f,g,c,λi k m=>(l i k m).A j c⟩
theorem Br.mono{w:Zh}{B B':Nat}{a:Zk}{c:C9}(h:Br w B a c)(f:B<=B'):Br w B' a c:=by
 rcases h with h|⟨b,d,e,l,g⟩
 .exact dp h
 exact eb ⟨b,d,e,Yv,λi k j=>(g i k j).ai f⟩
abbrev Br.ai:=@Br.mono
theorem Br.at{w:Zh}{B:Nat}{a:Zk}{d:C9}(h:Br w B a d){i:Nat}(e:i<eh d):
 ∃b c,a=an ⟨b,c,ba⟩/\b<B/\∀i k,d[i]?=an k->Nt w B b (c+i *4) k:=by
 rcases h with h|h
 .subst h;simp at e
 exact h
theorem AS.A{w l:Zh}{B:Nat}{a:Zk}{j:Db}(h:AS w B a j)(e:bs B w l):AS l B a j:=by
 rcases h with h|⟨b,d,m,c,f⟩
 .exact dp h
 exact eb ⟨b,d,m,c,λi k g=>⟨(e.cell (p:=⟨b,d+i *2,ba⟩) c).ag (f i k g).1,(e.cell (p:=⟨b,d+i *2+1,ba⟩) c).ag (f i k g).2⟩⟩
theorem AS.mono{w:Zh}{B B':Nat}{a:Zk}{c:Db}(h:AS w B a c)(i:B<=B'):AS w B' a c:=by
 rcases h with h|⟨b,d,e,g,f⟩
 .exact dp h
 exact eb ⟨b,d,e,Yv,f⟩
abbrev AS.ai:=@AS.mono
theorem AS.at{w:Zh}{B:Nat}{a:Zk}{d:Db}(h:AS w B a d){i:Nat}(e:i<eh d):
 ∃b c,a=an ⟨b,c,ba⟩/\b<B/\∀i p,d[i]?=an p->ek w (Zd b (c+i *2))=an (C4 p.name)/\ek w (Zd b (c+i *2+1))=an (C4 p.sum):=by
 rcases h with h|h
 .subst h;simp at e
 exact h
theorem AR.A{w l:Zh}{B:Nat}{a:Zk}{j:Da}(h:AR w B a j)(e:bs B w l):AR l B a j:=by
 rcases h with h|⟨b,d,m,c,f⟩
 .exact dp h
 exact eb ⟨b,d,m,c,λi k g=>⟨(e.cell (p:=⟨b,d+i *3,ba⟩) c).ag (f i k g).1,(e.cell (p:=⟨b,d+i *3+1,ba⟩) c).ag (f i k g).2.1,(e.cell (p:=⟨b,d+i *3+2,ba⟩) c).ag (f i k g).2.2⟩⟩
theorem AR.mono{w:Zh}{B B':Nat}{a:Zk}{c:Da}(h:AR w B a c)(i:B<=B'):AR w B' a c:=by
 rcases h with h|⟨b,d,e,g,f⟩
 .exact dp h
 exact eb ⟨b,d,e,Yv,f⟩
abbrev AR.ai:=@AR.mono
theorem AR.at{w:Zh}{B:Nat}{a:Zk}{d:Da}(h:AR w B a d){i:Nat}(e:i<eh d):
 ∃b c,a=an ⟨b,c,ba⟩/\b<B/\∀i l,d[i]?=an l->ek w (Zd b (c+i *3))=an (Zg l.R)/\ek w (Zd b (c+i *3+1))=an (C4 l.sum)/\ek w (Zd b (c+i *3+2))=an (Zg l.bj):=by
 rcases h with h|h
 .subst h;simp at e
 exact h
def less(a b:Zi):Bool:=Op.bytesLess a.toList b.toList
def LM(k:Kd)(wd:Int):Zi:=Ds (AG k.i k.D wd).data.toList wd.toNat
structure TJ (wd now given births:Int):Prop where
 jy:1<=wd
 km:wd<=8
 dj:0<=now
 now2:now<=1000000000
 br:0<=given
 given2:given<=1000000000
 aj:0<=births
 gu:births<=1000000000
structure Aey (wd:Int) (ks:List Kd) (i:Nat) (k:Kd):Prop where
 ok:AL k.i k.D wd=bg
 sum:k.sum=LM k wd
 up:∀j p,i=j+1->ks[j]?=an p->less p.sum k.sum=bg
structure Abg (births:Int) (ks:List Kd) (i:Nat) (k:Kd):Prop where
 lo:1<=k.born
 hi:k.born<=births
 new:∀j p,j<i->ks[j]?=an p->p.born≠k.born
def AA(ks:List Kd)(s:Zi):Prop:=∃u∈ks,u.sum=s
def Adn(ks:List Kd)(k:Kd):Prop:=∀r∈k.D,∃u∈ks,u.sum=r/\u.born<k.born
structure Ado (ks:List Kd) (ps:List Pd) (i:Nat) (p:Pd):Prop where
 name:CP p.name=bg
 up:∀j q,i=j+1->ps[j]?=an q->less q.name p.name=bg
 sum:AA ks p.sum
structure YW (now given:Int) (ks:List Kd) (ls:List Ld) (i:Nat) (l:Ld):Prop where
 lo:1<=l.R
 hi:l.R<=given
 up:∀j q,i=j+1->ls[j]?=an q->q.R<l.R
 sum:AA ks l.sum
 til1:now<l.bj
 til2:l.bj<=now+100000
structure IS (wd now given births:Int) (ks:List Kd) (ps:List Pd) (ls:List Ld):Prop where
 gg:TJ wd now given births
 nth:eh ks<=600
 np:eh ps<=100
 nl:eh ls<=200
 th:∀(i:Nat) k,ks[i]?=an k->Aey wd ks i k
 born:∀(i:Nat) k,ks[i]?=an k->Abg births ks i k
 ref:∀(i:Nat) k,ks[i]?=an k->Adn ks k
 de:∀(i:Nat) p,ps[i]?=an p->Ado ks ps i p
 iq:∀(i:Nat) l,ls[i]?=an l->YW now given ks ls i l
theorem VN{w:Zh}{a:Nat}{v:D4}{n:Nat}{d:Zj}(h:eo w a 9 1 v n d)(c:v≠Zb):∃g b,v=Yz g n b:=by
 rcases Joins.ownsRow_forms h with⟨e,_⟩|b
 .exact absurd e c
 exact b
theorem Abh(b:Zl):∀u∈b.map string,u.oneCell'=bg:=λu a=>by obtain⟨s,_,rfl⟩:=mem_map.1 a;rfl
def kB(s:Zi)(i:Nat):Int:=((s.data.toList[i]?).getD 0).toNat
def Dg(s:Zi):Array Value:= #[.int .u8 (kB s 0),.int .u8 (kB s 1),.int .u8 (kB s 2),.int .u8 (kB s 3),.int .u8 (kB s 4),.int .u8 (kB s 5),.int .u8 (kB s 6),.int .u8 (kB s 7)]
def DA:Array Value:= #[.int .u8 0,.int .u8 0,.int .u8 0,.int .u8 0,.int .u8 0,.int .u8 0,.int .u8 0,.int .u8 0]
def Nu(s:Zi):Zj:=List.take (Nat.min s.size 8) (List.map (fun b=>Value.int .u8 b.toNat) s.data.toList)
theorem CF(s:Zi):eh s.data.toList=s.size:=Yu
theorem LN(s:Zi):eh (Nu s)=min s.size 8:=by have:=CF s;simp only[Nu,C0,B0,this];show min (min s.size 8) s.size=_;omega
theorem YX(s:Zi)(i:Nat)(h:i<min s.size 8):(Nu s)[i]?=an (.int .u8 (kB s i)):=by have a:=CF s;unfold Nu kB;rw[getElem?_take_of_lt (by show i<min s.size 8;exact h),getElem?_map,Zv Yv];simp
theorem YY(s:Zi):ei (DA.toList.take (0+0)++Nu s++DA.toList.drop (0+0+eh (Nu s)))=Dg s:=by
 apply Array.ext';apply ext_getElem?;intro i;have c:=LN s;simp only[Nat.add_zero,take_zero,nil_append,Ay];by_cases h:i<min s.size 8
 .rw[getElem?_append_left Yv,YX s i h];have b:i<8:=Yv
  match i,b with
  |0,_|1,_|2,_|3,_|4,_|5,_|6,_|7,_=>rfl
 rw[getElem?_append_right Yv,c,getElem?_drop,show min s.size 8+(i -min s.size 8)=i from by omega];by_cases b:i<8
 .have a:kB s i=0:=by have d:=CF s;unfold kB;rw[getElem?_eq_none Yv];rfl
  match i,b,a with
  |0,_,a|1,_,a|2,_,a|3,_,a|4,_,a|5,_,a|6,_,a|7,_,a=>simp[DA,Dg,a]
 rw[getElem?_eq_none (by simp[DA];omega),getElem?_eq_none (by simp[Dg];omega)]
theorem ON(w:Zh)(a b:Array Value)(t:TypeId):(w.alloc (ca a t)).setRow w.1.size b=w.alloc (ca b t):=by
 unfold setRow alloc;congr 1;apply Array.ext
 .simp
 intro i d c;simp only[Array.getElem_modify,Array.getElem_push];split
 .rename_i h
  subst h;simp
 rename_i h
 simp at c;rw[dif_pos Yv,dif_pos Yv]
theorem OO(w:Zh)(s:Zi)(d:TypeId):
 (Builtin.copy_ #[22,9] d #[Yz w.1.size 8 8,C4 s]).run prog (w.alloc (ca DA 122))=.ok (goInt (Nat.min s.size 8)) (w.alloc (ca (Dg s) 122)):=by
 obtain⟨h,c,e,f,g⟩:=info_parts Nk;have a:=run_storeCells_at (P:=prog) w.1.size 0 122 (Nu s) 0 DA (w.alloc (ca DA 122)) (heap_alloc_new w _) (by rw[LN];simp[DA];omega) (λv b=>by
  have b:=mem_of_mem_take b;simp only[mem_map]at b;obtain⟨_,_,rfl⟩:=b;rfl)
 rw[YY,ON]at a;unfold Nu at a;simp[Builtin.copy_,run_underlying underlying22,Builtin.lenOf,Builtin.firstCells,sizeOf,typeInfo,c,a,Result.andThen]
def CA(s:Zi):Value:=ct (Dg s)
theorem IT(s:Zi)(w:Zh):
 D8 93 #[C4 s] w λe a=>e=C5 (CA s)/\Zz w a:=by
 have b:∀a,(Builtin.copy_ #[22,9] a #[Yz (w.1.size+1) 8 8,C4 s]).run prog ((w.alloc (ca DA 122)).alloc (ca DA 122))=.ok (goInt (Nat.min s.size 8)) ((w.alloc (ca DA 122)).alloc (ca (Dg s) 122)):=λa=>by have:=OO (w.alloc (ca DA 122)) s a;rwa[show(w.alloc (ca DA 122)).1.size=w.1.size+1 from by simp]at this
 unfold Dg DA at b;delta D8;go_in;go_wp2;refine C1 (CA s) (by simp[results,results93,go_sem,CA,Dg]) ⟨rfl,?_⟩;exact(Zy).alloc Yu _
theorem Adp(s:Zi)(i:Nat):0<=kB s i/\kB s i<256:=by unfold kB;have:=((s.data.toList[i]?).getD 0).toNat_lt;omega
theorem Adq(s:Zi)(i:Nat):(Lit.int .u8 (kB s i)).wf=bg:=by
 have:=Adp s i;have a:IntKind.u8.min=0:=Yq;have b:IntKind.u8.max=255:=Yq;simp only[Lit.wf,a,b,Bool.and_eq_true,decide_eq_true_eq];omega
theorem Abi:prog.keyType 122=bg:=Yr
theorem XZ:prog.cellsOf 122=8:=Yr
theorem Adr:prog.cellsOf 5=1:=Yr
theorem VO:prog.underlying 122=an (.array 8 5):=Yr
theorem Abj:∃n,prog.types.size=n+1:=⟨prog.types.size -1,Yr⟩
theorem OP(s:Zi):∃l,keyOf prog 122 (CA s)=an l:=by obtain⟨n,a⟩:=Abj;unfold keyOf;rw[VO,a];simp only[Abi,CA,formed,VO,XZ,Dg];simp[Value.cells,Program.keyLits,XZ,Adr,range_succ,Adq]
noncomputable def keyL (s:Zi):Lit:=(OP s).choose
theorem EF(s:Zi):keyOf prog 122 (CA s)=an (keyL s):=(OP s).choose_spec
theorem Ads:laidOutB prog=bg:=Yr
theorem keyed:Maps.Keyed prog 122:=Maps.Keyed.of_law (deep_law_gate Ads (of_decide_eq_true Yr) (of_decide_eq_true Yr) Abi (by rw[VO]))
theorem key_inj{s t:Zi}(h:keyL s=keyL t)(p:s.size=t.size)(o:s.size<=8):s=t:=by
 have a:=EF t;rw[<-h]at a;have c:=keyed.inj (EF s) a;clear a h;have n:∀i,i<8->kB s i=kB t i:=by
  simp only[CA,Dg,agg.injEq,Array.mk.injEq,List.cons.injEq,int.injEq,true_and,and_true]at c;obtain⟨d,e,f,g,j,k,l,m⟩:=c;intro i a
  match i,a with
  |0,_=>exact d
  |1,_=>exact e
  |2,_=>exact f
  |3,_=>exact g
  |4,_=>exact j
  |5,_=>exact k
  |6,_=>exact l
  |7,_=>exact m
 have q:=CF s;have r:=CF t;have b:s.data.toList=t.data.toList:=by
  apply ext_getElem?;intro i;by_cases a:i<s.size
  .have:=n i Yv;unfold kB at this;rw[Zv Yv,Zv Yv]at this |-;simp only[Option.getD_some]at this;congr 1;exact UInt8.toNat_inj.1 Yv
  rw[getElem?_eq_none Yv,getElem?_eq_none Yv]
 cases s;cases t;simp only[Array.toList_inj]at b;rw[b]
open Classical in
noncomputable def upd (f:Lit->Option Value) (kl:Lit) (v:Value):Lit->Option Value:=fun x=>if x=kl then an v else f x
theorem DL(f:Lit->Option Value)(a:Lit)(v:D4):upd f a v a=an v:=by simp[upd]
theorem DG(f:Lit->Option Value){a x:Lit}(v:D4)(h:x≠a):upd f a v x=f x:=by simp[upd,h]
def OG(v:Value):Option (DataW Value×List MemPlace):=an (.held v,[])
def Bb(w:Zh)(K:TypeId)(b n:Nat)(f:Lit->Option Value):Prop:=
 ∃D:DataW Value,w.ownsMap prog K OG b n D/\(∀kl z,D.atKey kl (.held z)=.held ((f kl).getD z))/\∀kl,Maps.has D kl=(f kl).isSome
theorem Bb.new(w:Zh)(K:TypeId):Bb (w.alloc (.map #[] 0)) K w.1.size 0 (λ_=>ba):=
 ⟨.map [],ownsMap_made _ _ _ _,λ_ _=>rfl,λ_=>rfl⟩
theorem Bb.ah{w a:Zh}{K:TypeId}{b n:Nat}{f:Lit->Option Value}(h:Bb w K b n f){B:Nat}(j:bs B w a)(i:b<B):Bb a K b n f:=by obtain⟨D,⟨c,clock,d,e⟩,g⟩:=h;exact⟨D,⟨c,clock,(j.block b i).ag d,e⟩,g⟩
theorem Bb.lt{w:Zh}{K:TypeId}{b n:Nat}{f:Lit->Option Value}(h:Bb w K b n f):b<w.1.size:=h.choose_spec.1.lt
theorem Bb.put{w:Zh}{K t e:TypeId}{b n:Nat}{f:Lit->Option Value}(h:Bb w K b n f)(l:Maps.Keyed prog K)(v:prog.underlying t=an (.map K e))(r:n<ew){j val:D4}{g:Lit}(a:keyOf prog K j=an g):
 ∃c,(Instr.mapUpdate t (.map (an b)) j val).run prog w=.ok () c/\Bb c K b (n+1) (upd f g val)/\ep w c (an b):=by
 obtain⟨D,k,o,p⟩:=h;obtain⟨⟨c,u,s,q⟩,m,i⟩:=k.update l v r a (d:=.held val) (ps:=[]) (val:=val) rfl,k.isMap,l.key a;refine⟨c,u,⟨_,s,λx z=> ?_,λx=> ?_⟩,q⟩
 .by_cases hx:x=g
  .subst hx;rw[Maps.atKey_put_same m i,DL];rfl
  rw[Maps.atKey_put_other hx,DG _ _ hx];exact o x z
 by_cases hx:x=g
 .subst hx;rw[Maps.has_put_same m i,DL];rfl
 rw[Maps.has_put_other hx,DG _ _ hx];exact p x
theorem Bb.look{w:Zh}{K t e:TypeId}{b n:Nat}{f:Lit->Option Value}(h:Bb w K b n f)(k:Maps.Keyed prog K)(m:prog.underlying t=an (.map K e)){z:D4}(o:(zeroValue e).run prog w=.ok z w){c:D4}{g:Lit}(a:keyOf prog K c=an g):
 (Instr.lookup t (.map (an b)) c bq).run prog w=.ok ((f g).getD z) w:=by
 obtain⟨D,i,j,_⟩:=h;obtain⟨v,p,l,d⟩:=i.lookup k m o (zd:=.held z) (zp:=[]) rfl a;rw[j]at d;simp only[OG,Option.some.injEq,Prod.mk.injEq,DataW.held.injEq]at d;rw[l,d.1]
theorem Bb.look_ok{w:Zh}{K t e:TypeId}{b n:Nat}{f:Lit->Option Value}(h:Bb w K b n f)(l:Maps.Keyed prog K)(o:prog.underlying t=an (.map K e)){z:D4}(p:(zeroValue e).run prog w=.ok z w){c:D4}{g:Lit}(a:keyOf prog K c=an g):
 (Instr.lookup t (.map (an b)) c bg).run prog w=.ok (.tuple #[(f g).getD z,.bool (f g).isSome]) w:=by
 obtain⟨D,i,j,k⟩:=h;obtain⟨v,q,m,d⟩:=i.look_ok l o p (zd:=.held z) (zp:=[]) rfl a;rw[j]at d;simp only[OG,Option.some.injEq,Prod.mk.injEq,DataW.held.injEq]at d;rw[m,d.1,k]
def Bt(s:Zi):Zj:=(Dg s).toList
theorem Sf(s:Zi)(j:Nat)(h:j<8):(Bt s)[j]?=an (.int .u8 (kB s j)):=by
 match j,h with
 |0,_|1,_|2,_|3,_|4,_|5,_|6,_|7,_=>rfl
def AV(ss:Zl):Zj:=ss.flatMap Bt
theorem EU(a:Zl):eh (AV a)=eh a *8:=by
 induction a with
 |nil=>rfl
 |cons s a ih=>
  have:eh (Bt s)=8:=rfl;unfold AV at *
  rw[flatMap_cons,Am,ih,length_cons,this];omega
theorem EV{a:Zl}{i j:Nat}{s:Zi}(h:a[i]?=an s)(c:j<8):(AV a)[i *8+j]?=an (.int .u8 (kB s j)):=by
 induction a generalizing i with
 |nil=>simp at h
 |cons t a ih=>
  have b:eh (Bt t)=8:=rfl;unfold AV at *
  rw[flatMap_cons];cases i with
  |zero=>simp at h;subst h;rw[getElem?_append_left Yv,Nat.zero_mul,Ay];exact Sf t j c
  |succ i=>rw[getElem?_append_right Yv,b,show(i+1) *8+j -8=i *8+j by omega];exact ih (D2 h)
theorem LO{a:Zl}{k:Nat}{u:D4}(h:(AV a)[k]?=an u):∃s,a[k/8]?=an s/\u=.int .u8 (kB s (k%8)):=by
 have c:k<eh a *8:=by rw[<-EU];exact(Zw h).1
 have b:k/8<eh a:=Yv;refine⟨a[k/8],Zv b,?_⟩;have:=EV (j:=k%8) (Zv b) (Nat.mod_lt _ Yq);rw[show k/8 *8+k%8=k by omega,h]at this;exact A8 this
theorem JL(a b:Zl):AV (a++b)=AV a++AV b:=by unfold AV;rw[flatMap_append]
theorem Hg(c:Zl):∀u∈AV c,u.oneCell'=bg:=by intro u b;have⟨k,a⟩:=A9 b;obtain⟨s,_,rfl⟩:=LO a;rfl
def R8(w:Zh)(B:Nat)(v:Value)(ss:Zl):Prop:=
 (v=Zb/\ss=[])\/∃g off cap,v=cr (an ⟨g,off,ba⟩) (eh ss) cap/\g<B/\∀i s,ss[i]?=an s->∀j,j<8->ek w (Zd g (off+(i *8+j)))=an (.int .u8 (kB s j))
def Gp(w:Zh)(g:Nat):Prop:=∃cur fz,w.1[g]?=an (ca cur 122 fz)
theorem Gp.lt{w:Zh}{g:Nat}(h:Gp w g):g<w.1.size:=by obtain⟨_,_,h⟩:=h;exact(A6.1 h).1
theorem Gp.same{w a:Zh}{g:Nat}(h:Gp w g)(b:a.1[g]?=w.1[g]?):Gp a g:=by obtain⟨c,f,h⟩:=h;exact⟨c,f,b.ag h⟩
theorem Gp.jf{g:Nat}:∀(vs:Zj) (o:Nat) (w:Zh),Gp w g->Gp (w.setCells g o vs) g
 |[],_,_,h=>h
 |v::r,o,w,h=>by rw[setCells];refine Gp.jf r (o+1) _ ?_;obtain⟨c,f,h⟩:=h;refine⟨c.setIfInBounds o v,f,?_⟩;simp[setCell,Array.getElem?_modify,h]
def Eo(w:Zh)(base:Nat)(v:Value)(ss:Zl):Prop:=
 (v=Zb/\ss=[])\/∃g off cap,v=cr (an ⟨g,off,ba⟩) (eh ss) cap/\base<=g/\Gp w g/\eh ss<=cap/\cap<=ew/\
   (∀j,j<cap *8->(ek w (Zd g (off+j))).isSome=bg/\el w ⟨g,off+j,ba⟩=bq)/\
   ∀i s,ss[i]?=an s->∀j,j<8->ek w (Zd g (off+(i *8+j)))=an (.int .u8 (kB s j))
def Al:Value->Option Nat
 |cr (an a) _ _=>an a.block
 |_=>ba
theorem R8.A{w d:Zh}{B:Nat}{v:D4}{c:Zl}(h:R8 w B v c)(f:bs B w d):R8 d B v c:=by
 rcases h with h|⟨g,a,e,n,b,k⟩
 .exact dp h
 exact eb ⟨g,a,e,n,b,λi s m j l=>(f.cell (p:=⟨g,a+(i *8+j),ba⟩) b).ag (k i s m j l)⟩
theorem R8.mono{w:Zh}{B B':Nat}{v:D4}{a:Zl}(h:R8 w B v a)(f:B<=B'):R8 w B' v a:=by
 rcases h with h|⟨g,c,b,e,i,d⟩
 .exact dp h
 exact eb ⟨g,c,b,e,Yv,d⟩
abbrev R8.ai:=@R8.mono
theorem R8.stays{w b:Zh}{B:Nat}{v:D4}{a:Zl}(h:R8 w B v a)(e:∀g,Al v=an g->b.1[g]?=w.1[g]?):R8 b B v a:=by
 rcases h with h|⟨g,d,c,rfl,k,f⟩
 .exact dp h
 exact eb ⟨g,d,c,rfl,k,λi s m j l=>(cell?_of_block (e g rfl)).ag (f i s m j l)⟩
theorem Eo.stays{w d:Zh}{a:Nat}{v:D4}{f:Zl}(h:Eo w a v f)(_hz:w.1.size<=d.1.size)(b:∀g,Al v=an g->d.1[g]?=w.1[g]?):Eo d a v f:=by
 rcases h with h|⟨g,l,k,rfl,m,q,n,o,e,p⟩
 .exact dp h
 exact eb ⟨g,l,k,rfl,m,q.same (b g rfl),n,o,λj c=>⟨by rw[cell?_of_block (b g rfl)];exact(e j c).1,by rw[frozen?_of_block (b g rfl)];exact(e j c).2⟩,λi s r j c=>(cell?_of_block (b g rfl)).ag (p i s r j c)⟩
theorem Eo.A{w c:Zh}{base:Nat}{v:D4}{b:Zl}(h:Eo w base v b)(a:Zz w c):Eo c base v b:=by
 have d:=h;rcases h with h|⟨g,j,i,rfl,l,f,_⟩
 .exact dp h
 exact d.stays a.size (λk e=>by cases e;exact a.block g f.lt)
theorem Eo.bh{w:Zh}{a:Nat}{v:D4}{e:Zl}(h:Eo w a v e){g:Nat}(b:Al v=an g):a<=g/\g<w.1.size:=by
 rcases h with⟨rfl,_⟩|⟨j,i,f,rfl,c,d,_⟩
 .cases b
 cases b;exact⟨c,d.lt⟩
theorem R8.cells{w:Zh}{g a:Nat}{b:Zl}(c:∀i s,b[i]?=an s->∀j,j<8->ek w (Zd g (a+(i *8+j)))=an (.int .u8 (kB s j))):∀j u,(AV b)[j]?=an u->ek w ((⟨g,a,ba⟩:Addr).add j)=an u:=by intro j u e;obtain⟨s,d,rfl⟩:=LO e;have:=c _ s d (j%8) (Nat.mod_lt _ Yq);rw[show j/8 *8+j%8=j by omega]at this;rw[A7];exact this
theorem KD:(prog.info? 122).map (λi=>(i.zero,i.size,i.bytes))=an (an (ct #[.int .u8 0,.int .u8 0,.int .u8 0,.int .u8 0,.int .u8 0,.int .u8 0,.int .u8 0,.int .u8 0]),8,8):=Yr
theorem R8.src{w:Zh}{B:Nat}{x:D4}{a:Zl}(h:R8 w B x a):Src prog 8 101 x (eh a) (AV a) w:=by
 rcases h with⟨rfl,rfl⟩|⟨g,c,b,rfl,_,d⟩
 .exact Src.ofNil w underlying101 0
 exact Src.ofSlice w underlying101 ⟨g,c,ba⟩ (eh a) b (AV a) (EU a) (R8.cells d) (Hg a)
theorem Eo.fresh(w:Zh)(d:Nat)(b:Zl)(c:Nat)(z:Array Value)(k:d<=w.1.size)(g:eh b<=c)(h:c<=ew)(m:z.size=(c -eh b) *8):
 Eo (w.drew.alloc (ca (ei (AV b)++z) 122)) d (Yz w.1.size (eh b) c) b:=by
 have l:=EU b;have a:∀j,ek (w.drew.alloc (ca (ei (AV b)++z) 122)) (Zd (w.1.size) (0+j))=(ei (AV b)++z)[j]?:=λj=>by rw[Ay];show ek (w.drew.alloc (ca (ei (AV b)++z) 122)) (Zd (w.drew.1.size) j)=_;rw[cell?_alloc_at _ _ _ _ rfl]
 refine eb ⟨w.1.size,0,c,rfl,k,⟨_,_,heap_alloc_new w.drew _⟩,g,h,λj e=>⟨?_,?_⟩,λi s f j e=> ?_⟩
 .rw[a,Ci Yt];rfl
 .simp[go_sem]
 rw[a,Array.getElem?_append_left (by have:=(Zw f).1;simp[l];omega)];simpa using EV f e
theorem GK(b:Nat):∀(vs:Zj) (o:Nat) (w:Zh),(w.setCells b o vs).1.size=w.1.size
 |[],_,_=>rfl
 |_::r,o,w=>by rw[setCells,GK b r];simp
theorem JW(b:Nat):∀(vs:Zj) (o:Nat) (w:Zh),(w.setCells b o vs).tape=w.tape
 |[],_,_=>rfl
 |_::r,o,w=>by rw[setCells,JW b r];rfl
theorem IK(b:Nat):∀(vs:Zj) (o:Nat) (w:Zh) (x:Addr),(ek w x).isSome=bg->(ek (w.setCells b o vs) x).isSome=bg
 |[],_,_,_,h=>h
 |v::r,o,w,x,h=>by
  rw[setCells];refine IK b r (o+1) _ x ?_;by_cases e:(⟨b,o,ba⟩:Addr)=x
  .subst e;have⟨u,a⟩:=Option.isSome_iff_exists.1 h;rw[cell?_setCell_same _ _ _ a];rfl
  rw[cell?_setCell_other _ _ _ _ e];exact h
theorem YZ{w:Zh}{d:Nat}{v:D4}{a:Zl}(N:Eo w d v a){x:D4}{c:Zl}{B:Nat}(S:R8 w B x c)(Y:eh a+eh c<=100000000)(t:d<=w.1.size)(r:TypeId):
 ∃l n,(Builtin.append_ #[101,101] r #[v,x]).run prog w=.ok l n/\Eo n d l (a++c)/\ep w n (Al v)/\(Al l=Al v\/Al l=an w.1.size):=by
 have⟨i,C,Q,p,R⟩:=info_parts KD;have m:Src prog i.size 101 x (eh c) (AV c) w:=by rw[p];exact S.src
 by_cases h0:c=[]
 .subst h0;rw[append_nil];rcases N with⟨rfl,rfl⟩|⟨g,f,b,rfl,G,M,H,I,q,A⟩
  .exact⟨_,w,run_append_nothing w _ _ r _ i underlying101 C ba 0 0 (Zx) x m,dp ⟨rfl,rfl⟩,⟨rfl,rfl,rfl,Zx,λ_ _ _=>rfl⟩,dp rfl⟩
  exact⟨_,w,run_append_nothing w _ _ r _ i underlying101 C _ _ _ H x m,eb ⟨g,f,b,rfl,G,M,H,I,q,A⟩,⟨rfl,rfl,rfl,Zx,λ_ _ _=>rfl⟩,dp rfl⟩
 have W:=length_pos_iff.2 h0;have grow:∀(z:Zk) (b:Nat),b<eh a+eh c->(Builtin.firstCells i.size (eh a) (C2 z a b)).run prog w.drew=.ok (ei (AV a)) w.drew->
  ∃l n,(Builtin.append_ #[101,101] r #[C2 z a b,x]).run prog w=.ok l n/\Eo n d l (a++c)/\(∀h,ep w n h)/\Al l=an w.1.size:=by
  intro z b E hold;have o:=run_append_grow_src w _ _ r _ i _ underlying101 C Q z (eh a) b (AV a) hold x (eh c) (AV c) m E Yv (by
   have:=nextslicecap_le E;rw[R];omega)
  rw[<-JL]at o;have T:=grownCap_ge w (eh a+eh c) b 122;have P:=grownCap_le_maxLen w (eh a+eh c) b 122 Yo;have D:=Eo.fresh w d (a++c) (grownCap w (eh a+eh c) b 122) (Builtin.zeroCells (agg #[.int .u8 0,.int .u8 0,.int .u8 0,.int .u8 0,.int .u8 0,.int .u8 0,.int .u8 0,.int .u8 0]).cells (grownCap w (eh a+eh c) b 122 -(eh a+eh c))) t Yt P (by rw[size_zeroCells,Am];rfl);rw[Am]at D;exact⟨_,_,o,D,λh=>⟨rfl,rfl,rfl,Yu,λk F _=>heap_alloc_old w.drew _ F⟩,rfl⟩
 rcases N with⟨rfl,rfl⟩|⟨g,f,b,rfl,G,M,H,I,q,A⟩
 .obtain⟨l,n,o,J,K,L⟩:=grow ba 0 Yv (run_firstCells_none w.drew _ _ _ _);exact⟨l,n,o,J,K _,eb L⟩
 by_cases hroom:eh a+eh c<=b
 .have X:=EU c;have y:∀j,j<eh (AV c)->(eh a *8+j)<b *8:=λj h=>Yv;have o:=run_append_room_src w _ _ r _ i underlying101 C g f (eh a) b x (eh c) (AV c) m hroom (λj h=>by rw[p,Nat.add_assoc];exact(q _ (y j h)).1) (λj h=>by rw[p,Nat.add_assoc];exact(q _ (y j h)).2);rw[p]at o;have U:=keptBut_setCells g (may:=λ_=>True) (AV c) (f+eh a *8) w (λ_ _=>trivial);refine⟨_,_,o,eb ⟨g,f,b,by rw[Am],G,Gp.jf _ _ _ M,by rw[Am];exact hroom,I,λj h=>⟨?_,?_⟩,λk s u j h=> ?_⟩,⟨os_setCells _ _ _ _,JW _ _ _ _,output_setCells _ _ _ _,by rw[GK];exact Zx,λk F O=>heap_setCells_other _ _ _ _ F (λe=>O I4)⟩,dp rfl⟩
  .exact IK _ _ _ _ _ (q j h).1
  .rw[frozen?_setCells];exact(q j h).2
  rcases Cg k (eh a) with F|F
  .rw[getElem?_append_left F]at u;rw[cell?_setCells_out _ _ _ _ _ (λ_ _=> dp Yt)];exact A k s u j h
  rw[getElem?_append_right F]at u;have V:=(Zw u).1;have O:=cell?_setCells_in g (AV c) (f+eh a *8) w (λj h=>by rw[Nat.add_assoc];exact(q _ (y j h)).1) ((k -eh a) *8+j) Yv;rw[show f+(k *8+j)=f+eh a *8+((k -eh a) *8+j) by omega,O];have:=EV u h;rw[Zv Yv]at this;exact this
 obtain⟨l,n,o,J,K,L⟩:=grow (an ⟨g,f,ba⟩) b Yv (run_firstCells_some w.drew _ _ _ _ _ _ (by rw[p];exact EU a) (D2 (R8.cells A)));exact⟨l,n,o,J,K _,eb L⟩
theorem wpList_append_run{P:Program}{w:Zh}{b:Array Oper}{rest:List Oper}{o:Oper}{a:Act}{Q:Exit->Act->Zh->Prop}(f:o.guard=ba)(s x:Operand)(t u:TypeId)
 (i:o.op=.call {callee:=.builtin .append,args:= #[s,x],argTypes:= #[t,u]}) {v e c:D4} {d:Zh} (k:a.eval s=v) (l:a.eval x=e)
 (j:(Builtin.append_ #[t,u] o.type #[v,e]).run P w=.ok c d) (h:wpList P b Q rest (a.put o.dst c) d):wpList P b Q (o::rest) a w:=by
 refine wpList_plain f λK g=> ?_;unfold Oper.wp execOp;simp only[i,resolve,invoke,builtin,Sem.run_bind,Sem.run_pure,Result.andThen_ok,map_toArray,map_cons,map_nil,k,l,j];exact g _ _ h
theorem Bu{P:Program}{w:Zh}{b:Array Oper}{o:Oper}{a:Act}{K:Act->Zh->Prop}{Q:Exit->Act->Zh->Prop}{E:Prop}(f:o.guard=ba)(s x:Operand)(t u:TypeId)
 (g:o.op=.call {callee:=.builtin .append,args:= #[s,x],argTypes:= #[t,u]}) {v e c:D4} {d:Zh} (j:a.eval s=v) (l:a.eval x=e)
 (i:(Builtin.append_ #[t,u] o.type #[v,e]).run P w=.ok c d) (h:K (a.put o.dst c) d):
 if Region.wanted o (yielded b a.tmps)=bg then Oper.wp P o a w K Q else E:=by
 have k:Region.wanted o (yielded b a.tmps)=bg:=by simp[Region.wanted,f]
 rw[if_pos k];unfold Oper.wp execOp;simp only[g,resolve,invoke,builtin,Sem.run_bind,Sem.run_pure,Result.andThen_ok,map_toArray,map_cons,map_nil,j,l,i];exact h
structure OQ (ks:List Kd):Prop where
 len:eh ks<=ew
 sum:∀k∈ks,k.sum.size<=ew
 i:∀k∈ks,k.i.size<=ew
 D:∀k∈ks,eh k.D<=ew
 ref:∀k∈ks,∀s∈k.D,s.size<=ew
structure Sg (ps:List Pd):Prop where
 len:eh ps<=ew
 name:∀p∈ps,p.name.size<=ew
 sum:∀p∈ps,p.sum.size<=ew
structure Aez (ls:List Ld):Prop where
 len:eh ls<=ew
 sum:∀l∈ls,l.sum.size<=ew
def AW(w:Zh)(b:Nat)(wd now given births:Int)(T P L:Value):Prop:=
 ek w (Zd b 0)=an (Zg wd)/\ek w (Zd b 1)=an (Zg now)/\ek w (Zd b 2)=an (Zg given)/\ek w (Zd b 3)=an (Zg births)/\
  ek w (Zd b 4)=an T/\ek w (Zd b 5)=an P/\ek w (Zd b 6)=an L/\b<w.1.size
theorem AW.new(w:Zh)(d c b a:Int)(T P L:D4)(t:TypeId):AW (w.alloc (ca #[Zg d,Zg c,Zg b,Zg a,T,P,L] t)) w.1.size d c b a T P L:=
 ⟨Yu,Yu,Yu,Yu,Yu,Yu,Yu,Yu⟩
theorem AW.ah{w g:Zh}{b B:Nat}{i f c a:Int}{T P L:D4}(h:AW w b i f c a T P L)(d:bs B w g)(e:b<B):AW g b i f c a T P L:=by
 obtain⟨j,k,l,m,n,o,q,r⟩:=h;exact⟨(d.cell (p:=⟨b,0,ba⟩) e).ag j,(d.cell (p:=⟨b,1,ba⟩) e).ag k,(d.cell (p:=⟨b,2,ba⟩) e).ag l,(d.cell (p:=⟨b,3,ba⟩) e).ag m,
  (d.cell (p:=⟨b,4,ba⟩) e).ag n,(d.cell (p:=⟨b,5,ba⟩) e).ag o,(d.cell (p:=⟨b,6,ba⟩) e).ag q,Zr r d.size⟩
theorem AW.A{w e:Zh}{b:Nat}{f d c a:Int}{T P L:D4}(h:AW w b f d c a T P L)(g:Zz w e):AW e b f d c a T P L:=h.ah g h.2.2.2.2.2.2.2
structure Bo (w:Zh) (B:Nat) (a p l:Zk) (ks:List Kd) (ps:List Pd) (ls:List Ld):Prop where
 k:Br w B a ks
 p:AS w B p ps
 l:AR w B l ls
theorem Bo.X{w c:Zh}{a p l:Zk}{d:C9}{f:Db}{e:Da}(h:Bo w w.1.size a p l d f e)(b:Zz w c):Bo c c.1.size a p l d f e:=
 ⟨(h.k.A b).ai b.size,(h.p.A b).ai b.size,(h.l.A b).ai b.size⟩
theorem Bo.ah{w f:Zh}{B:Nat}{a p l:Zk}{c:C9}{e:Db}{d:Da}(h:Bo w B a p l c e d)(b:bs B w f):Bo f B a p l c e d:=
 ⟨h.k.A b,h.p.A b,h.l.A b⟩
theorem Bo.mono{w:Zh}{B B':Nat}{a p l:Zk}{c:C9}{e:Db}{d:Da}(h:Bo w B a p l c e d)(b:B<=B'):Bo w B' a p l c e d:=
 ⟨h.k.ai b,h.p.ai b,h.l.ai b⟩
abbrev Bo.ai:=@Bo.mono
structure OR (ks:List Kd) (ps:List Pd) (ls:List Ld):Prop where
 k:eh ks<=1048576
 r:∀k∈ks,eh k.D<=1048576
 p:eh ps<=1048576
 l:eh ls<=1048576
def KE(w:Zh)(lo g c:Nat)(rs:Zl):Prop:=eo w lo 9 1 (cr (an ⟨g,0,ba⟩) (eh rs) c) (eh rs) (rs.map Value.string)
def LP(w:Zh)(lo:Nat)(xs:Zj)(i:Nat)(x:Kd):Prop:=
 xs[i *4]?=an (.string x.sum)/\xs[i *4+1]?=an (Zg x.born)/\xs[i *4+2]?=an (.string x.i)/\
  ∃g,xs[i *4+3]?=an (cr (an ⟨g,0,ba⟩) (eh x.D) (eh x.D))/\KE w lo g (eh x.D) x.D
theorem Hx:(prog.info? 78).map (λi=>(i.zero,i.size,i.bytes))=an (an (ct #[Zc,Ze,Zc,Zb]),4,64):=Yr
theorem KE.ah{w e:Zh}{b g c:Nat}{d:Zl}(h:KE w b g c d)(a:Zz w e):KE e b g c d:=
 ownsRow.kept h (row:=ba) ⟨a.os,a.tape,a.output,a.size,λk f _=>a.block k f⟩ (eb H0)
theorem LP.ah{w b:Zh}{a i:Nat}{c:Zj}{x:Kd}(h:LP w a c i x)(l:Zz w b):LP b a c i x:=by obtain⟨d,e,f,g,j,k⟩:=h;exact⟨d,e,f,g,j,k.ah l⟩
def Afa(xs:Zj)(n:Nat):Prop:=∀(i j q q' m c m' c':Nat),i<j->j<n->xs[i *4+3]?=an (cr (an ⟨q,0,ba⟩) m c)->xs[j *4+3]?=an (cr (an ⟨q',0,ba⟩) m' c')->q<q'
def Gq(w:Zh)(lo g:Nat)(ks:List Kd):Prop:=
 ∃xs,eo w lo 78 4 (cr (an ⟨g,0,ba⟩) (eh ks) (eh ks)) (eh ks) xs/\(∀i x,ks[i]?=an x->LP w (g+1) xs i x)/\Afa xs (eh ks)
theorem Gq.row{w:Zh}{m g:Nat}{c:C9}(h:Gq w m g c):Br w w.1.size (an ⟨g,0,ba⟩) c:=by obtain⟨o,a,l,_⟩:=h;refine eb ⟨g,0,rfl,(a.lt g rfl).2,λi x b=> ?_⟩;have n:=(Zw b).1;have⟨d,e,f,q,j,k⟩:=l i x b;rw[Ay];exact⟨(a.cellAt _ Yv).ag d,(a.cellAt _ Yv).ag e,(a.cellAt _ Yv).ag f,_,_,(a.cellAt _ Yv).ag j,Ab.own k⟩
theorem Hq:(prog.info? 81).map (λi=>(i.zero,i.size,i.bytes))=an (an (ct #[Zc,Zc]),2,32):=Yr
def GU(w:Zh)(lo g:Nat)(ps:List Pd):Prop:=
 ∃xs,eo w lo 81 2 (cr (an ⟨g,0,ba⟩) (eh ps) (eh ps)) (eh ps) xs/\∀i x,ps[i]?=an x->xs[i *2]?=an (.string x.name)/\xs[i *2+1]?=an (.string x.sum)
theorem GU.row{w:Zh}{j g:Nat}{c:Db}(h:GU w j g c):AS w w.1.size (an ⟨g,0,ba⟩) c:=by obtain⟨l,a,f⟩:=h;refine eb ⟨g,0,rfl,(a.lt g rfl).2,λi x b=> ?_⟩;have k:=(Zw b).1;have⟨d,e⟩:=f i x b;rw[Ay];exact⟨(a.cellAt _ Yv).ag d,(a.cellAt _ Yv).ag e⟩
theorem Iv:(prog.info? 83).map (λi=>(i.zero,i.size,i.bytes))=an (an (ct #[Ze,Zc,Ze]),3,32):=Yr
def GV(w:Zh)(lo g:Nat)(ls:List Ld):Prop:=
 ∃xs,eo w lo 83 3 (cr (an ⟨g,0,ba⟩) (eh ls) (eh ls)) (eh ls) xs/\∀i x,ls[i]?=an x->xs[i *3]?=an (Zg x.R)/\xs[i *3+1]?=an (.string x.sum)/\xs[i *3+2]?=an (Zg x.bj)
theorem GV.row{w:Zh}{k g:Nat}{c:Da}(h:GV w k g c):AR w w.1.size (an ⟨g,0,ba⟩) c:=by obtain⟨m,a,j⟩:=h;refine eb ⟨g,0,rfl,(a.lt g rfl).2,λi x b=> ?_⟩;have l:=(Zw b).1;have⟨d,e,f⟩:=j i x b;rw[Ay];exact⟨(a.cellAt _ Yv).ag d,(a.cellAt _ Yv).ag e,(a.cellAt _ Yv).ag f⟩
theorem Gq.ah{w d:Zh}{c g:Nat}{b:C9}(h:Gq w c g b)(a:Zz w d):Gq d c g b:=by obtain⟨l,j,f,e⟩:=h;exact⟨l,j.kept (Af ba a) (eb H0),λi x k=>(f i x k).ah a,e⟩
theorem GU.ah{w c:Zh}{a g:Nat}{b:Db}(h:GU w a g b)(d:Zz w c):GU c a g b:=Hr
theorem GV.ah{w c:Zh}{a g:Nat}{b:Da}(h:GV w a g b)(d:Zz w c):GV c a g b:=Hr
theorem Gq.setCell{w:Zh}{b g:Nat}{d:C9}(h:Gq w b g d){a:Addr}(m:a.block<b)(u:D4):Gq (w.setCell a u) b g d:=by obtain⟨r,c,o,n⟩:=h;have:=(c.lt g rfl).1;refine⟨r,ownsRow_setCell_below c m u,λi x p=> ?_,n⟩;have⟨e,f,j,q,k,l⟩:=o i x p;exact⟨e,f,j,q,k,ownsRow_setCell_below l Yv u⟩
theorem GU.setCell{w:Zh}{b g:Nat}{c:Db}(h:GU w b g c){a:Addr}(d:a.block<b)(u:D4):GU (w.setCell a u) b g c:=I9
theorem GV.setCell{w:Zh}{b g:Nat}{c:Da}(h:GV w b g c){a:Addr}(d:a.block<b)(u:D4):GV (w.setCell a u) b g c:=I9
theorem Gq.mono{w:Zh}{c a g:Nat}{b:C9}(h:Gq w c g b)(e:a<=c):Gq w a g b:=I7
abbrev Gq.ai:=@Gq.mono
theorem GU.mono{w:Zh}{b a g:Nat}{c:Db}(h:GU w b g c)(e:a<=b):GU w a g c:=I7
abbrev GU.ai:=@GU.mono
theorem GV.mono{w:Zh}{b a g:Nat}{c:Da}(h:GV w b g c)(e:a<=b):GV w a g c:=I7
abbrev GV.ai:=@GV.mono
structure MM (w:Zh) (lo g p l:Nat) (ks:List Kd) (ps:List Pd) (ls:List Ld):Prop where
 k:Gq w lo g ks
 p:GU w lo p ps
 l:GV w lo l ls
theorem MM.rows{w:Zh}{d g p l:Nat}{a:C9}{c:Db}{b:Da}(h:MM w d g p l a c b):Bo w w.1.size (an ⟨g,0,ba⟩) (an ⟨p,0,ba⟩) (an ⟨l,0,ba⟩) a c b:=⟨h.k.row,h.p.row,h.l.row⟩
theorem toList_inj{a b:Zi}(h:a.toList=b.toList):a=b:=by rw[ByteArray.toList_eq,ByteArray.toList_eq]at h;cases a;cases b;simp only[Array.toList_inj]at h;rw[h]
theorem BJ{a b:Zi}(h:¬a=b):(a.toList==b.toList)=bq:=by rw[beq_eq_false_iff_ne];exact λe=>h (toList_inj e)
theorem OS(x:List UInt8):∀y,Op.bytesLess x y=bg↔x<y:=by
 induction x with
 |nil=>intro y;cases y<;>simp[Op.bytesLess]
 |cons a x ih=>
  intro y;cases y with
  |nil=>simp[Op.bytesLess]
  |cons b y=>have:=ih y;rw[cons_lt_cons_iff,<-this];simp only[Op.bytesLess];by_cases h1:a<b<;>by_cases h2:a=b<;>simp[h1,h2]
theorem Ct(a:Zi):less a a=bq:=by
 unfold less;cases h:Op.bytesLess a.toList a.toList with
 |false=>rfl
 |true=>exact absurd ((OS _ _).1 h) (List.lt_irrefl _)
theorem Cx{a b c:Zi}(h:less a b=bg)(k:less b c=bg):less a c=bg:=by
 unfold less at *
 rw[OS]at *
 exact List.lt_trans h k
def CC(ks:List Kd)(s:Zi):Int:=match ks.findIdx? (fun k=>decide (k.sum=s))with
 |some i=>(i:Int)
 |none=> -1
theorem TL{a:C9}{s:Zi}{k:Nat}(d:k<eh a)(h:a[k].sum=s)(b:∀j x,j<k->a[j]?=an x->x.sum≠s):CC a s=k:=by
 have:a.findIdx? (λk=>decide (k.sum=s))=an k:=by rw[findIdx?_eq_some_iff_getElem];refine⟨d,D2 h,λj c=> ?_⟩;simpa using b j _ c (Zv Yv)
 simp[CC,this]
theorem Sh{a:C9}{s:Zi}(b:∀j x,j<eh a->a[j]?=an x->x.sum≠s):CC a s= -1:=by
 have:a.findIdx? (λk=>decide (k.sum=s))=ba:=by rw[findIdx?_eq_none_iff];intro x d;obtain⟨j,c,rfl⟩:=getElem_of_mem d;simpa using b j _ c (Zv c)
 simp[CC,this]
theorem CU(a:C9)(s:Zi):(CC a s= -1/\¬AA a s)\/∃i k,CC a s=(i:Nat)/\a[i]?=an k/\k.sum=s:=by
 unfold CC;cases h:a.findIdx? (λk=>decide (k.sum=s))with
 |none=>rw[findIdx?_eq_none_iff]at h;exact dp ⟨rfl,λ⟨u,hu,e⟩=>by simpa [e]using h u hu⟩
 |some i=>rw[findIdx?_eq_some_iff_getElem]at h;obtain⟨c,b,_⟩:=h;exact eb ⟨i,a[i],rfl,Zv c,D2 b⟩
theorem Dt(t n g d:Int)(a:Zk)(p:Nat)(P L:D4)(c:C9)(s:Zi)(w:Zh)(B:Nat)(l:Br w B a c)(D:B<=w.1.size)(G:eh c<=1048576):
 D8 79 #[ct #[Zg t,Zg n,Zg g,Zg d,C3 a (eh c) p,P,L],C4 s] w λe f=>e=C5 (Zg (CC c s))/\Zz w f:=by
 have m:bs w.1.size w (w.alloc (ca #[Zg t,Zg n,Zg g,Zg d,C2 a c p,P,L] 30)):=Zy;delta D8;go_in;go_wp2
 go_loop [5] (λi=>∃k:Nat,k<=eh c/\i=Zg k/\Hid (∀j x,j<k->c[j]?=an x->x.sum≠s)) (λi=>eh c -(intOf i).toNat)
 case atStart=>exact⟨0,Aq _,rfl,λj x h=>Yv⟩
 obtain⟨k,F,rfl,f⟩:=hrel;by_cases hlt:k<eh c
 case neg=>go_wp2;go_ret;exact⟨Sb (Sh (λj x z=>f j x Yv)).symm,m⟩
 obtain⟨b,u,v,E,r⟩:=l.at hlt;subst v;have o:Hid (c[k]?=an c[k]):=Zv hlt;obtain⟨q,_,_,_⟩:=r k _ o;clear r l;have l:b<w.1.size:=Yv;by_cases he:c[k].sum=s
 .have y:=Yw (TL hlt he f);have A:ek w (Zd b (u+k *4))=an (C4 s):=by rw[<-he];exact q
  clear q he;go_wp2;go_ret;exact⟨Sb y.symm,m⟩
 have C:=BJ he;have r:Hid (∀j x,j<k+1->c[j]?=an x->x.sum≠s):=by
  intro j x z l;rcases Cg j k with q|q
  .exact f j x q l
  obtain rfl:j=k:=Yv;rw[o.o]at l;cases l;exact he
 clear he f o;generalize c[k]=x at *
 go_wp2;exact⟨⟨k+1,Yv,Yn,r⟩,Ys⟩
section
attribute [local go_sem↓] Go.wp_at_zero Go.wp_at_succ
def Ep(u:Kd)(ra:Zk)(rc:Nat):Value:=ct #[.string u.sum,Zg u.born,.string u.i,cr ra (eh u.D) rc]
def Holds(W:Zh)(B:Nat)(wd:Int)(ks:List Kd)(f:Lit->Option Value):Prop:=
 ∀s:Zi,(s.size:Int)=wd->(f (keyL s)=ba/\¬AA ks s)\/∃u ra rc,u∈ks/\u.sum=s/\f (keyL s)=an (Ep u ra rc)/\Ab W B ra u.D
theorem Holds.nil(W:Zh)(B:Nat)(a:Int):Holds W B a [] (λ_=>ba):=λ_ _=> dp ⟨rfl,λ⟨_,h,_⟩=>by cases h⟩
theorem Holds.snoc{W:Zh}{B:Nat}{b:Int}{i:C9}{f:Lit->Option Value}(h:Holds W B b i f){x:Kd}{g:Zk}{rc:Nat}(r:(x.sum.size:Int)=b)(q:b<=8)(o:Ab W B g x.D):Holds W B b (i++[x]) (upd f (keyL x.sum) (Ep x g rc)):=by
 intro s p;by_cases he:keyL s=keyL x.sum
 .have:s=x.sum:=key_inj he Yv Yv;subst this;exact eb ⟨x,g,rc,Yu,rfl,DL _ _ _,o⟩
 rw[DG _ _ he];have j:x.sum≠s:=λe=>he (by rw[e]);rcases h s p with⟨c,d⟩|⟨u,k,l,c,d,m,n⟩
 .refine dp ⟨c,λ⟨u,a,e⟩=> ?_⟩;rcases Bw.1 a with a|a
  .exact d ⟨u,a,e⟩
  simp at a;subst a;exact j e
 exact eb ⟨u,k,l,by simp[c],d,m,n⟩
theorem Lr(w:Zh):(zeroValue 78).run prog w=.ok (ct #[Zc,Ze,Zc,Zb]) w:=Yr
theorem Bb.setCell{w:Zh}{K:TypeId}{b n:Nat}{f:Lit->Option Value}(h:Bb w K b n f){a:Addr}(e:b≠a.block)(u:D4):Bb (w.setCell a u) K b n f:=by obtain⟨D,c,d⟩:=h;exact⟨D,c.setCell e u,d⟩
def FS(wr:Zh)(h:Nat)(m s b t r:Value)(w':Zh):Prop:=
 ek w' (Zd (h+1+1+1) 1)=an m/\ek w' (Zd (wr.1.size) 0)=an s/\ek w' (Zd (wr.1.size) 1)=an b/\ek w' (Zd (wr.1.size) 2)=an t/\ek w' (Zd (wr.1.size) 3)=an r
theorem FS.ah{wr c e:Zh}{h:Nat}{m s b t r:D4}(x:FS wr h m s b t r c)(a:Zz c e)(l:h+3<c.1.size)(d:wr.1.size<c.1.size):FS wr h m s b t r e:=by obtain⟨f,g,i,j,k⟩:=x;exact⟨(a.cell (p:=⟨h+1+1+1,1,ba⟩) l).ag f,(a.cell (p:=⟨wr.1.size,0,ba⟩) d).ag g,(a.cell (p:=⟨wr.1.size,1,ba⟩) d).ag i,(a.cell (p:=⟨wr.1.size,2,ba⟩) d).ag j,(a.cell (p:=⟨wr.1.size,3,ba⟩) d).ag k⟩
theorem FS.grown{wr d c:Zh}{h q:Nat}{m s b t r:D4}(x:FS wr h m s b t r d)(a:ep d c (an q))(k:h+1+1+1≠q)(l:wr.1.size≠q):FS wr h m s b t r c:=by obtain⟨e,f,g,i,j⟩:=x;exact⟨a.cell e Yt,a.cell f Yt,a.cell g Yt,a.cell i Yt,a.cell j Yt⟩
theorem QE(l u n d:Int){a:Zk}(E:Nat)(P L:D4){h:C9}{w:Zh}(r:Br w w.1.size a h)(hl:eh h<=1048576)(B:∀k∈h,(k.sum.size:Int)=l)(V:l<=8):
 D8 92 #[.agg #[Zg l,Zg u,Zg n,Zg d,C3 a (eh h) E,P,L]] w λe t=>∃m f,e=C5 (.agg #[Zg l,.map (an m)])/\(w.1.size<=m/\m<=w.1.size+2)/\Bb t 122 m (eh h) f/\Holds w w.1.size l h f/\Zz w t:=by
 have g:= @run_makeMap prog;delta D8;go_in;go_wp2;have⟨q,c⟩:=Ag ((((w.alloc (Obj.cells #[int IntKind.i64 l,int IntKind.i64 u,int IntKind.i64 n,int IntKind.i64 d,C2 a h E,P,L] 30)).alloc (Obj.cells #[int IntKind.i64 0,Value.map ba] 100)).alloc (Obj.map #[] 0)).alloc (Obj.cells #[int IntKind.i64 l,Value.map (an (w.1.size+1+1))] 100));have I:bs w.1.size w q:=by rw[c];exact((((Zy).alloc Yu _).alloc Yt _).alloc Yt _)
 have zB:q.1.size=w.1.size+4:=by rw[c];simp
 have J:Bb q 122 (w.1.size+1+1) 0 (λ_=>ba):=by have:=Bb.new ((w.alloc (Obj.cells #[int IntKind.i64 l,int IntKind.i64 u,int IntKind.i64 n,int IntKind.i64 d,C2 a h E,P,L] 30)).alloc (Obj.cells #[int IntKind.i64 0,Value.map ba] 100)) 122;rw[c];have U:=this.ah (Ae.alloc (Zx) (Obj.cells #[int IntKind.i64 l,Value.map (an (w.1.size+1+1))] 100)) this.lt;simpa using U
 have W:ek q (Zd (w.1.size+1+1+1) 0)=an (Zg l):=N4;have s1:ek q (Zd (w.1.size+1+1+1) 1)=an (.map (an (w.1.size+1+1))):=N4;have r0:ek q (Zd (w.1.size+1) 0)=an Ze:=N4;have Z:ek q (Zd (w.1.size+1) 1)=an (.map ba):=N4;have m:∀j,el q ⟨w.1.size+1,j,ba⟩=bq:=λj=>by rw[c];simp[go_sem]
 rw[<-c];clear c g;go_loopw [13] (λi wr=>∃(k:Nat) (f:Lit->Option Value),k<=eh h/\i=Zg k/\Hid (Bb wr 122 (w.1.size+1+1) k f)/\Hid (Holds w w.1.size l (h.take k) f)/\ep q wr (an (w.1.size+1+1))) (λi _=>eh h -(intOf i).toNat)
 case atStart=>exact⟨0,_,Aq _,rfl,J,by rw[take_zero];exact Holds.nil w w.1.size l,AO _ _⟩
 obtain⟨k,f,hk,rfl,F,C,o⟩:=hrel;have s:=I.grown o Yv Yt;have t0:=o.cell W Yu;have t1:=o.cell s1 Yu;have zC:=o.size;by_cases hlt:k<eh h
 .obtain⟨b,Q,X,Y,G⟩:=(r.A s).at hlt;subst X;have D:=Yw (Zv hlt);obtain⟨⟨c0,c1,c2,i,rc,T,_⟩,b',R,K,_,z⟩:=G k _ D,r.at hlt;cases K;obtain⟨_,_,_,g,c,y,A⟩:=z k _ D;have N:g=i/\c=rc:=by have:=(s.cell (p:=⟨b,Q+k *4+3,ba⟩) Y).ag y;rw[T]at this;simp at this;exact⟨this.1.symm,this.2.symm⟩
  obtain⟨rfl,rfl⟩:=N;have O:=B _ (getElem_mem hlt);have zA:b<wr.1.size:=Yv;have S:=Yw A;clear G z A y B r;generalize h[k]=x at *
  go_wp2;have z:bs wr.1.size wr (wr.alloc (Obj.cells #[C4 x.sum,int IntKind.i64 x.born,C4 x.i,C2 g x.D c] 78)):=Zy;have hT:FS wr w.1.size (.map (an (w.1.size+1+1))) (C4 x.sum) (Zg x.born) (C4 x.i) (C2 g x.D c) (wr.alloc (Obj.cells #[C4 x.sum,int IntKind.i64 x.born,C4 x.i,C2 g x.D c] 78)):=⟨(z.cell (p:=⟨w.1.size+1+1+1,1,ba⟩) Yt).ag t1,Yu,Yu,Yu,Yu⟩;have y:FS wr w.1.size (.map (an (w.1.size+1+1))) (C4 x.sum) (Zg x.born) (C4 x.i) (C2 g x.D c) (wr.alloc (Obj.cells #[C4 x.sum,int IntKind.i64 x.born,C4 x.i,C2 g x.D c] 78)).drew:=hT;go_region_held3 (λt=>ek t (Zd (w.1.size+1+1+1) 1)=an (.map (an (w.1.size+1+1)))/\ek t (Zd (wr.1.size) 0)=an (C4 x.sum)/\ek t (Zd (wr.1.size) 1)=an (Zg x.born)/\ek t (Zd (wr.1.size) 2)=an (C4 x.i)/\ek t (Zd (wr.1.size) 3)=an (C2 g x.D c))
   (first|exact B|exact A|exact y)
   (first
   |(go_at_call 93;refine(IT x.sum _).ai ?_;rintro e G ⟨rfl,t⟩;have A:FS wr w.1.size (.map (an (w.1.size+1+1))) (C4 x.sum) (Zg x.born) (C4 x.i) (C2 g x.D c) G:=FS.ah y t Yt Yu;have r:bs wr.1.size wr G:=z.drew.ag (t.ai Yu);obtain⟨w3,hup,hm3,hg3⟩:=(F.ah r Yv).put keyed underlying98 (val:=Ep x g c) Yo (EF x.sum);have B:FS wr w.1.size (.map (an (w.1.size+1+1))) (C4 x.sum) (Zg x.born) (C4 x.i) (C2 g x.D c) w3:=FS.grown A hg3 Yu Yt;unfold Ep at hup))
  all_goals
   have M:=Ai o (Ai (Af _ r) hg3);have HN:Hid (Holds w w.1.size l (h.take (k+1)) (upd f (keyL x.sum) (Ep x g c))):=(by have:=C.snoc (rc:=c) O V S;rw[take_add_one,D.o];exact this);have H:=Yw hm3;clear hm3 hup A B hg3 r t;go_wp2;exact⟨⟨k+1,_,Yv,Yn,H,HN,M⟩,Ys⟩
 have r:=o.cell r0 Yu;have t:=o.cell Z Yu;have A:∀j,el wr ⟨w.1.size+1,j,ba⟩=bq:=λj=>(o.frozen_far ⟨w.1.size+1,j,ba⟩ Yt Yu).ag (m j);rw[Zt Yv]at C;obtain rfl:k=eh h:=Yv;go_wp2;refine C1 (.agg #[Zg l,.map (an (w.1.size+1+1))]) (by simp[results,results92,go_sem,r,t]) ⟨_,f,rfl,Yv,?_,C,?_⟩
 .exact(Bb.setCell (Bb.setCell F Yu _) Yu _)
 exact(s.setCell Yu _).setCell Yu _
def FD(b m:Nat)(s:Zi)(v:Value)(w':Zh):Prop:=
 ek w' (Zd b 1)=an (.map (an m))/\(Instr.lookup 98 (.map (an m)) (CA s) bg).run prog w'=.ok v w'
theorem FD.of{W a:Zh}{b m n B:Nat}{s:Zi}{f:Lit->Option Value}(e:ek W (Zd b 1)=an (.map (an m)))(c:Bb W 122 m n f)(d:b<B)(g:m<B)(h:bs B W a):
 FD b m s (.tuple #[(f (keyL s)).getD (.agg #[Zc,Ze,Zc,Zb]),.bool (f (keyL s)).isSome]) a:=
 ⟨(h.cell (p:=⟨b,1,ba⟩) d).ag e,(c.ah h g).look_ok keyed underlying98 (Lr _) (EF s)⟩
theorem Iw(G:Int){m n:Nat}(f:Lit->Option Value)(s:Zi){w:Zh}(r:Bb w 122 m n f)(V:(s.size:Int)=G)(u:Zi)(k:Int)(t:Zi)(F:D4)(q:Bool)
 (N:(∃a l c,F=C3 a l c)) (H:(f (keyL s)).getD (.agg #[Zc,Ze,Zc,Zb])=.agg #[C4 u,Zg k,C4 t,F]) (g:(f (keyL s)).isSome=q):
 D8 161 #[.agg #[Zg G,.map (an m)],C4 s] w λe d=>e=C5 (.tuple #[.agg #[C4 u,Zg k,C4 t,F],.bool q])/\Zz w d:=by
 obtain⟨C,D,E,rfl⟩:=N;have M:=r.lt;have L:∀b i,Zz w ((w.alloc b).alloc i):=λb i=>(Zy).alloc Yu _;delta D8;go_in;go_wp2;have⟨W,b⟩:=Ag ((w.alloc (Obj.cells #[int IntKind.i64 G,Value.map (an m)] 100)).alloc (Obj.cells #[C4 ⟨#[]⟩,int IntKind.i64 0,C4 ⟨#[]⟩,C3 ba 0 0] 78));have I:W.1.size=w.1.size+1+1:=by rw[b];simp
 have x:bs w.1.size w W:=by rw[b];exact L _ _
 have R:ek W (Zd (w.1.size) 1)=an (.map (an m)):=M5;have r0:∃v,ek W (Zd (w.1.size+1) 0)=an v:=M5;have z:∃v,ek W (Zd (w.1.size+1) 1)=an v:=M5;have A:∃v,ek W (Zd (w.1.size+1) 2)=an v:=M5;have B:∃v,ek W (Zd (w.1.size+1) 3)=an v:=M5;have T:∀j,el W ⟨w.1.size+1,j,ba⟩=bq:=λj=>by rw[b];simp[go_sem]
 obtain⟨v0,r0⟩:=r0;obtain⟨l,z⟩:=z;obtain⟨v2,A⟩:=A;obtain⟨v3,B⟩:=B;have y:∀d,Zz W d->FD w.1.size m s (.tuple #[.agg #[C4 u,Zg k,C4 t,C3 C D E],.bool q]) d:=λd h=>by have:=FD.of (s:=s) R (r.ah x M) Yv Yv h;rw[H,g]at this;exact this
 have i:=Yw y;have o:w.1.size+1<W.1.size:=Yv;have U:w.1.size<W.1.size:=Yv;rw[<-b];clear b y H g r I;go_region_held3 (λd=>ek d (Zd (w.1.size) 1)=an (.map (an m))/\(Instr.lookup 98 (.map (an m)) (CA s) bg).run prog d=.ok (.tuple #[.agg #[C4 u,Zg k,C4 t,C3 C D E],.bool q]) d)
  (first
    |exact i _ b
    |exact i _ (b.alloc (Zm (Zx) b.size) _)
    |exact i _ (Ae.drew.alloc Yu _)
    |exact i _ Ae.drew
    |exact i _ ((((b.setCell Yu _).setCell Yu _).setCell Yu _).setCell Yu _)
    |exact i _ (b.alloc b.size _))
  (first
    |(go_at_call 93;refine(IT s W.drew).ai ?_;rintro e g ⟨rfl,d⟩;have b:bs W.1.size W g:=Ae.drew.ag (d.ai Yu);have O:=b.size)
    |(go_at_call 93;refine(IT s (W.alloc _).drew).ai ?_;rintro e g ⟨rfl,d⟩;have b:bs W.1.size W g:=(Zy).drew.ag (d.ai Yu);have O:W.1.size<g.1.size:=(by have:=d.size;simp at this;omega);have X:ek g (Zd (W.1.size) 0)=an Zc:=(by rw[d.cell (p:=⟨W.1.size,0,ba⟩) Yu];simp[go_sem]);have Y:ek g (Zd (W.1.size) 1)=an Ze:=(by rw[d.cell (p:=⟨W.1.size,1,ba⟩) Yu];simp[go_sem]);have Z:ek g (Zd (W.1.size) 2)=an Zc:=(by rw[d.cell (p:=⟨W.1.size,2,ba⟩) Yu];simp[go_sem]);have a:ek g (Zd (W.1.size) 3)=an Zb:=(by rw[d.cell (p:=⟨W.1.size,3,ba⟩) Yu];simp[go_sem]);have S:∀j,el g ⟨W.1.size,j,ba⟩=bq:=(λj=>by rw[d.frozen (p:=⟨W.1.size,j,ba⟩) Yu];simp[go_sem])))
 all_goals
  obtain⟨H,I,J,K⟩:=(b.cell (p:=⟨w.1.size+1,0,ba⟩) o).ag r0,(b.cell (p:=⟨w.1.size+1,1,ba⟩) o).ag z,(b.cell (p:=⟨w.1.size+1,2,ba⟩) o).ag A,(b.cell (p:=⟨w.1.size+1,3,ba⟩) o).ag B;have c:∀j,el g ⟨w.1.size+1,j,ba⟩=bq:=λj=>(b.frozen (p:=⟨w.1.size+1,j,ba⟩) o).ag (T j);have y:=x.ag (b.ai Yv);have r:w.1.size+1<g.1.size:=Yv;have P:¬W.1.size=w.1.size+1:=Yv;have Q:¬w.1.size+1=W.1.size:=Yv;clear d i;go_wp2;refine C1 (.tuple #[.agg #[C4 u,Zg k,C4 t,C3 C D E],.bool q]) (by first|(simp[results,results161,go_sem,H,I,J,K];done)|(simp[results,results161,go_sem,H,I,J,K,r];done)) ⟨rfl,?_⟩
  first
   |(have d:=S 0;exact((((((((y.setCell Yt _).setCell Yt _).setCell Yt _).setCell Yt _).setCell Yu _).setCell Yu _).setCell Yu _).setCell Yu _))
   |exact(((((y.setCell Yu _).setCell Yu _).setCell Yu _).setCell Yu _).alloc Yt _)
theorem ZA(a:Int)(m:Nat)(s:Zi)(w:Zh)(c:¬(s.size:Int)=a):
 Calls prog 161 #[ct #[Zg a,.map (an m)],.string s] w fun e b=>e=.returned (.tuple #[ct #[Zc,Ze,Zc,Zb],ef bq])/\Zz w b:=by
 have b:((s.size:Int)==a)=bq:=Yt;go_in;go_wp2;refine bodyPost_ret (v:=.tuple #[ct #[Zc,Ze,Zc,Zb],ef bq]) (by simp[results,results161,go_sem]) rfl ⟨rfl,?_⟩;exact(Zy).alloc Yu _
structure Found (ks:List Kd) (s:Zi) (bo:Int) (ok:Bool):Prop where
 no:ok=bq->¬AA ks s
 yes:ok=bg->∃x∈ks,x.sum=s/\x.born=bo
theorem Si{b:Int}{m n:Nat}(f:Lit->Option Value){j:C9}{W:Zh}{B:Nat}(s:Zi){w:Zh}(c:Bb w 122 m n f)(p:Holds W B b j f)(o:∀k∈j,(k.sum.size:Int)=b):
 ∃u d t l q r g,Found j s d g/\∀a,Zz w a->D8 161 #[.agg #[Zg b,.map (an m)],C4 s] a λe i=>e=C5 (.tuple #[.agg #[C4 u,Zg d,C4 t,C3 l q r],.bool g])/\Zz a i:=by
 by_cases hs:(s.size:Int)=b
 .rcases p s hs with⟨d,g⟩|⟨x,q,r,d,g,l,_⟩
  .exact⟨⟨#[]⟩,0,⟨#[]⟩,ba,0,0,bq,⟨λ_=>g,λh=>by cases h⟩,λa i=>Iw b f s (c.ah i c.lt) hs _ _ _ _ _ ⟨_,_,_,rfl⟩ (by rw[d];rfl) Yt⟩
  exact⟨x.sum,x.born,x.i,q,eh x.D,r,bg,⟨λh=>by(cases h),λ_=>⟨x,d,g,rfl⟩⟩,λa i=>Iw b f s (c.ah i c.lt) hs _ _ _ _ _ ⟨_,_,_,rfl⟩ (by rw[l];rfl) (by rw[l];rfl)⟩
 exact⟨⟨#[]⟩,0,⟨#[]⟩,ba,0,0,bq,⟨λ_ ⟨x,hx,e⟩=>hs (by rw[<-e];exact o x hx),λh=>by cases h⟩,λa _=>ZA b m s a hs⟩
theorem JX{c:Int}{m n:Nat}(f:Lit->Option Value){g:C9}{W:Zh}{B:Nat}(s:Zi){w:Zh}(p:Bb w 122 m n f)(o:Holds W B c g f)(l:∀k∈g,(k.sum.size:Int)=c):
 ∃b,(b=bg↔AA g s)/\∀a,Zz w a->D8 180 #[.agg #[Zg c,.map (an m)],C4 s] a λe d=>e=C5 (.bool b)/\Zz a d:=by
 have⟨u,y,t,z,A,C,b,d,j⟩:=Si f s p o l;refine⟨b,⟨λh=> ?_,λh=> ?_⟩,λa q=> ?_⟩
 .obtain⟨x,v,e,_⟩:=d.yes h;exact⟨x,v,e⟩
 .cases b with
  |true=>rfl
  |false=>exact absurd h (d.no rfl)
 have i:bs a.1.size a (a.alloc (ca #[Zg c,.map (an m)] 100)):=Zy;have r:=Yw (j _ (q.ag (i.ai q.size)));clear j p o l d;delta D8;go_in;go_wp2_with fail;refine r.Aj ?_;rintro e d ⟨rfl,a⟩;go_wp2;go_ret;exact⟨rfl,(i.ag (a.ai Yu)).alloc (by have:=a.size;simp at this;omega) _⟩
end
section
open Go.Proofs
theorem Gr{a b:Zi}(h:a.toList=b.toList):a=b:=by rw[Lib.toList_data,Lib.toList_data]at h;cases a;cases b;simpa using h
theorem OT{a b:Zi}:less a b=bg↔a.toList<b.toList:=by unfold less;rw[bytesLess_eq,decide_eq_true_iff]
theorem OU{a b:Zi}(h:less a b=bq)(c:a≠b):less b a=bg:=by
 rw[OT];have d:¬a.toList<b.toList:=λe=>by rw[OT.2 e]at h;cases h
 have f:=List.not_lt.1 d;by_cases e:b.toList<a.toList
 .exact e
 exact absurd (Gr (Std.le_antisymm (List.not_lt.1 e) f)) c
