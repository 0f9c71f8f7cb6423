import Derived.Test.YtfehblndlffcmaaGreatDoorX01
import Derived.Test.YtfehblndlffcmaaGreatDoorRows
import Derived.OpenShut
import Derived.ShutString
import Derived.Deep.Slices
set_option maxRecDepth 100000
set_option maxHeartbeats 16000000
open Option renaming some->an,none->ba
open List renaming length->eh
open Go.World renaming cell?->ek
namespace Go.Proofs.YtfehblndlffcmaaGreatDoor
open ChangeShapes WideShapes ChangeAt RowKit _root_.Go.Proofs.Tryz List World Value
variable{w:Zh}{b B:Nat}{e d:Int}{Q M:Value}{c:Zl}
theorem own:ownKnob prog.godebug=ba:=Yr
theorem laidOut:laidOutB prog=true:=Yr
def YA(ks:List Kd):Nat:=(ks.map (fun k=>eh k.D)).sum
def Cu(w:Zh)(b:Nat)(ph:Int)(Q M:Value)(top at_ ro:Int):Prop:=
 ek w ⟨b,0,ba⟩=an (.int .i64 ph)/\ek w ⟨b,1,ba⟩=an Q/\ek w ⟨b,2,ba⟩=an M/\ek w ⟨b,3,ba⟩=an (.int .i64 top)/\
  ek w ⟨b,4,ba⟩=an (.int .i64 at_)/\ek w ⟨b,5,ba⟩=an (.int .i64 ro)/\b<w.1.size
theorem Cu.new(w:Zh)(c b a d:Int)(Q M:D4)(t:TypeId):Cu (w.alloc (.cells #[Zg c,Q,M,Zg b,Zg a,Zg d] t)) w.1.size c Q M b a d:=
 ⟨Yu,Yu,Yu,Yu,Yu,Yu,Yu⟩
theorem Cu.ah{i:Zh}{f g:Int}(h:Cu w b f Q M e d g)(a:Below B w i)(c:b<B):Cu i b f Q M e d g:=by
 obtain⟨j,k,l,m,n,o,q⟩:=h;exact⟨(a.cell (p:=⟨b,0,ba⟩) c).ag j,(a.cell (p:=⟨b,1,ba⟩) c).ag k,(a.cell (p:=⟨b,2,ba⟩) c).ag l,(a.cell (p:=⟨b,3,ba⟩) c).ag m,
  (a.cell (p:=⟨b,4,ba⟩) c).ag n,(a.cell (p:=⟨b,5,ba⟩) c).ag o,Zr q a.size⟩
theorem Cu.A{f:Zh}{c a:Int}(h:Cu w b d Q M c a e)(g:Zz w f):Cu f b d Q M c a e:=h.ah g h.2.2.2.2.2.2
structure IL (qs ms:Zl):Prop where
 q:eh qs<=1048576
 m:eh ms<=1048576
theorem Dh{α:Type}:(∀(l:List α) (i:Nat) (a:α),l.toArray.setIfInBounds i a=(l.set i a).toArray)/\(∀(a b:α) (l:List α),(b::l).set 0 a=a::l)/\∀(a b:α) (l:List α) (n:Nat),(b::l).set (n+1) a=b::l.set n a:=
 ⟨λ_ _ _=>Zq _ _ _,λ_ _ _=>rfl,λ_ _ _ _=>rfl⟩
theorem Ab.cells{g:Nat}(h:Ab w B (an ⟨g,0,ba⟩) c):∀j s,c[j]?=an s->ek w ((⟨g,0,ba⟩:Addr).add j)=an (C4 s):=by
 intro j s a;rcases h with h|⟨b,f,d,_,e⟩
 .subst h;simp at a
 cases d;have:=e j s a;rw[A7];simpa using this
theorem Ab.take{a:Zk}(h:Ab w B a c)(K:Nat):Ab w B a (c.take K):=by
 rcases h with h|⟨q,d,e,f,g⟩
 .exact .inl (by simp[h])
 refine .inr ⟨q,d,e,f,λi s b=>g i s ?_⟩;have j:=(Zw b).1;simp at j;rw[getElem?_take_of_lt Yv]at b;exact b
structure Ic (ks:List Kd) (ps:List Pd) (ls:List Ld):Prop where
 k:OQ ks
 p:Sg ps
 l:Aez ls
 b:∀k∈ks,(Lit.int .i64 k.born).wf=true
 n:eh ks<=600/\eh ps<=100/\eh ls<=200
def JM(k:Kd):Prop:=k.i.size<=2000/\eh k.D<=30/\(∀s∈k.D,s.size<=8)/\k.sum.size<=8
theorem Abs:prog.cellsOf 5=1:=Yr
theorem Sw{H:Type}{s:TypeId×Value->H}{W:Zh}{i:Nat}{spare:Nat->Bool}{held:Bool}{k:Nat}{v:D4}{y:DataW H×List MemPlace}
 (h:DataW.trod s prog W i spare held k 22 [v]=an y):
 ∃a n e,v=.slice a n e/\(n=0\/∃q d,a=an ⟨q,d,ba⟩/\q<W.1.size/\∀j,j<n->∃x:Int,ek W ⟨q,d+j,ba⟩=an (.int .u8 x)/\0<=x/\x<256)/\n<=e/\n<=maxLen:=by
 rcases Go.Deep.open_slice1 underlying22 Abs h with⟨c,_⟩|⟨a,g,e,m,n,V,D,E,c,_,A,F,t,_,l⟩
 .simp at c;subst c;exact⟨ba,0,0,rfl,.inl rfl,Zx,Aq _⟩
 simp at c;subst c;refine⟨an a,g,e,rfl,?_,A,by omega⟩;have C:g<=m:=by rw[t];split<;>omega
 by_cases h0:g=0
 .exact .inl h0
 obtain⟨b,d,spot⟩:=a;have f:spot=ba:=by simpa [Addr.add]using cell?_spot (l 0 D9).1
 subst f;refine .inr ⟨b,d,rfl,?_,λj o=> ?_⟩
 .exact Bf W ⟨b,d+0,ba⟩ (by rw[<-A7];exact(l 0 D9).1)
 obtain⟨o,u⟩:=l j D9;have⟨z,r,_,B⟩:=DataW.trod_int underlying5 u;simp at r;rw[A7,r]at o;refine⟨z,o,?_⟩;have w:=range_u8 (zs:=[z]) (by intro n p;simp at p;subst p;exact B) 0;simp at w;omega
