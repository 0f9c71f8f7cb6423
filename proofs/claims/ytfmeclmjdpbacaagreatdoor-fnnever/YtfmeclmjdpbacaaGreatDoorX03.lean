import Derived.Test.YtfmeclmjdpbacaaGreatDoorX01
import Derived.Deep.Upon
import Derived.Deep.DrawnRows
import Derived.Deep.RegionHeld3
import Derived.WideKeyEntry
import Derived.Maps.Views
import Derived.Deep.RegionLaw
import Derived.Laws.OwnMore
import Derived.Test.YtfmeclmjdpbacaaGreatDoorRows
import Derived.OpenShut
import Derived.ShutString
import Derived.Sort.Walk0
import Derived.Deep.LoopGhost
import Derived.RegionTactic
import Derived.Deep.Slices
set_option maxRecDepth 100000
set_option maxHeartbeats 16000000
open Option renaming some->ai,none->an
open Bool renaming true->ay,false->ba
open Go.RowKit renaming Below->bg
open Decidable renaming decide->bq
open Go.Obj renaming cells->bs
open Go.Value renaming slice->bx,bool->ec,ownBlock->ef
open Or renaming inl->cr,inr->ct
open List renaming length->ed,toArray->ee
open Go.World renaming cell?->eh,frozen?->ei,ownsRow->ej,grownBy->ek
open Go renaming maxLen->eo
namespace Go.Proofs.YtfmeclmjdpbacaaGreatDoor
open ChangeShapes WideShapes ChangeAt RowKit _root_.Go.Proofs.Tryz List World Value
variable{a i k g B c base b n h m clock:Nat}{j:C5}{s:Zi}{u v x r z M L O Q:Value}{w d w' f W wr X:Zh}{e K t:TypeId}{P:Program}{o:Oper}{E:Prop}{V:List Nat}
def AZ(s:Zi):Zj:=(CJ s).toList
theorem St(s:Zi)(j:Nat)(h:j<8):(AZ s)[j]?=ai (.int .u8 (kB s j)):=by
 match j,h with
 |0,_|1,_|2,_|3,_|4,_|5,_|6,_|7,_=>rfl
def AR(ss:Zl):Zj:=ss.flatMap AZ
theorem Fh(a:Zl):ed (AR a)=ed a *8:=by
 induction a with
 |nil=>rfl
 |cons s a ih=>
  have:ed (AZ s)=8:=rfl;unfold AR at *
  rw[flatMap_cons,Am,ih,length_cons,this];omega
theorem ED{a:Zl}{j:Nat}(h:a[i]?=ai s)(c:j<8):(AR a)[i *8+j]?=ai (.int .u8 (kB s j)):=by
 induction a generalizing i with
 |nil=>simp at h
 |cons t a ih=>
  have b:ed (AZ t)=8:=rfl;unfold AR at *
  rw[flatMap_cons];cases i with
  |zero=>simp at h;subst h;rw[getElem?_append_left Yv,Nat.zero_mul,Ax];exact St t j c
  |succ i=>rw[getElem?_append_right Yv,b,show(i+1) *8+j -8=i *8+j by omega];exact ih (C9 h)
theorem Mk{a:Zl}(h:(AR a)[k]?=ai u):∃s,a[k/8]?=ai s/\u=.int .u8 (kB s (k%8)):=by
 have c:k<ed a *8:=by rw[<-Fh];exact(Zw h).1
 have b:k/8<ed a:=Yv;refine⟨a[k/8],Zv b,?_⟩;have:=ED (j:=k%8) (Zv b) (Nat.mod_lt _ Yq);rw[show k/8 *8+k%8=k by omega,h]at this;exact A2 this
theorem JV(a b:Zl):AR (a++b)=AR a++AR b:=by unfold AR;rw[flatMap_append]
theorem Hd(c:Zl):∀u∈AR c,u.oneCell'=ay:=by intro u b;have⟨k,a⟩:=A3 b;obtain⟨s,_,rfl⟩:=Mk a;rfl
def R8(w:Zh)(B:Nat)(v:Value)(ss:Zl):Prop:=
 (v=Zb/\ss=[])\/∃g off cap,v=bx (ai ⟨g,off,an⟩) (ed ss) cap/\g<B/\∀i s,ss[i]?=ai s->∀j,j<8->eh w (Zd g (off+(i *8+j)))=ai (.int .u8 (kB s j))
def Hu(w:Zh)(g:Nat):Prop:=∃cur fz,w.1[g]?=ai (bs cur 160 fz)
theorem Hu.lt(h:Hu w g):g<w.1.size:=by obtain⟨_,_,h⟩:=h;exact(A0.1 h).1
theorem Hu.same{a:Zh}(h:Hu w g)(b:a.1[g]?=w.1[g]?):Hu a g:=by obtain⟨c,f,h⟩:=h;exact⟨c,f,b.ag h⟩
theorem Hu.jl:∀(vs:Zj) (o:Nat) (w:Zh),Hu w g->Hu (w.setCells g o vs) g
 |[],_,_,h=>h
 |v::r,o,w,h=>by rw[setCells];refine Hu.jl r (o+1) _ ?_;obtain⟨c,f,h⟩:=h;refine⟨c.setIfInBounds o v,f,?_⟩;simp[setCell,Array.getElem?_modify,h]
def EE(w:Zh)(base:Nat)(v:Value)(ss:Zl):Prop:=
 (v=Zb/\ss=[])\/∃g off cap,v=bx (ai ⟨g,off,an⟩) (ed ss) cap/\base<=g/\Hu w g/\ed ss<=cap/\cap<=eo/\
   (∀j,j<cap *8->(eh w (Zd g (off+j))).isSome=ay/\ei w ⟨g,off+j,an⟩=ba)/\
   ∀i s,ss[i]?=ai s->∀j,j<8->eh w (Zd g (off+(i *8+j)))=ai (.int .u8 (kB s j))
def Aj:Value->Option Nat
 |bx (ai a) _ _=>ai a.block
 |_=>an
theorem R8.A{c:Zl}(h:R8 w B v c)(f:bg B w d):R8 d B v c:=by
 rcases h with h|⟨g,a,e,n,b,k⟩
 .exact cr h
 exact ct ⟨g,a,e,n,b,λi s m j l=>(f.cell (p:=⟨g,a+(i *8+j),an⟩) b).ag (k i s m j l)⟩
theorem R8.mono{B':Nat}{a:Zl}(h:R8 w B v a)(f:B<=B'):R8 w B' v a:=by
 rcases h with h|⟨g,c,b,e,i,d⟩
 .exact cr h
 exact ct ⟨g,c,b,e,Yv,d⟩
abbrev R8.ah:=@R8.mono
theorem R8.stays{a:Zl}(h:R8 w B v a)(d:∀g,Aj v=ai g->w'.1[g]?=w.1[g]?):R8 w' B v a:=by
 rcases h with h|⟨g,c,b,rfl,f,e⟩
 .exact cr h
 exact ct ⟨g,c,b,rfl,f,λi s l j k=>(cell?_of_block (d g rfl)).ag (e i s l j k)⟩
theorem EE.stays{e:Zl}(h:EE w a v e)(_hz:w.1.size<=w'.1.size)(b:∀g,Aj v=ai g->w'.1[g]?=w.1[g]?):EE w' a v e:=by
 rcases h with h|⟨g,k,f,rfl,l,p,m,n,d,o⟩
 .exact cr h
 exact ct ⟨g,k,f,rfl,l,p.same (b g rfl),m,n,λj c=>⟨by rw[cell?_of_block (b g rfl)];exact(d j c).1,by rw[frozen?_of_block (b g rfl)];exact(d j c).2⟩,λi s q j c=>(cell?_of_block (b g rfl)).ag (o i s q j c)⟩
theorem EE.A{c:Zh}{b:Zl}(h:EE w base v b)(a:Zz w c):EE c base v b:=by
 have d:=h;rcases h with h|⟨g,j,i,rfl,l,f,_⟩
 .exact cr h
 exact d.stays a.size (λk e=>by cases e;exact a.block g f.lt)
theorem EE.S{e:Zl}(h:EE w a v e)(b:Aj v=ai g):a<=g/\g<w.1.size:=by
 rcases h with⟨rfl,_⟩|⟨j,i,f,rfl,c,d,_⟩
 .cases b
 cases b;exact⟨c,d.lt⟩
theorem R8.cells{b:Zl}(c:∀i s,b[i]?=ai s->∀j,j<8->eh w (Zd g (a+(i *8+j)))=ai (.int .u8 (kB s j))):∀j u,(AR b)[j]?=ai u->eh w ((⟨g,a,an⟩:Addr).add j)=ai u:=by intro j u e;obtain⟨s,d,rfl⟩:=Mk e;have:=c _ s d (j%8) (Nat.mod_lt _ Yq);rw[show j/8 *8+j%8=j by omega]at this;rw[A1];exact this
theorem KT:(prog.info? 160).map (λi=>(i.zero,i.size,i.bytes))=ai (ai (.agg #[.int .u8 0,.int .u8 0,.int .u8 0,.int .u8 0,.int .u8 0,.int .u8 0,.int .u8 0,.int .u8 0]),8,8):=Yr
theorem R8.src{a:Zl}(h:R8 w B x a):Src prog 8 122 x (ed a) (AR a) w:=by
 rcases h with⟨rfl,rfl⟩|⟨g,c,b,rfl,_,d⟩
 .exact Src.ofNil w underlying122 0
 exact Src.ofSlice w underlying122 ⟨g,c,an⟩ (ed a) b (AR a) (Fh a) (R8.cells d) (Hd a)
theorem EE.fresh(w:Zh)(d:Nat)(b:Zl)(c:Nat)(z:Array Value)(k:d<=w.1.size)(g:ed b<=c)(h:c<=eo)(m:z.size=(c -ed b) *8):
 EE (w.drew.alloc (bs (ee (AR b)++z) 160)) d (Yz w.1.size (ed b) c) b:=by
 have l:=Fh b;have a:∀j,eh (w.drew.alloc (bs (ee (AR b)++z) 160)) (Zd (w.1.size) (0+j))=(ee (AR b)++z)[j]?:=λj=>by rw[Ax];show eh (w.drew.alloc (bs (ee (AR b)++z) 160)) (Zd (w.drew.1.size) j)=_;rw[cell?_alloc_at _ _ _ _ rfl]
 refine ct ⟨w.1.size,0,c,rfl,k,⟨_,_,heap_alloc_new w.drew _⟩,g,h,λj e=>⟨?_,?_⟩,λi s f j e=> ?_⟩
 .rw[a,B8 Yt];rfl
 .simp[go_sem]
 rw[a,Array.getElem?_append_left (by have:=(Zw f).1;simp[l];omega)];simpa using ED f e
theorem FQ(b:Nat):∀(vs:Zj) (o:Nat) (w:Zh),(w.setCells b o vs).1.size=w.1.size
 |[],_,_=>rfl
 |_::r,o,w=>by rw[setCells,FQ b r];simp
theorem Kj(b:Nat):∀(vs:Zj) (o:Nat) (w:Zh),(w.setCells b o vs).tape=w.tape
 |[],_,_=>rfl
 |_::r,o,w=>by rw[setCells,Kj b r];rfl
theorem IZ(b:Nat):∀(vs:Zj) (o:Nat) (w:Zh) (x:Addr),(eh w x).isSome=ay->(eh (w.setCells b o vs) x).isSome=ay
 |[],_,_,_,h=>h
 |v::r,o,w,x,h=>by
  rw[setCells];refine IZ b r (o+1) _ x ?_;by_cases e:(⟨b,o,an⟩:Addr)=x
  .subst e;have⟨u,a⟩:=Option.isSome_iff_exists.1 h;rw[cell?_setCell_same _ _ _ a];rfl
  rw[cell?_setCell_other _ _ _ _ e];exact h
theorem ZX{d:Nat}{a:Zl}(N:EE w d v a){c:Zl}(S:R8 w B x c)(Y:ed a+ed c<=100000000)(t:d<=w.1.size)(r:TypeId):
 ∃l n,(Builtin.append_ #[122,122] r #[v,x]).run prog w=.ok l n/\EE n d l (a++c)/\ek w n (Aj v)/\(Aj l=Aj v\/Aj l=ai w.1.size):=by
 obtain⟨i,C,Q,p,R⟩:=info_parts KT;have m:Src prog i.size 122 x (ed c) (AR c) w:=by rw[p];exact S.src
 by_cases h0:c=[]
 .subst h0;rw[List.append_nil];rcases N with⟨rfl,rfl⟩|⟨g,f,b,rfl,G,M,H,I,q,A⟩
  .exact⟨_,w,run_append_nothing w _ _ r _ i underlying122 C an 0 0 (Zx) x m,cr ⟨rfl,rfl⟩,⟨rfl,rfl,rfl,Zx,fun _ _ _=>rfl⟩,cr rfl⟩
  exact⟨_,w,run_append_nothing w _ _ r _ i underlying122 C _ _ _ H x m,ct ⟨g,f,b,rfl,G,M,H,I,q,A⟩,⟨rfl,rfl,rfl,Zx,fun _ _ _=>rfl⟩,cr rfl⟩
 have W:=List.length_pos_iff.2 h0;have grow:∀(z:Zk) (b:Nat),b<ed a+ed c->(Builtin.firstCells i.size (ed a) (bx z (ed a) b)).run prog w.drew=.ok (ee (AR a)) w.drew->
  ∃l n,(Builtin.append_ #[122,122] r #[bx z (ed a) b,x]).run prog w=.ok l n/\EE n d l (a++c)/\(∀h,ek w n h)/\Aj l=ai w.1.size:=by
  intro z b E hold;have o:=run_append_grow_src w _ _ r _ i _ underlying122 C Q z (ed a) b (AR a) hold x (ed c) (AR c) m E Yv (by
   have:=nextslicecap_le E;rw[R];omega)
  rw[<-JV]at o;have T:=grownCap_ge w (ed a+ed c) b 160;have P:=grownCap_le_maxLen w (ed a+ed c) b 160 Yo;have D:=EE.fresh w d (a++c) (grownCap w (ed a+ed c) b 160) (Builtin.zeroCells (Value.agg #[.int .u8 0,.int .u8 0,.int .u8 0,.int .u8 0,.int .u8 0,.int .u8 0,.int .u8 0,.int .u8 0]).cells (grownCap w (ed a+ed c) b 160 -(ed a+ed c))) t Yt P (by rw[size_zeroCells,List.length_append];rfl);rw[List.length_append]at D;exact⟨_,_,o,D,fun h=>⟨rfl,rfl,rfl,Yu,fun k F _=>heap_alloc_old w.drew _ F⟩,rfl⟩
 rcases N with⟨rfl,rfl⟩|⟨g,f,b,rfl,G,M,H,I,q,A⟩
 .obtain⟨l,n,o,J,K,L⟩:=grow an 0 Yv (run_firstCells_none w.drew _ _ _ _);exact⟨l,n,o,J,K _,ct L⟩
 by_cases hroom:ed a+ed c<=b
 .have X:=Fh c;have y:∀j,j<ed (AR c)->(ed a *8+j)<b *8:=fun j h=>by omega
  have o:=run_append_room_src w _ _ r _ i underlying122 C g f (ed a) b x (ed c) (AR c) m hroom (fun j h=>by rw[p,Nat.add_assoc];exact(q _ (y j h)).1) (fun j h=>by rw[p,Nat.add_assoc];exact(q _ (y j h)).2);rw[p]at o;have U:=World.keptBut_setCells g (may:=fun _=>True) (AR c) (f+ed a *8) w (fun _ _=>trivial);refine⟨_,_,o,ct ⟨g,f,b,by rw[List.length_append],G,Hu.jl _ _ _ M,by rw[List.length_append];exact hroom,I,fun j h=>⟨?_,?_⟩,fun k s u j h=> ?_⟩,⟨World.os_setCells _ _ _ _,Kj _ _ _ _,World.output_setCells _ _ _ _,by rw[FQ];exact Zx,fun k F O=>World.heap_setCells_other _ _ _ _ F (fun e=>O (by rw[e];rfl))⟩,cr rfl⟩
  .exact IZ _ _ _ _ _ (q j h).1
  .rw[World.frozen?_setCells];exact(q j h).2
  rcases Nat.lt_or_ge k (ed a) with F|F
  .rw[List.getElem?_append_left F]at u;rw[World.cell?_setCells_out _ _ _ _ _ (fun _ _=> cr Yt)];exact A k s u j h
  rw[List.getElem?_append_right F]at u;have V:=(Zw u).1;have O:=World.cell?_setCells_in g (AR c) (f+ed a *8) w (fun j h=>by rw[Nat.add_assoc];exact(q _ (y j h)).1) ((k -ed a) *8+j) Yv;rw[show f+(k *8+j)=f+ed a *8+((k -ed a) *8+j) by omega,O];have:=ED u h;rw[Zv Yv]at this;exact this
 obtain⟨l,n,o,J,K,L⟩:=grow (ai ⟨g,f,an⟩) b Yv (run_firstCells_some w.drew _ _ _ _ _ _ (by rw[p];exact Fh a) (by simpa using R8.cells A));exact⟨l,n,o,J,K _,ct L⟩
theorem wpList_append_run{b:Array Oper}{rest:List Oper}{a:Act}{Q:Exit->Act->Zh->Prop}(f:o.guard=an)(s x:Operand)(t u:TypeId)(i:o.op=.call {callee:=.builtin .append,args:= #[s,x],argTypes:= #[t,u]}){e c:Dg}(k:a.eval s=v)(l:a.eval x=e)(j:(Builtin.append_ #[t,u] o.type #[v,e]).run P w=.ok c d)(h:wpList P b Q rest (a.put o.dst c) d):wpList P b Q (o::rest) a w:=by
 refine wpList_plain f λK g=> ?_;unfold Oper.wp execOp;simp only[i,resolve,invoke,builtin,Sem.run_bind,Sem.run_pure,Result.andThen_ok,map_toArray,map_cons,map_nil,k,l,j];exact g _ _ h
theorem CK{b:Array Oper}{a:Act}{K:Act->Zh->Prop}{Q:Exit->Act->Zh->Prop}(f:o.guard=an)(s x:Operand)(t u:TypeId)(g:o.op=.call {callee:=.builtin .append,args:= #[s,x],argTypes:= #[t,u]}){e c:Dg}(j:a.eval s=v)(l:a.eval x=e)(i:(Builtin.append_ #[t,u] o.type #[v,e]).run P w=.ok c d)(h:K (a.put o.dst c) d):
 if Region.wanted o (yielded b a.tmps)=ay then Oper.wp P o a w K Q else E:=by
 have k:Region.wanted o (yielded b a.tmps)=ay:=by simp[Region.wanted,f]
 rw[if_pos k];unfold Oper.wp execOp;simp only[g,resolve,invoke,builtin,Sem.run_bind,Sem.run_pure,Result.andThen_ok,map_toArray,map_cons,map_nil,j,l,i];exact h
def Af{A:Type}(c:A->Zj)(xs:List A):Zj:=xs.flatMap c
theorem CF{A:Type}{c:A->Zj}(h:∀x,ed (c x)=n)(a:List A):ed (Af c a)=ed a *n:=by
 unfold Af;induction a with
 |nil=>simp
 |cons x a ih=>rw[flatMap_cons,Am,ih,h,length_cons,Nat.add_mul];omega
theorem Cn{A:Type}(c:A->Zj)(a b:List A):Af c (a++b)=Af c a++Af c b:=by unfold Af;rw[flatMap_append]
theorem Cy{A:Type}{c:A->Zj}(h:∀x,ed (c x)=n):∀{xs:List A} {i j:Nat} {x:A},xs[i]?=ai x->j<n->(Af c xs)[i *n+j]?=(c x)[j]?
 |[],_,_,_,hx,_=>by simp at hx
 |y::ys,0,j,x,hx,hj=>by simp at hx;subst hx;show(y::ys|>.flatMap c)[_]?=_;rw[flatMap_cons,Nat.zero_mul,Ax,getElem?_append_left (by rw[h];exact hj)]
 |y::ys,i+1,j,x,hx,hj=>by
  have a:ys[i]?=ai x:=C9 hx;show(y::ys|>.flatMap c)[_]?=_;rw[flatMap_cons,getElem?_append_right (by rw[h,Nat.add_mul];omega),h,show(i+1) *n+j -n=i *n+j by rw[Nat.add_mul];omega];exact Cy h a hj
theorem RI{A:Type}{c:A->Zj}(h:∀x,ed (c x)=n)(f:0<n){a:List A}(d:(Af c a)[k]?=ai u):∃x,a[k/n]?=ai x/\(c x)[k%n]?=ai u:=by have e:=(Zw d).1;rw[CF h]at e;have b:=Nat.div_lt_of_lt_mul (by rw[Nat.mul_comm];exact e);refine⟨a[k/n],Zv b,?_⟩;have:=Cy h (Zv b) (Nat.mod_lt k f);rw[show k/n *n+k%n=k by rw[Nat.mul_comm];exact Nat.div_add_mod k n]at this;rw[<-this];exact d
theorem LL{A:Type}{c:A->Zj}(h:∀x,ed (c x)=n)(a:List A)(i:Nat)(e:i<=ed a):(Af c a).take (i *n)=Af c (a.take i):=by
 have b:Af c a=Af c (a.take i)++Af c (a.drop i):=by rw[<-Cn,take_append_drop]
 have d:ed (Af c (a.take i))=i *n:=by rw[CF h,Cl,Nat.min_eq_left e]
 rw[b,<-d,take_left]
theorem LM{A:Type}{c:A->Zj}(h:∀x,ed (c x)=n)(a:List A)(i:Nat)(e:i<=ed a):(Af c a).drop (i *n)=Af c (a.drop i):=by
 have b:Af c a=Af c (a.take i)++Af c (a.drop i):=by rw[<-Cn,take_append_drop]
 have d:ed (Af c (a.take i))=i *n:=by rw[CF h,Cl,Nat.min_eq_left e]
 rw[b,<-d,drop_left]
def pC(p:Pd):Zj:=[.string p.name,.string p.sum]
def lC(l:Ld):Zj:=[Zg l.M,.string l.sum,Zg l.ci]
theorem ES(p:Pd):ed (pC p)=2:=rfl
theorem Em(l:Ld):ed (lC l)=3:=rfl
theorem Uc(s:Zi):ed (AZ s)=8:=rfl
theorem Su(c:C7):∀u∈Af pC c,u.oneCell'=ay:=by intro u b;have⟨p,_,a⟩:=mem_flatMap.1 b;simp[pC]at a;rcases a with rfl|rfl<;>rfl
theorem VW(c:C6):∀u∈Af lC c,u.oneCell'=ay:=by intro u b;have⟨p,_,a⟩:=mem_flatMap.1 b;simp[lC]at a;rcases a with rfl|rfl|rfl<;>rfl
theorem Cv{size:Nat}{i:Zj}(h:ej w a e size v n i)(f:v≠Zb):∃g b,v=Yz g n b/\a<=g/\g<w.1.size:=by
 rcases h.2 with⟨e,_⟩|⟨g,b,j,rfl,c,d,_⟩
 .exact absurd e f
 exact⟨g,b,rfl,c,(A0.1 d).1⟩
theorem Bd.fj{f:C7}(h:Bd w B (ai ⟨b,a,an⟩) f):∀j u,(Af pC f)[j]?=ai u->eh w ((⟨b,a,an⟩:Addr).add j)=ai u:=by
 intro j u l;have⟨p,d,c⟩:=RI ES Yq l;rcases h with h|⟨o,g,i,_,k⟩
 .subst h;simp at d
 cases i;obtain⟨m,n⟩:=k _ p d;rw[A1];have q:=Nat.mod_lt j (show 0<2 by decide);rcases(show j%2=0\/j%2=1 by omega)with e|e<;>rw[e]at c<;>simp[pC]at c<;>subst c
 .rw[show a+j=a+j/2 *2 by omega];exact m
 rw[show a+j=a+j/2 *2+1 by omega];exact n
theorem Ba.fj{f:C6}(h:Ba w B (ai ⟨b,a,an⟩) f):∀j u,(Af lC f)[j]?=ai u->eh w ((⟨b,a,an⟩:Addr).add j)=ai u:=by
 intro j u l;have⟨p,e,d⟩:=RI Em Yq l;rcases h with h|⟨q,g,i,_,k⟩
 .subst h;simp at e
 cases i;obtain⟨m,n,o⟩:=k _ p e;rw[A1];have r:=Nat.mod_lt j (show 0<3 by decide);rcases(show j%3=0\/j%3=1\/j%3=2 by omega)with c|c|c<;>rw[c]at d<;>simp[lC]at d<;>subst d
 .rw[show a+j=a+j/3 *3 by omega];exact m
 .rw[show a+j=a+j/3 *3+1 by omega];exact n
 rw[show a+j=a+j/3 *3+2 by omega];exact o
theorem Bd.own{a:Zk}{d:Nat}{b:C7}(h:ej w base 148 2 (Cx a (ed b) d) (ed b) (Af pC b)):Bd w w.1.size a b:=by
 rcases h.2 with⟨e,m⟩|⟨g,f,n,l,o,p,_⟩
 .exact cr (length_eq_zero_iff.1 m)
 cases l;refine ct ⟨g,0,rfl,(h.lt g rfl).2,λi x c=> ?_⟩;have q:=(Zw c).1;have j:=Cy ES c (show 0<2 by decide);have k:=Cy ES c (show 1<2 by decide);rw[Ax];exact⟨(h.cellAt _ Yv).ag j,(h.cellAt _ Yv).ag k⟩
theorem Ba.own{a:Zk}{d:Nat}{c:C6}(h:ej w base 112 3 (Cx a (ed c) d) (ed c) (Af lC c)):Ba w w.1.size a c:=by
 rcases h.2 with⟨e,n⟩|⟨g,f,o,m,p,q,_⟩
 .exact cr (length_eq_zero_iff.1 n)
 cases m;refine ct ⟨g,0,rfl,(h.lt g rfl).2,λi x b=> ?_⟩;have r:=(Zw b).1;have j:=Cy Em b (show 0<3 by decide);have k:=Cy Em b (show 1<3 by decide);have l:=Cy Em b (show 2<3 by decide);rw[Ax];exact⟨(h.cellAt _ Yv).ag j,(h.cellAt _ Yv).ag k,(h.cellAt _ Yv).ag l⟩
theorem Bd.fv{a:Addr}{c:C7}(h:Bd w B (ai a) c):∀j u,(Af pC c)[j]?=ai u->eh w (a.add j)=ai u:=by
 rcases h with rfl|⟨b,d,e,f,g⟩
 .intro j u i;simp[Af]at i
 cases e;exact Bd.fj (ct ⟨b,d,rfl,f,g⟩)
theorem Ba.fv{a:Addr}{c:C6}(h:Ba w B (ai a) c):∀j u,(Af lC c)[j]?=ai u->eh w (a.add j)=ai u:=by
 rcases h with rfl|⟨b,d,e,f,g⟩
 .intro j u i;simp[Af]at i
 cases e;exact Ba.fj (ct ⟨b,d,rfl,f,g⟩)
theorem Ad.fv{d:Addr}{c:Zl}(h:Ad w B (ai d) c):∀j u,(c.map string)[j]?=ai u->eh w (d.add j)=ai u:=by
 rcases h with rfl|⟨b,g,e,i,f⟩
 .intro j u a;simp at a
 cases e;intro j u a;rw[getElem?_map]at a;cases hs:c[j]? with
 |none=>rw[hs]at a;cases a
 |some s=>rw[hs]at a;cases a;rw[A1];exact f j s hs
theorem Bd.nil{a:C7}(h:Bd w B an a):a=[]:=by
 rcases h with h|⟨_,_,h,_⟩
 .exact h
 cases h
theorem Ba.nil{a:C6}(h:Ba w B an a):a=[]:=by
 rcases h with h|⟨_,_,h,_⟩
 .exact h
 cases h
theorem Ad.nil{a:Zl}(h:Ad w B an a):a=[]:=by
 rcases h with h|⟨_,_,h,_⟩
 .exact h
 cases h
theorem Kk{a:Zk}(c:Nat){b:List Pd}(j:Bd w w.1.size a b)(A:ed b<=1048576):
 D4 94 #[bx a (ed b) c] w λe g=>∃d f,e=.returned (bx d (ed b) f)/\
  ej g w.1.size 148 2 (bx d (ed b) f) (ed b) (Af pC b)/\Zz w g:=by
 rcases a with _|m
 .obtain rfl:=j.nil;have f:∀u:Zh,(binOp .eql 27 (bx an 0 c) Zb).run prog u=.ok (ec ay) u:=λ_=>by first|rfl|kernel_rfl
  delta D4;go_in;go_wp2;go_ret;exact⟨an,0,rfl,⟨rfl,cr ⟨rfl,rfl⟩⟩,Ae⟩
 have⟨t,s,o,p,q⟩:=info_parts Ji;have i:bg w.1.size w (w.alloc (bs #[] 148)):=Zy;have f:∀u:Zh,(binOp .eql 27 (bx (ai m) (ed b) c) Zb).run prog u=.ok (ec ba) u:=λ_=>by first|rfl|kernel_rfl
 delta D4;go_in;go_wp2_with (first
  |(at_builtin;refine wpList_append_own _ rfl _ _ 27 rfl w.1.size 148 t _ 2 32 underlying27 s o p q rfl Yq _ 0 (Af pC []) rfl ?d0 m (ed b) c (Af pC b) rfl ?d1 ?d2 ?d3 ?d4 ?d5 ?d6 ?_)
  |go_in)
 case d0=>exact ownsRow_lit (base:=w.1.size) (e:=148) (size:=2) w #[] 0 (Zx) Yo rfl
 case d1=>exact CF ES b
 case d2=>exact(j.A i).fv
 case d3=>exact Su b
 case d4=>unfold eo;omega
 case d5=>omega
 case d6=>simp
 intro B v d g h;obtain⟨x,r,rfl,y,z⟩:=Cv d h;rw[<-Cn,nil_append]at d;have n:bg w.1.size w v:=i.grown g Yu (λk l=>by simp[ownBlock]at l;omega);have l:=Yw (Zn d n);try simp only[Ax]at *
 clear d g h n i j;go_wp2;go_ret;exact⟨_,r,rfl,l.1,l.2⟩
theorem Jj{a:Zk}(c:Nat){b:List Ld}(j:Ba w w.1.size a b)(A:ed b<=1048576):
 D4 95 #[bx a (ed b) c] w λe g=>∃d f,e=.returned (bx d (ed b) f)/\
  ej g w.1.size 112 3 (bx d (ed b) f) (ed b) (Af lC b)/\Zz w g:=by
 rcases a with _|m
 .obtain rfl:=j.nil;have f:∀u:Zh,(binOp .eql 28 (bx an 0 c) Zb).run prog u=.ok (ec ay) u:=λ_=>by first|rfl|kernel_rfl
  delta D4;go_in;go_wp2;go_ret;exact⟨an,0,rfl,⟨rfl,cr ⟨rfl,rfl⟩⟩,Ae⟩
 have⟨t,s,o,p,q⟩:=info_parts IB;have i:bg w.1.size w (w.alloc (bs #[] 112)):=Zy;have f:∀u:Zh,(binOp .eql 28 (bx (ai m) (ed b) c) Zb).run prog u=.ok (ec ba) u:=λ_=>by first|rfl|kernel_rfl
 delta D4;go_in;go_wp2_with (first
  |(at_builtin;refine wpList_append_own _ rfl _ _ 28 rfl w.1.size 112 t _ 3 32 underlying28 s o p q rfl Yq _ 0 (Af lC []) rfl ?d0 m (ed b) c (Af lC b) rfl ?d1 ?d2 ?d3 ?d4 ?d5 ?d6 ?_)
  |go_in)
 case d0=>exact ownsRow_lit (base:=w.1.size) (e:=112) (size:=3) w #[] 0 (Zx) Yo rfl
 case d1=>exact CF Em b
 case d2=>exact(j.A i).fv
 case d3=>exact VW b
 case d4=>unfold eo;omega
 case d5=>omega
 case d6=>simp
 intro B v d g h;obtain⟨x,r,rfl,y,z⟩:=Cv d h;rw[<-Cn,nil_append]at d;have n:bg w.1.size w v:=i.grown g Yu (λk l=>by simp[ownBlock]at l;omega);have l:=Yw (Zn d n);try simp only[Ax]at *
 clear d g h n i j;go_wp2;go_ret;exact⟨_,r,rfl,l.1,l.2⟩
theorem DH{a:Zk}(c:Nat){b:Zl}(j:Ad w w.1.size a b)(A:ed b<=1048576):
 D4 93 #[bx a (ed b) c] w λe g=>∃d f,e=.returned (bx d (ed b) f)/\
  ej g w.1.size 9 1 (bx d (ed b) f) (ed b) (b.map string)/\Zz w g:=by
 rcases a with _|m
 .obtain rfl:=j.nil;have f:∀u:Zh,(binOp .eql 23 (bx an 0 c) Zb).run prog u=.ok (ec ay) u:=λ_=>by first|rfl|kernel_rfl
  delta D4;go_in;go_wp2;go_ret;exact⟨an,0,rfl,⟨rfl,cr ⟨rfl,rfl⟩⟩,Ae⟩
 have⟨t,s,o,p,q⟩:=info_parts CQ;have i:bg w.1.size w (w.alloc (bs #[] 9)):=Zy;have f:∀u:Zh,(binOp .eql 23 (bx (ai m) (ed b) c) Zb).run prog u=.ok (ec ba) u:=λ_=>by first|rfl|kernel_rfl
 delta D4;go_in;go_wp2_with (first
  |(at_builtin;refine wpList_append_own _ rfl _ _ 23 rfl w.1.size 9 t Zc 1 16 underlying23 s o p q rfl Yq _ 0 (([]:Zl).map string) rfl ?d0 m (ed b) c (b.map string) rfl ?d1 ?d2 ?d3 ?d4 ?d5 ?d6 ?_)
  |go_in)
 case d0=>exact ownsRow_lit (base:=w.1.size) (e:=9) (size:=1) w #[] 0 (Zx) Yo rfl
 case d1=>simp
 case d2=>exact(j.A i).fv
 case d3=>exact Acj b
 case d4=>unfold eo;omega
 case d5=>omega
 case d6=>simp
 intro B v d g h;obtain⟨x,r,rfl,y,z⟩:=Cv d h
 skip
 have n:bg w.1.size w v:=i.grown g Yu (λk l=>by simp[ownBlock]at l;omega);have l:=Yw (Zn d n);try simp only[Ax]at *
 clear d g h n i j;go_wp2;go_ret;exact⟨_,r,rfl,l.1,l.2⟩
section
attribute [local go_sem↓] Go.wp_at_zero Go.wp_at_succ
def CG(u:Kd)(ra:Zk)(rc:Nat):Value:=.agg #[.string u.sum,Zg u.born,.string u.Q,bx ra (ed u.C) rc]
def Holds(W:Zh)(B:Nat)(wd:Int)(ks:List Kd)(f:Lit->Option Value):Prop:=
 ∀s:Zi,(s.size:Int)=wd->(f (keyL s)=an/\¬As ks s)\/∃u ra rc,u∈ks/\u.sum=s/\f (keyL s)=ai (CG u ra rc)/\Ad W B ra u.C
theorem Holds.nil(W:Zh)(B:Nat)(a:Int):Holds W B a [] (λ_=>an):=λ_ _=> cr ⟨rfl,λ⟨_,h,_⟩=>by cases h⟩
theorem Holds.snoc{b:Int}{i:C5}{f:Lit->Option Value}(h:Holds W B b i f){x:Kd}{g:Zk}{rc:Nat}(r:(x.sum.size:Int)=b)(q:b<=8)(o:Ad W B g x.C):Holds W B b (i++[x]) (upd f (keyL x.sum) (CG x g rc)):=by
 intro s p;by_cases he:keyL s=keyL x.sum
 .have:s=x.sum:=key_inj he Yv Yv;subst this;exact ct ⟨x,g,rc,Yu,rfl,DZ _ _ _,o⟩
 rw[DV _ _ he];have j:x.sum≠s:=λe=>he (by rw[e]);rcases h s p with⟨c,d⟩|⟨u,k,l,c,d,m,n⟩
 .refine cr ⟨c,λ⟨u,a,e⟩=> ?_⟩;rcases A5.1 a with a|a
  .exact d ⟨u,a,e⟩
  simp at a;subst a;exact j e
 exact ct ⟨u,k,l,by simp[c],d,m,n⟩
theorem LN(w:Zh):(zeroValue 50).run prog w=.ok (.agg #[Zc,Ze,Zc,Zb]) w:=Yr
theorem AY.setCell{f:Lit->Option Value}(h:AY w K b n f){a:Addr}(e:b≠a.block)(u:Dg):AY (w.setCell a u) K b n f:=by obtain⟨D,c,d⟩:=h;exact⟨D,c.setCell e u,d⟩
def FS(wr:Zh)(h:Nat)(m s b t r:Value)(w':Zh):Prop:=
 eh w' (Zd (h+1+1+1) 1)=ai m/\eh w' (Zd (wr.1.size) 0)=ai s/\eh w' (Zd (wr.1.size) 1)=ai b/\eh w' (Zd (wr.1.size) 2)=ai t/\eh w' (Zd (wr.1.size) 3)=ai r
theorem FS.ak{c e:Zh}{m s b t:Dg}(x:FS wr h m s b t r c)(a:Zz c e)(l:h+3<c.1.size)(d:wr.1.size<c.1.size):FS wr h m s b t r e:=by obtain⟨f,g,i,j,k⟩:=x;exact⟨(a.cell (p:=⟨h+1+1+1,1,an⟩) l).ag f,(a.cell (p:=⟨wr.1.size,0,an⟩) d).ag g,(a.cell (p:=⟨wr.1.size,1,an⟩) d).ag i,(a.cell (p:=⟨wr.1.size,2,an⟩) d).ag j,(a.cell (p:=⟨wr.1.size,3,an⟩) d).ag k⟩
theorem FS.grown{c:Zh}{q:Nat}{m s b t:Dg}(x:FS wr h m s b t r d)(a:ek d c (ai q))(k:h+1+1+1≠q)(l:wr.1.size≠q):FS wr h m s b t r c:=by obtain⟨e,f,g,i,j⟩:=x;exact⟨a.cell e Yt,a.cell f Yt,a.cell g Yt,a.cell i Yt,a.cell j Yt⟩
theorem QT(l u n d:Int){a:Zk}(E:Nat)(P L:Dg){h:C5}(r:BH w w.1.size a h)(hl:ed h<=1048576)(B:∀k∈h,(k.sum.size:Int)=l)(V:l<=8):
 D4 131 #[.agg #[Zg l,Zg u,Zg n,Zg d,Cx a (ed h) E,P,L]] w λe t=>∃m f,e=C1 (.agg #[Zg l,.map (ai m)])/\(w.1.size<=m/\m<=w.1.size+2)/\AY t 160 m (ed h) f/\Holds w w.1.size l h f/\Zz w t:=by
 have g:= @run_makeMap prog;delta D4;go_in;go_wp2;have⟨q,c⟩:=Ag ((((w.alloc (Obj.cells #[int IntKind.i64 l,int IntKind.i64 u,int IntKind.i64 n,int IntKind.i64 d,Cw a h E,P,L] 30)).alloc (Obj.cells #[int IntKind.i64 0,Value.map an] 121)).alloc (Obj.map #[] 0)).alloc (Obj.cells #[int IntKind.i64 l,Value.map (ai (w.1.size+1+1))] 121));have I:bg w.1.size w q:=by rw[c];exact((((Zy).alloc Yu _).alloc Yt _).alloc Yt _)
 have zB:q.1.size=w.1.size+4:=by rw[c];simp
 have J:AY q 160 (w.1.size+1+1) 0 (λ_=>an):=by have:=AY.new ((w.alloc (Obj.cells #[int IntKind.i64 l,int IntKind.i64 u,int IntKind.i64 n,int IntKind.i64 d,Cw a h E,P,L] 30)).alloc (Obj.cells #[int IntKind.i64 0,Value.map an] 121)) 160;rw[c];have U:=this.ak (Ae.alloc (Zx) (Obj.cells #[int IntKind.i64 l,Value.map (ai (w.1.size+1+1))] 121)) this.lt;simpa using U
 have W:eh q (Zd (w.1.size+1+1+1) 0)=ai (Zg l):=K8;have s1:eh q (Zd (w.1.size+1+1+1) 1)=ai (.map (ai (w.1.size+1+1))):=K8;have r0:eh q (Zd (w.1.size+1) 0)=ai Ze:=K8;have Z:eh q (Zd (w.1.size+1) 1)=ai (.map an):=K8;have m:∀j,ei q ⟨w.1.size+1,j,an⟩=ba:=λj=>by rw[c];simp[go_sem]
 rw[<-c];clear c g;go_loopw [13] (λi wr=>∃(k:Nat) (f:Lit->Option Value),k<=ed h/\i=Zg k/\Hid (AY wr 160 (w.1.size+1+1) k f)/\Hid (Holds w w.1.size l (h.take k) f)/\ek q wr (ai (w.1.size+1+1))) (λi _=>ed h -(intOf i).toNat)
 case atStart=>exact⟨0,_,Aw _,rfl,J,by rw[take_zero];exact Holds.nil w w.1.size l,Bv _ _⟩
 obtain⟨k,f,hk,rfl,F,C,o⟩:=hrel;have s:=I.grown o Yv Yt;have t0:=o.cell W Yu;have t1:=o.cell s1 Yu;have zC:=o.size;by_cases hlt:k<ed h
 .obtain⟨b,Q,X,Y,G⟩:=(r.A s).at hlt;subst X;have D:=Yw (Zv hlt);obtain⟨⟨c0,c1,c2,i,rc,T,_⟩,b',R,K,_,z⟩:=G k _ D,r.at hlt;cases K;obtain⟨_,_,_,g,c,y,A⟩:=z k _ D;have N:g=i/\c=rc:=by have:=(s.cell (p:=⟨b,Q+k *4+3,an⟩) Y).ag y;rw[T]at this;simp at this;exact⟨this.1.symm,this.2.symm⟩
  obtain⟨rfl,rfl⟩:=N;have O:=B _ (getElem_mem hlt);have zA:b<wr.1.size:=Yv;have S:=Yw A;clear G z A y B r;generalize h[k]=x at *
  go_wp2;have z:bg wr.1.size wr (wr.alloc (Obj.cells #[C0 x.sum,int IntKind.i64 x.born,C0 x.Q,Cw g x.C c] 50)):=Zy;have hT:FS wr w.1.size (.map (ai (w.1.size+1+1))) (C0 x.sum) (Zg x.born) (C0 x.Q) (Cw g x.C c) (wr.alloc (Obj.cells #[C0 x.sum,int IntKind.i64 x.born,C0 x.Q,Cw g x.C c] 50)):=⟨(z.cell (p:=⟨w.1.size+1+1+1,1,an⟩) Yt).ag t1,Yu,Yu,Yu,Yu⟩;have y:FS wr w.1.size (.map (ai (w.1.size+1+1))) (C0 x.sum) (Zg x.born) (C0 x.Q) (Cw g x.C c) (wr.alloc (Obj.cells #[C0 x.sum,int IntKind.i64 x.born,C0 x.Q,Cw g x.C c] 50)).drew:=hT;go_region_held3 (λt=>eh t (Zd (w.1.size+1+1+1) 1)=ai (.map (ai (w.1.size+1+1)))/\eh t (Zd (wr.1.size) 0)=ai (C0 x.sum)/\eh t (Zd (wr.1.size) 1)=ai (Zg x.born)/\eh t (Zd (wr.1.size) 2)=ai (C0 x.Q)/\eh t (Zd (wr.1.size) 3)=ai (Cw g x.C c))
   (first|exact B|exact A|exact y)
   (first
   |(go_at_call 132;refine(FP x.sum _).ah ?_;rintro e G ⟨rfl,t⟩;have A:FS wr w.1.size (.map (ai (w.1.size+1+1))) (C0 x.sum) (Zg x.born) (C0 x.Q) (Cw g x.C c) G:=FS.ak y t Yt Yu;have r:bg wr.1.size wr G:=z.drew.ag (t.ah Yu);obtain⟨w3,hup,hm3,hg3⟩:=(F.ak r Yv).put keyed underlying119 (val:=CG x g c) Yo (CW x.sum);have B:FS wr w.1.size (.map (ai (w.1.size+1+1))) (C0 x.sum) (Zg x.born) (C0 x.Q) (Cw g x.C c) w3:=FS.grown A hg3 Yu Yt;unfold CG at hup))
  all_goals
   have M:=AF o (AF (Al _ r) hg3);have HN:Hid (Holds w w.1.size l (h.take (k+1)) (upd f (keyL x.sum) (CG x g c))):=(by have:=C.snoc (rc:=c) O V S;rw[take_add_one,D.o];exact this);have H:=Yw hm3;clear hm3 hup A B hg3 r t;go_wp2;exact⟨⟨k+1,_,Yv,Yn,H,HN,M⟩,Ys⟩
 have r:=o.cell r0 Yu;have t:=o.cell Z Yu;have A:∀j,ei wr ⟨w.1.size+1,j,an⟩=ba:=λj=>(o.frozen_far ⟨w.1.size+1,j,an⟩ Yt Yu).ag (m j);rw[Zt Yv]at C;obtain rfl:k=ed h:=Yv;go_wp2;refine Co (.agg #[Zg l,.map (ai (w.1.size+1+1))]) (by simp[results,results131,go_sem,r,t]) ⟨_,f,rfl,Yv,?_,C,?_⟩
 .exact(AY.setCell (AY.setCell F Yu _) Yu _)
 exact(s.setCell Yu _).setCell Yu _
def FD(b m:Nat)(s:Zi)(v:Value)(w':Zh):Prop:=
 eh w' (Zd b 1)=ai (.map (ai m))/\(Instr.lookup 119 (.map (ai m)) (Ce s) ay).run prog w'=.ok v w'
theorem FD.of{a:Zh}{f:Lit->Option Value}(e:eh W (Zd b 1)=ai (.map (ai m)))(c:AY W 160 m n f)(d:b<B)(g:m<B)(h:bg B W a):
 FD b m s (.tuple #[(f (keyL s)).getD (.agg #[Zc,Ze,Zc,Zb]),.bool (f (keyL s)).isSome]) a:=
 ⟨(h.cell (p:=⟨b,1,an⟩) d).ag e,(c.ak h g).look_ok keyed underlying119 (LN _) (CW s)⟩
theorem FR(G:Int)(f:Lit->Option Value)(s:Zi)(r:AY w 160 m n f)(V:(s.size:Int)=G)(u:Zi)(k:Int)(t:Zi)(F:Dg)(q:Bool)(N:(∃a l c,F=Cx a l c))(H:(f (keyL s)).getD (.agg #[Zc,Ze,Zc,Zb])=.agg #[C0 u,Zg k,C0 t,F])(g:(f (keyL s)).isSome=q):
 D4 162 #[.agg #[Zg G,.map (ai m)],C0 s] w λe d=>e=C1 (.tuple #[.agg #[C0 u,Zg k,C0 t,F],.bool q])/\Zz w d:=by
 obtain⟨C,D,E,rfl⟩:=N;have M:=r.lt;have L:∀b i,Zz w ((w.alloc b).alloc i):=λb i=>(Zy).alloc Yu _;delta D4;go_in;go_wp2;have⟨W,b⟩:=Ag ((w.alloc (Obj.cells #[int IntKind.i64 G,Value.map (ai m)] 121)).alloc (Obj.cells #[C0 ⟨#[]⟩,int IntKind.i64 0,C0 ⟨#[]⟩,Cx an 0 0] 50));have I:W.1.size=w.1.size+1+1:=by rw[b];simp
 have x:bg w.1.size w W:=by rw[b];exact L _ _
 have R:eh W (Zd (w.1.size) 1)=ai (.map (ai m)):=F1;have r0:∃v,eh W (Zd (w.1.size+1) 0)=ai v:=F1;have z:∃v,eh W (Zd (w.1.size+1) 1)=ai v:=F1;have A:∃v,eh W (Zd (w.1.size+1) 2)=ai v:=F1;have B:∃v,eh W (Zd (w.1.size+1) 3)=ai v:=F1;have T:∀j,ei W ⟨w.1.size+1,j,an⟩=ba:=λj=>by rw[b];simp[go_sem]
 obtain⟨v0,r0⟩:=r0;obtain⟨l,z⟩:=z;obtain⟨v2,A⟩:=A;obtain⟨v3,B⟩:=B;have y:∀d,Zz W d->FD w.1.size m s (.tuple #[.agg #[C0 u,Zg k,C0 t,Cx C D E],.bool q]) d:=λd h=>by have:=FD.of (s:=s) R (r.ak x M) Yv Yv h;rw[H,g]at this;exact this
 have i:=Yw y;have o:w.1.size+1<W.1.size:=Yv;have U:w.1.size<W.1.size:=Yv;rw[<-b];clear b y H g r I;go_region_held3 (λd=>eh d (Zd (w.1.size) 1)=ai (.map (ai m))/\(Instr.lookup 119 (.map (ai m)) (Ce s) ay).run prog d=.ok (.tuple #[.agg #[C0 u,Zg k,C0 t,Cx C D E],.bool q]) d)
  (first
    |exact i _ b
    |exact i _ (b.alloc (Zm (Zx) b.size) _)
    |exact i _ (Ae.drew.alloc Yu _)
    |exact i _ Ae.drew
    |exact i _ ((((b.setCell Yu _).setCell Yu _).setCell Yu _).setCell Yu _)
    |exact i _ (b.alloc b.size _))
  (first
    |(go_at_call 132;refine(FP s W.drew).ah ?_;rintro e g ⟨rfl,d⟩;have b:bg W.1.size W g:=Ae.drew.ag (d.ah Yu);have O:=b.size)
    |(go_at_call 132;refine(FP s (W.alloc _).drew).ah ?_;rintro e g ⟨rfl,d⟩;have b:bg W.1.size W g:=(Zy).drew.ag (d.ah Yu);have O:W.1.size<g.1.size:=(by have:=d.size;simp at this;omega);have X:eh g (Zd (W.1.size) 0)=ai Zc:=(by rw[d.cell (p:=⟨W.1.size,0,an⟩) Yu];simp[go_sem]);have Y:eh g (Zd (W.1.size) 1)=ai Ze:=(by rw[d.cell (p:=⟨W.1.size,1,an⟩) Yu];simp[go_sem]);have Z:eh g (Zd (W.1.size) 2)=ai Zc:=(by rw[d.cell (p:=⟨W.1.size,2,an⟩) Yu];simp[go_sem]);have a:eh g (Zd (W.1.size) 3)=ai Zb:=(by rw[d.cell (p:=⟨W.1.size,3,an⟩) Yu];simp[go_sem]);have S:∀j,ei g ⟨W.1.size,j,an⟩=ba:=(λj=>by rw[d.frozen (p:=⟨W.1.size,j,an⟩) Yu];simp[go_sem])))
 all_goals
  obtain⟨H,I,J,K⟩:=(b.cell (p:=⟨w.1.size+1,0,an⟩) o).ag r0,(b.cell (p:=⟨w.1.size+1,1,an⟩) o).ag z,(b.cell (p:=⟨w.1.size+1,2,an⟩) o).ag A,(b.cell (p:=⟨w.1.size+1,3,an⟩) o).ag B;have c:∀j,ei g ⟨w.1.size+1,j,an⟩=ba:=λj=>(b.frozen (p:=⟨w.1.size+1,j,an⟩) o).ag (T j);have y:=x.ag (b.ah Yv);have r:w.1.size+1<g.1.size:=Yv;have P:¬W.1.size=w.1.size+1:=Yv;have Q:¬w.1.size+1=W.1.size:=Yv;clear d i;go_wp2;refine Co (.tuple #[.agg #[C0 u,Zg k,C0 t,Cx C D E],.bool q]) (by first|(simp[results,results162,go_sem,H,I,J,K];done)|(simp[results,results162,go_sem,H,I,J,K,r];done)) ⟨rfl,?_⟩
  first
   |(have d:=S 0;exact((((((((y.setCell Yt _).setCell Yt _).setCell Yt _).setCell Yt _).setCell Yu _).setCell Yu _).setCell Yu _).setCell Yu _))
   |exact(((((y.setCell Yu _).setCell Yu _).setCell Yu _).setCell Yu _).alloc Yt _)
theorem ZY(a:Int)(m:Nat)(s:Zi)(w:Zh)(c:¬(s.size:Int)=a):
 Calls prog 162 #[.agg #[Zg a,.map (ai m)],.string s] w fun e b=>e=.returned (.tuple #[.agg #[Zc,Ze,Zc,Zb],ec ba])/\Zz w b:=by
 have b:((s.size:Int)==a)=ba:=Yt;go_in;go_wp2;refine bodyPost_ret (v:=.tuple #[.agg #[Zc,Ze,Zc,Zb],ec ba]) (by simp[results,results162,go_sem]) rfl ⟨rfl,?_⟩;exact(Zy).alloc Yu _
structure Found (ks:List Kd) (s:Zi) (bo:Int) (ok:Bool):Prop where
 no:ok=ba->¬As ks s
 yes:ok=ay->∃x∈ks,x.sum=s/\x.born=bo
theorem Sv{b:Int}(f:Lit->Option Value)(s:Zi)(c:AY w 160 m n f)(p:Holds W B b j f)(o:∀k∈j,(k.sum.size:Int)=b):
 ∃u d t l q r g,Found j s d g/\∀a,Zz w a->D4 162 #[.agg #[Zg b,.map (ai m)],C0 s] a λe i=>e=C1 (.tuple #[.agg #[C0 u,Zg d,C0 t,Cx l q r],.bool g])/\Zz a i:=by
 by_cases hs:(s.size:Int)=b
 .rcases p s hs with⟨d,g⟩|⟨x,q,r,d,g,l,_⟩
  .exact⟨⟨#[]⟩,0,⟨#[]⟩,an,0,0,ba,⟨λ_=>g,λh=>by cases h⟩,λa i=>FR b f s (c.ak i c.lt) hs _ _ _ _ _ ⟨_,_,_,rfl⟩ (by rw[d];rfl) Yt⟩
  exact⟨x.sum,x.born,x.Q,q,ed x.C,r,ay,⟨λh=>by(cases h),λ_=>⟨x,d,g,rfl⟩⟩,λa i=>FR b f s (c.ak i c.lt) hs _ _ _ _ _ ⟨_,_,_,rfl⟩ (by rw[l];rfl) (by rw[l];rfl)⟩
 exact⟨⟨#[]⟩,0,⟨#[]⟩,an,0,0,ba,⟨λ_ ⟨x,hx,e⟩=>hs (by rw[<-e];exact o x hx),λh=>by cases h⟩,λa _=>ZY b m s a hs⟩
theorem Kl{c:Int}(f:Lit->Option Value){g:C5}(s:Zi)(p:AY w 160 m n f)(o:Holds W B c g f)(l:∀k∈g,(k.sum.size:Int)=c):
 ∃b,(b=ay↔As g s)/\∀a,Zz w a->D4 188 #[.agg #[Zg c,.map (ai m)],C0 s] a λe d=>e=C1 (.bool b)/\Zz a d:=by
 have⟨u,y,t,z,A,C,b,d,j⟩:=Sv f s p o l;refine⟨b,⟨λh=> ?_,λh=> ?_⟩,λa q=> ?_⟩
 .obtain⟨x,v,e,_⟩:=d.yes h;exact⟨x,v,e⟩
 .cases b with
  |true=>rfl
  |false=>exact absurd h (d.no rfl)
 have i:bg a.1.size a (a.alloc (bs #[Zg c,.map (ai m)] 121)):=Zy;have r:=Yw (j _ (q.ag (i.ah q.size)));clear j p o l d;delta D4;go_in;go_wp2_with fail;refine r.Ak ?_;rintro e d ⟨rfl,a⟩;go_wp2;go_ret;exact⟨rfl,(i.ag (a.ah Yu)).alloc (by have:=a.size;simp at this;omega) _⟩
end
section
attribute [local go_sem↓] Go.wp_at_zero Go.wp_at_succ
section
open Go.WideElems Go.MapKept Go.ChangeMaps
theorem Jk(w:Zh)(b:Nat)(x y:Obj):setBlock (setBlock w b x) b y=setBlock w b y:=by simp[setBlock]
theorem NN{d:Array MapEntry}(val:Dg)(c:f.1[b]?=ai (.map d clock))(a:d.findIdx? (λe=>((e.born:Nat):Int)==((g:Nat):Int))=ai i):
 (Instr.entryStore t (.map (ai b)) (goInt g) val).run P f=.ok () (setBlock f b (.map (d.modify i (λe=>{e with val:=val})) clock)):=by
 simp[Instr.entryStore,MapKept.run_getObj_map c,asInt,asIntOf,goInt,a,MapKept.run_setObj_map _ c,Result.andThen,setBlock]
theorem Ud{H:Type}{k:TypeId}{R:Value->Option (DataW H×List MemPlace)}{f:Array MapEntry}(K:Maps.Keyed P k)(o:P.underlying t=ai (.map k e))(A:∀u:Zh,(zeroValue e).run P u=.ok z u)(g:w.1[b]?=ai (.map f clock))(F:Fit P k R f clock){key:Dg}{D:Lit}(d:keyOf P k key=ai D):
 ∃(v0:Dg) (st:Nat) (w3:Zh),(Instr.mapEntry t (.map (ai b)) key).run P w=.ok (.tuple #[v0,goInt st]) w3/\(Instr.lookup t (.map (ai b)) key ba).run P w=.ok v0 w/\(Instr.mapUpdate t (.map (ai b)) key v0).run P w=.ok () w3/\
  ∀val:Value,∃h,(Instr.entryStore t (.map (ai b)) (goInt st) val).run P w3=.ok () h/\(Instr.mapUpdate t (.map (ai b)) key val).run P w=.ok () h:=by
 have⟨E,B,_⟩:=F.stamped;rcases K.find w d f.toList F.keys with⟨h,i⟩|⟨j,e0,h,i,q⟩
 .have v:(setBlock w b (.map (f.push ⟨key,z,clock⟩) (clock+1))).1[b]?=ai (.map (f.push ⟨key,z,clock⟩) (clock+1)):=heap_setBlock_same g _;refine⟨z,clock,setBlock w b (.map (f.push ⟨key,z,clock⟩) (clock+1)),?_,?_,?_,λval=>⟨setBlock w b (.map (f.push ⟨key,val,clock⟩) (clock+1)),?_,?_⟩⟩
  .simp[Instr.mapEntry,run_underlying o,MapKept.run_getObj_map g,K.check w ba d,h,A,MapKept.run_setObj_map _ g,Result.andThen,setBlock]
  .simp[Instr.lookup,run_underlying o,MapKept.run_getObj_map g,K.check w _ d,h,A,Result.andThen]
  .simp[Instr.mapUpdate,run_underlying o,MapKept.run_getObj_map g,K.check w ba d,h,MapKept.run_setObj_map _ g,Result.andThen,setBlock]
  .have m:(f.push ⟨key,z,clock⟩).findIdx? (λe=>((e.born:Nat):Int)==((clock:Nat):Int))=ai f.size:=by
    rw[findIdx_arr];have:=findIdx_born (l:=(f.push ⟨key,z,clock⟩).toList) (j:=f.size) (e0:=⟨key,z,clock⟩) (by
     simp only[Array.toList_push,map_append,map_cons,map_nil];refine nodup_append.2 ⟨B,Yu,λa n c p r=> ?_⟩;simp only[mem_singleton]at p;obtain⟨x,C,rfl⟩:=mem_map.1 n;have:=E x C;omega) Yu
    exact this
   have n:(f.push ⟨key,z,clock⟩).modify f.size (λe=>{e with val:=val})=f.push ⟨key,val,clock⟩:=(by apply Array.ext';rw[Array.toList_modify,Array.toList_push,Array.toList_push,<-Array.length_toList,modify_last]);rw[NN val v m,Jk,n]
  simp[Instr.mapUpdate,run_underlying o,MapKept.run_getObj_map g,K.check w ba d,h,MapKept.run_setObj_map _ g,Result.andThen,setBlock]
 have y:f[j]?=ai e0:=C9 i;have r:f.modify j (λe=>{e with key:=key})=f:=by
  apply Array.ext';rw[Array.toList_modify,modify_eq_set _ _ _ _ i];have:({e0 with key:=key}:MapEntry)=e0:=by rw[<-q]
  rw[this];exact set_self _ _ _ i
 have p:f.modify j (λs=>{s with key:=key,val:=e0.val})=f:=by
  apply Array.ext';rw[Array.toList_modify,modify_eq_set _ _ _ _ i];have:({e0 with key:=key,val:=e0.val}:MapEntry)=e0:=by rw[<-q]
  rw[this];exact set_self _ _ _ i
 have v:(setBlock w b (.map f clock)).1[b]?=ai (.map f clock):=heap_setBlock_same g _;refine⟨e0.val,e0.born,setBlock w b (.map f clock),?_,?_,?_,λval=>⟨setBlock w b (.map (f.modify j (λs=>{s with key:=key,val:=val})) clock),?_,?_⟩⟩
 .simp[Instr.mapEntry,run_underlying o,MapKept.run_getObj_map g,K.check w ba d,h,y,q,K.stays w d,r,MapKept.run_setObj_map _ g,Result.andThen,setBlock]
 .simp[Instr.lookup,run_underlying o,MapKept.run_getObj_map g,K.check w _ d,h,Result.andThen]
 .simp[Instr.mapUpdate,run_underlying o,MapKept.run_getObj_map g,K.check w ba d,h,y,q,K.stays w d,p,MapKept.run_setObj_map _ g,Result.andThen,setBlock]
 .have m:f.findIdx? (λe=>((e.born:Nat):Int)==((e0.born:Nat):Int))=ai j:=by rw[findIdx_arr];exact findIdx_born B i
  have n:f.modify j (λe=>{e with val:=val})=f.modify j (λs=>{s with key:=key,val:=val}):=by apply Array.ext';rw[Array.toList_modify,Array.toList_modify,modify_eq_set _ _ _ _ i,modify_eq_set _ _ _ _ i,<-q]
  rw[NN val v m,Jk,n]
 simp[Instr.mapUpdate,run_underlying o,MapKept.run_getObj_map g,K.check w ba d,h,y,q,K.stays w d,MapKept.run_setObj_map _ g,Result.andThen,setBlock]
end
def AW(w:Zh)(K:TypeId)(b n c:Nat)(f:Lit->Option Value):Prop:=
 ∃D:DataW Value,w.ownsMap prog K Pn b n D/\(∀kl z,D.atKey kl (.held z)=.held ((f kl).getD z))/\(∀kl,Maps.has D kl=(f kl).isSome)/\Maps.Tidy D/\Maps.size D=c
theorem AW.map{f:Lit->Option Value}(h:AW w K b n c f):AY w K b n f:=let ⟨D,h1,h2,h3,_⟩:=h;⟨D,h1,h2,h3⟩
theorem AW.new(w:Zh)(K:TypeId):AW (w.alloc (.map #[] 0)) K w.1.size 0 0 (λ_=>an):=
 ⟨.map [],ownsMap_made _ _ _ _,λ_ _=>rfl,λ_=>rfl,Maps.tidy_empty,rfl⟩
theorem AW.ak{a:Zh}{f:Lit->Option Value}(h:AW w K b n c f)(k:bg B w a)(j:b<B):AW a K b n c f:=by obtain⟨D,⟨d,clock,e,g⟩,i⟩:=h;exact⟨D,⟨d,clock,(k.block b j).ag e,g⟩,i⟩
theorem AW.lt{f:Lit->Option Value}(h:AW w K b n c f):b<w.1.size:=h.choose_spec.1.lt
theorem AW.len{f:Lit->Option Value}(h:AW w K b n c f)(i:prog.underlying t=ai (.map K e))(a:TypeId):(Builtin.len_ #[t] a #[.map (ai b)]).run prog w=.ok (Zg c) w:=by obtain⟨D,d,_,_,_,g⟩:=h;rw[<-g];exact d.len i a
theorem AW.put{f:Lit->Option Value}(h:AW w K b n c f)(p:Maps.Keyed prog K)(B:prog.underlying t=ai (.map K e))(v:n<eo){k val:Dg}{g:Lit}(a:keyOf prog K k=ai g):
 ∃i,(Instr.mapUpdate t (.map (ai b)) k val).run prog w=.ok () i/\AW i K b (n+1) (if (f g).isSome then c else c+1) (upd f g val)/\ek w i (ai b):=by
 obtain⟨D,l,r,m,o,s⟩:=h;obtain⟨⟨i,A,y,u⟩,q,j⟩:=l.update p B v a (d:=.held val) (ps:=[]) (val:=val) rfl,l.isMap,p.key a;refine⟨i,A,⟨_,y,λx z=> ?_,λx=> ?_,o.put j _,?_⟩,u⟩
 .by_cases hx:x=g
  .subst hx;rw[Maps.atKey_put_same q j,DZ];rfl
  rw[Maps.atKey_put_other hx,DV _ _ hx];exact r x z
 .by_cases hx:x=g
  .subst hx;rw[Maps.has_put_same q j,DZ];rfl
  rw[Maps.has_put_other hx,DV _ _ hx];exact m x
 rw[Maps.size_put o,m,s]
theorem AW.iu{f:Lit->Option Value}(h:AW w K b n c f)(k:Maps.Keyed prog K)(l:prog.underlying t=ai (.map K e))(y:n<eo)(v:∀u:Zh,(zeroValue e).run prog u=.ok z u){j:Dg}{g:Lit}(a:keyOf prog K j=ai g)(val:Dg):
 ∃o d m,(Instr.mapEntry t (.map (ai b)) j).run prog w=.ok (.tuple #[(f g).getD z,goInt o]) d/\(Instr.lookup t (.map (ai b)) j ba).run prog w=.ok ((f g).getD z) w/\(Instr.lookup t (.map (ai b)) j ba).run prog d=.ok ((f g).getD z) d/\
  (Instr.entryStore t (.map (ai b)) (goInt o) val).run prog d=.ok () m/\AW m K b (n+1) (if (f g).isSome then c else c+1) (upd f g val)/\ek w d (ai b)/\ek w m (ai b):=by
 have s:=h;obtain⟨D,⟨P,clock,J,F,V,U⟩,Q,R,S,T⟩:=h;have⟨v0,o,d,L,x,M,H⟩:=Ud k l v J F a;have p:=s.map.look k l (v w) a;rw[x]at p;cases p;obtain⟨⟨m,G,I⟩,N,r,C,A⟩:=H val,s.put k l y a (val:=(f g).getD z);rw[M]at r;cases r;obtain⟨O,i,E,B⟩:=s.put k l y a (val:=val);rw[I]at i;cases i;have q:=C.map.look k l (v d) a;rw[DZ]at q;exact⟨o,d,m,L,x,q,G,E,A,B⟩
structure MK (ms:Zl) (f:Lit->Option Value) (c:Nat):Prop where
 has:∀l,(f l).isSome=ay↔l∈ms.map keyL
 M:∀l v,f l=ai v->∃n:Int,v=Zg n/\1<=n/\n<=ed ms
 le:c<=ed ms
 all:c=ed ms↔(ms.map keyL).Nodup
theorem MK.nil:MK [] (λ_=>an) 0:=⟨λl=>Yu,λl v h=>(by simp at h),Zx,Yu⟩
theorem MK.get{a:Zl}{f:Lit->Option Value}(h:MK a f c)(l:Lit):∃n:Int,(f l).getD Ze=Zg n/\0<=n/\n<=ed a/\(0<n↔l∈a.map keyL):=by
 cases hf:f l with
 |none=>refine⟨0,rfl,Int.le_refl _,Yv,?_⟩;have:=h.has l;rw[hf]at this;simp at this |-;exact this
 |some v=>obtain⟨n,rfl,d,b⟩:=h.M l v hf;have:=h.has l;rw[hf]at this;exact⟨n,rfl,Yv,b,⟨λ_=>this.1 rfl,λ_=>Yv⟩⟩
theorem MK.snoc{g:Zl}{f:Lit->Option Value}(h:MK g f c)(x:Zi){n:Int}(s:0<=n)(t:n<=ed g):
 MK (g++[x]) (upd f (keyL x) (Zg (n+1))) (if (f (keyL x)).isSome then c else c+1):=by
 have j:=h.has (keyL x);refine⟨λl=> ?_,λl v d=> ?_,?_,?_⟩
 .by_cases e:l=keyL x
  .subst e;rw[DZ];simp
  rw[DV _ _ e,h.has l];simp only[map_append,map_cons,map_nil,A5,mem_singleton];exact⟨λh=> cr h,λh=>h.resolve_right e⟩
 .by_cases e:l=keyL x
  .subst e;rw[DZ]at d;cases d;exact⟨n+1,rfl,Yv,Yt⟩
  rw[DV _ _ e]at d;have⟨m,k,o,r⟩:=h.M l v d;exact⟨m,k,o,Yt⟩
 .have:=h.le;split<;>simp<;>omega
 have q:=h.le;have d:=h.all;rw[map_append,map_cons,map_nil,Am];by_cases hm:keyL x∈g.map keyL
 .rw[if_pos (j.2 hm)];constructor
  .intro e;simp at e;omega
  intro e;have:=(nodup_append.1 e).2.2 _ hm _ Yu rfl;cases this
 rw[if_neg (λe=>hm (j.1 e))];constructor
 .intro e;refine nodup_append.2 ⟨d.1 (by simp at e;omega),Yu,λa p b i e=> ?_⟩;simp at i;subst i;subst e;exact hm p
 intro e;have:=d.2 (nodup_append.1 e).1;simp;omega
theorem Hv{a:Int}(b:0<=a)(c:a<=2000000000):IntKind.i64.wrap a=a:=F4
theorem Hm(w:Zh):(zeroValue 3).run prog w=.ok Ze w:=Yr
end
structure AA (W:Zh) where
 w:Zh
 h:bg W.1.size W w
theorem AA.ne(W:Zh):Nonempty (AA W):=⟨⟨W,Ae⟩⟩
theorem AA.cell{o:Nat}(c:eh W (Zd b o)=ai v)(a:b<W.1.size)(n:AA W):eh n.w (Zd b o)=ai v:=(n.h.cell (p:=⟨b,o,an⟩) a).ag c
theorem AA.size(n:AA W):W.1.size<=n.w.1.size:=n.h.size
def AA.next{W:Zh}(n:AA W){w':Zh}(h:bg n.w.1.size n.w w'):AA W:=⟨w',n.h.trans (h.mono n.h.size)⟩
theorem Sw{b:Array Oper}{Q:Exit->Act->Zh->Prop}{a:Act}(g:P.follows .mixedOrders=ay)(f:Region.lexB .any b=ay)(h:wpQuiet P b (λc=>∃n:AA w,c=n.w) (λd=>∀n:AA w,Q .normal d n.w) b.toList a):(Code.region i b ay).wp P Q a w:=by
 refine wp_region_quiet (C:=λc=>∃n:AA w,c=n.w) g f ⟨⟨_,Ae.drew⟩,rfl⟩ ?_;have e:(λd=>∀c,(∃n:AA w,c=n.w)->Q .normal d c)=(λd=>∀n:AA w,Q .normal d n.w):=Yu;rw[e];exact h
theorem AN{l:List Oper}{e:Nat}{Q:Exit->Act->Zh->Prop}{a:Act}(d:P.follows .mixedOrders=ay)(c:Region.lexB .any (ee l)=ay)(h:wpQuiet P (ee l) (λf=>∃n:AA w,f=n.w) (λb=>∀n:AA w,Q .normal b n.w) l a):(Code.region e (ee l) ay).wp P Q a w:=
 Sw d c Yv
theorem AA.calls{f:FuncId}{args:Array Value}{n:AA W}(h:Calls P f args n.w λe b=>e=C1 v/\bg n.w.1.size n.w b):
 Calls P f args n.w λe a=>e=C1 v/\∃m:AA W,a=m.w:=
 h.ah λ_ _ ⟨he,hb⟩=>⟨he,n.next hb,rfl⟩
theorem Km(t:Zi)(a:Zl)(b:Int):(AH t a b).size<=eo:=by
 unfold AH;split
 .rename_i h
  have h:=Bs h;have c:=h.bu;have d:=h.Q;have:(ByteArray.mk (ee (Bu t a))).size=1+(bz a+t.size):=by show(ee (Bu t a)).size=_;simp only[Az,Bu,length_cons,Am,De,Array.length_toList];show _+t.size+1=_;omega
  rw[this];unfold eo;omega
 simp[eo]
theorem Sx(w:Zh)(n:Nat)(a:Addr):eh (w.drewN n) a=eh w a:=rfl
theorem Sy(w:Zh)(n:Nat):(w.drewN n).1.size=w.1.size:=rfl
def YT(w:Zh)(wd:Int)(m:Nat)(ks:List Kd)(s:Zi):Prop:=
 ∃ok,(ok=ay↔As ks s)/\∀w',Zz w w'->Calls prog 188 #[.agg #[Zg wd,.map (ai m)],.string s] w' fun e w''=>e=.returned (ec ok)/\Zz w' w''
def Au(P:Prop)(w0 w:Zh)(e:Ending):Prop:=∃b,e=.returned (ec b)/\(b=ay↔P)/\Zz w0 w
theorem Au.yes{P:Prop}{a:Zh}(h:P)(b:Zz a w):Au P a w (.returned (ec ay)):=⟨_,rfl,C9 h,b⟩
theorem Au.no{P:Prop}{a:Zh}(h:¬P)(b:Zz a w):Au P a w (.returned (ec ba)):=⟨_,rfl,C9 h,b⟩
theorem Ml(n:Int)(w:Zh):
 D4 45 #[Zg n] w λe a=>e=C1 (ec (bq (1<=n/\n<=8)))/\a=w:=by
 by_cases h1:1<=n
 .by_cases h2:n<=8
  .delta D4;go_in;go_wp2;go_ret;exact⟨AE Yt,rfl⟩
  have b:bq (n<=8)=ba:=Yt;delta D4;go_in;go_wp2;go_ret;exact⟨rfl,rfl⟩
 have a:bq (1<=n)=ba:=Yt;delta D4;go_in;go_wp2;go_ret;exact⟨rfl,rfl⟩
theorem Jw(k:Kd)(a:Int)(h:1<=a):((Sr k a).size:Int)=a:=by
 have e:∀l:List Int,(strOfNums l).size=ed l:=λl=>by unfold strOfNums;simp[ByteArray.size]
 unfold Sr CV;rw[e,DE];omega
theorem Mm(n:Int)(w:Zh):
 D4 35 #[Zg n] w λe a=>e=C1 (ec (bq (1<=n/\n<=8)))/\a=w:=by
 by_cases h1:1<=n
 .by_cases h2:n<=8
  .delta D4;go_in;go_wp2;go_ret;exact⟨AE Yt,rfl⟩
  have b:bq (n<=8)=ba:=Yt;delta D4;go_in;go_wp2;go_ret;exact⟨rfl,rfl⟩
 have a:bq (1<=n)=ba:=Yt;delta D4;go_in;go_wp2;go_ret;exact⟨rfl,rfl⟩
theorem Nc(s:Zi)(w:Zh):
 D4 132 #[C0 s] w λe a=>e=C1 (.agg (Yk (kB s)))/\Zz w a:=FP s w
def Hw(s:Zi):Obj:=bs #[.int .u8 (kB s 0),.int .u8 (kB s 1),.int .u8 (kB s 2),.int .u8 (kB s 3),.int .u8 (kB s 4),.int .u8 (kB s 5),.int .u8 (kB s 6),.int .u8 (kB s 7)] 160
theorem R8.one(w:Zh)(s:Zi):R8 (w.alloc (Hw s)) (w.1.size+1) (Yz w.1.size 1 1) [s]:=by
 refine ct ⟨w.1.size,0,1,rfl,Yv,λi t a j b=> ?_⟩;cases i with
 |zero=>
  simp at a;subst a;rw[Nat.zero_mul,Ax,Ax];unfold Hw;rw[cell?_alloc_at _ _ _ _ rfl]
  match j,b with
  |0,_|1,_|2,_|3,_|4,_|5,_|6,_|7,_=>rfl
 |succ i=>simp at a
theorem EE.alloc{a:Zl}(h:EE w base v a)(o:Obj):EE (w.alloc o) base v a:=h.A (Zy)
section
theorem AY.block{f:Lit->Option Value}(h:AY w K b n f)(g:w'.1[b]?=w.1[b]?):AY w' K b n f:=by obtain⟨D,⟨a,clock,c,d⟩,e⟩:=h;exact⟨D,⟨a,clock,g.ag c,d⟩,e⟩
def He(E:List (Zi×Zi))(t:Zi):Zl:=E.filterMap (fun p=>if p.1=t then ai p.2 else an)
theorem Sz(E:List (Zi×Zi))(s r t:Zi):He (E++[(s,r)]) t=if s=t then He E t++[r]else He E t:=by unfold He;rw[filterMap_append];by_cases h:s=t<;>simp[h]
theorem Ue(E:List (Zi×Zi))(t:Zi):ed (He E t)<=ed E:=by unfold He;exact length_filterMap_le _ _
noncomputable def rowV (f:Lit->Option Value) (t:Zi):Value:=(f (keyL t)).getD Zb
structure Lk (w:Zh) (base b n:Nat) (wd:Int) (E:List (Zi×Zi)) (av:List Nat) (f:Lit->Option Value):Prop where
 map:AY w 160 b n f
 row:∀t:Zi,(t.size:Int)=wd->EE w base (rowV f t) (He E t)
 apart:∀s t:Zi,(s.size:Int)=wd->(t.size:Int)=wd->s≠t->∀g,Aj (rowV f s)=ai g->Aj (rowV f t)≠ai g
 br:∀t:Zi,(t.size:Int)=wd->∀g,Aj (rowV f t)=ai g->g∉av
theorem Lk.add{B:Int}{E:List (Zi×Zi)}{F:List Nat}{f:Lit->Option Value}(h:Lk wr i b n B E F f)(hb:b<i)(zB:i<=wr.1.size)(H:∀q∈F,q<wr.1.size)(D:ek wr X (ai b)){r:Zi}(w:(s.size:Int)=B)(h8:B<=8){T:TypeId}{N:Int}(Z:∀W,W.1[b]?=X.1[b]? ->∀a,∃c,(Instr.entryStore T (.map (ai b)) (goInt N) a).run prog W=.ok () c/\AY c 160 b (n+1) (upd f (keyL s) a)/\ek W c (ai b))(hx:R8 X X.1.size M [r])(hlen:ed E<=1000000)(O:TypeId):
 ∃m o x,(Builtin.append_ #[122,122] O #[rowV f s,M]).run prog X=.ok m o/\(Instr.entryStore T (.map (ai b)) (goInt N) m).run prog o=.ok () x/\
  Lk x i b (n+1) B (E++[(s,r)]) F (upd f (keyL s) m)/\bg b wr x/\(∀q∈F,q≠b->x.1[q]?=wr.1[q]? /\o.1[q]?=wr.1[q]?)/\wr.1.size<=x.1.size:=by
 have C:∀t:Zi,(t.size:Int)=B->∀g,Aj (rowV f t)=ai g->X.1[g]?=wr.1[g]?:=λt d g c=>by have:=(h.row t d).S c;exact D.block g this.2 (λe=>C8 (A2 e))
 have K:∀t:Zi,(t.size:Int)=B->EE X i (rowV f t) (He E t):=λt d=>(h.row t d).stays D.size (C t d);have zC:=Ue E s;have zF:=D.size;have⟨m,o,W,L,y,S⟩:=ZX (K s w) hx Yt Yv O;have zE:=y.size;have P:o.1[b]?=X.1[b]?:=y.block b Yv (λe=>C8 ((h.row s w).S e.symm).1);have⟨x,R,Q,z⟩:=Z o P m;have U:=z.size;have l:∀g,Aj m=ai g->(Aj (rowV f s)=ai g\/g=X.1.size):=λg a=>by
  rcases S with e|e
  .exact cr (e▸a)
  rw[e]at a;exact ct (A2 a).symm
 have j:rowV (upd f (keyL s) m) s=m:=by unfold rowV;rw[DZ];rfl
 have a:∀t:Zi,(t.size:Int)=B->s≠t->rowV (upd f (keyL s) m) t=rowV f t:=λt d A=>by unfold rowV;rw[DV];intro e;exact A (key_inj e.symm Yv Yv)
 refine⟨m,o,x,W,R,⟨Q,λt d=> ?_,λu t G d A g p=> ?_,λt d g c=> ?_⟩,?_,λq I J=> ?_,Yv⟩
 .rw[Sz];by_cases e:s=t
  .subst e;rw[if_pos rfl,j];exact L.stays U (λg v=>by
    have:i<=g:=(L.S v).1;exact z.block g (L.S v).2 (λe=>C8 (A2 e)))
  rw[if_neg e,a t d e];refine(K t d).stays Yv (λg c=> ?_);have zA:=(h.row t d).S c;rw[z.block g Yv (λe=>C8 (A2 e))];exact y.block g Yv (λv=>h.apart s t w d e g v.symm c)
 .by_cases eu:s=u
  .subst eu;rw[j]at p;rw[a t d A];intro c;rcases l g p with v|v
   .exact h.apart s t w d A g v c
   have:=((h.row t d).S c).2;omega
  rw[a u G eu]at p;by_cases et:s=t
  .subst et;rw[j];intro c;rcases l g c with v|v
   .exact h.apart s u w G eu g v p
   have:=((h.row u G).S p).2;omega
  rw[a t d et];exact h.apart u t G d A g p
 .by_cases et:s=t
  .subst et;rw[j]at c;rcases l g c with v|v
   .exact h.br s w g v
   intro p;have:=H g p;omega
  rw[a t d et]at c;exact h.br t d g c
 .have G:bg b wr X:=Ae.grown D Yv (λk e=>by cases e;exact Zx);have V:bg b X o:=Ae.grown y Yv (λk e=>C8 ((h.row s w).S e).1);have Y:bg b o x:=Ae.grown z Yv (λk e=>by cases e;exact Zx);exact(G.ag V).ag Y
 have A:=H q I;have d:o.1[q]?=wr.1[q]?:=by rw[y.block q Yv (λe=>h.br s w q e.symm I),D.block q A (λe=>J (A2 e))]
 exact⟨(z.block q Yv (λe=>J (A2 e))).ag d,d⟩
theorem Lk.new{d:Int}(c:AY w 160 b 0 (λ_=>an)):Lk w a b 0 d [] [] (λ_=>an):=
 ⟨c,λ_ _=> cr ⟨rfl,rfl⟩,λ_ _ _ _ _ _ h=>(by cases h),λ_ _ _ h=>(by cases h)⟩
end
section
attribute [local go_sem↓] Go.wp_at_zero Go.wp_at_succ
theorem Aa.same{l:Zj}(h:Aa w B l)(b:d.1[B]?=w.1[B]?):Aa d B l:=
 λj v c=>⟨(cell?_of_block (a:=⟨B,j,an⟩) b).ag (h j v c).1,(frozen?_of_block (a:=⟨B,j,an⟩) b).ag (h j v c).2⟩
theorem Mn(w:Zh)(o:Obj)(h:b<w.1.size):(w.alloc o).1[b]?=w.1[b]?:=Below.heap_alloc w o b h
theorem sk8{a:Zh}(h:a.1[B]?=w.1[B]?)(b:Aa w B (Yj (kB s))):
 eh a (Zd B 0)=ai (.int .u8 (kB s 0))/\eh a (Zd B 1)=ai (.int .u8 (kB s 1))/\eh a (Zd B 2)=ai (.int .u8 (kB s 2))/\eh a (Zd B 3)=ai (.int .u8 (kB s 3))/\eh a (Zd B 4)=ai (.int .u8 (kB s 4))/\eh a (Zd B 5)=ai (.int .u8 (kB s 5))/\eh a (Zd B 6)=ai (.int .u8 (kB s 6))/\eh a (Zd B 7)=ai (.int .u8 (kB s 7)):=by
 have:=Aa.same b h;exact⟨(this 0 _ rfl).1,(this 1 _ rfl).1,(this 2 _ rfl).1,(this 3 _ rfl).1,(this 4 _ rfl).1,(this 5 _ rfl).1,(this 6 _ rfl).1,(this 7 _ rfl).1⟩
end
theorem Uf{e d c a:Int}{T P:Dg}(h:BA w b e d c a T P L):eh w (Zd b 0)=ai (Zg e)/\eh w (Zd b 1)=ai (Zg d)/\eh w (Zd b 2)=ai (Zg c)/\eh w (Zd b 3)=ai (Zg a)/\eh w (Zd b 4)=ai T/\eh w (Zd b 5)=ai P/\eh w (Zd b 6)=ai L:=
 ⟨h.1,h.2.1,h.2.2.1,h.2.2.2.1,h.2.2.2.2.1,h.2.2.2.2.2.1,h.2.2.2.2.2.2.1⟩
def vB(d m:Nat)(O P L:Value):List Nat:=d::m::((ef O).toList++((ef P).toList++(ef L).toList))
def VX(base:Nat)(V:List Nat):Prop:=∃m,V[1]?=ai m/\m<base+4
def En(w:Zh)(base:Nat)(V:List Nat)(a:Zk)(ss:Zl):Prop:=
 ss=[]\/∃b off,a=ai ⟨b,off,an⟩/\b<w.1.size/\b∉V/\((b<base/\VX base V)\/(base<=b/\∃cur,w.1[b]?=ai (bs cur 9)))/\∀i s,ss[i]?=ai s->eh w (Zd b (off+i))=ai (.string s)
theorem En.row{a:Zk}{d:Zl}(h:En w c V a d):Ad w w.1.size a d:=by
 rcases h with h|⟨b,e,f,g,_,_,i⟩
 .exact cr h
 exact ct ⟨b,e,f,g,i⟩
def BS(w:Zh)(base:Nat)(V:List Nat)(wd:Int)(ks:List Kd)(f:Lit->Option Value):Prop:=
 ∀s:Zi,(s.size:Int)=wd->(f (keyL s)=an/\¬As ks s)\/∃u ra rc,u∈ks/\u.sum=s/\f (keyL s)=ai (CG u ra rc)/\En w base V ra u.C
theorem BS.of{k:Int}{f:Lit->Option Value}(h:Holds W W.1.size k j f)(g:Zz W w)(o:∀b∈V,W.1.size<=b)(t:VX W.1.size V):BS w W.1.size V k j f:=by
 intro s e;rcases h s e with h|⟨u,x,y,l,m,n,d⟩
 .exact cr h
 refine ct ⟨u,x,y,l,m,n,?_⟩;rcases d with d|⟨b,c,q,a,r⟩
 .exact cr d
 exact ct ⟨b,c,q,Zr a g.size,λv=>C8 (o b v),cr ⟨a,t⟩,λi s e=>(g.cell (p:=⟨b,c+i,an⟩) a).ag (r i s e)⟩
structure Dr (w:Zh) (base d m:Nat) (O P L:Value) (wd now given births:Int) (ks:List Kd) (ps:List Pd) (ls:List Ld):Prop where
 box:Aa w d [Zg wd,.map (ai m),Zg now,Zg given,Zg births,O,P,L]
 map:∃n f,n<=1000000+births.toNat/\AY w 160 m n f/\BS w base (vB d m O P L) wd ks f
 ord:ej w base 160 8 O (ed ks) (AR (ks.map (·.sum)))
 co:ej w base 148 2 P (ed ps) (Af pC ps)
 di:ej w base 112 3 L (ed ls) (Af lC ls)
 bd:base<=d
 bm:base<=m
 ap:(vB d m O P L).Nodup
theorem BS.A{k:Zh}{l:Int}{f:Lit->Option Value}(h:BS w base V l j f)(e:Zz w k):BS k base V l j f:=by
 intro s g;rcases h s g with h|⟨u,x,y,m,n,o,d⟩
 .exact cr h
 refine ct ⟨u,x,y,m,n,o,?_⟩;rcases d with d|⟨b,c,q,a,v,t,r⟩
 .exact cr d
 exact ct ⟨b,c,q,Zr a e.size,v,(by rw[e.block b a];exact t),λi s g=>(e.cell (p:=⟨b,c+i,an⟩) a).ag (r i s g)⟩
theorem Ai{size:Nat}{c:Zj}(h:ej w a e size v n c)(j:Zz w w'):ej w' a e size v n c:=by
 refine⟨h.1,?_⟩;rcases h.2 with k|⟨g,d,f,l,i,b,rest⟩
 .exact cr k
 exact ct ⟨g,d,f,l,i,(j.block g (A0.1 b).1).ag b,rest⟩
theorem Dr.A{l:Zh}{d:Nat}{P:Dg}{o e b a:Int}{i:C5}{k:C7}{j:C6}(h:Dr w base d m O P L o e b a i k j)(c:Zz w l):Dr l base d m O P L o e b a i k j:=by have⟨n,f,p,g,q⟩:=h.map;exact⟨h.box.A c,⟨n,f,p,g.ak c g.lt,q.A c⟩,Ai h.ord c,Ai h.co c,Ai h.di c,h.bd,h.bm,h.ap⟩
theorem Ab{size:Nat}{f:Zj}(h:ej w a e size v n f)(b:ef v=ai g):a<=g/\g<w.1.size:=by
 rcases h.2 with⟨rfl,_⟩|⟨k,i,j,rfl,d,c,_⟩
 .cases b
 cases b;exact⟨d,(A0.1 c).1⟩
theorem Pw{b:Zh}{size:Nat}{c:Zj}(h:ej w a e size v n c)(k:bg B w b)(j:∀g,ef v=ai g->g<B):ej b a e size v n c:=by
 refine⟨h.1,?_⟩;rcases h.2 with m|⟨g,d,f,rfl,i,l,rest⟩
 .exact cr m
 exact ct ⟨g,d,f,rfl,i,(k.block g (j g rfl)).ag l,rest⟩
theorem Aev(b:Zl)(y:ej w a 160 8 v (ed b) (AR b))(s:Zi)(x:ed b<=1000000)(k:a<=w.1.size)(l:TypeId):
 ∃g c f,(Builtin.append_ #[122,122] l #[v,Yz w.1.size 1 1]).run prog (w.alloc (Hw s))=.ok (Yz g (ed b+1) c) f/\ej f a 160 8 (Yz g (ed b+1) c) (ed (b++[s])) (AR (b++[s]))/\ek w f (ef v)/\(ef v=ai g\/g=w.1.size+1):=by
 obtain⟨⟨A,t,n,o,p⟩,m,q⟩:=info_parts KT,Ai y (Ae.alloc (Zx) (Hw s)),R8.one w s;have i:∀j u,(AR [s])[j]?=ai u->eh (w.alloc (Hw s)) ((⟨w.1.size,0,an⟩:Addr).add j)=ai u:=by
  rcases q with⟨e,_⟩|⟨g,B,c,e,_,i⟩
  .cases e
  cases e;exact R8.cells i
 obtain⟨C,f,z,h,r,_,d⟩:=run_append_own_at (P:=prog) (w.alloc (Hw s)) a 122 l 160 A _ 8 8 underlying122 t n o p rfl Yq v (ed b) (AR b) m ⟨w.1.size,0,an⟩ 1 1 (AR [s]) (Fh [s]) i (Hd [s]) Yo Yv Yt;obtain⟨g,c,rfl,_,_⟩:=Cv h (λe=>by subst e;rcases h.2 with⟨_,x⟩|⟨_,_,_,e,_⟩<;>first|omega|cases e);refine⟨g,c,f,z,?_,(grownBy_alloc w (Hw s) _).ag r,?_⟩
 .rw[JV,Am];exact h
 rcases d with d|d
 .exact cr d.symm
 right;simpa [ownBlock]using d
theorem LO{D:Array Oper}{a:Act}{K:Act->Zh->Prop}{Q:Exit->Act->Zh->Prop}(N:o.guard=an)(I x:Operand)(t:TypeId)(W:o.op=.call {callee:=.builtin .append,args:= #[I,x],argTypes:= #[t,t]})(i:TypeInfo)(z:Dg)(bytes:Nat)(Y:P.underlying t=ai (.slice e))(V:P.info? e=ai i)(hz:i.zero=ai z)(v:i.size=1)(M:i.bytes=bytes)(O:z.cells.size=1)(q:Nat)(G:Nat)(J:Zl)(A:a.eval I=Yz q n G)(C:ej w b e 1 (Yz q n G) n (J.map string))(F:Addr)(m c:Nat)(B:Zl)(hx:a.eval x=Cx (ai F) m c)(hl:ed B=m)(r:∀j s,B[j]?=ai s->eh w (F.add j)=ai (C0 s))(L:n+m<=eo)(f:(n+m) *bytes<=140737488355328)(p:b<=w.1.size)(h:∀g d l,ej l b e 1 (Yz g (n+m) d) (n+m) ((J++B).map string)->ek w l (ai q)->(g=q\/g=w.1.size)->g<l.1.size->K (a.put o.dst (Yz g (n+m) d)) l):
 if Region.wanted o (yielded D a.tmps)=ay then Oper.wp P o a w K Q else E:=by
 have Z:Region.wanted o (yielded D a.tmps)=ay:=by simp[Region.wanted,N]
 rw[if_pos Z];obtain⟨v',l,X,H,S,T,y⟩:=run_append_own_at (P:=P) w b t o.type e i z 1 bytes Y V hz v M O Yq _ n _ C F m c (B.map string) Yt
  (fun j u k=>by
    rw[getElem?_map]at k;cases A:B[j]? with
    |none=>rw[A]at k;cases k
    |some s=>rw[A]at k;cases k;exact r j s A)
  (λu k=>by obtain⟨s,_,rfl⟩:=mem_map.1 k;rfl) L f p
 have k:∃g d,v'=Yz g (n+m) d:=by
  rcases Joins.ownsRow_forms H with⟨R,_⟩|U
  .have:=(T.1 R).1;cases this
  exact U
 obtain⟨g,d,rfl⟩:=k;unfold Oper.wp execOp;simp only[W,resolve,invoke,builtin,Sem.run_bind,Sem.run_pure,Result.andThen_ok,map_toArray,map_cons,map_nil,A,hx,X];refine h g d l Yt S ?_ (H.lt g rfl).2;rcases y with y|y
 .left;simpa [ownBlock]using y
 right;simpa [ownBlock]using y
theorem Be(w:Zh){F:Array Oper}{a:Act}{K:Act->Zh->Prop}{Q:Exit->Act->Zh->Prop}(D:o.guard=an)(G x:Operand)(t:TypeId)(L:o.op=.call {callee:=.builtin .append,args:= #[G,x],argTypes:= #[t,t]})(b:Nat)(e:TypeId)(i:TypeInfo)(z:Dg)(bytes:Nat)(N:P.underlying t=ai (.slice e))(I:P.info? e=ai i)(V:i.zero=ai z)(p:i.size=1)(S:i.bytes=bytes)(T:z.cells.size=1)(q n u:Nat)(H:Zl)(M:a.eval G=Yz q n u)(d:ej w b e 1 (Yz q n u) n (H.map string))(r:Zk)(m c:Nat)(v:Zl)(O:a.eval x=Cx r m c)(J:ed v=m)(B:r=an->m=0/\c=0)(l:∀A,r=ai A->∀j s,v[j]?=ai s->eh w (A.add j)=ai (C0 s))(R:n+m<=eo)(f:(n+m) *bytes<=140737488355328)(k:b<=w.1.size)(h:∀g C y,ej y b e 1 (Yz g (n+m) C) (n+m) ((H++v).map string)->ek w y (ai q)->(g=q\/g=w.1.size)->g<y.1.size->K (a.put o.dst (Yz g (n+m) C)) y):
 if Region.wanted o (yielded F a.tmps)=ay then Oper.wp P o a w K Q else E:=by
 cases r with
 |some A=>exact LO D G x t L i z bytes N I V p S T q u H M d A m c v O J (l A rfl) R f k h
 |none=>
  obtain⟨rfl,rfl⟩:=B rfl;have y:=A9 J;subst y;have U:Region.wanted o (yielded F a.tmps)=ay:=by simp[Region.wanted,D]
  rw[if_pos U];have C:=run_append_owned_none (P:=P) w b t o.type e i 1 N I _ n _ d;unfold Oper.wp execOp;simp only[L,resolve,invoke,builtin,Sem.run_bind,Sem.run_pure,Result.andThen_ok,map_toArray,map_cons,map_nil,M,O,C];exact h q u w Yt ⟨rfl,rfl,rfl,Zx,λ_ _ _=>rfl⟩ (cr rfl) (d.lt q rfl).2
theorem Ad.dg{a:Zk}{d:Zl}(h:Ad w B a d):∀A,a=ai A->∀j s,d[j]?=ai s->eh w (A.add j)=ai (C0 s):=by
 rintro A rfl j s c;rcases h with h|⟨b,g,e,_,f⟩
 .subst h;simp at c
 cases e;have:=f j s c;rw[A1];exact this
theorem own:ownKnob prog.godebug=an:=Yr
theorem laidOut:laidOutB prog=ay:=Yr
section
open Go.Proofs
theorem Gm{a b:Zi}(h:a.toList=b.toList):a=b:=by rw[Lib.toList_data,Lib.toList_data]at h;cases a;cases b;simpa using h
theorem Px{a b:Zi}:less a b=ay↔a.toList<b.toList:=by unfold less;rw[bytesLess_eq,decide_eq_true_iff]
theorem Py{a b:Zi}(h:less a b=ba)(c:a≠b):less b a=ay:=by
 rw[Px];have d:¬a.toList<b.toList:=λe=>by rw[Px.2 e]at h;cases h
 have f:=List.not_lt.1 d;by_cases e:b.toList<a.toList
 .exact e
 exact absurd (Gm (Std.le_antisymm (List.not_lt.1 e) f)) c
end
def BM(w:Zh)(b:Nat)(ph:Int)(Q M:Value)(top at_ ro:Int):Prop:=
 eh w ⟨b,0,an⟩=ai (.int .i64 ph)/\eh w ⟨b,1,an⟩=ai Q/\eh w ⟨b,2,an⟩=ai M/\eh w ⟨b,3,an⟩=ai (.int .i64 top)/\
  eh w ⟨b,4,an⟩=ai (.int .i64 at_)/\eh w ⟨b,5,an⟩=ai (.int .i64 ro)/\b<w.1.size
theorem BM.new(w:Zh)(c b a d:Int)(Q M:Dg)(t:TypeId):BM (w.alloc (bs #[Zg c,Q,M,Zg b,Zg a,Zg d] t)) w.1.size c Q M b a d:=
 ⟨Yu,Yu,Yu,Yu,Yu,Yu,Yu⟩
theorem BM.ak{i:Zh}{f e d g:Int}(h:BM w b f Q M e d g)(a:bg B w i)(c:b<B):BM i b f Q M e d g:=by
 obtain⟨j,k,l,m,n,o,q⟩:=h;exact⟨(a.cell (p:=⟨b,0,an⟩) c).ag j,(a.cell (p:=⟨b,1,an⟩) c).ag k,(a.cell (p:=⟨b,2,an⟩) c).ag l,(a.cell (p:=⟨b,3,an⟩) c).ag m,
  (a.cell (p:=⟨b,4,an⟩) c).ag n,(a.cell (p:=⟨b,5,an⟩) c).ag o,Zr q a.size⟩
theorem BM.A{d c a e:Int}(h:BM w b d Q M c a e)(g:Zz w f):BM f b d Q M c a e:=h.ak g h.2.2.2.2.2.2
structure GM (qs ms:Zl):Prop where
 q:ed qs<=1048576
 m:ed ms<=1048576
theorem IC(n a b:Int)(w:Zh):
 D4 36 #[Zg n,Zg a,Zg b] w λe c=>e=C1 (ec (bq (a<=n/\n<=b)))/\c=w:=by
 by_cases h1:a<=n
 .by_cases h2:n<=b
  .delta D4;go_in;go_wp2;go_ret;exact⟨AE Yt,rfl⟩
  delta D4;go_in;go_wp2;go_ret;exact⟨AE Yt,rfl⟩
 have c:bq (a<=n)=ba:=Yt;delta D4;go_in;go_wp2;go_ret;exact⟨AE Yu,rfl⟩
theorem Ug(n:Int)(w:Zh):
 D4 108 #[Zg n] w λe a=>e=C1 (ec (bq (0<=n/\n<=1000000000)))/\a=w:=by
 by_cases h1:0<=n
 .by_cases h2:n<=1000000000
  .delta D4;go_in;go_wp2;go_ret;exact⟨AE Yt,rfl⟩
  have b:bq (n<=1000000000)=ba:=Yt;delta D4;go_in;go_wp2;go_ret;exact⟨rfl,rfl⟩
 have a:bq (0<=n)=ba:=Yt;delta D4;go_in;go_wp2;go_ret;exact⟨rfl,rfl⟩
section
attribute [local go_sem↓] Go.wp_at_zero Go.wp_at_succ
def Pz:Obj->Bool
 |bs _ t _=> !(t==9)
 |_=>ay
structure RJ (n0:Nat) (V:List Nat) (W W':Zh):Prop where
 os:W'.os=W.os
 tape:W'.tape=W.tape
 output:W'.output=W.output
 size:W.1.size<=W'.1.size
 old:∀q,q<n0->q∉V->W'.1[q]?=W.1[q]?
 own:∀q o,n0<=q->W.1[q]?=ai o->Pz o=ay->W'.1[q]?=ai o
theorem RJ.refl(a:Nat)(V:List Nat)(W:Zh):RJ a V W W:=⟨rfl,rfl,rfl,Zx,λ_ _ _=>rfl,λ_ _ _ h _=>h⟩
theorem RJ.trans{Y Z:Zh}(h:RJ b V X Y)(k:RJ b V Y Z):RJ b V X Z:=
 ⟨k.os.ag h.os,k.tape.ag h.tape,k.output.ag h.output,Zm h.size k.size,λq a c=>(k.old q a c).ag (h.old q a c),λq o a d c=>k.own q o a (h.own q o a d c) c⟩
abbrev RJ.ag:=@RJ.trans
def Abides(n0:Nat)(J:Zl->Zh->Prop):Prop:=
 ∀vs W W',J vs W->W'.os=W.os->W'.tape=W.tape->W'.output=W.output->W.1.size<=W'.1.size->(∀q,q<n0->W'.1[q]?=W.1[q]?)->(∀q o,n0<=q->W.1[q]?=ai o->Pz o=ba->W'.1[q]?=ai o)->J vs W'
theorem Abides.A{n0:Nat}{J:Zl->Zh->Prop}(h:Abides n0 J){c:Zl}{b:Zh}(e:J c W)(a:Zz W b)(f:n0<=W.1.size):J c b:=
 h c W b e a.os a.tape a.output a.size (λq d=>a.block q Yv) (λq o _ d _=>(a.block q (A0.1 d).1).ag d)
theorem Abides.grown{f:Nat}{J:Zl->Zh->Prop}(h:Abides f J){g:Zl}(j:J g W)(a:ek W d (ai b))(m:f<=W.1.size)(l:f<=b)(k:∀o,W.1[b]?=ai o->Pz o=ay):J g d:=
 h g W d j a.os a.tape a.output a.size (λq c=>a.block q Yv (λe=>C8 (A2 e))) (λq o _ c i=>by
  by_cases e:q=b
  .subst e;rw[k o c]at i;cases i
  exact(a.block q (A0.1 c).1 (λh=>e (A2 h))).ag c)
theorem AW.same{a:Zh}{f:Lit->Option Value}(h:AW w K b n c f)(j:a.1[b]?=w.1[b]?):AW a K b n c f:=Ge
def TS(W:Zh)(b c:Nat)(wd:Value)(s t r:Value)(w':Zh):Prop:=
 eh w' (Zd b 0)=ai wd/\eh w' (Zd c 0)=ai s/\eh w' (Zd c 2)=ai t/\eh w' (Zd c 3)=ai r/\Zz W w'
theorem TS.drew{a:Zh}{d s t:Dg}(h:TS W b c d s t r a):TS W b c d s t r a.drew:=⟨h.1,h.2.1,h.2.2.1,h.2.2.2.1,h.2.2.2.2.drew⟩
theorem TS.new{a:TypeId}{d:Int}(s b t r:Dg)(e:eh wr (Zd (w.1.size) 0)=ai (Zg d))(f:w.1.size<wr.1.size):
 bg wr.1.size wr ((wr.alloc (bs #[s,b,t,r] a)).drewN n)/\((wr.alloc (bs #[s,b,t,r] a)).drewN n).1.size=wr.1.size+1/\
  TS ((wr.alloc (bs #[s,b,t,r] a)).drewN n) w.1.size wr.1.size (Zg d) s t r ((wr.alloc (bs #[s,b,t,r] a)).drewN n):=by
 have c:bg wr.1.size wr ((wr.alloc (bs #[s,b,t,r] a)).drewN n):=Cg (Zy) _;refine⟨c,by rw[Sy];simp,(c.cell (p:=⟨w.1.size,0,an⟩) f).ag e,?_,?_,?_,Ae⟩
 all_goals rw[Sx];simp
def Acr(w:Zh)(b:Nat)(wd:Int)(m:Nat):Prop:=eh w (Zd b 0)=ai (Zg wd)/\eh w (Zd b 1)=ai (.map (ai m))/\b<w.1.size
theorem Acr.new(w:Zh)(a:Int)(m:Nat)(t:TypeId):Acr (w.alloc (bs #[Zg a,.map (ai m)] t)) w.1.size a m:=⟨Yu,Yu,Yu⟩
end
theorem AG{α:Type}:(∀(l:List α) (i:Nat) (a:α),(ee l).setIfInBounds i a=ee (l.set i a))/\(∀(a b:α) (l:List α),(b::l).set 0 a=a::l)/\∀(a b:α) (l:List α) (n:Nat),(b::l).set (n+1) a=b::l.set n a:=
 ⟨λ_ _ _=>Zq _ _ _,λ_ _ _=>rfl,λ_ _ _ _=>rfl⟩
theorem Dr.low{d:Nat}{P:Dg}{n i f a:Int}{l:C7}{k:C6}(g:Dr w c d m O P L n i f a j l k):∀b∈vB d m O P L,c<=b:=by
 intro b h;unfold vB at h;simp only[Bh,A5,A6]at h;rcases h with rfl|rfl|e|e|e
 .exact g.bd
 .exact g.bm
 .exact(Ab g.ord e).1
 .exact(Ab g.co e).1
 exact(Ab g.di e).1
theorem Ad.cells{c:Zl}(h:Ad w B (ai ⟨g,0,an⟩) c):∀j s,c[j]?=ai s->eh w ((⟨g,0,an⟩:Addr).add j)=ai (C0 s):=by
 intro j s a;rcases h with h|⟨b,f,d,_,e⟩
 .subst h;simp at a
 cases d;have:=e j s a;rw[A1];simpa using this
theorem Ad.take{a:Zk}{c:Zl}(h:Ad w B a c)(K:Nat):Ad w B a (c.take K):=by
 rcases h with h|⟨q,d,e,f,g⟩
 .exact cr (by simp[h])
 refine ct ⟨q,d,e,f,λi s b=>g i s ?_⟩;have j:=(Zw b).1;simp at j;rw[getElem?_take_of_lt Yv]at b;exact b
structure YU (ks:List Kd) (ps:List Pd) (ls:List Ld):Prop where
 k:Afy ks
 p:Afz ps
 l:Aga ls
 b:∀k∈ks,(Lit.int .i64 k.born).wf=ay
 n:ed ks<=600/\ed ps<=100/\ed ls<=200
def ThB(k:Kd):Prop:=k.Q.size<=2000/\ed k.C<=30/\(∀s∈k.C,s.size<=8)/\k.sum.size<=8
theorem Acs:prog.cellsOf 5=1:=Yr
theorem SA{H:Type}{s:TypeId×Value->H}{W:Zh}{i:Nat}{spare:Nat->Bool}{held:Bool}{k:Nat}{v:Dg}{y:DataW H×List MemPlace}
 (h:DataW.trod s prog W i spare held k 22 [v]=ai y):
 ∃a n e,v=.slice a n e/\(n=0\/∃q d,a=ai ⟨q,d,an⟩/\q<W.1.size/\∀j,j<n->∃x:Int,eh W ⟨q,d+j,an⟩=ai (.int .u8 x)/\0<=x/\x<256)/\n<=e/\n<=eo:=by
 rcases Go.Deep.open_slice1 underlying22 Acs h with⟨c,_⟩|⟨a,g,e,m,n,V,D,E,c,_,A,F,t,_,l⟩
 .simp at c;subst c;exact⟨an,0,0,rfl,cr rfl,Zx,Aw _⟩
 simp at c;subst c;refine⟨ai a,g,e,rfl,?_,A,by omega⟩;have C:g<=m:=by rw[t];split<;>omega
 by_cases h0:g=0
 .exact cr h0
 obtain⟨b,d,spot⟩:=a;have f:spot=an:=by simpa [Addr.add]using cell?_spot (l 0 Lh).1
 subst f;refine ct ⟨b,d,rfl,?_,λj o=> ?_⟩
 .exact A4 W ⟨b,d+0,an⟩ (by rw[<-A1];exact(l 0 Lh).1)
 obtain⟨o,u⟩:=l j Lh;have⟨z,r,_,B⟩:=DataW.trod_int underlying5 u;simp at r;rw[A1,r]at o;refine⟨z,o,?_⟩;have w:=range_u8 (zs:=[z]) (by intro n p;simp at p;subst p;exact B) 0;simp at w;omega
