import Derived.Test.YtmjlkgpekcnacaaGreatX01
import Derived.Deep.Upon
import Derived.Deep.DrawnRows
import Derived.Deep.RegionHeld3
import Derived.WideKeyEntry
import Derived.Maps.Views
import Derived.Deep.RegionLaw
set_option maxRecDepth 100000
set_option maxHeartbeats 16000000
namespace Go.Proofs.YtmjlkgpekcnacaaGreat
open Go.ChangeShapes Go.WideShapes Go.ChangeAt Go.RowKit _root_.Go.Proofs.Tryz
variable{a i k g b c B base off lo n cap h clock:Nat}{s:Zi}{u v T L m r z:Value}{w d f wr:Zh}{e K t:TypeId}{x:Kd}{P:Program}{o:Oper}{now:Int}{p l:Zk}{ks:List Kd}{A:Type}
def KP(s:Zi):Zj:=(EG s).toList
theorem PB(s:Zi)(j:Nat)(h:j<8):(KP s)[j]?=some (.int .u8 (kB s j)):=by
 match j,h with
 |0,_|1,_|2,_|3,_|4,_|5,_|6,_|7,_=>rfl
def Bx(ss:Zl):Zj:=ss.flatMap KP
theorem EW(a:Zl):(Bx a).length=a.length *8:=by
 induction a with
 |nil=>rfl
 |cons s a ih=>
  have:(KP s).length=8:=rfl;unfold Bx at *
  rw[List.flatMap_cons,List.length_append,ih,List.length_cons,this];omega
theorem Hw{a:Zl}{j:Nat}(h:a[i]?=some s)(c:j<8):(Bx a)[i *8+j]?=some (.int .u8 (kB s j)):=by
 induction a generalizing i with
 |nil=>simp at h
 |cons t a ih=>
  have b:(KP t).length=8:=rfl;unfold Bx at *
  rw[List.flatMap_cons];cases i with
  |zero=>simp at h;subst h;rw[List.getElem?_append_left Yv,Nat.zero_mul,Nat.zero_add];exact PB t j c
  |succ i=>rw[List.getElem?_append_right Yv,b,show(i+1) *8+j -8=i *8+j by omega];exact ih (by simpa using h)
theorem KQ{a:Zl}(h:(Bx a)[k]?=some u):∃s,a[k/8]?=some s/\u=.int .u8 (kB s (k%8)):=by
 have c:k<a.length *8:=by rw[<-EW];exact(Zw h).1
 have b:k/8<a.length:=Yv
 refine⟨a[k/8],Zv b,?_⟩;have:=Hw (j:=k%8) (Zv b) (Nat.mod_lt _ Yr);rw[show k/8 *8+k%8=k by omega,h]at this;exact Option.some.inj this
theorem MU(a b:Zl):Bx (a++b)=Bx a++Bx b:=by unfold Bx;rw[List.flatMap_append]
theorem PC(c:Zl):∀u∈Bx c,u.oneCell'=true:=by intro u b;obtain⟨k,a⟩:=List.getElem?_of_mem b;obtain⟨s,_,rfl⟩:=KQ a;rfl
def R8(w:Zh)(B:Nat)(v:Value)(ss:Zl):Prop:=
 (v=Zb/\ss=[])\/∃g off cap,v=.slice (some ⟨g,off,none⟩) ss.length cap/\g<B/\∀i s,ss[i]?=some s->∀j,j<8->w.cell? (Zd g (off+(i *8+j)))=some (.int .u8 (kB s j))
def EX(w:Zh)(g:Nat):Prop:=∃cur fz,w.heap[g]?=some (.cells cur 52 fz)
theorem EX.lt(h:EX w g):g<w.heap.size:=by obtain⟨_,_,h⟩:=h;exact(Array.getElem?_eq_some_iff.1 h).1
theorem EX.same{a:Zh}(h:EX w g)(b:a.heap[g]?=w.heap[g]?):EX a g:=by obtain⟨c,f,h⟩:=h;exact⟨c,f,b.trans h⟩
theorem EX.ix:∀(vs:Zj) (o:Nat) (w:Zh),EX w g->EX (w.setCells g o vs) g
 |[],_,_,h=>h
 |v::r,o,w,h=>by rw[World.setCells];refine EX.ix r (o+1) _ ?_;obtain⟨c,f,h⟩:=h;refine⟨c.setIfInBounds o v,f,?_⟩;simp[World.setCell,Array.getElem?_modify,h]
def Bj(w:Zh)(base:Nat)(v:Value)(ss:Zl):Prop:=
 (v=Zb/\ss=[])\/∃g off cap,v=.slice (some ⟨g,off,none⟩) ss.length cap/\base<=g/\EX w g/\ss.length<=cap/\cap<=maxLen/\
   (∀j,j<cap *8->(w.cell? (Zd g (off+j))).isSome=true/\w.frozen? ⟨g,off+j,none⟩=false)/\
   ∀i s,ss[i]?=some s->∀j,j<8->w.cell? (Zd g (off+(i *8+j)))=some (.int .u8 (kB s j))
def Al:Value->Option Nat
 |.slice (some a) _ _=>some a.block
 |_=>none
theorem Bj.read{b:Zl}(h:Bj w a v b):R8 w w.heap.size v b:=by
 rcases h with h|⟨g,off,cap,e,_,d,_,_,_,c⟩
 .exact .inl h
 .exact .inr ⟨g,off,cap,e,d.lt,c⟩
theorem R8.below{c:Zh}{b:Zl}(h:R8 w B v b)(d:Below B w c):R8 c B v b:=by
 rcases h with h|⟨g,off,cap,l,a,e⟩
 .exact .inl h
 .exact .inr ⟨g,off,cap,l,a,fun i s k j f=>(d.cell (p:=⟨g,off+(i *8+j),none⟩) a).trans (e i s k j f)⟩
theorem R8.mono{ss:Zl}(h:R8 w B v ss)(d:B<=a):R8 w a v ss:=by
 rcases h with h|⟨g,off,cap,c,e,b⟩
 .exact .inl h
 .exact .inr ⟨g,off,cap,c,Yv,b⟩
theorem R8.stays{b:Zh}{a:Zl}(h:R8 w B v a)(c:∀g,Al v=some g->b.heap[g]?=w.heap[g]?):R8 b B v a:=by
 rcases h with h|⟨g,off,cap,rfl,e,d⟩
 .exact .inl h
 .exact .inr ⟨g,off,cap,rfl,e,fun i s k j f=>(World.cell?_of_block (c g rfl)).trans (d i s k j f)⟩
theorem Bj.stays{f:Zl}(h:Bj w a v f)(_hz:w.heap.size<=d.heap.size)(b:∀g,Al v=some g->d.heap[g]?=w.heap[g]?):Bj d a v f:=by
 rcases h with h|⟨g,off,cap,rfl,k,o,l,m,e,n⟩
 .exact .inl h
 .exact .inr ⟨g,off,cap,rfl,k,o.same (b g rfl),l,m,fun j c=>⟨by rw[World.cell?_of_block (b g rfl)];exact(e j c).1,by rw[World.frozen?_of_block (b g rfl)];exact(e j c).2⟩,fun i s q j c=>(World.cell?_of_block (b g rfl)).trans (n i s q j c)⟩
theorem Bj.below{c:Zh}{b:Zl}(h:Bj w base v b)(a:Zz w c):Bj c base v b:=by
 have d:=h;rcases h with h|⟨g,off,cap,rfl,i,f,_⟩
 .exact .inl h
 .exact d.stays a.size (fun k e=>by cases e;exact a.block g f.lt)
theorem Bj.W{e:Zl}(h:Bj w a v e)(b:Al v=some g):a<=g/\g<w.heap.size:=by
 rcases h with⟨rfl,_⟩|⟨f,off,cap,rfl,c,d,_⟩
 .cases b
 .cases b;exact⟨c,d.lt⟩
theorem R8.cells{a:Zl}(b:∀i s,a[i]?=some s->∀j,j<8->w.cell? (Zd g (off+(i *8+j)))=some (.int .u8 (kB s j))):∀j u,(Bx a)[j]?=some u->w.cell? ((⟨g,off,none⟩:Addr).add j)=some u:=by intro j u d;obtain⟨s,c,rfl⟩:=KQ d;have:=b _ s c (j%8) (Nat.mod_lt _ Yr);rw[show j/8 *8+j%8=j by omega]at this;rw[Go.WideShapes.add_plain];exact this
theorem Uu:(prog.info? 52).map (fun i=>(i.zero,i.size,i.bytes))=some (some (.agg #[.int .u8 0,.int .u8 0,.int .u8 0,.int .u8 0,.int .u8 0,.int .u8 0,.int .u8 0,.int .u8 0]),8,8):=Ys
theorem R8.src{x:Value}{a:Zl}(h:R8 w B x a):Src prog 8 71 x a.length (Bx a) w:=by
 rcases h with⟨rfl,rfl⟩|⟨g,off,cap,rfl,_,b⟩
 .exact Src.ofNil w underlying71 0
 .exact Src.ofSlice w underlying71 ⟨g,off,none⟩ a.length cap (Bx a) (EW a) (R8.cells b) (PC a)
theorem Bj.fresh(w:Zh)(c:Nat)(b:Zl)(cap:Nat)(z:Array Value)(k:c<=w.heap.size)(g:b.length<=cap)(h:cap<=maxLen)(l:z.size=(cap -b.length) *8):
 Bj (w.drew.alloc (.cells ((Bx b).toArray++z) 52)) c (Yz w.heap.size b.length cap) b:=by
 have e:=EW b;have a:∀j,(w.drew.alloc (.cells ((Bx b).toArray++z) 52)).cell? (Zd (w.heap.size) (0+j))=((Bx b).toArray++z)[j]?:=fun j=>by rw[Nat.zero_add];show(w.drew.alloc (.cells ((Bx b).toArray++z) 52)).cell? (Zd (w.drew.heap.size) j)=_;rw[World.cell?_alloc_at _ _ _ _ rfl]
 refine .inr ⟨w.heap.size,0,cap,rfl,k,⟨_,_,heap_alloc_new w.drew _⟩,g,h,fun j d=>⟨?_,?_⟩,fun i s f j d=> ?_⟩
 .rw[a,Array.getElem?_eq_getElem (by simp[e,l];omega)];rfl
 .simp[go_sem]
 .rw[a,Array.getElem?_append_left (by have:=(Zw f).1;simp[e];omega)];simpa using Hw f d
theorem FG(b:Nat):∀(vs:Zj) (o:Nat) (w:Zh),(w.setCells b o vs).heap.size=w.heap.size
 |[],_,_=>rfl
 |_::r,o,w=>by rw[World.setCells,FG b r];simp
theorem IX(b:Nat):∀(vs:Zj) (o:Nat) (w:Zh),(w.setCells b o vs).tape=w.tape
 |[],_,_=>rfl
 |_::r,o,w=>by rw[World.setCells,IX b r];rfl
theorem GX(b:Nat):∀(vs:Zj) (o:Nat) (w:Zh) (x:Addr),(w.cell? x).isSome=true->((w.setCells b o vs).cell? x).isSome=true
 |[],_,_,_,h=>h
 |v::r,o,w,x,h=>by
  rw[World.setCells];refine GX b r (o+1) _ x ?_;by_cases e:(⟨b,o,none⟩:Addr)=x
  .subst e;obtain⟨u,a⟩:=Option.isSome_iff_exists.1 h;rw[World.cell?_setCell_same _ _ _ a];rfl
  .rw[World.cell?_setCell_other _ _ _ _ e];exact h
theorem JI(w:Zh)(c:Nat)(v:Value)(a:Zl)(N:Bj w c v a)(x:Value)(b:Zl)(B:Nat)(V:R8 w B x b)(Z:a.length+b.length<=100000000)(r:c<=w.heap.size)(q:TypeId):
 ∃f l,(Builtin.append_ #[71,71] q #[v,x]).run prog w=.ok f l/\Bj l c f (a++b)/\w.grownBy l (Al v)/\(Al f=Al v\/Al f=some w.heap.size):=by
 obtain⟨i,A,T,n,U⟩:=info_parts Uu;have h:Src prog i.size 71 x b.length (Bx b) w:=by rw[n];exact V.src
 by_cases h0:b=[]
 .subst h0;rw[List.append_nil];rcases N with⟨rfl,rfl⟩|⟨g,off,cap,rfl,F,L,G,H,o,z⟩
  .exact⟨_,w,run_append_nothing w _ _ q _ i underlying71 A none 0 0 (Zx) x h,.inl ⟨rfl,rfl⟩,⟨rfl,rfl,rfl,Zx,fun _ _ _=>rfl⟩,.inl rfl⟩
  .exact⟨_,w,run_append_nothing w _ _ q _ i underlying71 A _ _ _ G x h,.inr ⟨g,off,cap,rfl,F,L,G,H,o,z⟩,⟨rfl,rfl,rfl,Zx,fun _ _ _=>rfl⟩,.inl rfl⟩
 .have S:=List.length_pos_iff.2 h0;have grow:∀(y:Zk) (cap:Nat),cap<a.length+b.length->(Builtin.firstCells i.size a.length (.slice y a.length cap)).run prog w.drew=.ok (Bx a).toArray w.drew->
   ∃f l,(Builtin.append_ #[71,71] q #[.slice y a.length cap,x]).run prog w=.ok f l/\Bj l c f (a++b)/\(∀row,w.grownBy l row)/\Al f=some w.heap.size:=by
   intro y cap D hold;have m:=run_append_grow_src w _ _ q _ i _ underlying71 A T y a.length cap (Bx a) hold x b.length (Bx b) h D Yv (by
    have:=nextslicecap_le D;rw[U];omega)
   rw[<-MU]at m;have O:=grownCap_ge w (a.length+b.length) cap 52;have Q:=grownCap_le_maxLen w (a.length+b.length) cap 52 Yp
   have C:=Bj.fresh w c (a++b) (grownCap w (a.length+b.length) cap 52) (Builtin.zeroCells (Value.agg #[.int .u8 0,.int .u8 0,.int .u8 0,.int .u8 0,.int .u8 0,.int .u8 0,.int .u8 0,.int .u8 0]).cells (grownCap w (a.length+b.length) cap 52 -(a.length+b.length))) r (by simpa using O) Q (by rw[size_zeroCells,List.length_append];rfl);rw[List.length_append]at C
   exact⟨_,_,m,C,fun row=>⟨rfl,rfl,rfl,Yu,fun k M _=>heap_alloc_old w.drew _ M⟩,rfl⟩
  rcases N with⟨rfl,rfl⟩|⟨g,off,cap,rfl,F,L,G,H,o,z⟩
  .obtain⟨f,l,m,I,J,K⟩:=grow none 0 (by simpa using S) (run_firstCells_none w.drew _ _ _ _);exact⟨f,l,m,I,J _,.inr K⟩
  .by_cases hroom:a.length+b.length<=cap
   .have Y:=EW b;have u:∀j,j<(Bx b).length->(a.length *8+j)<cap *8:=fun j d=>by omega
    have m:=run_append_room_src w _ _ q _ i underlying71 A g off a.length cap x b.length (Bx b) h hroom (fun j d=>by rw[n,Nat.add_assoc];exact(o _ (u j d)).1) (fun j d=>by rw[n,Nat.add_assoc];exact(o _ (u j d)).2);rw[n]at m;have W:=World.keptBut_setCells g (may:=fun _=>True) (Bx b) (off+a.length *8) w (fun _ _=>trivial)
    refine⟨_,_,m,.inr ⟨g,off,cap,by rw[List.length_append],F,EX.ix _ _ _ L,by rw[List.length_append];exact hroom,H,fun j d=>⟨?_,?_⟩,fun k s t j d=> ?_⟩,⟨World.os_setCells _ _ _ _,IX _ _ _ _,World.output_setCells _ _ _ _,by rw[FG];exact Zx,fun k M R=>World.heap_setCells_other _ _ _ _ M (fun e=>R (by rw[e];rfl))⟩,.inl rfl⟩
    .exact GX _ _ _ _ _ (o j d).1
    .rw[World.frozen?_setCells];exact(o j d).2
    .rcases Nat.lt_or_ge k a.length with E|E
     .rw[List.getElem?_append_left E]at t;rw[World.cell?_setCells_out _ _ _ _ _ (fun _ _=> .inl Yt)];exact z k s t j d
     .rw[List.getElem?_append_right E]at t;have X:=(Zw t).1;have P:=World.cell?_setCells_in g (Bx b) (off+a.length *8) w (fun j d=>by rw[Nat.add_assoc];exact(o _ (u j d)).1) ((k -a.length) *8+j) Yv;rw[show off+(k *8+j)=off+a.length *8+((k -a.length) *8+j) by omega,P];have:=Hw t d;rw[Zv Yv]at this;exact this
   .obtain⟨f,l,m,I,J,K⟩:=grow (some ⟨g,off,none⟩) cap Yv (run_firstCells_some w.drew _ _ _ _ _ _ (by rw[n];exact EW a) (by simpa using R8.cells z));exact⟨f,l,m,I,J _,.inr K⟩
theorem wpList_append_run{b:Array Oper}{rest:List Oper}{a:Act}{Q:Exit->Act->Zh->Prop}(f:o.guard=none)(s x:Operand)(t u:TypeId)(i:o.op=.call {callee:=.builtin .append,args:= #[s,x],argTypes:= #[t,u]}){e c:Value}(k:a.eval s=v)(l:a.eval x=e)(j:(Builtin.append_ #[t,u] o.type #[v,e]).run P w=.ok c d)(h:wpList P b Q rest (a.put o.dst c) d):wpList P b Q (o::rest) a w:=by
 refine wpList_plain f fun K g=> ?_;unfold Oper.wp execOp;simp only[i,resolve,invoke,builtin,Sem.run_bind,Sem.run_pure,Result.andThen_ok,List.map_toArray,List.map_cons,List.map_nil,k,l,j];exact g _ _ h
theorem Cc{b:Array Oper}{a:Act}{K:Act->Zh->Prop}{Q:Exit->Act->Zh->Prop}{E:Prop}(f:o.guard=none)(s x:Operand)(t u:TypeId)(g:o.op=.call {callee:=.builtin .append,args:= #[s,x],argTypes:= #[t,u]}){e c:Value}(j:a.eval s=v)(l:a.eval x=e)(i:(Builtin.append_ #[t,u] o.type #[v,e]).run P w=.ok c d)(h:K (a.put o.dst c) d):
 if Region.wanted o (yielded b a.tmps)=true then Oper.wp P o a w K Q else E:=by
 have k:Region.wanted o (yielded b a.tmps)=true:=by simp[Region.wanted,f]
 rw[if_pos k];unfold Oper.wp execOp;simp only[g,resolve,invoke,builtin,Sem.run_bind,Sem.run_pure,Result.andThen_ok,List.map_toArray,List.map_cons,List.map_nil,j,l,i];exact h
structure Fm (ks:List Kd):Prop where
 len:ks.length<=maxLen
 sum:∀k∈ks,k.sum.size<=maxLen
 E:∀k∈ks,k.E.size<=maxLen
 B:∀k∈ks,k.B.length<=maxLen
 ref:∀k∈ks,∀s∈k.B,s.size<=maxLen
structure FP (ps:List Pd):Prop where
 len:ps.length<=maxLen
 name:∀p∈ps,p.name.size<=maxLen
 sum:∀p∈ps,p.sum.size<=maxLen
structure Hx (ls:List Ld):Prop where
 len:ls.length<=maxLen
 sum:∀l∈ls,l.sum.size<=maxLen
def Ah(w:Zh)(b:Nat)(wd now given births:Int)(T P L:Value):Prop:=
 w.cell? (Zd b 0)=some (Zg wd)/\w.cell? (Zd b 1)=some (Zg now)/\w.cell? (Zd b 2)=some (Zg given)/\w.cell? (Zd b 3)=some (Zg births)/\
  w.cell? (Zd b 4)=some T/\w.cell? (Zd b 5)=some P/\w.cell? (Zd b 6)=some L/\b<w.heap.size
theorem Ah.new(w:Zh)(c now b a:Int)(T P L:Value)(t:TypeId):Ah (w.alloc (.cells #[Zg c,Zg now,Zg b,Zg a,T,P,L] t)) w.heap.size c now b a T P L:=
 ⟨Yu,Yu,Yu,Yu,Yu,Yu,Yu,Yu⟩
theorem Ah.af{g c a:Int}{P:Value}(h:Ah w b g now c a T P L)(d:Below B w f)(e:b<B):Ah f b g now c a T P L:=by
 obtain⟨i,j,k,l,m,n,o,q⟩:=h;exact⟨(d.cell (p:=⟨b,0,none⟩) e).trans i,(d.cell (p:=⟨b,1,none⟩) e).trans j,(d.cell (p:=⟨b,2,none⟩) e).trans k,(d.cell (p:=⟨b,3,none⟩) e).trans l,
  (d.cell (p:=⟨b,4,none⟩) e).trans m,(d.cell (p:=⟨b,5,none⟩) e).trans n,(d.cell (p:=⟨b,6,none⟩) e).trans o,Zr q d.size⟩
theorem Ah.below{e c a:Int}{P:Value}(h:Ah w b e now c a T P L)(f:Zz w d):Ah d b e now c a T P L:=h.af f h.2.2.2.2.2.2.2
structure AZ (w:Zh) (B:Nat) (a p l:Zk) (ks:List Kd) (ps:List Pd) (ls:List Ld):Prop where
 k:AI w B a ks
 p:AO w B p ps
 l:AR w B l ls
theorem AZ.M{c:Zh}{a:Zk}{e:List Pd}{d:List Ld}(h:AZ w w.heap.size a p l ks e d)(b:Zz w c):AZ c c.heap.size a p l ks e d:=
 ⟨(h.k.below b).mono b.size,(h.p.below b).mono b.size,(h.l.below b).mono b.size⟩
theorem AZ.af{e:Zh}{a:Zk}{d:List Pd}{c:List Ld}(h:AZ w B a p l ks d c)(b:Below B w e):AZ e B a p l ks d c:=
 ⟨h.k.below b,h.p.below b,h.l.below b⟩
theorem AZ.mono{a:Zk}{e:List Pd}{d:List Ld}(h:AZ w B a p l ks e d)(b:B<=c):AZ w c a p l ks e d:=
 ⟨h.k.mono b,h.p.mono b,h.l.mono b⟩
structure Fo (ks:List Kd) (ps:List Pd) (ls:List Ld):Prop where
 k:ks.length<=1048576
 r:∀k∈ks,k.B.length<=1048576
 p:ps.length<=1048576
 l:ls.length<=1048576
def JJ(w:Zh)(lo g c:Nat)(rs:Zl):Prop:=w.ownsRow lo 9 1 (.slice (some ⟨g,0,none⟩) rs.length c) rs.length (rs.map Value.string)
def KS(w:Zh)(lo:Nat)(xs:Zj)(i:Nat)(x:Kd):Prop:=
 xs[i *4]?=some (.string x.sum)/\xs[i *4+1]?=some (Zg x.born)/\xs[i *4+2]?=some (.string x.E)/\
  ∃g,xs[i *4+3]?=some (.slice (some ⟨g,0,none⟩) x.B.length x.B.length)/\JJ w lo g x.B.length x.B
theorem Hz:(prog.info? 37).map (fun i=>(i.zero,i.size,i.bytes))=some (some (.agg #[Zc,Ze,Zc,Zb]),4,64):=Ys
theorem JJ.af{b:Zl}(h:JJ w lo g c b)(a:Zz w d):JJ d lo g c b:=
 World.ownsRow.kept h (row:=none) ⟨a.os,a.tape,a.output,a.size,fun k e _=>a.block k e⟩ (.inr (by simp[Value.ownBlock]))
theorem KS.af{a:Zh}{b:Zj}(h:KS w lo b i x)(k:Zz w a):KS a lo b i x:=by obtain⟨c,d,e,g,f,j⟩:=h;exact⟨c,d,e,g,f,j.af k⟩
def WD(xs:Zj)(n:Nat):Prop:=∀(i j q q' m c m' c':Nat),i<j->j<n->xs[i *4+3]?=some (.slice (some ⟨q,0,none⟩) m c)->xs[j *4+3]?=some (.slice (some ⟨q',0,none⟩) m' c')->q<q'
def Fp(w:Zh)(lo g:Nat)(ks:List Kd):Prop:=
 ∃xs,w.ownsRow lo 37 4 (.slice (some ⟨g,0,none⟩) ks.length ks.length) ks.length xs/\(∀i x,ks[i]?=some x->KS w (g+1) xs i x)/\WD xs ks.length
theorem Fp.row{c:List Kd}(h:Fp w lo g c):AI w w.heap.size (some ⟨g,0,none⟩) c:=by obtain⟨n,a,l,_⟩:=h;refine .inr ⟨g,0,rfl,(a.lt g rfl).2,fun i x b=> ?_⟩;have m:=(Zw b).1;obtain⟨d,e,f,q,j,k⟩:=l i x b;rw[Nat.zero_add];exact⟨(a.cellAt _ Yv).trans d,(a.cellAt _ Yv).trans e,(a.cellAt _ Yv).trans f,_,_,(a.cellAt _ Yv).trans j,Ab.own k⟩
theorem LB:(prog.info? 58).map (fun i=>(i.zero,i.size,i.bytes))=some (some (.agg #[Zc,Zc]),2,32):=Ys
def FQ(w:Zh)(lo g:Nat)(ps:List Pd):Prop:=
 ∃xs,w.ownsRow lo 58 2 (.slice (some ⟨g,0,none⟩) ps.length ps.length) ps.length xs/\∀i x,ps[i]?=some x->xs[i *2]?=some (.string x.name)/\xs[i *2+1]?=some (.string x.sum)
theorem FQ.row{c:List Pd}(h:FQ w lo g c):AO w w.heap.size (some ⟨g,0,none⟩) c:=by obtain⟨k,a,f⟩:=h;refine .inr ⟨g,0,rfl,(a.lt g rfl).2,fun i x b=> ?_⟩;have j:=(Zw b).1;obtain⟨d,e⟩:=f i x b;rw[Nat.zero_add];exact⟨(a.cellAt _ Yv).trans d,(a.cellAt _ Yv).trans e⟩
theorem IY:(prog.info? 61).map (fun i=>(i.zero,i.size,i.bytes))=some (some (.agg #[Ze,Zc,Ze]),3,32):=Ys
def FR(w:Zh)(lo g:Nat)(ls:List Ld):Prop:=
 ∃xs,w.ownsRow lo 61 3 (.slice (some ⟨g,0,none⟩) ls.length ls.length) ls.length xs/\∀i x,ls[i]?=some x->xs[i *3]?=some (Zg x.H)/\xs[i *3+1]?=some (.string x.sum)/\xs[i *3+2]?=some (Zg x.V)
theorem FR.row{c:List Ld}(h:FR w lo g c):AR w w.heap.size (some ⟨g,0,none⟩) c:=by obtain⟨l,a,j⟩:=h;refine .inr ⟨g,0,rfl,(a.lt g rfl).2,fun i x b=> ?_⟩;have k:=(Zw b).1;obtain⟨d,e,f⟩:=j i x b;rw[Nat.zero_add];exact⟨(a.cellAt _ Yv).trans d,(a.cellAt _ Yv).trans e,(a.cellAt _ Yv).trans f⟩
theorem Fp.af{b:Zh}(h:Fp w lo g ks)(a:Zz w b):Fp b lo g ks:=by obtain⟨j,e,d,c⟩:=h;exact⟨j,e.kept (Ae none a) (.inr (by simp[Value.ownBlock])),fun i x f=>(d i x f).af a,c⟩
theorem FQ.af{b:Zh}{a:List Pd}(h:FQ w lo g a)(c:Zz w b):FQ b lo g a:=by obtain⟨f,e,d⟩:=h;exact⟨f,e.kept (Ae none c) (.inr (by simp[Value.ownBlock])),d⟩
theorem FR.af{b:Zh}{a:List Ld}(h:FR w lo g a)(c:Zz w b):FR b lo g a:=by obtain⟨f,e,d⟩:=h;exact⟨f,e.kept (Ae none c) (.inr (by simp[Value.ownBlock])),d⟩
theorem Fp.setCell{c:List Kd}(h:Fp w lo g c){a:Addr}(l:a.block<lo)(u:Value):Fp (w.setCell a u) lo g c:=by obtain⟨r,b,n,m⟩:=h;have:=(b.lt g rfl).1;refine⟨r,ownsRow_setCell_below b l u,fun i x o=> ?_,m⟩;obtain⟨d,e,f,q,j,k⟩:=n i x o;exact⟨d,e,f,q,j,ownsRow_setCell_below k Yv u⟩
theorem FQ.setCell{b:List Pd}(h:FQ w lo g b){a:Addr}(c:a.block<lo)(u:Value):FQ (w.setCell a u) lo g b:=by obtain⟨f,e,d⟩:=h;exact⟨f,ownsRow_setCell_below e c u,d⟩
theorem FR.setCell{b:List Ld}(h:FR w lo g b){a:Addr}(c:a.block<lo)(u:Value):FR (w.setCell a u) lo g b:=by obtain⟨f,e,d⟩:=h;exact⟨f,ownsRow_setCell_below e c u,d⟩
theorem Fp.mono(h:Fp w lo g ks)(c:a<=lo):Fp w a g ks:=by obtain⟨e,d,b⟩:=h;exact⟨e,d.mono c,b⟩
theorem FQ.mono{b:List Pd}(h:FQ w lo g b)(d:a<=lo):FQ w a g b:=by obtain⟨f,e,c⟩:=h;exact⟨f,e.mono d,c⟩
theorem FR.mono{b:List Ld}(h:FR w lo g b)(d:a<=lo):FR w a g b:=by obtain⟨f,e,c⟩:=h;exact⟨f,e.mono d,c⟩
structure IZ (w:Zh) (lo g p l:Nat) (ks:List Kd) (ps:List Pd) (ls:List Ld):Prop where
 k:Fp w lo g ks
 p:FQ w lo p ps
 l:FR w lo l ls
theorem IZ.rows{p l:Nat}{a:List Kd}{c:List Pd}{b:List Ld}(h:IZ w lo g p l a c b):AZ w w.heap.size (some ⟨g,0,none⟩) (some ⟨p,0,none⟩) (some ⟨l,0,none⟩) a c b:=⟨h.k.row,h.p.row,h.l.row⟩
def Ai{A:Type}(c:A->Zj)(xs:List A):Zj:=xs.flatMap c
theorem EN{c:A->Zj}(h:∀x,(c x).length=n)(a:List A):(Ai c a).length=a.length *n:=by
 unfold Ai;induction a with
 |nil=>simp
 |cons x a ih=>rw[List.flatMap_cons,List.length_append,ih,h,List.length_cons,Nat.add_mul];omega
theorem FZ(c:A->Zj)(a b:List A):Ai c (a++b)=Ai c a++Ai c b:=by unfold Ai;rw[List.flatMap_append]
theorem Cd{c:A->Zj}(h:∀x,(c x).length=n):∀{xs:List A} {i j:Nat} {x:A},xs[i]?=some x->j<n->(Ai c xs)[i *n+j]?=(c x)[j]?
 |[],_,_,_,hx,_=>by simp at hx
 |y::ys,0,j,x,hx,hj=>by simp at hx;subst hx;show(y::ys|>.flatMap c)[_]?=_;rw[List.flatMap_cons,Nat.zero_mul,Nat.zero_add,List.getElem?_append_left (by rw[h];exact hj)]
 |y::ys,i+1,j,x,hx,hj=>by
  have a:ys[i]?=some x:=by simpa using hx
  show(y::ys|>.flatMap c)[_]?=_;rw[List.flatMap_cons,List.getElem?_append_right (by rw[h,Nat.add_mul];omega),h,show(i+1) *n+j -n=i *n+j by rw[Nat.add_mul];omega];exact Cd h a hj
theorem Pa{c:A->Zj}(h:∀x,(c x).length=n)(f:0<n){a:List A}(d:(Ai c a)[k]?=some u):∃x,a[k/n]?=some x/\(c x)[k%n]?=some u:=by have e:=(Zw d).1;rw[EN h]at e;have b:=Nat.div_lt_of_lt_mul (by rw[Nat.mul_comm];exact e);refine⟨a[k/n],Zv b,?_⟩;have:=Cd h (Zv b) (Nat.mod_lt k f);rw[show k/n *n+k%n=k by rw[Nat.mul_comm];exact Nat.div_add_mod k n]at this;rw[<-this];exact d
theorem SH{c:A->Zj}(h:∀x,(c x).length=n)(a:List A)(i:Nat)(e:i<=a.length):(Ai c a).drop (i *n)=Ai c (a.drop i):=by
 have b:Ai c a=Ai c (a.take i)++Ai c (a.drop i):=by rw[<-FZ,List.take_append_drop]
 have d:(Ai c (a.take i)).length=i *n:=by rw[EN h,List.length_take,Nat.min_eq_left e]
 rw[b,<-d,List.drop_left]
def pC(p:Pd):Zj:=[.string p.name,.string p.sum]
def lC(l:Ld):Zj:=[Zg l.H,.string l.sum,Zg l.V]
theorem Ja(p:Pd):(pC p).length=2:=rfl
theorem He(l:Ld):(lC l).length=3:=rfl
theorem WE(c:List Pd):∀u∈Ai pC c,u.oneCell'=true:=by intro u b;obtain⟨p,_,a⟩:=List.mem_flatMap.1 b;simp[pC]at a;rcases a with rfl|rfl<;>rfl
theorem WG(c:List Ld):∀u∈Ai lC c,u.oneCell'=true:=by intro u b;obtain⟨p,_,a⟩:=List.mem_flatMap.1 b;simp[lC]at a;rcases a with rfl|rfl|rfl<;>rfl
theorem Cs{size:Nat}{f:Zj}(h:w.ownsRow a e size v n f)(d:v≠Zb):∃g cap,v=Yz g n cap/\a<=g/\g<w.heap.size:=by
 rcases h.2 with⟨e,_⟩|⟨g,cap,i,rfl,b,c,_⟩
 .exact absurd e d
 .exact⟨g,cap,rfl,b,(Array.getElem?_eq_some_iff.1 c).1⟩
theorem AO.cz{e:List Pd}(h:AO w B (some ⟨b,off,none⟩) e):∀j u,(Ai pC e)[j]?=some u->w.cell? ((⟨b,off,none⟩:Addr).add j)=some u:=by
 intro j u k;obtain⟨p,c,a⟩:=Pa Ja Yr k;rcases h with h|⟨n,f,g,_,i⟩
 .subst h;simp at c
 .cases g;obtain⟨l,m⟩:=i _ p c;rw[Go.WideShapes.add_plain];have o:=Nat.mod_lt j (show 0<2 by decide);rcases(show j%2=0\/j%2=1 by omega)with d|d<;>rw[d]at a<;>simp[pC]at a<;>subst a
  .rw[show off+j=off+j/2 *2 by omega];exact l
  .rw[show off+j=off+j/2 *2+1 by omega];exact m
theorem AR.cz{e:List Ld}(h:AR w B (some ⟨b,off,none⟩) e):∀j u,(Ai lC e)[j]?=some u->w.cell? ((⟨b,off,none⟩:Addr).add j)=some u:=by
 intro j u k;obtain⟨p,d,c⟩:=Pa He Yr k;rcases h with h|⟨o,f,g,_,i⟩
 .subst h;simp at d
 .cases g;obtain⟨l,m,n⟩:=i _ p d;rw[Go.WideShapes.add_plain];have q:=Nat.mod_lt j (show 0<3 by decide);rcases(show j%3=0\/j%3=1\/j%3=2 by omega)with a|a|a<;>rw[a]at c<;>simp[lC]at c<;>subst c
  .rw[show off+j=off+j/3 *3 by omega];exact l
  .rw[show off+j=off+j/3 *3+1 by omega];exact m
  .rw[show off+j=off+j/3 *3+2 by omega];exact n
theorem AO.own{a:Zk}{b:List Pd}(h:w.ownsRow c 58 2 (.slice a b.length cap) b.length (Ai pC b)):AO w w.heap.size a b:=by
 rcases h.2 with⟨e,m⟩|⟨g,f,n,l,o,q,_⟩
 .exact .inl (List.length_eq_zero_iff.1 m)
 .cases l;refine .inr ⟨g,0,rfl,(h.lt g rfl).2,fun i x d=> ?_⟩;have r:=(Zw d).1;have j:=Cd Ja d (show 0<2 by decide);have k:=Cd Ja d (show 1<2 by decide);rw[Nat.zero_add];exact⟨(h.cellAt _ Yv).trans j,(h.cellAt _ Yv).trans k⟩
theorem AR.own{d:Nat}{a:Zk}{c:List Ld}(h:w.ownsRow d 61 3 (.slice a c.length cap) c.length (Ai lC c)):AR w w.heap.size a c:=by
 rcases h.2 with⟨e,n⟩|⟨g,f,o,m,q,r,_⟩
 .exact .inl (List.length_eq_zero_iff.1 n)
 .cases m;refine .inr ⟨g,0,rfl,(h.lt g rfl).2,fun i x b=> ?_⟩;have s:=(Zw b).1;have j:=Cd He b (show 0<3 by decide);have k:=Cd He b (show 1<3 by decide);have l:=Cd He b (show 2<3 by decide);rw[Nat.zero_add];exact⟨(h.cellAt _ Yv).trans j,(h.cellAt _ Yv).trans k,(h.cellAt _ Yv).trans l⟩
theorem AO.nil{a:List Pd}(h:AO w B none a):a=[]:=by
 rcases h with h|⟨_,_,h,_⟩
 .exact h
 .cases h
theorem AR.nil{a:List Ld}(h:AR w B none a):a=[]:=by
 rcases h with h|⟨_,_,h,_⟩
 .exact h
 .cases h
theorem Ab.nil{a:Zl}(h:Ab w B none a):a=[]:=by
 rcases h with h|⟨_,_,h,_⟩
 .exact h
 .cases h
theorem toList_inj{a b:Zi}(h:a.toList=b.toList):a=b:=by rw[ByteArray.toList_eq,ByteArray.toList_eq]at h;cases a;cases b;simp only[Array.toList_inj]at h;rw[h]
theorem By{a b:Zi}(h:¬a=b):(a.toList==b.toList)=false:=by rw[beq_eq_false_iff_ne];exact fun e=>h (toList_inj e)
theorem QZ(x:List UInt8):∀y,Op.bytesLess x y=true↔x<y:=by
 induction x with
 |nil=>intro y;cases y<;>simp[Op.bytesLess]
 |cons a x ih=>
  intro y;cases y with
  |nil=>simp[Op.bytesLess]
  |cons b y=>have:=ih y;rw[List.cons_lt_cons_iff,<-this];simp only[Op.bytesLess];by_cases h1:a<b<;>by_cases h2:a=b<;>simp[h1,h2]
theorem BU(a:Zi):less a a=false:=by
 unfold less;cases h:Op.bytesLess a.toList a.toList with
 |false=>rfl
 |true=>exact absurd ((QZ _ _).1 h) (List.lt_irrefl _)
theorem Cm{a b c:Zi}(h:less a b=true)(k:less b c=true):less a c=true:=by
 unfold less at *
 rw[QZ]at *
 exact List.lt_trans h k
def BX(ks:List Kd)(s:Zi):Int:=match ks.findIdx? (fun k=>decide (k.sum=s))with
 |some i=>(i:Int)
 |none=> -1
theorem Ra{a:List Kd}(d:k<a.length)(h:a[k].sum=s)(b:∀j x,j<k->a[j]?=some x->x.sum≠s):BX a s=k:=by
 have:a.findIdx? (fun k=>decide (k.sum=s))=some k:=by rw[List.findIdx?_eq_some_iff_getElem];refine⟨d,by simpa using h,fun j c=> ?_⟩;simpa using b j _ c (Zv Yv)
 simp[BX,this]
theorem PD{a:List Kd}(b:∀j x,j<a.length->a[j]?=some x->x.sum≠s):BX a s= -1:=by
 have:a.findIdx? (fun k=>decide (k.sum=s))=none:=by rw[List.findIdx?_eq_none_iff];intro x d;obtain⟨j,c,rfl⟩:=List.getElem_of_mem d;simpa using b j _ c (Zv c)
 simp[BX,this]
theorem BV(a:List Kd)(s:Zi):(BX a s= -1/\¬Aw a s)\/∃i k,BX a s=(i:Nat)/\a[i]?=some k/\k.sum=s:=by
 unfold BX;cases h:a.findIdx? (fun k=>decide (k.sum=s))with
 |none=>rw[List.findIdx?_eq_none_iff]at h;exact .inl ⟨rfl,fun⟨u,hu,e⟩=>by simpa [e]using h u hu⟩
 |some i=>rw[List.findIdx?_eq_some_iff_getElem]at h;obtain⟨c,b,_⟩:=h;exact .inr ⟨i,a[i],rfl,Zv c,by simpa using b⟩
theorem Cn(v now g d:Int)(a:Zk)(q:Nat)(P L:Value)(c:List Kd)(s:Zi)(w:Zh)(B:Nat)(l:AI w B a c)(I:B<=w.heap.size)(M:c.length<=1048576):
 Calls prog 26 #[.agg #[Zg v,Zg now,Zg g,Zg d,.slice a c.length q,P,L],.string s] w fun e D=>e=.returned (Zg (BX c s))/\Zz w D:=by
 have m:Below w.heap.size w (w.alloc (.cells #[Zg v,Zg now,Zg g,Zg d,.slice a c.length q,P,L] 27)):=Zy;go_enter func26,ntmps26;go_wp2
 go_loop [5] (fun i=>∃k:Nat,k<=c.length/\i=Zg k/\Hid (∀j x,j<k->c[j]?=some x->x.sum≠s)) (fun i=>c.length -(intOf i).toNat)
 case atStart=>exact⟨0,Nat.zero_le _,rfl,fun j x h=>by omega⟩
 case round=>
  obtain⟨k,K,rfl,f⟩:=hrel;by_cases hlt:k<c.length
  .obtain⟨b,off,z,J,u⟩:=l.at hlt;subst z;have n:Hid (c[k]?=some c[k]):=Zv hlt;obtain⟨r,_,_,_⟩:=u k _ n;clear u l;have F:b<w.heap.size:=Yv
   by_cases he:c[k].sum=s
   .have H:=Yw he;have A:=Yw (Ra hlt he f.o);have E:w.cell? (Zd b (off+k *4))=some (.string s):=by rw[<-he];exact r
    clear r he;go_wp2;go_ret;exact⟨JH A.o.symm,m⟩
   .have G:=By he;have y:Hid (∀j x,j<k+1->c[j]?=some x->x.sum≠s):=by
     intro j x C o;rcases Nat.lt_or_ge j k with t|t
     .exact f.o j x t o
     .obtain rfl:j=k:=Yv
      rw[n.o]at o;cases o;exact he
    clear he f n;generalize c[k]=x at *
    go_wp2;exact⟨⟨k+1,Yv,Yo,y⟩,by simp[intOf];omega⟩
  .go_wp2;go_ret;exact⟨JH (PD (fun j x C=>f.o j x Yv)).symm,m⟩
section
attribute [local go_sem↓] Go.wp_at_zero Go.wp_at_succ
def CE(u:Kd)(ra:Zk)(rc:Nat):Value:=.agg #[.string u.sum,Zg u.born,.string u.E,.slice ra u.B.length rc]
def Holds(W:Zh)(B:Nat)(wd:Int)(ks:List Kd)(f:Lit->Option Value):Prop:=
 ∀s:Zi,(s.size:Int)=wd->(f (keyL s)=none/\¬Aw ks s)\/∃u ra rc,u∈ks/\u.sum=s/\f (keyL s)=some (CE u ra rc)/\Ab W B ra u.B
theorem Holds.nil(W:Zh)(B:Nat)(a:Int):Holds W B a [] (fun _=>none):=fun _ _=> .inl ⟨rfl,fun⟨_,h,_⟩=>by cases h⟩
theorem Holds.snoc{W:Zh}{b:Int}{i:List Kd}{f:Lit->Option Value}(h:Holds W B b i f){g:Zk}{rc:Nat}(t:(x.sum.size:Int)=b)(r:b<=8)(o:Ab W B g x.B):Holds W B b (i++[x]) (upd f (keyL x.sum) (CE x g rc)):=by
 intro s q;by_cases he:keyL s=keyL x.sum
 .have:s=x.sum:=key_inj he Yv Yv;subst this;exact .inr ⟨x,g,rc,Yu,rfl,CG _ _ _,o⟩
 .rw[CO _ _ he];have j:x.sum≠s:=fun e=>he (by rw[e]);rcases h s q with⟨c,d⟩|⟨u,k,l,c,d,m,n⟩
  .refine .inl ⟨c,fun⟨u,a,e⟩=> ?_⟩;rcases List.mem_append.1 a with a|a
   .exact d ⟨u,a,e⟩
   .simp at a;subst a;exact j e
  .exact .inr ⟨u,k,l,by simp[c],d,m,n⟩
theorem Kp(w:Zh):(zeroValue 37).run prog w=.ok (.agg #[Zc,Ze,Zc,Zb]) w:=Ys
theorem AP.setCell{f:Lit->Option Value}(h:AP w K b n f){a:Addr}(e:b≠a.block)(u:Value):AP (w.setCell a u) K b n f:=by obtain⟨D,c,d⟩:=h;exact⟨D,c.setCell e u,d⟩
def FS(wr:Zh)(h:Nat)(m s b t r:Value)(w':Zh):Prop:=
 w'.cell? (Zd (h+1+1+1) 1)=some m/\w'.cell? (Zd (wr.heap.size) 0)=some s/\w'.cell? (Zd (wr.heap.size) 1)=some b/\w'.cell? (Zd (wr.heap.size) 2)=some t/\w'.cell? (Zd (wr.heap.size) 3)=some r
theorem FS.af{c e:Zh}{s b t:Value}(x:FS wr h m s b t r c)(a:Zz c e)(l:h+3<c.heap.size)(d:wr.heap.size<c.heap.size):FS wr h m s b t r e:=by obtain⟨f,g,i,j,k⟩:=x;exact⟨(a.cell (p:=⟨h+1+1+1,1,none⟩) l).trans f,(a.cell (p:=⟨wr.heap.size,0,none⟩) d).trans g,(a.cell (p:=⟨wr.heap.size,1,none⟩) d).trans i,(a.cell (p:=⟨wr.heap.size,2,none⟩) d).trans j,(a.cell (p:=⟨wr.heap.size,3,none⟩) d).trans k⟩
theorem FS.grown{e:Zh}{q:Nat}{s b t:Value}(x:FS wr h m s b t r e)(a:e.grownBy d (some q))(l:h+1+1+1≠q)(c:wr.heap.size≠q):FS wr h m s b t r d:=by obtain⟨f,g,i,j,k⟩:=x;exact⟨a.cell f (by simpa using l),a.cell g (by simpa using c),a.cell i (by simpa using c),a.cell j (by simpa using c),a.cell k (by simpa using c)⟩
theorem Ew(n now o d:Int)(a:Zk)(J:Nat)(P L:Value)(h:List Kd)(w:Zh)(u:AI w w.heap.size a h)(hl:h.length<=1048576)(F:∀k∈h,(k.sum.size:Int)=n)(h8:n<=8):
 Calls prog 30 #[.agg #[Zg n,Zg now,Zg o,Zg d,.slice a h.length J,P,L]] w fun e y=>∃m f,e=.returned (.agg #[Zg n,.map (some m)])/\(w.heap.size<=m/\m<=w.heap.size+2)/\AP y 52 m h.length f/\Holds w w.heap.size n h f/\Zz w y:=by
 have V:= @run_makeMap prog;go_enter func30,ntmps30;go_wp2
 obtain⟨r,l⟩:∃W,W=((((w.alloc (Obj.cells #[Value.int IntKind.i64 n,Value.int IntKind.i64 now,Value.int IntKind.i64 o,Value.int IntKind.i64 d,Value.slice a h.length J,P,L] 27)).alloc (Obj.cells #[Value.int IntKind.i64 0,Value.map none] 64)).alloc (Obj.map #[] 0)).alloc (Obj.cells #[Value.int IntKind.i64 n,Value.map (some (w.heap.size+1+1))] 64)):=⟨_,rfl⟩;have R:Below w.heap.size w r:=by rw[l];exact((((Zy).alloc Yu _).alloc Yt _).alloc Yt _)
 have zB:r.heap.size=w.heap.size+4:=by rw[l];simp
 have S:AP r 52 (w.heap.size+1+1) 0 (fun _=>none):=by have:=AP.new ((w.alloc (Obj.cells #[Value.int IntKind.i64 n,Value.int IntKind.i64 now,Value.int IntKind.i64 o,Value.int IntKind.i64 d,Value.slice a h.length J,P,L] 27)).alloc (Obj.cells #[Value.int IntKind.i64 0,Value.map none] 64)) 52;rw[l];have h2:=this.af ((Below.refl _ _).alloc (Zx) (Obj.cells #[Value.int IntKind.i64 n,Value.map (some (w.heap.size+1+1))] 64)) this.lt;simpa using h2
 have s0:r.cell? (Zd (w.heap.size+1+1+1) 0)=some (Zg n):=by rw[l];simp[go_sem]
 have s1:r.cell? (Zd (w.heap.size+1+1+1) 1)=some (.map (some (w.heap.size+1+1))):=by rw[l];simp[go_sem]
 have r0:r.cell? (Zd (w.heap.size+1) 0)=some Ze:=by rw[l];simp[go_sem]
 have r1:r.cell? (Zd (w.heap.size+1) 1)=some (.map none):=by rw[l];simp[go_sem]
 have rf:∀j,r.frozen? ⟨w.heap.size+1,j,none⟩=false:=fun j=>by rw[l];simp[go_sem]
 rw[<-l];clear l V
 go_loopw [13] (fun i wr=>∃(k:Nat) (f:Lit->Option Value),k<=h.length/\i=Zg k/\Hid (AP wr 52 (w.heap.size+1+1) k f)/\Hid (Holds w w.heap.size n (h.take k) f)/\r.grownBy wr (some (w.heap.size+1+1))) (fun i _=>h.length -(intOf i).toNat)
 case atStart=>exact⟨0,_,Nat.zero_le _,rfl,S,by rw[List.take_zero];exact Holds.nil w w.heap.size n,AK _ _⟩
 case round=>
  obtain⟨k,f,hk,rfl,K,G,q⟩:=hrel;have t:=R.grown q Yv (by intro j hj;cases hj;omega);have t0:=q.cell s0 Yu;have t1:=q.cell s1 Yu;have zC:=q.size;by_cases hlt:k<h.length
  .obtain⟨b,off,ha,hb,N⟩:=(u.below t).at hlt;subst ha;have H:=Yw (Zv hlt);obtain⟨c0,c1,c2,ra,rc,c3,_⟩:=N k _ H.o;obtain⟨b',Z,T,_,D⟩:=u.at hlt;cases T;obtain⟨_,_,_,g,c,A,E⟩:=D k _ H.o;have X:g=ra/\c=rc:=by have:=(t.cell (p:=⟨b,off+k *4+3,none⟩) hb).trans A;rw[c3]at this;simp at this;exact⟨this.1.symm,this.2.symm⟩
   obtain⟨rfl,rfl⟩:=X;have Y:=F _ (List.getElem_mem hlt);have zA:b<wr.heap.size:=Yv
   have HR:=Yw E;clear N D E A F u;generalize h[k]=x at *
   go_wp2;have C:Below wr.heap.size wr (wr.alloc (Obj.cells #[Value.string x.sum,Value.int IntKind.i64 x.born,Value.string x.E,Value.slice g x.B.length c] 37)):=Zy
   have hT:FS wr w.heap.size (.map (some (w.heap.size+1+1))) (.string x.sum) (Zg x.born) (.string x.E) (.slice g x.B.length c) (wr.alloc (Obj.cells #[Value.string x.sum,Value.int IntKind.i64 x.born,Value.string x.E,Value.slice g x.B.length c] 37)):=⟨(C.cell (p:=⟨w.heap.size+1+1+1,1,none⟩) Yt).trans t1,Yu,Yu,Yu,Yu⟩
   have B:FS wr w.heap.size (.map (some (w.heap.size+1+1))) (.string x.sum) (Zg x.born) (.string x.E) (.slice g x.B.length c) (wr.alloc (Obj.cells #[Value.string x.sum,Value.int IntKind.i64 x.born,Value.string x.E,Value.slice g x.B.length c] 37)).drew:=hT
   go_region_held3 (fun y=>y.cell? (Zd (w.heap.size+1+1+1) 1)=some (.map (some (w.heap.size+1+1)))/\y.cell? (Zd (wr.heap.size) 0)=some (.string x.sum)/\y.cell? (Zd (wr.heap.size) 1)=some (Zg x.born)/\y.cell? (Zd (wr.heap.size) 2)=some (.string x.E)/\y.cell? (Zd (wr.heap.size) 3)=some (.slice g x.B.length c))
    (first|exact M|exact I|exact B)
    (first
    |(go_at_call 21;refine(Ef x.sum _).mono ?_;rintro e O ⟨rfl,z⟩;have I:FS wr w.heap.size (.map (some (w.heap.size+1+1))) (.string x.sum) (Zg x.born) (.string x.E) (.slice g x.B.length c) O:=FS.af B z Yt Yu;have s:Below wr.heap.size wr O:=C.drew.trans (z.mono Yu);obtain⟨w3,hup,hm3,hg3⟩:=(K.o.af s Yv).put keyed underlying62 (val:=CE x g c) Yp (CD x.sum);have M:FS wr w.heap.size (.map (some (w.heap.size+1+1))) (.string x.sum) (Zg x.born) (.string x.E) (.slice g x.B.length c) w3:=FS.grown I hg3 Yu Yt;unfold CE at hup))
   all_goals
    have U:=Am q (Am (Ae _ s) hg3);have HN:Hid (Holds w w.heap.size n (h.take (k+1)) (upd f (keyL x.sum) (CE x g c))):=by have:=G.o.snoc (rc:=c) Y h8 HR.o;rw[List.take_add_one,H.o];exact this
    have Q:=Yw hm3;clear hm3 hup I M hg3 s z;go_wp2;exact⟨⟨k+1,_,Yv,Yo,Q,HN,U⟩,by simp[intOf];omega⟩
  .have p0:=q.cell r0 Yu;have p1:=q.cell r1 Yu;have pf:∀j,wr.frozen? ⟨w.heap.size+1,j,none⟩=false:=fun j=>(q.frozen_far ⟨w.heap.size+1,j,none⟩ Yt Yu).trans (rf j);rw[Zt Yv]at G;obtain rfl:k=h.length:=Yv
   go_wp2;refine bodyPost_ret (v:=.agg #[Zg n,.map (some (w.heap.size+1+1))]) (by simp[results,results30,go_sem,p0,p1]) rfl ⟨_,f,rfl,Yv,?_,G.o,?_⟩
   .exact(AP.setCell (AP.setCell K.o Yu _) Yu _)
   .exact(t.setCell Yu _).setCell Yu _
def FD(b m:Nat)(s:Zi)(v:Value)(w':Zh):Prop:=
 w'.cell? (Zd b 1)=some (.map (some m))/\(Instr.lookup 62 (.map (some m)) (En s) true).run prog w'=.ok v w'
theorem FD.of{W a:Zh}{m:Nat}{f:Lit->Option Value}(e:W.cell? (Zd b 1)=some (.map (some m)))(c:AP W 52 m n f)(d:b<B)(g:m<B)(h:Below B W a):
 FD b m s (.tuple #[(f (keyL s)).getD (.agg #[Zc,Ze,Zc,Zb]),.bool (f (keyL s)).isSome]) a:=
 ⟨(h.cell (p:=⟨b,1,none⟩) d).trans e,(c.af h g).look_ok keyed underlying62 (Kp _) (CD s)⟩
theorem Mi(J:Int)(m n:Nat)(f:Lit->Option Value)(s:Zi)(w:Zh)(B:AP w 52 m n f)(hs:(s.size:Int)=J)(u:Zi)(q:Int)(t:Zi)(I:Value)(ok:Bool)(U:(∃a l c,I=.slice a l c))(L:(f (keyL s)).getD (.agg #[Zc,Ze,Zc,Zb])=.agg #[.string u,Zg q,.string t,I])(A:(f (keyL s)).isSome=ok):
 Calls prog 56 #[.agg #[Zg J,.map (some m)],.string s] w fun e k=>e=.returned (.tuple #[.agg #[.string u,Zg q,.string t,I],.bool ok])/\Zz w k:=by
 obtain⟨F,G,H,rfl⟩:=U;have T:=B.lt;have S:∀M N,Zz w ((w.alloc M).alloc N):=fun M N=>(Zy).alloc Yu _;go_enter func56,ntmps56;go_wp2;obtain⟨W,i⟩:∃W,W=(w.alloc (Obj.cells #[Value.int IntKind.i64 J,Value.map (some m)] 64)).alloc (Obj.cells #[Value.string ⟨#[]⟩,Value.int IntKind.i64 0,Value.string ⟨#[]⟩,Value.slice none 0 0] 37):=⟨_,rfl⟩;have hz:W.heap.size=w.heap.size+1+1:=by rw[i];simp
 have y:Below w.heap.size w W:=by rw[i];exact S _ _
 have Z:W.cell? (Zd (w.heap.size) 1)=some (.map (some m)):=by rw[i];simp[go_sem]
 have r0:∃v,W.cell? (Zd (w.heap.size+1) 0)=some v:=by rw[i];simp[go_sem]
 have C:∃v,W.cell? (Zd (w.heap.size+1) 1)=some v:=by rw[i];simp[go_sem]
 have D:∃v,W.cell? (Zd (w.heap.size+1) 2)=some v:=by rw[i];simp[go_sem]
 have E:∃v,W.cell? (Zd (w.heap.size+1) 3)=some v:=by rw[i];simp[go_sem]
 have rf:∀j,W.frozen? ⟨w.heap.size+1,j,none⟩=false:=fun j=>by rw[i];simp[go_sem]
 obtain⟨v0,r0⟩:=r0;obtain⟨v1,C⟩:=C;obtain⟨v2,D⟩:=D;obtain⟨v3,E⟩:=E;have K:∀k,Zz W k->FD w.heap.size m s (.tuple #[.agg #[.string u,Zg q,.string t,.slice F G H],.bool ok]) k:=fun k h=>by have:=FD.of (s:=s) Z (B.af y T) Yv Yv h;rw[L,A]at this;exact this
 have o:=Yw K;have r:w.heap.size+1<W.heap.size:=Yv
 have zA:w.heap.size<W.heap.size:=Yv
 rw[<-i];clear i K L A B hz;go_region_held3 (fun k=>k.cell? (Zd (w.heap.size) 1)=some (.map (some m))/\(Instr.lookup 62 (.map (some m)) (En s) true).run prog k=.ok (.tuple #[.agg #[.string u,Zg q,.string t,.slice F G H],.bool ok]) k)
  (first
    |exact o.o _ b
    |exact o.o _ (b.alloc (Zm (Zx) b.size) _)
    |exact o.o _ ((Below.refl _ _).drew.alloc Yu _)
    |exact o.o _ (Below.refl _ _).drew
    |exact o.o _ ((((b.setCell Yu _).setCell Yu _).setCell Yu _).setCell Yu _)
    |exact o.o _ (b.alloc b.size _))
  (first
    |(go_at_call 21;refine(Ef s W.drew).mono ?_;rintro e g ⟨rfl,d⟩;have b:Below W.heap.size W g:=(Below.refl _ _).drew.trans (d.mono Yu);have V:=b.size)
    |(go_at_call 21;refine(Ef s (W.alloc _).drew).mono ?_;rintro e g ⟨rfl,d⟩;have b:Below W.heap.size W g:=(Zy).drew.trans (d.mono Yu);have V:W.heap.size<g.heap.size:=(by have:=d.size;simp at this;omega);have n0:g.cell? (Zd (W.heap.size) 0)=some Zc:=(by rw[d.cell (p:=⟨W.heap.size,0,none⟩) Yu];simp[go_sem]);have n1:g.cell? (Zd (W.heap.size) 1)=some Ze:=(by rw[d.cell (p:=⟨W.heap.size,1,none⟩) Yu];simp[go_sem]);have n2:g.cell? (Zd (W.heap.size) 2)=some Zc:=(by rw[d.cell (p:=⟨W.heap.size,2,none⟩) Yu];simp[go_sem]);have n3:g.cell? (Zd (W.heap.size) 3)=some Zb:=(by rw[d.cell (p:=⟨W.heap.size,3,none⟩) Yu];simp[go_sem]);have nf:∀j,g.frozen? ⟨W.heap.size,j,none⟩=false:=(fun j=>by rw[d.frozen (p:=⟨W.heap.size,j,none⟩) Yu];simp[go_sem])))
 all_goals
  have O:=(b.cell (p:=⟨w.heap.size+1,0,none⟩) r).trans r0;have P:=(b.cell (p:=⟨w.heap.size+1,1,none⟩) r).trans C;have Q:=(b.cell (p:=⟨w.heap.size+1,2,none⟩) r).trans D;have R:=(b.cell (p:=⟨w.heap.size+1,3,none⟩) r).trans E;have pf:∀j,g.frozen? ⟨w.heap.size+1,j,none⟩=false:=fun j=>(b.frozen (p:=⟨w.heap.size+1,j,none⟩) r).trans (rf j);have z:=y.trans (b.mono Yv)
  have x:w.heap.size+1<g.heap.size:=Yv
  have X:¬W.heap.size=w.heap.size+1:=Yv
  have Y:¬w.heap.size+1=W.heap.size:=Yv
  clear d o;go_wp2;refine bodyPost_ret (v:=.tuple #[.agg #[.string u,Zg q,.string t,.slice F G H],.bool ok]) (by first|(simp[results,results56,go_sem,O,P,Q,R];done)|(simp[results,results56,go_sem,O,P,Q,R,x];done)) rfl ⟨rfl,?_⟩
  first
   |(have zB:=nf 0;exact((((((((z.setCell Yt _).setCell Yt _).setCell Yt _).setCell Yt _).setCell Yu _).setCell Yu _).setCell Yu _).setCell Yu _))
   |exact(((((z.setCell Yu _).setCell Yu _).setCell Yu _).setCell Yu _).alloc Yt _)
theorem Uv(a:Int)(m:Nat)(s:Zi)(w:Zh)(b:¬(s.size:Int)=a):
 Calls prog 56 #[.agg #[Zg a,.map (some m)],.string s] w fun e c=>e=.returned (.tuple #[.agg #[Zc,Ze,Zc,Zb],.bool false])/\Zz w c:=by
 have d:((s.size:Int)==a)=false:=by simpa using b
 go_enter func56,ntmps56;go_wp2;refine bodyPost_ret (v:=.tuple #[.agg #[Zc,Ze,Zc,Zb],.bool false]) (by simp[results,results56,go_sem]) rfl ⟨rfl,?_⟩;exact(Zy).alloc Yu _
structure Found (ks:List Kd) (s:Zi) (bo:Int) (ok:Bool):Prop where
 no:ok=false->¬Aw ks s
 yes:ok=true->∃x∈ks,x.sum=s/\x.born=bo
theorem KT(b:Int)(m n:Nat)(f:Lit->Option Value)(j:List Kd)(W:Zh)(B:Nat)(s:Zi)(w:Zh)(d:AP w 52 m n f)(v:Holds W B b j f)(q:∀k∈j,(k.sum.size:Int)=b):
 ∃u l t A C D ok,Found j s l ok/\∀a,Zz w a->Calls prog 56 #[.agg #[Zg b,.map (some m)],.string s] a fun e r=>e=.returned (.tuple #[.agg #[.string u,Zg l,.string t,.slice A C D],.bool ok])/\Zz a r:=by
 by_cases hs:(s.size:Int)=b
 .rcases v s hs with⟨c,g⟩|⟨x,y,z,c,g,o,_⟩
  .exact⟨⟨#[]⟩,0,⟨#[]⟩,none,0,0,false,⟨fun _=>g,fun h=>by cases h⟩,fun a i=>Mi b m n f s a (d.af i d.lt) hs _ _ _ _ _ ⟨_,_,_,rfl⟩ (by rw[c];rfl) (by rw[c];rfl)⟩
  .exact⟨x.sum,x.born,x.E,y,x.B.length,z,true,⟨fun h=>by(cases h),fun _=>⟨x,c,g,rfl⟩⟩,fun a i=>Mi b m n f s a (d.af i d.lt) hs _ _ _ _ _ ⟨_,_,_,rfl⟩ (by rw[o];rfl) (by rw[o];rfl)⟩
 .exact⟨⟨#[]⟩,0,⟨#[]⟩,none,0,0,false,⟨fun _ ⟨x,hx,e⟩=>hs (by rw[<-e];exact q x hx),fun h=>by cases h⟩,fun a _=>Uv b m s a hs⟩
theorem GF(b:Int)(m n:Nat)(f:Lit->Option Value)(d:List Kd)(W:Zh)(B:Nat)(s:Zi)(w:Zh)(q:AP w 52 m n f)(o:Holds W B b d f)(l:∀k∈d,(k.sum.size:Int)=b):
 ∃ok,(ok=true↔Aw d s)/\∀a,Zz w a->Calls prog 38 #[.agg #[Zg b,.map (some m)],.string s] a fun e v=>e=.returned (.bool ok)/\Zz a v:=by
 obtain⟨u,A,t,C,D,E,ok,c,j⟩:=KT b m n f d W B s w q o l;refine⟨ok,⟨fun h=> ?_,fun h=> ?_⟩,fun a r=> ?_⟩
 .obtain⟨x,z,e,_⟩:=c.yes h;exact⟨x,z,e⟩
 .cases ok with
  |true=>rfl
  |false=>exact absurd h (c.no rfl)
 .have g:Below a.heap.size a (a.alloc (.cells #[Zg b,.map (some m)] 64)):=Zy;have y:=Yw (j _ (r.trans (g.mono r.size)));clear j q o l c;go_enter func38,ntmps38;go_wp2_with fail;refine Calls.mono y.o ?_;rintro e F ⟨rfl,i⟩;go_wp2;go_ret;exact⟨rfl,(g.trans (i.mono Yu)).alloc (by have:=i.size;simp at this;omega) _⟩
end
section
attribute [local go_sem↓] Go.wp_at_zero Go.wp_at_succ
section
open Go.WideElems Go.MapKept Go.ChangeMaps
theorem Hf(w:Zh)(b:Nat)(x y:Obj):setBlock (setBlock w b x) b y=setBlock w b y:=by simp[setBlock]
theorem GH{d:Array MapEntry}(val:Value)(c:f.heap[b]?=some (.map d clock))(a:d.findIdx? (fun e=>((e.born:Nat):Int)==((g:Nat):Int))=some i):
 (Instr.entryStore t (.map (some b)) (goInt g) val).run P f=.ok () (setBlock f b (.map (d.modify i (fun e=>{e with val:=val})) clock)):=by
 simp[Instr.entryStore,MapKept.run_getObj_map c,asInt,asIntOf,goInt,a,MapKept.run_setObj_map _ c,Result.andThen,setBlock]
theorem Mj{H:Type}{k:TypeId}{R:Value->Option (DataW H×List MemPlace)}{f:Array MapEntry}(K:Maps.Keyed P k)(o:P.underlying t=some (.map k e))(B:∀u:Zh,(zeroValue e).run P u=.ok z u)(g:w.heap[b]?=some (.map f clock))(F:Fit P k R f clock){key:Value}{J:Lit}(d:keyOf P k key=some J):
 ∃(v0:Value) (st:Nat) (w3:Zh),(Instr.mapEntry t (.map (some b)) key).run P w=.ok (.tuple #[v0,goInt st]) w3/\(Instr.lookup t (.map (some b)) key false).run P w=.ok v0 w/\(Instr.mapUpdate t (.map (some b)) key v0).run P w=.ok () w3/\
  ∀val:Value,∃D,(Instr.entryStore t (.map (some b)) (goInt st) val).run P w3=.ok () D/\(Instr.mapUpdate t (.map (some b)) key val).run P w=.ok () D:=by
 obtain⟨L,C,_⟩:=F.stamped;rcases K.find w d f.toList F.keys with⟨h,i⟩|⟨j,e0,h,i,r⟩
 .have y:(setBlock w b (.map (f.push ⟨key,z,clock⟩) (clock+1))).heap[b]?=some (.map (f.push ⟨key,z,clock⟩) (clock+1)):=heap_setBlock_same g _;refine⟨z,clock,setBlock w b (.map (f.push ⟨key,z,clock⟩) (clock+1)),?_,?_,?_,fun val=>⟨setBlock w b (.map (f.push ⟨key,val,clock⟩) (clock+1)),?_,?_⟩⟩
  .simp[Instr.mapEntry,run_underlying o,MapKept.run_getObj_map g,K.check w false d,h,B,MapKept.run_setObj_map _ g,Result.andThen,setBlock]
  .simp[Instr.lookup,run_underlying o,MapKept.run_getObj_map g,K.check w _ d,h,B,Result.andThen]
  .simp[Instr.mapUpdate,run_underlying o,MapKept.run_getObj_map g,K.check w false d,h,MapKept.run_setObj_map _ g,Result.andThen,setBlock]
  .have m:(f.push ⟨key,z,clock⟩).findIdx? (fun e=>((e.born:Nat):Int)==((clock:Nat):Int))=some f.size:=by
    rw[findIdx_arr];have:=findIdx_born (l:=(f.push ⟨key,z,clock⟩).toList) (j:=f.size) (e0:=⟨key,z,clock⟩) (by
     simp only[Array.toList_push,List.map_append,List.map_cons,List.map_nil];refine List.nodup_append.2 ⟨C,Yu,fun a E c G M=> ?_⟩;simp only[List.mem_singleton]at G;obtain⟨x,I,rfl⟩:=List.mem_map.1 E;have:=L x I;omega) Yu
    exact this
   have n:(f.push ⟨key,z,clock⟩).modify f.size (fun e=>{e with val:=val})=f.push ⟨key,val,clock⟩:=by apply Array.ext';rw[Array.toList_modify,Array.toList_push,Array.toList_push,<-Array.length_toList,modify_last]
   rw[GH val y m,Hf,n]
  .simp[Instr.mapUpdate,run_underlying o,MapKept.run_getObj_map g,K.check w false d,h,MapKept.run_setObj_map _ g,Result.andThen,setBlock]
 .have A:f[j]?=some e0:=by simpa using i
  have s:f.modify j (fun e=>{e with key:=key})=f:=by
   apply Array.ext';rw[Array.toList_modify,modify_eq_set _ _ _ _ i];have:({e0 with key:=key}:MapEntry)=e0:=by rw[<-r]
   rw[this];exact set_self _ _ _ i
  have q:f.modify j (fun v=>{v with key:=key,val:=e0.val})=f:=by
   apply Array.ext';rw[Array.toList_modify,modify_eq_set _ _ _ _ i];have:({e0 with key:=key,val:=e0.val}:MapEntry)=e0:=by rw[<-r]
   rw[this];exact set_self _ _ _ i
  have y:(setBlock w b (.map f clock)).heap[b]?=some (.map f clock):=heap_setBlock_same g _;refine⟨e0.val,e0.born,setBlock w b (.map f clock),?_,?_,?_,fun val=>⟨setBlock w b (.map (f.modify j (fun v=>{v with key:=key,val:=val})) clock),?_,?_⟩⟩
  .simp[Instr.mapEntry,run_underlying o,MapKept.run_getObj_map g,K.check w false d,h,A,r,K.stays w d,s,MapKept.run_setObj_map _ g,Result.andThen,setBlock]
  .simp[Instr.lookup,run_underlying o,MapKept.run_getObj_map g,K.check w _ d,h,Result.andThen]
  .simp[Instr.mapUpdate,run_underlying o,MapKept.run_getObj_map g,K.check w false d,h,A,r,K.stays w d,q,MapKept.run_setObj_map _ g,Result.andThen,setBlock]
  .have m:f.findIdx? (fun e=>((e.born:Nat):Int)==((e0.born:Nat):Int))=some j:=by rw[findIdx_arr];exact findIdx_born C i
   have n:f.modify j (fun e=>{e with val:=val})=f.modify j (fun v=>{v with key:=key,val:=val}):=by apply Array.ext';rw[Array.toList_modify,Array.toList_modify,modify_eq_set _ _ _ _ i,modify_eq_set _ _ _ _ i,<-r]
   rw[GH val y m,Hf,n]
  .simp[Instr.mapUpdate,run_underlying o,MapKept.run_getObj_map g,K.check w false d,h,A,r,K.stays w d,MapKept.run_setObj_map _ g,Result.andThen,setBlock]
end
def Br(w:Zh)(K:TypeId)(b n c:Nat)(f:Lit->Option Value):Prop:=
 ∃D:DataW Value,w.ownsMap prog K Nd b n D/\(∀kl z,D.atKey kl (.held z)=.held ((f kl).getD z))/\(∀kl,Maps.has D kl=(f kl).isSome)/\Maps.Tidy D/\Maps.size D=c
theorem Br.map{f:Lit->Option Value}(h:Br w K b n c f):AP w K b n f:=let ⟨D,h1,h2,h3,_⟩:=h;⟨D,h1,h2,h3⟩
theorem Br.new(w:Zh)(K:TypeId):Br (w.alloc (.map #[] 0)) K w.heap.size 0 0 (fun _=>none):=
 ⟨.map [],World.ownsMap_made _ _ _ _,fun _ _=>rfl,fun _=>rfl,Maps.tidy_empty,rfl⟩
theorem Br.af{a:Zh}{f:Lit->Option Value}(h:Br w K b n c f)(k:Below B w a)(j:b<B):Br a K b n c f:=by obtain⟨D,⟨d,clock,e,g⟩,i⟩:=h;exact⟨D,⟨d,clock,(k.block b j).trans e,g⟩,i⟩
theorem Br.lt{f:Lit->Option Value}(h:Br w K b n c f):b<w.heap.size:=h.choose_spec.1.lt
theorem Br.len{f:Lit->Option Value}(h:Br w K b n c f)(i:prog.underlying t=some (.map K e))(a:TypeId):(Builtin.len_ #[t] a #[.map (some b)]).run prog w=.ok (Zg c) w:=by obtain⟨D,d,_,_,_,g⟩:=h;rw[<-g];exact d.len i a
theorem Br.put{f:Lit->Option Value}(h:Br w K b n c f)(q:Maps.Keyed prog K)(C:prog.underlying t=some (.map K e))(y:n<maxLen){k val:Value}{g:Lit}(a:keyOf prog K k=some g):
 ∃i,(Instr.mapUpdate t (.map (some b)) k val).run prog w=.ok () i/\Br i K b (n+1) (if (f g).isSome then c else c+1) (upd f g val)/\w.grownBy i (some b):=by
 obtain⟨D,l,s,m,o,u⟩:=h;obtain⟨i,B,A,v⟩:=l.update q C y a (d:=.held val) (ps:=[]) (val:=val) rfl;have r:=l.isMap;have j:=q.key a;refine⟨i,B,⟨_,A,fun x z=> ?_,fun x=> ?_,o.put j _,?_⟩,v⟩
 .by_cases hx:x=g
  .subst hx;rw[Maps.atKey_put_same r j,CG];rfl
  .rw[Maps.atKey_put_other hx,CO _ _ hx];exact s x z
 .by_cases hx:x=g
  .subst hx;rw[Maps.has_put_same r j,CG];rfl
  .rw[Maps.has_put_other hx,CO _ _ hx];exact m x
 .rw[Maps.size_put o,m,u]
theorem Br.ia{f:Lit->Option Value}(h:Br w K b n c f)(k:Maps.Keyed prog K)(l:prog.underlying t=some (.map K e))(A:n<maxLen)(x:∀u:Zh,(zeroValue e).run prog u=.ok z u){j:Value}{g:Lit}(a:keyOf prog K j=some g)(val:Value):
 ∃o d m,(Instr.mapEntry t (.map (some b)) j).run prog w=.ok (.tuple #[(f g).getD z,goInt o]) d/\(Instr.lookup t (.map (some b)) j false).run prog w=.ok ((f g).getD z) w/\(Instr.lookup t (.map (some b)) j false).run prog d=.ok ((f g).getD z) d/\
  (Instr.entryStore t (.map (some b)) (goInt o) val).run prog d=.ok () m/\Br m K b (n+1) (if (f g).isSome then c else c+1) (upd f g val)/\w.grownBy d (some b)/\w.grownBy m (some b):=by
 have v:=h;obtain⟨D,⟨Q,clock,L,F,W,V⟩,R,S,T,U⟩:=h;obtain⟨v0,o,d,M,y,N,I⟩:=Mj k l x L F a;have q:=v.map.look k l (x w) a;rw[y]at q;cases q;obtain⟨m,H,J⟩:=I val;obtain⟨O,s,E,B⟩:=v.put k l A a (val:=(f g).getD z);rw[N]at s;cases s;obtain⟨P,i,G,C⟩:=v.put k l A a (val:=val);rw[J]at i;cases i;have r:=E.map.look k l (x d) a;rw[CG]at r;exact⟨o,d,m,M,y,r,H,G,B,C⟩
structure MK (ms:Zl) (f:Lit->Option Value) (c:Nat):Prop where
 has:∀l,(f l).isSome=true↔l∈ms.map keyL
 H:∀l v,f l=some v->∃n:Int,v=Zg n/\1<=n/\n<=ms.length
 le:c<=ms.length
 all:c=ms.length↔(ms.map keyL).Nodup
theorem MK.nil:MK [] (fun _=>none) 0:=⟨fun l=>Yu,fun l v h=>(by simp at h),Zx,Yu⟩
theorem MK.get{a:Zl}{f:Lit->Option Value}(h:MK a f c)(l:Lit):∃n:Int,(f l).getD Ze=Zg n/\0<=n/\n<=a.length/\(0<n↔l∈a.map keyL):=by
 cases hf:f l with
 |none=>refine⟨0,rfl,Int.le_refl _,Yv,?_⟩;have:=h.has l;rw[hf]at this;simp at this |-;exact this
 |some v=>obtain⟨n,rfl,d,b⟩:=h.H l v hf;have:=h.has l;rw[hf]at this;exact⟨n,rfl,Yv,b,⟨fun _=>this.1 rfl,fun _=>by omega⟩⟩
theorem MK.snoc{g:Zl}{f:Lit->Option Value}(h:MK g f c)(x:Zi){n:Int}(u:0<=n)(y:n<=g.length):
 MK (g++[x]) (upd f (keyL x) (Zg (n+1))) (if (f (keyL x)).isSome then c else c+1):=by
 have k:=h.has (keyL x);refine⟨fun l=> ?_,fun l v d=> ?_,?_,?_⟩
 .by_cases e:l=keyL x
  .subst e;rw[CG];simp
  .rw[CO _ _ e,h.has l];simp only[List.map_append,List.map_cons,List.map_nil,List.mem_append,List.mem_singleton];exact⟨fun h=> .inl h,fun h=>h.resolve_right e⟩
 .by_cases e:l=keyL x
  .subst e;rw[CG]at d;cases d;exact⟨n+1,rfl,Yv,Yt⟩
  .rw[CO _ _ e]at d;obtain⟨m,o,q,t⟩:=h.H l v d;exact⟨m,o,q,Yt⟩
 .have:=h.le;split<;>simp<;>omega
 .have s:=h.le;have i:=h.all;rw[List.map_append,List.map_cons,List.map_nil,List.length_append];by_cases hm:keyL x∈g.map keyL
  .rw[if_pos (k.2 hm)];constructor
   .intro e;simp at e;omega
   .intro e;have:=(List.nodup_append.1 e).2.2 _ hm _ Yu rfl;cases this
  .rw[if_neg (fun e=>hm (k.1 e))];constructor
   .intro e;refine List.nodup_append.2 ⟨i.1 (by simp at e;omega),Yu,fun a r b j e=> ?_⟩;simp at j;subst j;subst e;exact hm r
   .intro e;have:=i.2 (List.nodup_append.1 e).1;simp;omega
theorem Ia{a:Int}(b:0<=a)(c:a<=2000000000):IntKind.i64.wrap a=a:=by unfold IntKind.wrap;simp[IntKind.signed,IntKind.bits];omega
theorem EO(w:Zh):(zeroValue 3).run prog w=.ok Ze w:=Ys
end
structure Ag (W:Zh) where
 w:Zh
 h:Below W.heap.size W w
theorem Ag.ne(W:Zh):Nonempty (Ag W):=⟨⟨W,Below.refl _ _⟩⟩
theorem Ag.cell{W:Zh}{o:Nat}(c:W.cell? (Zd b o)=some v)(a:b<W.heap.size)(n:Ag W):n.w.cell? (Zd b o)=some v:=(n.h.cell (p:=⟨b,o,none⟩) a).trans c
theorem Ag.size{W:Zh}(n:Ag W):W.heap.size<=n.w.heap.size:=n.h.size
def Ag.next{W:Zh}(n:Ag W){w':Zh}(h:Below n.w.heap.size n.w w'):Ag W:=⟨w',n.h.trans (h.mono n.h.size)⟩
theorem PE{c:Array Oper}{Q:Exit->Act->Zh->Prop}{a:Act}(g:P.follows .mixedOrders=true)(f:Region.lexB .any c=true)(h:wpQuiet P c (fun d=>∃n:Ag w,d=n.w) (fun b=>∀n:Ag w,Q .normal b n.w) c.toList a):(Code.region i c true).wp P Q a w:=by
 refine wp_region_quiet (C:=fun d=>∃n:Ag w,d=n.w) g f ⟨⟨_,(Below.refl _ _).drew⟩,rfl⟩ ?_;have e:(fun b=>∀d,(∃n:Ag w,d=n.w)->Q .normal b d)=(fun b=>∀n:Ag w,Q .normal b n.w):=by
  funext b
  exact propext ⟨fun h n=>h _ ⟨n,rfl⟩,fun h _ ⟨n,e⟩=>e▸h n⟩
 rw[e];exact h
theorem Aj{l:List Oper}{e:Nat}{Q:Exit->Act->Zh->Prop}{a:Act}(d:P.follows .mixedOrders=true)(c:Region.lexB .any l.toArray=true)(h:wpQuiet P l.toArray (fun f=>∃n:Ag w,f=n.w) (fun b=>∀n:Ag w,Q .normal b n.w) l a):(Code.region e l.toArray true).wp P Q a w:=
 PE d c (by simpa using h)
theorem Ag.calls{f:FuncId}{args:Array Value}{W:Zh}{n:Ag W}(h:Calls P f args n.w fun e b=>e=.returned v/\Below n.w.heap.size n.w b):
 Calls P f args n.w fun e a=>e=.returned v/\∃m:Ag W,a=m.w:=
 h.mono fun _ _ ⟨he,hb⟩=>⟨he,n.next hb,rfl⟩
theorem Dq(t:Zi)(a:Zl)(b:Int):(AB t a b).size<=maxLen:=by
 unfold AB;split
 .rename_i h
  have h:=AX h;have c:=h.bp;have d:=h.E;have:(ByteArray.mk (BG t a).toArray).size=1+(bn a+t.size):=by show(BG t a).toArray.size=_;simp only[List.size_toArray,BG,List.length_cons,List.length_append,Dh,Array.length_toList];show _+t.size+1=_;omega
  rw[this];unfold maxLen;omega
 .simp[maxLen]
theorem II(t:Zi)(a:Zk)(cap:Nat)(b:Zl)(d:Int)(w:Zh)(c:Ab w w.heap.size a b)(g:b.length<=1048576)(h:t.size<=maxLen):
 Calls prog 54 #[.agg #[.string t,.slice a b.length cap],Zg d] w fun e f=>e=.returned (.bool (Ay t b d))/\Zz w f:=by
 refine(EU t a cap b d w c g h).mono ?_;rintro e f ⟨rfl,rfl⟩;exact⟨rfl,Zy⟩
theorem wrap_small{a:Int}(b:0<=a)(c:a<=1048576):IntKind.i64.wrap a=a:=by unfold IntKind.wrap;simp[IntKind.signed,IntKind.bits];omega
theorem Ib(w:Zh)(n:Nat)(a:Addr):(w.drewN n).cell? a=w.cell? a:=rfl
theorem Ic(w:Zh)(n:Nat):(w.drewN n).heap.size=w.heap.size:=rfl
def PF(w:Zh)(wd:Int)(m:Nat)(ks:List Kd)(s:Zi):Prop:=
 ∃ok,(ok=true↔Aw ks s)/\∀w',Zz w w'->Calls prog 38 #[.agg #[Zg wd,.map (some m)],.string s] w' fun e w''=>e=.returned (.bool ok)/\Zz w' w''
def Aq(P:Prop)(w0 w:Zh)(e:Ending):Prop:=∃b,e=.returned (.bool b)/\(b=true↔P)/\Zz w0 w
theorem Aq.yes{P:Prop}{a:Zh}(h:P)(b:Zz a w):Aq P a w (.returned (.bool true)):=⟨_,rfl,by simpa using h,b⟩
theorem Aq.no{P:Prop}{a:Zh}(h:¬P)(b:Zz a w):Aq P a w (.returned (.bool false)):=⟨_,rfl,by simpa using h,b⟩
theorem Fq{a:Int}(b:0<=a)(c:a<=2000000000):IntKind.i64.wrap a=a:=by unfold IntKind.wrap;simp[IntKind.signed,IntKind.bits];omega
def Vm(w:Zh)(wd:Int)(m:Nat)(ks:List Kd)(s:Zi):Prop:=
 ∃u bo t sa sb sc ok,Found ks s bo ok/\∀w',Zz w w'->Calls prog 56 #[.agg #[Zg wd,.map (some m)],.string s] w' fun e w''=>e=.returned (.tuple #[.agg #[.string u,Zg bo,.string t,.slice sa sb sc],.bool ok])/\Zz w' w''
theorem PG(n:Int)(w:Zh):
 Calls prog 52 #[Zg n] w fun e a=>e=.returned (.bool (decide (1<=n/\n<=8)))/\a=w:=by
 by_cases h1:1<=n
 .by_cases h2:n<=8
  .go_enter func52,ntmps52;go_wp2;go_ret;exact⟨AH (by simp[h1,h2]),rfl⟩
  .have c:decide (n<=8)=false:=by simpa using h2
   go_enter func52,ntmps52;go_wp2;go_ret;exact⟨rfl,rfl⟩
 .have b:decide (1<=n)=false:=by simpa using h1
  go_enter func52,ntmps52;go_wp2;go_ret;exact⟨rfl,rfl⟩
theorem EY(k:Kd)(a:Int)(h:1<=a):((sumOf k a).size:Int)=a:=by
 have e:∀l:List Int,(strOfNums l).size=l.length:=fun l=>by unfold strOfNums;simp[ByteArray.size]
 unfold sumOf Db;rw[e,CP];omega
theorem Ga(n:Int)(w:Zh):
 Calls prog 22 #[Zg n] w fun e a=>e=.returned (.bool (decide (1<=n/\n<=8)))/\a=w:=by
 by_cases h1:1<=n
 .by_cases h2:n<=8
  .go_enter func22,ntmps22;go_wp2;go_ret;exact⟨AH (by simp[h1,h2]),rfl⟩
  .have c:decide (n<=8)=false:=by simpa using h2
   go_enter func22,ntmps22;go_wp2;go_ret;exact⟨rfl,rfl⟩
 .have b:decide (1<=n)=false:=by simpa using h1
  go_enter func22,ntmps22;go_wp2;go_ret;exact⟨rfl,rfl⟩
theorem Fs(s:Zi)(w:Zh):
 Calls prog 21 #[.string s] w fun e a=>e=.returned (.agg (Yl (kB s)))/\Zz w a:=Ef s w
def Cg(s:Zi):Obj:=.cells #[.int .u8 (kB s 0),.int .u8 (kB s 1),.int .u8 (kB s 2),.int .u8 (kB s 3),.int .u8 (kB s 4),.int .u8 (kB s 5),.int .u8 (kB s 6),.int .u8 (kB s 7)] 52
theorem R8.one(w:Zh)(s:Zi):R8 (w.alloc (Cg s)) (w.heap.size+1) (Yz w.heap.size 1 1) [s]:=by
 refine .inr ⟨w.heap.size,0,1,rfl,Yv,fun i t a j b=> ?_⟩;cases i with
 |zero=>
  simp at a;subst a;rw[Nat.zero_mul,Nat.zero_add,Nat.zero_add];unfold Cg;rw[World.cell?_alloc_at _ _ _ _ rfl]
  match j,b with
  |0,_|1,_|2,_|3,_|4,_|5,_|6,_|7,_=>rfl
 |succ i=>simp at a
theorem Bj.alloc{a:Zl}(h:Bj w base v a)(o:Obj):Bj (w.alloc o) base v a:=h.below (Zy)
theorem Ub(w:Zh)(a:Nat)(v:Value)(d:Zl)(k:Bj w a v d)(s:Zi)(l:d.length<=1000000)(e:a<=w.heap.size)(f:TypeId):
 ∃b c,(Builtin.append_ #[71,71] f #[v,Yz w.heap.size 1 1]).run prog (w.alloc (Cg s))=.ok b c/\Bj c a b (d++[s])/\w.grownBy c (Al v)/\(Al b=Al v\/Al b=some (w.heap.size+1)):=by
 obtain⟨b,c,g,h,i,j⟩:=JI (w.alloc (Cg s)) a v d (k.alloc _) _ [s] _ (R8.one w s) Yt Yt f;refine⟨b,c,g,h,(World.grownBy_alloc w (Cg s) (Al v)).trans i,?_⟩;simpa using j
section
theorem AP.block{w':Zh}{f:Lit->Option Value}(h:AP w K b n f)(g:w'.heap[b]?=w.heap[b]?):AP w' K b n f:=by obtain⟨D,⟨a,clock,c,d⟩,e⟩:=h;exact⟨D,⟨a,clock,g.trans c,d⟩,e⟩
section
open Go.WideElems Go.MapKept Go.ChangeMaps
theorem PH(W:Zh)(b:Nat)(o:Obj):W.grownBy (setBlock W b o) (some b):=
 ⟨rfl,rfl,rfl,by simp[setBlock],fun k c a=>by
  have:b≠k:=fun e=>a (by rw[e]);simp[setBlock,this]⟩
theorem AP.entry{f:Lit->Option Value}(h:AP w K b n f)(k:Maps.Keyed prog K)(l:prog.underlying t=some (.map K e))(C:n<maxLen)(E:∀u:Zh,(zeroValue e).run prog u=.ok z u){y:Value}{m:Lit}(a:keyOf prog K y=some m):
 ∃g j,(Instr.mapEntry t (.map (some b)) y).run prog w=.ok (.tuple #[(f m).getD z,goInt g]) j/\w.grownBy j (some b)/\
  ∀W,W.heap[b]?=j.heap[b]? ->∀val,∃A,(Instr.entryStore t (.map (some b)) (goInt g) val).run prog W=.ok () A/\AP A K b (n+1) (upd f m val)/\W.grownBy A (some b):=by
 have B:=h;obtain⟨D,⟨X,clock,O,F,hs,hD⟩,Y,Z⟩:=h;obtain⟨v0,g,j,Q,R,S,L⟩:=Mj k l E O F a;have r:=B.look k l (E w) a;rw[R]at r;cases r;obtain⟨T,x,I,H⟩:=B.put k l C a (val:=(f m).getD z);rw[S]at x;cases x;refine⟨g,j,Q,H,fun W N val=> ?_⟩;obtain⟨w4,v,M⟩:=L val;obtain⟨U,c,J,_⟩:=B.put k l C a (val:=val);rw[M]at c;cases c;obtain⟨V,⟨G,o,d,_⟩,_⟩:=I
 cases hidx:G.findIdx? (fun e=>((e.born:Nat):Int)==((g:Nat):Int))with
 |none=>exfalso;simp[Instr.entryStore,MapKept.run_getObj_map d,asInt,asIntOf,goInt,hidx,Result.andThen]at v
 |some i=>have s:=GH (P:=prog) (t:=t) val d hidx;rw[v]at s;cases s;have q:=N.trans d;refine⟨_,GH val q hidx,J.block ?_,PH _ _ _⟩;rw[heap_setBlock_same q,heap_setBlock_same d]
end
def Cf(E:List (Zi×Zi))(t:Zi):Zl:=E.filterMap (fun p=>if p.1=t then some p.2 else none)
theorem PI(E:List (Zi×Zi))(s r t:Zi):Cf (E++[(s,r)]) t=if s=t then Cf E t++[r]else Cf E t:=by unfold Cf;rw[List.filterMap_append];by_cases h:s=t<;>simp[h]
theorem Mk(E:List (Zi×Zi))(t:Zi):(Cf E t).length<=E.length:=by unfold Cf;exact List.length_filterMap_le _ _
noncomputable def rowV (f:Lit->Option Value) (t:Zi):Value:=(f (keyL t)).getD Zb
structure Lk (w:Zh) (base b n:Nat) (wd:Int) (E:List (Zi×Zi)) (av:List Nat) (f:Lit->Option Value):Prop where
 map:AP w 52 b n f
 row:∀t:Zi,(t.size:Int)=wd->Bj w base (rowV f t) (Cf E t)
 apart:∀s t:Zi,(s.size:Int)=wd->(t.size:Int)=wd->s≠t->∀g,Al (rowV f s)=some g->Al (rowV f t)≠some g
 dt:∀t:Zi,(t.size:Int)=wd->∀g,Al (rowV f t)=some g->g∉av
theorem Lk.af{e:Int}{E:List (Zi×Zi)}{a:List Nat}{f:Lit->Option Value}(h:Lk w base b n e E a f)(c:Zz w d):Lk d base b n e E a f:=
 ⟨h.map.af c h.map.lt,fun t g=>(h.row t g).below c,h.apart,h.dt⟩
theorem Lk.add{X:Zh}{D:Int}{E:List (Zi×Zi)}{I:List Nat}{f:Lit->Option Value}(h:Lk wr i b n D E I f)(hb:b<i)(zI:i<=wr.heap.size)(K:∀q∈I,q<wr.heap.size)(G:wr.grownBy X (some b)){r:Zi}(y:(s.size:Int)=D)(h8:D<=8){T:TypeId}{V:Int}(hE:∀W,W.heap[b]?=X.heap[b]? ->∀P,∃Q,(Instr.entryStore T (.map (some b)) (goInt V) P).run prog W=.ok () Q/\AP Q 52 b (n+1) (upd f (keyL s) P)/\W.grownBy Q (some b)){S:Value}(hx:R8 X X.heap.size S [r])(hlen:E.length<=1000000)(Y:TypeId):
 ∃m o z,(Builtin.append_ #[71,71] Y #[rowV f s,S]).run prog X=.ok m o/\(Instr.entryStore T (.map (some b)) (goInt V) m).run prog o=.ok () z/\
  Lk z i b (n+1) D (E++[(s,r)]) I (upd f (keyL s) m)/\Below b wr z/\(∀q∈I,q≠b->z.heap[q]?=wr.heap[q]? /\o.heap[q]?=wr.heap[q]?)/\wr.heap.size<=z.heap.size:=by
 have F:∀t:Zi,(t.size:Int)=D->∀g,Al (rowV f t)=some g->X.heap[g]?=wr.heap[g]?:=fun t d g c=>by have:=(h.row t d).W c;exact G.block g this.2 (fun e=>by have:=Option.some.inj e;omega)
 have O:∀t:Zi,(t.size:Int)=D->Bj X i (rowV f t) (Cf E t):=fun t d=>(h.row t d).stays G.size (F t d);have zJ:=Mk E s;have zM:=G.size;obtain⟨m,o,hr,R,A,zF⟩:=JI X i (rowV f s) (Cf E s) (O s y) S [r] _ hx Yt Yv Y;have zK:=A.size;have Z:o.heap[b]?=X.heap[b]?:=A.block b Yv (fun e=>by have:=((h.row s y).W e.symm).1;omega);obtain⟨z,zE,zB,B⟩:=hE o Z m;have zG:=B.size
 have l:∀g,Al m=some g->(Al (rowV f s)=some g\/g=X.heap.size):=fun g H=>by
  rcases zF with e|e
  .exact .inl (e▸H)
  .rw[e]at H;exact .inr (Option.some.inj H).symm
 have j:rowV (upd f (keyL s) m) s=m:=by unfold rowV;rw[CG];rfl
 have a:∀t:Zi,(t.size:Int)=D->s≠t->rowV (upd f (keyL s) m) t=rowV f t:=fun t d C=>by unfold rowV;rw[CO];intro e;exact C (key_inj e.symm Yv Yv)
 refine⟨m,o,z,hr,zE,⟨zB,fun t d=> ?_,fun u t J d C g v=> ?_,fun t d g c=> ?_⟩,?_,fun q M N=> ?_,Yv⟩
 .rw[PI];by_cases e:s=t
  .subst e;rw[if_pos rfl,j];exact R.stays zG (fun g L=>by
    have:i<=g:=(R.W L).1;exact B.block g (R.W L).2 (fun e=>by have:=Option.some.inj e;omega))
  .rw[if_neg e,a t d e];refine(O t d).stays Yv (fun g c=> ?_);have zH:=(h.row t d).W c;rw[B.block g Yv (fun e=>by have:=Option.some.inj e;omega)];exact A.block g Yv (fun e2=>h.apart s t y d e g e2.symm c)
 .by_cases eu:s=u
  .subst eu;rw[j]at v;rw[a t d C];intro c;rcases l g v with x|x
   .exact h.apart s t y d C g x c
   .have:=((h.row t d).W c).2;omega
  .rw[a u J eu]at v;by_cases et:s=t
   .subst et;rw[j];intro c;rcases l g c with x|x
    .exact h.apart s u y J eu g x v
    .have:=((h.row u J).W v).2;omega
   .rw[a t d et];exact h.apart u t J d C g v
 .by_cases et:s=t
  .subst et;rw[j]at c;rcases l g c with x|x
   .exact h.dt s y g x
   .intro zA;have:=K g zA;omega
  .rw[a t d et]at c;exact h.dt t d g c
 .have b1:Below b wr X:=(Below.refl _ _).grown G Yv (fun k e=>by cases e;exact Zx);have b2:Below b X o:=(Below.refl _ _).grown A Yv (fun k e=>by have:=((h.row s y).W e).1;omega);have b3:Below b o z:=(Below.refl _ _).grown B Yv (fun k e=>by cases e;exact Zx);exact(b1.trans b2).trans b3
 .have zC:=K q M;have U:o.heap[q]?=wr.heap[q]?:=by rw[A.block q Yv (fun e=>h.dt s y q e.symm M),G.block q zC (fun e=>N (Option.some.inj e))]
  exact⟨(B.block q Yv (fun e=>N (Option.some.inj e))).trans U,U⟩
theorem Lk.new{d:Int}(c:AP w 52 b 0 (fun _=>none)):Lk w a b 0 d [] [] (fun _=>none):=
 ⟨c,fun _ _=> .inl ⟨rfl,rfl⟩,fun _ _ _ _ _ _ h=>(by cases h),fun _ _ _ h=>(by cases h)⟩
theorem Lk.gy{d:Int}{E:List (Zi×Zi)}{j:List Nat}{f:Lit->Option Value}(h:Lk w a b n d E j f)(c:List Nat)(e:∀q∈c,w.heap.size<=q):Lk w a b n d E c f:=
 ⟨h.map,h.row,h.apart,fun t l g k i=>by have:=e g i;have:=((h.row t l).W k).2;omega⟩
theorem Lk.free{c:Int}{E:List (Zi×Zi)}{e:List Nat}{f:Lit->Option Value}(h:Lk w a b n c E e f):Lk w a b n c E [] f:=⟨h.map,h.row,h.apart,fun _ _ _ _ d=>by cases d⟩
end
end Go.Proofs.YtmjlkgpekcnacaaGreat
