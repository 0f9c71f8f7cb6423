import Derived.Test.YtmjlkgpekcnacaaGreatX02
import Derived.Lib.BytesEntry
import Derived.WalkLawsBesides
import Derived.Defers
import Derived.Recover
set_option maxRecDepth 100000
set_option maxHeartbeats 16000000
namespace Go.Proofs.YtmjlkgpekcnacaaGreat
open Go.ChangeShapes Go.WideShapes Go.ChangeAt Go.RowKit _root_.Go.Proofs.Tryz
variable{a w w' W f wr:Zh}{m g B b base size n d i j k R q cap N off:Nat}{c:Zl}{e:TypeId}{s:Zi}{wd now given births:Int}{T P L v O:Value}{V U:List Nat}{ks:List Kd}{ps:List Pd}{ls:List Ld}{x:Ld}
section
attribute [local go_sem↓] Go.wp_at_zero Go.wp_at_succ
theorem Nr{α:Type}(g:Zi->α){a:Zl}{r:Zi}(h:a[m]?=some r):(a.take (m+1)).map g=(a.take m).map g++[g r]:=by obtain⟨b,rfl⟩:=Zw h;rw[Zu b,List.map_append];rfl
theorem Ns(w:Zh):(zeroValue 71).run prog w=.ok Zb w:=Ys
theorem R8.stay1{c:Nat}{ts:Zl}{a:Nat}(h:R8 w B (Yz g ts.length c) ts)(l:w.grownBy w' (some b))(i:g≠b)(f:g<w.heap.size)(j:B<=a):R8 w' a (Yz g ts.length c) ts:=
 (h.stays (fun k e=>by cases e;exact l.block g f (fun e=>i (Option.some.inj e)))).mono j
theorem R8.ff{e:Zh}(r:Zi)(f:(a.alloc (Cg r)).grownBy e (some b))(h:a.heap.size≠b):R8 e e.heap.size (Yz a.heap.size 1 1) [r]:=
 R8.stay1 (ts:=[r]) (g:=a.heap.size) (c:=1) (R8.one a r) f h Yu (by have:=f.size;simp at this;omega)
theorem Aa.same{l:Zj}(h:Aa w B l)(b:w'.heap[B]?=w.heap[B]?):Aa w' B l:=
 fun j v c=>⟨(World.cell?_of_block (a:=⟨B,j,none⟩) b).trans (h j v c).1,(World.frozen?_of_block (a:=⟨B,j,none⟩) b).trans (h j v c).2⟩
theorem Wu(h:w'.heap[B]?=w.heap[B]?)(a:Aa w B (Yk (kB s))):
 w'.cell? (Zd B 0)=some (.int .u8 (kB s 0))/\w'.cell? (Zd B 1)=some (.int .u8 (kB s 1))/\w'.cell? (Zd B 2)=some (.int .u8 (kB s 2))/\w'.cell? (Zd B 3)=some (.int .u8 (kB s 3))/\w'.cell? (Zd B 4)=some (.int .u8 (kB s 4))/\w'.cell? (Zd B 5)=some (.int .u8 (kB s 5))/\w'.cell? (Zd B 6)=some (.int .u8 (kB s 6))/\w'.cell? (Zd B 7)=some (.int .u8 (kB s 7)):=by
 have:=Aa.same a h;exact⟨(this 0 _ rfl).1,(this 1 _ rfl).1,(this 2 _ rfl).1,(this 3 _ rfl).1,(this 4 _ rfl).1,(this 5 _ rfl).1,(this 6 _ rfl).1,(this 7 _ rfl).1⟩
end
theorem Hg(h:Ah w b wd now given births T P L):w.cell? (Zd b 0)=some (Zg wd)/\w.cell? (Zd b 1)=some (Zg now)/\w.cell? (Zd b 2)=some (Zg given)/\w.cell? (Zd b 3)=some (Zg births)/\w.cell? (Zd b 4)=some T/\w.cell? (Zd b 5)=some P/\w.cell? (Zd b 6)=some L:=
 ⟨h.1,h.2.1,h.2.2.1,h.2.2.2.1,h.2.2.2.2.1,h.2.2.2.2.2.1,h.2.2.2.2.2.2.1⟩
def vB(d m:Nat)(O P L:Value):List Nat:=d::m::(O.ownBlock.toList++(P.ownBlock.toList++L.ownBlock.toList))
def PJ(base:Nat)(V:List Nat):Prop:=∃m,V[1]?=some m/\m<base+4
def FT(w:Zh)(base:Nat)(V:List Nat)(a:Zk)(ss:Zl):Prop:=
 ss=[]\/∃b off,a=some ⟨b,off,none⟩/\b<w.heap.size/\b∉V/\((b<base/\PJ base V)\/(base<=b/\∃cur,w.heap[b]?=some (.cells cur 9)))/\∀i s,ss[i]?=some s->w.cell? (Zd b (off+i))=some (.string s)
theorem FT.row{a:Zk}(h:FT w base V a c):Ab w w.heap.size a c:=by
 rcases h with h|⟨b,off,e,f,_,_,g⟩
 .exact .inl h
 .exact .inr ⟨b,off,e,f,g⟩
def Ca(w:Zh)(base:Nat)(V:List Nat)(wd:Int)(ks:List Kd)(f:Lit->Option Value):Prop:=
 ∀s:Zi,(s.size:Int)=wd->(f (keyL s)=none/\¬Aw ks s)\/∃u ra rc,u∈ks/\u.sum=s/\f (keyL s)=some (CE u ra rc)/\FT w base V ra u.B
theorem Ca.of{f:Lit->Option Value}(h:Holds W W.heap.size wd ks f)(g:Zz W w)(n:∀b∈V,W.heap.size<=b)(r:PJ W.heap.size V):Ca w W.heap.size V wd ks f:=by
 intro s e;rcases h s e with h|⟨u,v,x,j,k,l,c⟩
 .exact .inl h
 .refine .inr ⟨u,v,x,j,k,l,?_⟩;rcases c with c|⟨b,off,o,a,q⟩
  .exact .inl c
  .exact .inr ⟨b,off,o,Zr a g.size,fun t=>by have:=n b t;omega,.inl ⟨a,r⟩,fun i s e=>(g.cell (p:=⟨b,off+i,none⟩) a).trans (q i s e)⟩
structure Dr (w:Zh) (base d m:Nat) (O P L:Value) (wd now given births:Int) (ks:List Kd) (ps:List Pd) (ls:List Ld):Prop where
 box:Aa w d [Zg wd,.map (some m),Zg now,Zg given,Zg births,O,P,L]
 map:∃n f,n<=1000000+births.toNat/\AP w 52 m n f/\Ca w base (vB d m O P L) wd ks f
 ord:w.ownsRow base 52 8 O ks.length (Bx (ks.map (·.sum)))
 du:w.ownsRow base 58 2 P ps.length (Ai pC ps)
 gi:w.ownsRow base 61 3 L ls.length (Ai lC ls)
 bd:base<=d
 bm:base<=m
 ap:(vB d m O P L).Nodup
theorem Ca.below{f:Lit->Option Value}(h:Ca w base V wd ks f)(e:Zz w w'):Ca w' base V wd ks f:=by
 intro s g;rcases h s g with h|⟨u,t,v,j,k,l,c⟩
 .exact .inl h
 .refine .inr ⟨u,t,v,j,k,l,?_⟩;rcases c with c|⟨b,off,n,a,r,q,o⟩
  .exact .inl c
  .exact .inr ⟨b,off,n,Zr a e.size,r,(by rw[e.block b a];exact q),fun i s g=>(e.cell (p:=⟨b,off+i,none⟩) a).trans (o i s g)⟩
theorem Ap{b:Zj}(h:w.ownsRow base e size v n b)(i:Zz w w'):w'.ownsRow base e size v n b:=by
 refine⟨h.1,?_⟩;rcases h.2 with j|⟨g,cap,c,k,f,a,rest⟩
 .exact .inl j
 .exact .inr ⟨g,cap,c,k,f,(i.block g (Array.getElem?_eq_some_iff.1 a).1).trans a,rest⟩
theorem Dr.below(h:Dr w base d m O P L wd now given births ks ps ls)(a:Zz w w'):Dr w' base d m O P L wd now given births ks ps ls:=by obtain⟨n,f,c,b,e⟩:=h.map;exact⟨h.box.below a,⟨n,f,c,b.af a b.lt,e.below a⟩,Ap h.ord a,Ap h.du a,Ap h.gi a,h.bd,h.bm,h.ap⟩
theorem Ad{f:Zj}(h:w.ownsRow base e size v n f)(a:v.ownBlock=some g):base<=g/\g<w.heap.size:=by
 rcases h.2 with⟨rfl,_⟩|⟨j,cap,i,rfl,c,b,_⟩
 .cases a
 .cases a;exact⟨c,(Array.getElem?_eq_some_iff.1 b).1⟩
def kC(x:Kd×Value):Zj:=[.string x.1.sum,Zg x.1.born,.string x.1.E,x.2]
theorem Ce(x:Kd×Value):(kC x).length=4:=rfl
structure AY (w:Zh) (base:Nat) (T P L:Value) (rs:Zj) (ks:List Kd) (ps:List Pd) (ls:List Ld):Prop where
 len:rs.length=ks.length
 aj:w.ownsRow base 37 4 T ks.length (Ai kC (ks.zip rs))
 B:∀(i:Nat) (k:Kd) (r:Value),ks[i]?=some k->rs[i]?=some r->w.ownsRow base 9 1 r k.B.length (k.B.map Value.string)
 pins:w.ownsRow base 58 2 P ps.length (Ai pC ps)
 aq:w.ownsRow base 61 3 L ls.length (Ai lC ls)
 nd:((T::P::L::rs).filterMap Value.ownBlock).Nodup
theorem Gq(h:Below B w.drew w'):Below B w w':=⟨h.os,h.tape,h.output,h.size,h.block⟩
theorem Ax{b:Zj}(h:w.ownsRow base e size v n b):∃a c,v=.slice a n c:=by
 rcases h.2 with⟨rfl,rfl⟩|⟨g,cap,f,rfl,_⟩
 .exact⟨_,_,rfl⟩
 .exact⟨_,_,rfl⟩
theorem EP{a:Zj}(h:w.ownsRow base e size v n a)(c:∀g,v.ownBlock=some g->g≠b)(j:Nat)(u:Value):(w.setCell (Zd b j) u).ownsRow base e size v n a:=
 World.ownsRow.kept h (Be w b j u) (.inr (fun e=>c b e rfl))
theorem d8{a i b c e j f g:Value}(h:Aa w d [a,i,b,c,e,j,f,g]):w.cell? (Zd d 0)=some a/\w.cell? (Zd d 2)=some b/\w.cell? (Zd d 3)=some c/\w.cell? (Zd d 4)=some e/\w.cell? (Zd d 6)=some f/\w.cell? (Zd d 7)=some g:=
 ⟨(h 0 _ rfl).1,(h 2 _ rfl).1,(h 3 _ rfl).1,(h 4 _ rfl).1,(h 6 _ rfl).1,(h 7 _ rfl).1⟩
def BO(T P L:Value)(rs:Zj):List Nat:=T.ownBlock.toList++(P.ownBlock.toList++(L.ownBlock.toList++rs.filterMap Value.ownBlock))
theorem Ft(T P L:Value)(a:Zj):(T::P::L::a).filterMap Value.ownBlock=BO T P L a:=by unfold BO;cases hT:T.ownBlock<;>cases hP:P.ownBlock<;>cases hL:L.ownBlock<;>simp[hT,hP,hL]
theorem As{a:Zj}(h:w.ownsRow base e size v n a)(j:∀g,v.ownBlock=some g->w'.heap[g]?=w.heap[g]?):w'.ownsRow base e size v n a:=by
 refine⟨h.1,?_⟩;rcases h.2 with i|⟨g,cap,b,rfl,c,f,rest⟩
 .exact .inl i
 .exact .inr ⟨g,cap,b,rfl,c,(j g rfl).trans f,rest⟩
theorem Gr(b:(ks.map (·.sum)).Nodup){u v:Kd}(c:u∈ks)(e:v∈ks)(h:u.sum=v.sum):u=v:=by
 induction ks with
 |nil=>cases c
 |cons x xs ih=>
  simp only[List.map_cons,List.nodup_cons,List.mem_map,not_exists,not_and]at b;rcases List.mem_cons.1 c with a|a<;>rcases List.mem_cons.1 e with hv'|hv'
  .rw[a,hv']
  .exact absurd (a▸h.symm) (b.1 v hv')
  .exact absurd (hv'▸h) (b.1 u a)
  .exact ih b.2 a hv'
def z7:Zj:=[Ze,Ze,Ze,Ze,Zb,Zb,Zb]
theorem Jb(h:Aa w b z7):(w.cell? (Zd b 0)=some Ze/\w.frozen? ⟨b,0,none⟩=false)/\(w.cell? (Zd b 1)=some Ze/\w.frozen? ⟨b,1,none⟩=false)/\(w.cell? (Zd b 2)=some Ze/\w.frozen? ⟨b,2,none⟩=false)/\(w.cell? (Zd b 3)=some Ze/\w.frozen? ⟨b,3,none⟩=false)/\(w.cell? (Zd b 4)=some Zb/\w.frozen? ⟨b,4,none⟩=false)/\(w.cell? (Zd b 5)=some Zb/\w.frozen? ⟨b,5,none⟩=false)/\(w.cell? (Zd b 6)=some Zb/\w.frozen? ⟨b,6,none⟩=false):=
 ⟨h 0 _ rfl,h 1 _ rfl,h 2 _ rfl,h 3 _ rfl,h 4 _ rfl,h 5 _ rfl,h 6 _ rfl⟩
theorem PK(h:Below B a w)(c:B<=b)(e f g i j k l:Value):Below B a (((((((w.setCell (Zd b 0) e).setCell (Zd b 1) f).setCell (Zd b 2) g).setCell (Zd b 3) i).setCell (Zd b 4) j).setCell (Zd b 5) k).setCell (Zd b 6) l):=
 ((((((h.setCell c e).setCell c f).setCell c g).setCell c i).setCell c j).setCell c k).setCell c l
section
open Go.WideElems Go.MapKept Go.ChangeMaps
open Classical in
noncomputable def ers (f:Lit->Option Value) (kl:Lit):Lit->Option Value:=fun x=>if x=kl then none else f x
end
section
attribute [local go_sem↓] Go.wp_at_zero Go.wp_at_succ
end
section
attribute [local go_sem↓] Go.wp_at_zero Go.wp_at_succ
theorem Ca.holds{f:Lit->Option Value}(h:Ca w base V wd ks f):Holds w w.heap.size wd ks f:=by
 intro s g;rcases h s g with h|⟨u,i,j,a,b,c,e⟩
 .exact .inl h
 .exact .inr ⟨u,i,j,a,b,c,e.row⟩
theorem Dr.look(h:Dr w base d m O P L wd now given births ks ps ls)(i:(ks.map (·.sum)).Nodup)(o:∀k∈ks,(k.sum.size:Int)=wd){k:Kd}(b:k∈ks):
 ∃a c,Ab w w.heap.size a k.B/\∀X,Zz w X->(Instr.lookup 62 (.map (some m)) (En k.sum) false).run prog X=.ok (CE k a c) X:=by
 obtain⟨n,f,v,e,r⟩:=h.map;rcases r _ (o k b)with⟨_,j⟩|⟨u,a,c,t,q,g,l⟩
 .exact absurd ⟨_,b,rfl⟩ j
 .obtain rfl:=Gr i t b q;refine⟨a,c,l.row,fun X s=> ?_⟩;have:=(e.af s e.lt).look keyed underlying62 (Kp _) (CD u.sum);rw[g]at this;exact this
def Vn(ks:List Kd):Prop:=∀k∈ks,k.B.length<=1000/\k.B.Pairwise (fun a b=>less a b=true)
end
structure Tn (V:List Nat) (w w':Zh):Prop where
 os:w'.os=w.os
 tape:w'.tape=w.tape
 output:w'.output=w.output
 size:w.heap.size<=w'.heap.size
 block:∀b,b<w.heap.size->b∉V->w'.heap[b]?=w.heap[b]?
theorem Tn.of(h:Zz w w'):Tn V w w':=⟨h.os,h.tape,h.output,h.size,fun b a _=>h.block b a⟩
theorem Tn.grown(h:w.grownBy w' (some g))(c:g∈V):Tn V w w':=⟨h.os,h.tape,h.output,h.size,fun b a f=>h.block b a (fun e=>f (Option.some.inj e▸c))⟩
theorem Tn.set(w:Zh)(g j:Nat)(v:Value)(a:g∈V):Tn V w (w.setCell (Zd g j) v):=Tn.grown (Be w g j v) a
theorem Tn.trans{b c:Zh}(h:Tn V a b)(k:Tn V b c):Tn V a c:=
 ⟨k.os.trans h.os,k.tape.trans h.tape,k.output.trans h.output,Zm h.size k.size,fun q e f=>(k.block q (Zr e h.size) f).trans (h.block q e f)⟩
theorem Tn.below(h:Tn V w w')(e:B<=w.heap.size)(a:∀b∈V,B<=b):Below B w w':=⟨h.os,h.tape,h.output,h.size,fun b f=>h.block b Yv (fun c=>by have:=a b c;omega)⟩
theorem Tn.mono{V':List Nat}(h:Tn V w w')(a:∀b∈V,b∈V'):Tn V' w w':=⟨h.os,h.tape,h.output,h.size,fun b c f=>h.block b c (fun e=>f (a b e))⟩
theorem AP.same{K:TypeId}{f:Lit->Option Value}(h:AP w K b n f)(i:w'.heap[b]?=w.heap[b]?):AP w' K b n f:=by obtain⟨D,⟨a,clock,c,e⟩,g⟩:=h;exact⟨D,⟨a,clock,i.trans c,e⟩,g⟩
theorem FT.I{a:Zk}{g:Zl}(h:FT w base V a g)(e:Tn V w w'):FT w' base V a g:=by
 rcases h with h|⟨b,off,j,c,f,n,k⟩
 .exact .inl h
 .exact .inr ⟨b,off,j,Zr c e.size,f,(by rw[e.block b c f];exact n),fun i s l=>(World.cell?_of_block (a:=⟨b,off+i,none⟩) (e.block b c f)).trans (k i s l)⟩
def Eg(ks:List Kd)(s:Zi):List Kd:=ks.filter (fun k=> !decide (k.sum=s))
structure Gs (wd:Int) (ks:List Kd):Prop where
 nd:(ks.map (·.sum)).Nodup
 dy:(ks.map (·.sum)).Pairwise (fun a b=>less a b=true)
 sz:∀k∈ks,(k.sum.size:Int)=wd
 B:Vn ks
 len:ks.length<=600
 w8:wd<=8
theorem Ca.drop{f:Lit->Option Value}(h:Ca w base V wd ks f)(o:Tn V w w')(x:(s.size:Int)=wd)(v:wd<=8):Ca w' base V wd (Eg ks s) (ers f (keyL s)):=by
 intro t g;by_cases hts:t=s
 .subst hts;exact .inl ⟨by simp[ers],fun⟨u,b,a⟩=>by simp[Eg,a]at b⟩
 .have c:keyL t≠keyL s:=fun e=>hts (key_inj e Yv Yv);have k:ers f (keyL s) (keyL t)=f (keyL t):=by simp[ers,c]
  rw[k];rcases h t g with⟨i,j⟩|⟨u,q,r,b,a,l,n⟩
  .exact .inl ⟨i,fun⟨u,b,a⟩=>j ⟨u,(List.mem_filter.1 b).1,a⟩⟩
  .exact .inr ⟨u,q,r,List.mem_filter.2 ⟨b,by simp[a,hts]⟩,a,l,n.I o⟩
theorem Dr.apart(h:Dr w base d m O P L wd now given births ks ps ls)(t:Tn [R] w w')(N:base<=R)(E:R∉vB d m O P L)(r:∀l fz,w.heap[R]?≠some (.cells l 9 fz)):Dr w' base d m O P L wd now given births ks ps ls:=by
 obtain⟨n,f,C,y,D⟩:=h.map;have j:∀b,b<w.heap.size->b∈vB d m O P L->w'.heap[b]?=w.heap[b]?:=fun b o v=>t.block b o (fun e=>E (by simp at e;exact e▸v))
 refine⟨Aa.same h.box (j d h.box.lt (by simp[vB])),⟨n,f,C,AP.same y (j m y.lt (by simp[vB])),?_⟩,As h.ord (fun g c=>j g (Ad h.ord c).2 (by simp[vB,c])),As h.du (fun g c=>j g (Ad h.du c).2 (by simp[vB,c])),As h.gi (fun g c=>j g (Ad h.gi c).2 (by simp[vB,c])),h.bd,h.bm,h.ap⟩;intro s A;rcases D s A with B|⟨u,K,M,H,I,J,x⟩
 .exact .inl B
 .refine .inr ⟨u,K,M,H,I,J,?_⟩;rcases x with x|⟨b,off,F,o,v,k,G⟩
  .exact .inl x
  .have z:b≠R:=by
    rcases k with k|⟨_,l,k⟩
    .omega
    .exact fun e=>r l _ (e▸k)
   have q:=t.block b o (by simpa using z);exact .inr ⟨b,off,F,Zr o t.size,v,(by rw[q];exact k),fun i s r=>(World.cell?_of_block (a:=⟨b,off+i,none⟩) q).trans (G i s r)⟩
def WH(B:Nat)(wd:Int)(f:Lit->Option Value):Prop:=∀s:Zi,(s.size:Int)=wd->∀u ra rc,f (keyL s)=some (CE u ra rc)->∀p,ra=some p->u.B.length≠0->p.block<B
def DB(w:Zh)(base B d m:Nat)(O P L:Value)(wd births:Int)(ks:List Kd):Prop:=(∀g∈vB d m O P L,g<B)/\∃n f,n<=1000000+births.toNat/\AP w 52 m n f/\Ca w base (vB d m O P L) wd ks f/\WH B wd f
theorem DB.I(h:DB w base B d m O P L wd births ks)(k:Tn U w w')(r:∀g∈U,B<=g):DB w' base B d m O P L wd births ks:=by
 obtain⟨x,n,f,E,o,F,q⟩:=h;refine⟨x,n,f,E,AP.same o (k.block m o.lt (fun e=>by have:=r m e;have:=x m (by simp[vB]);omega)),fun s c=> ?_,q⟩;rcases F s c with D|⟨u,z,A,I,J,y,l⟩
 .exact .inl D
 .refine .inr ⟨u,z,A,I,J,y,?_⟩;rcases l with l|⟨b,off,t,v,C,H,G⟩
  .exact .inl l
  .by_cases hr:u.B.length=0
   .exact .inl (List.eq_nil_of_length_eq_zero hr)
   .have K:b<B:=q s c u z A y ⟨b,off,none⟩ t hr;have j:=k.block b v (fun e=>by have:=r b e;omega);exact .inr ⟨b,off,t,Zr v k.size,C,(by rw[j];exact H),fun i s c=>(World.cell?_of_block (a:=⟨b,off+i,none⟩) j).trans (G i s c)⟩
theorem Dr.di(c:Dr w base d m O P L wd now given births ks ps ls):∀b∈vB d m O P L,b<w.heap.size:=by
 intro b a;unfold vB at a;simp only[List.mem_cons,List.mem_append,Option.mem_toList]at a;rcases a with rfl|rfl|a|a|a
 .exact c.box.lt
 .exact(c.map.choose_spec.choose_spec.2.1).lt
 .exact(Ad c.ord a).2
 .exact(Ad c.du a).2
 .exact(Ad c.gi a).2
def z12:Zj:=[Ze,Ze,Ze,Ze,Ze,Zb,Zb,Zb,Zc,Ze,Zc,Zc]
theorem BL(h:Aa w b z12):(w.cell? (Zd b 0)=some Ze/\w.frozen? ⟨b,0,none⟩=false)/\(w.cell? (Zd b 1)=some Ze/\w.frozen? ⟨b,1,none⟩=false)/\(w.cell? (Zd b 2)=some Ze/\w.frozen? ⟨b,2,none⟩=false)/\(w.cell? (Zd b 3)=some Ze/\w.frozen? ⟨b,3,none⟩=false)/\(w.cell? (Zd b 4)=some Ze/\w.frozen? ⟨b,4,none⟩=false)/\(w.cell? (Zd b 5)=some Zb/\w.frozen? ⟨b,5,none⟩=false)/\(w.cell? (Zd b 6)=some Zb/\w.frozen? ⟨b,6,none⟩=false)/\(w.cell? (Zd b 7)=some Zb/\w.frozen? ⟨b,7,none⟩=false)/\(w.cell? (Zd b 8)=some Zc/\w.frozen? ⟨b,8,none⟩=false)/\(w.cell? (Zd b 9)=some Ze/\w.frozen? ⟨b,9,none⟩=false)/\(w.cell? (Zd b 10)=some Zc/\w.frozen? ⟨b,10,none⟩=false)/\(w.cell? (Zd b 11)=some Zc/\w.frozen? ⟨b,11,none⟩=false):=
 ⟨h 0 _ rfl,h 1 _ rfl,h 2 _ rfl,h 3 _ rfl,h 4 _ rfl,h 5 _ rfl,h 6 _ rfl,h 7 _ rfl,h 8 _ rfl,h 9 _ rfl,h 10 _ rfl,h 11 _ rfl⟩
theorem BR(w:Zh)(R:Nat)(c e f g i k l n o q a b:Value):Tn [R] w ((((((((((((w.setCell (Zd R 0) c).setCell (Zd R 1) e).setCell (Zd R 2) f).setCell (Zd R 3) g).setCell (Zd R 4) i).setCell (Zd R 5) k).setCell (Zd R 6) l).setCell (Zd R 7) n).setCell (Zd R 8) o).setCell (Zd R 9) q).setCell (Zd R 10) a).setCell (Zd R 11) b):=
 have h:∀(x:Zh) (j:Nat) (v:Value),Tn [R] x (x.setCell (Zd R j) v):=fun x j v=>Tn.set x R j v Yu
 (((((((((((h w 0 c).trans (h _ 1 e)).trans (h _ 2 f)).trans (h _ 3 g)).trans (h _ 4 i)).trans (h _ 5 k)).trans (h _ 6 l)).trans (h _ 7 n)).trans (h _ 8 o)).trans (h _ 9 q)).trans (h _ 10 a)).trans (h _ 11 b)
theorem Tn.fresh(a:Tn V w f)(c:Tn [R] f w')(h:w.heap.size<=R):Tn V w w':=
 ⟨c.os.trans a.os,c.tape.trans a.tape,c.output.trans a.output,Zm a.size c.size,fun b e g=>(c.block b (Zr e a.size) Yt).trans (a.block b e g)⟩
theorem Wc(h:Aa w b z12)(e f g i j k l n o q a c:Value):Aa ((((((((((((w.setCell (Zd b 0) e).setCell (Zd b 1) f).setCell (Zd b 2) g).setCell (Zd b 3) i).setCell (Zd b 4) j).setCell (Zd b 5) k).setCell (Zd b 6) l).setCell (Zd b 7) n).setCell (Zd b 8) o).setCell (Zd b 9) q).setCell (Zd b 10) a).setCell (Zd b 11) c) b [e,f,g,i,j,k,l,n,o,q,a,c]:=
 ((((((((((((h.set 0 e).set 1 f).set 2 g).set 3 i).set 4 j).set 5 k).set 6 l).set 7 n).set 8 o).set 9 q).set 10 a).set 11 c)
def Co(c:Int)(a b:Zi):Zj:=[Zg c,Ze,Ze,Ze,Ze,Zb,Zb,Zb,Zc,Ze,.string a,.string b]
theorem Holds.low{f:Lit->Option Value}(h:Holds W B wd ks f)(g:Below B W w):Holds w B wd ks f:=by
 intro s i;rcases h s i with h|⟨u,j,k,a,b,c,e⟩
 .exact .inl h
 .exact .inr ⟨u,j,k,a,b,c,Ab.below e g⟩
def HU(w:Zh)(base m:Nat)(wd:Int)(ks:List Kd):Prop:=∃n f,n<=1000000/\AP w 52 m n f/\Holds w base wd ks f/\m<base+4
theorem HU.I(h:HU w base m wd ks)(c:Tn V w w')(k:base<=w.heap.size)(j:∀b∈V,base<=b)(l:m∉V):HU w' base m wd ks:=by obtain⟨n,f,e,a,g,i⟩:=h;exact⟨n,f,e,AP.same a (c.block m a.lt l),g.low (c.below k j),i⟩
theorem Bd(w:Zh)(R j:Nat)(v:Value):Tn [R] w (w.setCell (Zd R j) v):=Tn.set w R j v Yu
theorem Nt{b:Option Nat}(a:w.grownBy w' b):Tn b.toList w w':=⟨a.os,a.tape,a.output,a.size,fun k c f=>a.block k c (fun e=>f (by simp[<-e]))⟩
def HN(w:Zh)(m N:Nat):Prop:=∃n f,n<=N/\AP w 52 m n f
section
def NS(w:Zh)(b:Nat):Prop:=∀cur fz,w.heap[b]?≠some (.cells cur 9 fz)
theorem FT.move{g:List Nat}{a:Zk}{n:Zl}(h:FT w base V a n)(k:Tn U w w')(t:∀b∈U,b∈V\/(base<=b/\NS w b))(u:∀b∈g,b∈V\/w.heap.size<=b)(y:g[1]?=V[1]?:=by rfl):FT w' base g a n:=by
 rcases h with h|⟨b,off,v,j,l,c,x⟩
 .exact .inl h
 .have q:b∉U:=fun e=>by
   rcases t b e with e|⟨A,r⟩
   .exact l e
   .rcases c with c|⟨_,o,c⟩
    .omega
    .exact r o _ c
  have f:=k.block b j q;refine .inr ⟨b,off,v,Zr j k.size,fun e=> ?_,(by rw[f];unfold PJ;rw[y];exact c),fun i s z=>(World.cell?_of_block (a:=⟨b,off+i,none⟩) f).trans (x i s z)⟩;rcases u b e with e|e
  .exact l e
  .omega
theorem FT.low{a:Zk}(h:Ab w base a c)(g:∀b∈V,base<=b)(l:base<=w.heap.size)(k:PJ base V):FT w base V a c:=by
 rcases h with h|⟨b,off,i,f,j⟩
 .exact .inl h
 .exact .inr ⟨b,off,i,Yv,fun e=>by have:=g b e;omega,.inl ⟨f,k⟩,j⟩
theorem Ca.move{a:List Nat}{f:Lit->Option Value}(h:Ca w base V wd ks f)(o:Tn U w w')(j:∀b∈U,b∈V\/(base<=b/\NS w b))(k:∀b∈a,b∈V\/w.heap.size<=b)(l:a[1]?=V[1]?:=by rfl):Ca w' base a wd ks f:=by
 intro s n;rcases h s n with h|⟨u,q,r,c,e,g,i⟩
 .exact .inl h
 .exact .inr ⟨u,q,r,c,e,g,i.move o j k l⟩
structure DU (w:Zh) (base d m:Nat) (O P L:Value) (wd now given births:Int) (ks:List Kd) (ps:List Pd) (ls:List Ld):Prop where
 dr:Dr w base d m O P L wd now given births ks ps ls
variable {w w':Zh} {base d m:Nat} {O P L:Value} {wd now given births:Int} {ks:List Kd} {ps:List Pd} {ls:List Ld}
theorem DU.lo(h:DU w base d m O P L wd now given births ks ps ls):base<=w.heap.size:=by have:=h.dr.bd;have:=h.dr.box.lt;omega
theorem DU.I(h:DU w base d m O P L wd now given births ks ps ls)(k:Tn V w w')(j:∀b∈V,base<=b/\b∉vB d m O P L/\NS w b):DU w' base d m O P L wd now given births ks ps ls:=by
 have l:=h.dr.di;have i:∀b∈vB d m O P L,w'.heap[b]?=w.heap[b]?:=fun b a=>k.block b (l b a) (fun e=>(j b e).2.1 a);obtain⟨n,f,o,q,r⟩:=h.dr.map;have h:=h.dr
 exact⟨⟨Aa.same h.box (i d (by simp[vB])),⟨n,f,o,AP.same q (i m (by simp[vB])),r.move k (fun b a=> .inr ⟨(j b a).1,(j b a).2.2⟩) (fun b a=> .inl a)⟩,As h.ord (fun g c=>i g (by simp[vB,c])),As h.du (fun g c=>i g (by simp[vB,c])),As h.gi (fun g c=>i g (by simp[vB,c])),h.bd,h.bm,h.ap⟩⟩
theorem DU.below(h:DU w base d m O P L wd now given births ks ps ls)(a:Zz w w'):DU w' base d m O P L wd now given births ks ps ls:=
 h.I (V:=[]) (Tn.of a) Yu
theorem Ex{A:Type}(c:A->Zj)(a b:List A):Ai c (a++b)=Ai c a++Ai c b:=by unfold Ai;simp
theorem Nu{a b:Int}(f:0<=a)(c:a<=1000000000)(g:0<=b)(e:b<=1000000000):IntKind.i64.wrap (a+b)=a+b:=by simp[IntKind.wrap,IntKind.bits,IntKind.signed];omega
theorem PL(w:Zh)(base:Nat)(v:Value)(ls:List Ld)(t:w.ownsRow base 61 3 v ls.length (Ai lC ls))(x:Ld)(s:ls.length<=1000000)(f:base<=w.heap.size)(h:TypeId):
 ∃g cap w',(Builtin.append_ #[25,25] h #[v,Yz w.heap.size 1 1]).run prog (w.alloc (.cells #[Zg x.H,.string x.sum,Zg x.V] 61))=.ok (Yz g (ls.length+1) cap) w'/\w'.ownsRow base 61 3 (Yz g (ls.length+1) cap) (ls++[x]).length (Ai lC (ls++[x]))/\w.grownBy w' v.ownBlock/\(v.ownBlock=some g\/g=w.heap.size+1):=by
 obtain⟨z,r,k,l,n⟩:=info_parts IY;have i:=Ap t ((Below.refl _ _).alloc (Zx) (.cells #[Zg x.H,.string x.sum,Zg x.V] 61));have q:∀j u,(Ai lC [x])[j]?=some u->(w.alloc (.cells #[Zg x.H,.string x.sum,Zg x.V] 61)).cell? ((⟨w.heap.size,0,none⟩:Addr).add j)=some u:=by intro j u b;rw[Go.WideShapes.add_plain,Nat.zero_add];exact(Aa.new w [Zg x.H,.string x.sum,Zg x.V] 61 j u (by simpa [Ai,lC]using b)).1
 obtain⟨A,w',y,c,o,_,a⟩:=run_append_own_at (P:=prog) (w.alloc (.cells #[Zg x.H,.string x.sum,Zg x.V] 61)) base 25 h 61 z _ 3 32 underlying25 r k l n rfl Yr v ls.length (Ai lC ls) i ⟨w.heap.size,0,none⟩ 1 1 (Ai lC [x]) (by simp[Ai,lC]) q (by intro u b;simp[Ai,lC]at b;rcases b with rfl|rfl|rfl<;>rfl) Yp Yv Yt
 obtain⟨g,cap,rfl,_,_⟩:=Cs c (fun e=>by subst e;rcases c.2 with⟨_,s⟩|⟨_,_,_,e,_⟩<;>first|omega|cases e);refine⟨g,cap,w',y,?_,(World.grownBy_alloc w _ _).trans o,?_⟩
 .rw[Ex,List.length_append];exact c
 .rcases a with a|a
  .exact .inl a.symm
  .right;simpa [Value.ownBlock]using a
end
structure Rb (ls:List Ld) (n:Int) (i:Nat):Prop where
 le:i<=ls.length
 lo:∀j x,j<i->ls[j]?=some x->x.H<n
 hi:∀j x,i<=j->ls[j]?=some x->n<=x.H
structure Rc (ls:List Pd) (n:Zi) (i:Nat):Prop where
 le:i<=ls.length
 lo:∀j x,j<i->ls[j]?=some x->less x.name n=true
 hi:∀j x,i<=j->ls[j]?=some x->less x.name n=false
theorem Rb.at{n:Int}(h:Rb ls n i)(o:∃x∈ls,x.H=n)(c:ls.Pairwise (fun a b=>a.H<b.H)):∃x,ls[i]?=some x/\x.H=n:=by
 obtain⟨x,s,r⟩:=o;obtain⟨j,g⟩:=List.getElem?_of_mem s;have l:=(Zw g).1;have k:i=j:=by
  rcases Nat.lt_trichotomy i j with f|f|f
  .have t:=h.hi i ls[i] (Zx) (Zv Yv);have q:=List.pairwise_iff_getElem.1 c i j Yv l f;obtain⟨_,e⟩:=Zw g;rw[e]at q;omega
  .exact f
  .have:=h.lo j x f g;omega
 exact⟨x,k▸g,r⟩
theorem Rc.at{ls:List Pd}{n:Zi}(h:Rc ls n i)(s:∃x∈ls,x.name=n)(c:ls.Pairwise (fun a b=>less a.name b.name=true)):∃x,ls[i]?=some x/\x.name=n:=by
 obtain⟨x,t,k⟩:=s;obtain⟨j,g⟩:=List.getElem?_of_mem t;have r:=(Zw g).1;have q:i=j:=by
  rcases Nat.lt_trichotomy i j with f|f|f
  .have l:=h.hi i ls[i] (Zx) (Zv Yv);have o:=List.pairwise_iff_getElem.1 c i j Yv r f;obtain⟨_,e⟩:=Zw g;rw[e,k]at o;rw[o]at l;cases l
  .exact f
  .have:=h.lo j x f g;rw[k,BU]at this;cases this
 exact⟨x,q▸g,k⟩
def Bt(ls:List Ld)(n:Int):List Ld:=ls.filter (fun x=> !decide (x.H=n))
def Bk(ps:List Pd)(n:Zi):List Pd:=ps.filter (fun x=> !decide (x.name=n))
def BH(ls:List Ld)(n:Int):List Ld:=ls.filter (fun x=> !decide (x.V<=n))
def EZ(ks:List Kd):Nat:=(ks.map (fun k=>k.B.length)).sum
def BI(w w':Zh):Prop:=∀b o,(w.cell? (Zd b o)).isSome=true->(w'.cell? (Zd b o)).isSome=true/\(w.frozen? ⟨b,o,none⟩=false->w'.frozen? ⟨b,o,none⟩=false)
theorem BI.refl(w:Zh):BI w w:=fun _ _ h=>⟨h,fun h=>h⟩
theorem BI.trans{b c:Zh}(e:BI a b)(f:BI b c):BI a c:=fun p o h=>⟨(f p o (e p o h).1).1,fun g=>(f p o (e p o h).1).2 ((e p o h).2 g)⟩
theorem BI.bu(h:Zz w w'):BI w w':=fun b o c=>by obtain⟨v,e⟩:=Option.isSome_iff_exists.1 c;have a:=World.block_lt_of_cell? w ⟨b,o,none⟩ e;rw[h.cell (p:=⟨b,o,none⟩) a,h.frozen (p:=⟨b,o,none⟩) a];exact⟨c,fun h=>h⟩
theorem BI.setCell(w:Zh)(g p:Nat)(v:Value):BI w (w.setCell ⟨g,p,none⟩ v):=fun b o a=>by
 refine⟨?_,fun h=>by simpa [go_sem]using h⟩;by_cases e:(⟨b,o,none⟩:Addr)=⟨g,p,none⟩
 .rw[<-e,World.cell?_setCell_same' _ _ _ a];rfl
 .rw[World.cell?_setCell_other _ _ _ _ (fun c=>e c.symm)];exact a
def Wr(w:Zh)(q n:Nat):Prop:=∀j,j<n->(w.cell? (Zd q j)).isSome=true/\w.frozen? ⟨q,j,none⟩=false
theorem Wr.alive(h:Wr w q n)(b:BI w w'):Wr w' q n:=fun j a=>⟨(b q j (h j a).1).1,(b q j (h j a).1).2 (h j a).2⟩
theorem Wr.at(h:Wr w q n)(a:j<n):∃v,w.cell? (Zd q j)=some v:=Option.isSome_iff_exists.1 (h j a).1
theorem Wr.own{a:Zj}(h:w.ownsRow base e size (Yz g n cap) n a):Wr w g (n *size):=fun j b=>by have c:=h.1;refine⟨?_,h.frozenAt j⟩;rw[h.cellAt j Yv,Zv Yv];rfl
theorem Jc(w:Zh)(g p:Nat)(v:Value):w.grownBy (w.setCell (Zd g p) v) (some g):=
 ⟨rfl,rfl,rfl,Yu,fun i _ a=>Below.heap_setCell _ _ _ _ (fun e=>a (by rw[e]))⟩
def Ml(w wr:Zh)(g n:Nat):Prop:=Wr wr g n/\w.grownBy wr (some g)/\BI w wr
theorem Ml.new(h:Wr w g n):Ml w w g n:=⟨h,AK _ _,BI.refl _⟩
theorem Ml.below{b:Zh}(h:Ml w wr g n)(a:Zz wr b):Ml w b g n:=
 ⟨h.1.alive (BI.bu a),Am h.2.1 (Ae _ a),h.2.2.trans (BI.bu a)⟩
theorem Ml.set(h:Ml w wr g n)(o:Nat)(v:Value):Ml w (wr.setCell (Zd g o) v) g n:=
 ⟨h.1.alive (BI.setCell _ _ _ _),Am h.2.1 (Jc _ _ _ _),h.2.2.trans (BI.setCell _ _ _ _)⟩
structure Jd (w wr:Zh) (lo N g:Nat) (ks:List Kd):Prop where
 row:Wr wr g (ks.length *4)
 bt:Below lo w wr
 al:BI w wr
 dt:∀k,N<=k->k<w.heap.size->wr.heap[k]?=w.heap[k]?
 B:∀i x,ks[i]?=some x->∃q c,wr.cell? (Zd g (i *4+3))=some (.slice (some ⟨q,0,none⟩) x.B.length c)/\g<q/\q<N/\Wr wr q x.B.length
theorem Jd.new{lo:Nat}(h:Fp a lo g ks)(c:Zz a w):Jd w w lo a.heap.size g ks:=by obtain⟨o,e,l,_⟩:=h;have k:=(e.lt g rfl).2;refine⟨(Wr.own e).alive (BI.bu c),Below.refl _ _,BI.refl _,fun _ _ _=>rfl,fun i x f=> ?_⟩;have n:=(Zw f).1;obtain⟨_,_,_,q,j,b⟩:=l i x f;refine⟨q,_,(c.cell (p:=⟨g,i *4+3,none⟩) k).trans ((e.cellAt _ Yv).trans j),(World.ownsRow.lt b q rfl).1,(World.ownsRow.lt b q rfl).2,?_⟩;have:=(Wr.own b).alive (BI.bu c);rwa[Nat.mul_one]at this
theorem Jd.below{lo:Nat}(h:Jd w wr lo N g ks)(l:lo<=wr.heap.size)(a:Zz wr f):Jd w f lo N g ks:=
 ⟨h.row.alive (BI.bu a),h.bt.trans (a.mono l),h.al.trans (BI.bu a),fun k b e=>(a.block k (Zr e h.bt.size)).trans (h.dt k b e),fun i x o=>by
  obtain⟨q,c,b,e,j,n⟩:=h.B i x o;exact⟨q,c,(a.cell (p:=⟨g,i *4+3,none⟩) (World.block_lt_of_cell? wr ⟨g,i *4+3,none⟩ b)).trans b,e,j,n.alive (BI.bu a)⟩⟩
theorem Jd.set{lo:Nat}(h:Jd w wr lo N g ks)(l:lo<=g)(r:g<N)(j c:Nat)(s:c<=2)(v:Value):Jd w (wr.setCell (Zd g (j *4+c)) v) lo N g ks:=
 ⟨h.row.alive (BI.setCell _ _ _ _),h.bt.setCell (p:=⟨g,j *4+c,none⟩) (by simpa using l) _,h.al.trans (BI.setCell _ _ _ _),fun k b a=>((Jc wr g (j *4+c) v).block k (Zr a h.bt.size) (by intro e;cases e;omega)).trans (h.dt k b a),fun i x o=>by
  obtain⟨q,d,b,a,f,n⟩:=h.B i x o;refine⟨q,d,?_,a,f,n.alive (BI.setCell _ _ _ _)⟩;rw[World.cell?_setCell_other _ _ _ _ (by intro e;injection e;omega)];exact b⟩
theorem Jd.grown{j:Zh}{lo:Nat}(h:Jd w wr lo N g ks)(n:lo<=wr.heap.size)(f:wr.grownBy j (some q))(c:BI wr j)(y:g<q)(u:q<N)(v:lo<=g):Jd w j lo N g ks:=
 ⟨h.row.alive c,h.bt.grown f n (fun k r=>by cases r;omega),h.al.trans c,fun k b a=>(f.block k (Zr a h.bt.size) (by intro e;cases e;omega)).trans (h.dt k b a),fun i x s=>by
  obtain⟨t,d,b,a,l,o⟩:=h.B i x s;exact⟨t,d,f.cell b Yt,a,l,o.alive c⟩⟩
theorem PM(x:Kd)(a:List Kd):EZ (x::a)=x.B.length+EZ a:=by simp[EZ]
structure SI (w:Zh) (base:Nat) (T:Value) (rs:Zj) (ks:List Kd):Prop where
 len:rs.length=ks.length
 aj:w.ownsRow base 37 4 T ks.length (Ai kC (ks.zip rs))
 B:∀(i:Nat) (k:Kd) (r:Value),ks[i]?=some k->rs[i]?=some r->w.ownsRow base 9 1 r k.B.length (k.B.map Value.string)
 nd:(T.ownBlock.toList++rs.filterMap Value.ownBlock).Nodup
structure IJ (ls cur:List Ld) (n:Int) (i j:Nat):Prop where
 len:cur.length=ls.length
 kept:cur.take i=BH (ls.take j) n
 rest:cur.drop j=ls.drop j
 lt:i<j
 le:j<=ls.length
theorem IJ.start{n:Int}(b:ls[i]?=some x)(k:x.V<=n)(h:∀j y,j<i->ls[j]?=some y->n<y.V):IJ ls ls n i (i+1):=by
 have c:=(Zw b).1;obtain⟨_,e⟩:=Zw b;refine⟨rfl,?_,rfl,Yv,Yv⟩;unfold BH;rw[Zu c,List.filter_append,e];have g:(ls.take i).filter (fun x=> !decide (x.V<=n))=ls.take i:=List.filter_eq_self.2 (fun y l=>by
  obtain⟨j,a⟩:=List.getElem?_of_mem l;have f:=(Zw a).1;rw[List.length_take]at f;have:=h j y Yv (by rw[List.getElem?_take_of_lt Yv]at a;exact a);simp;omega)
 rw[g];simp[k]
theorem IJ.at{a:List Ld}{n:Int}(h:IJ ls a n i j)(b:j<ls.length):a[j]?=some ls[j]:=by have:=congrArg (fun l=>l[0]?) h.rest;simp only[List.getElem?_drop,Nat.add_zero]at this;rw[this,Zv b]
theorem IJ.skip{a:List Ld}{n:Int}(h:IJ ls a n i j)(b:j<ls.length)(c:ls[j].V<=n):IJ ls a n i (j+1):=by
 refine⟨h.len,?_,?_,by have:=h.lt;omega,Yv⟩
 .rw[h.kept];unfold BH;rw[Zu b,List.filter_append];simp[c]
 .have:=congrArg (List.drop 1) h.rest;rw[List.drop_drop,List.drop_drop]at this;exact this
theorem IJ.move{a:List Ld}{n:Int}(h:IJ ls a n i j)(e:j<ls.length)(g:n<ls[j].V):IJ ls (a.set i ls[j]) n (i+1) (j+1):=by
 have f:=h.lt;have hlen:=h.len;have b:i<a.length:=Yv
 refine⟨by rw[List.length_set];exact hlen,?_,?_,Yv,Yv⟩
 .have c:¬ls[j].V<=n:=Yv
  rw[Zu (by rw[List.length_set];exact b),List.take_set_of_le (Zx),h.kept,List.getElem_set_self];unfold BH;rw[Zu e,List.filter_append];simp[c]
 .have:=congrArg (List.drop 1) h.rest;rw[List.drop_drop,List.drop_drop]at this;rw[List.drop_set_of_lt Yv];exact this
theorem IJ.done{a:List Ld}{n:Int}(h:IJ ls a n i ls.length):a.take i=BH ls n/\(BH ls n).length=i:=by have b:=h.kept;rw[Zt (Zx)]at b;refine⟨b,?_⟩;rw[<-b,List.length_take];have:=h.lt;have:=h.len;omega
theorem PO(wd now given births:Int)(T:Value)(p l:Zk)(u t:Nat)(ps:List Pd)(ls:List Ld)(s:Zi)(w:Zh)(F:AO w w.heap.size p ps)(E:AR w w.heap.size l ls)(Z:ps.length<=1000)(Y:ls.length<=1000):
 Calls prog 138 #[.agg #[Zg wd,Zg now,Zg given,Zg births,T,.slice p ps.length u,.slice l ls.length t],.string s] w fun e w'=>Aq ((∃p∈ps,p.sum=s)\/∃l∈ls,l.sum=s) w w' e:=by
 have J:=Yw F;have H:=Yw E;have G:=Ah.new w wd now given births T (.slice p ps.length u) (.slice l ls.length t) 27;have f:Below w.heap.size w (w.alloc (.cells #[Zg wd,Zg now,Zg given,Zg births,T,.slice p ps.length u,.slice l ls.length t] 27)):=Zy;obtain⟨W,A⟩:∃W,W=w.alloc (.cells #[Zg wd,Zg now,Zg given,Zg births,T,.slice p ps.length u,.slice l ls.length t] 27):=⟨_,rfl⟩;rw[<-A]at G f;have D:=Yw A
 clear F E A;obtain⟨R,S,U,V,X,q5,q6,q7⟩:=G;clear R S U V X;go_enter func138,ntmps138;go_upto_region 1 with fail;rw[<-D.o];clear D;go_wp2
 go_loop [5] (fun i=>∃k:Nat,k<=ps.length/\i=Zg k/\Hid (∀j x,j<k->ps[j]?=some x->¬x.sum=s)) (fun i=>ps.length -(intOf i).toNat)
 case atStart=>exact⟨0,Nat.zero_le _,rfl,(fun j x h=>by omega)⟩
 case round=>
  obtain⟨k,Q,rfl,a⟩:=hrel;by_cases hlt:k<ps.length
  .obtain⟨b,off,B,N,o⟩:=(AO.below J.o f).at hlt;subst B;have g:Hid (ps[k]?=some ps[k]):=Zv hlt;obtain⟨K,M⟩:=o k _ g.o;clear o;generalize ps[k]=x at *
   by_cases h:x.sum=s
   .have C:(x.sum.toList==s.toList)=true:=by rw[h];simp
    have z:=Yw h;clear h;go_wp2;refine bodyPost_ret (results_tmp rfl _ _ _) rfl ?_;exact Aq.yes (.inl ⟨x,Zs g.o,z.o⟩) f
   .have C:(x.sum.toList==s.toList)=false:=By h;have v:Hid (∀j y,j<k+1->ps[j]?=some y->¬y.sum=s):=by
     intro j y q c;rcases Nat.lt_or_ge j k with n|n
     .exact a.o j y n c
     .obtain rfl:j=k:=Yv
      rw[g.o]at c;cases c;exact h
    clear h;go_wp2;exact⟨⟨k+1,Yv,Yo,v⟩,by simp[intOf];omega⟩
  .have I:Hid (¬∃p∈ps,p.sum=s):=by rintro⟨y,c,r⟩;obtain⟨j,q,rfl⟩:=List.getElem_of_mem c;exact a.o j _ Yv (Zv q) r
   clear a;go_wp2
   go_loop [6] (fun i=>∃k:Nat,k<=ls.length/\i=Zg k/\Hid (∀j x,j<k->ls[j]?=some x->¬x.sum=s)) (fun i=>ls.length -(intOf i).toNat)
   case atStart=>exact⟨0,Nat.zero_le _,rfl,(fun j x h=>by omega)⟩
   case round=>
    obtain⟨k,Q,rfl,a⟩:=hrel;by_cases hlt:k<ls.length
    .obtain⟨b,off,B,N,o⟩:=(AR.below H.o f).at hlt;subst B;have g:Hid (ls[k]?=some ls[k]):=Zv hlt;obtain⟨K,M,c2⟩:=o k _ g.o;clear o;generalize ls[k]=x at *
     by_cases h:x.sum=s
     .have C:(x.sum.toList==s.toList)=true:=by rw[h];simp
      have z:=Yw h;clear h;go_wp2;refine bodyPost_ret (results_tmp rfl _ _ _) rfl ?_;exact Aq.yes (.inr ⟨x,Zs g.o,z.o⟩) f
     .have C:(x.sum.toList==s.toList)=false:=By h;have v:Hid (∀j y,j<k+1->ls[j]?=some y->¬y.sum=s):=by
       intro j y q c;rcases Nat.lt_or_ge j k with n|n
       .exact a.o j y n c
       .obtain rfl:j=k:=Yv
        rw[g.o]at c;cases c;exact h
      clear h;go_wp2;exact⟨⟨k+1,Yv,Yo,v⟩,by simp[intOf];omega⟩
    .go_wp2;refine bodyPost_ret (results_tmp rfl _ _ _) rfl ?_;refine Aq.no (fun e=> ?_) f;rcases e with e|⟨y,c,r⟩
     .exact absurd e I.o
     .obtain⟨j,q,rfl⟩:=List.getElem_of_mem c;exact absurd r (a.o j _ Yv (Zv q))
theorem DM(a:Zk)(cap:Nat)(c:Zl)(s:Zi)(w:Zh)(B:Nat)(g:Ab w B a c)(F:c.length<=1048576):
 Calls prog 58 #[.slice a c.length cap,.string s] w fun e w'=>e=.returned (.bool (c.any (fun x=>decide (x=s))))/\w'=w:=by
 go_enter func58,ntmps58;go_wp2
 go_loop [5] (fun i=>∃k:Nat,k<=c.length/\i=Zg k/\Hid (∀j x,j<k->c[j]?=some x->x≠s)) (fun i=>c.length -(intOf i).toNat)
 case atStart=>exact⟨0,Nat.zero_le _,rfl,fun j x h=>by omega⟩
 case round=>
  obtain⟨k,E,rfl,f⟩:=hrel;by_cases hlt:k<c.length
  .obtain⟨b,off,u,D,r⟩:=g.at hlt;subst u;have l:=Yw (Zv hlt);have C:=r k _ l;clear r g;generalize c[k]=x at *
   by_cases he:x=s
   .subst he;have v:Hid (c.any (fun y=>decide (y=x))=true):=by show _=_;rw[List.any_eq_true];exact⟨x,Zs l.o,Yu⟩
    go_wp2;go_ret;exact⟨AH v.o.symm,rfl⟩
   .have A:=By he;have t:Hid (∀j y,j<k+1->c[j]?=some y->y≠s):=by
     intro j y n o;rcases Nat.lt_or_ge j k with q|q
     .exact f.o j y q o
     .obtain rfl:j=k:=Yv
      rw[l.o]at o;cases o;exact he
    clear he f l;go_wp2;exact⟨⟨k+1,Yv,Yo,t⟩,by simp[intOf];omega⟩
  .go_wp2;go_ret;refine⟨AH ?_,rfl⟩
   symm
   rw[List.any_eq_false];intro x z;obtain⟨j,n⟩:=List.getElem?_of_mem z;simpa using f.o j x (by have:=(Zw n).1;omega) n
def Bf(w:Zh)(b off:Nat)(zs:List (Kd×Value)):Prop:=
 ∀i z,zs[i]?=some z->(w.cell? (Zd b (off+i *4))=some (.string z.1.sum)/\w.cell? (Zd b (off+i *4+1))=some (Zg z.1.born)/\w.cell? (Zd b (off+i *4+2))=some (.string z.1.E)/\w.cell? (Zd b (off+i *4+3))=some z.2)/\∃ad rc,z.2=.slice (some ad) z.1.B.length rc/\Ab w w.heap.size (some ad) z.1.B
theorem Bf.below{e:List (Kd×Value)}(h:Bf w b off e)(a:Zz w w')(c:b<w.heap.size):Bf w' b off e:=by intro i z q;obtain⟨⟨g,j,k,l⟩,f,r,n,o⟩:=h i z q;exact⟨⟨(a.cell (p:=⟨b,off+i *4,none⟩) c).trans g,(a.cell (p:=⟨b,off+i *4+1,none⟩) c).trans j,(a.cell (p:=⟨b,off+i *4+2,none⟩) c).trans k,(a.cell (p:=⟨b,off+i *4+3,none⟩) c).trans l⟩,f,r,n,Ab.mono (Ab.below o a) a.size⟩
theorem Bf.ct{c:List (Kd×Value)}(h:Bf w b off c)(q:b<w.heap.size):AI w w.heap.size (some ⟨b,off,none⟩) (c.map (·.1)):=by
 refine .inr ⟨b,off,rfl,q,fun i k a=> ?_⟩;rw[List.getElem?_map]at a;cases hz:c[i]? with
 |none=>rw[hz]at a;cases a
 |some z=>rw[hz]at a;cases a;obtain⟨⟨f,g,j,l⟩,e,r,n,o⟩:=h i z hz;exact⟨f,g,j,some e,r,by rw[l,n],o⟩
theorem Bf.own{a:List (Kd×Value)}(h:w.ownsRow base 37 4 (Yz g a.length cap) a.length (Ai kC a))(k:∀z∈a,∃e l,z.2=.slice (some e) z.1.B.length l/\Ab w w.heap.size (some e) z.1.B):Bf w g 0 a:=by
 intro i z c;have n:=(Zw c).1;have b:∀j,j<4->w.cell? (Zd g (i *4+j))=(kC z)[j]?:=fun j f=>(h.cellAt (i *4+j) Yv).trans (Cd Ce c f);refine⟨⟨?_,?_,?_,?_⟩,k z (Zs c)⟩
 .rw[Nat.zero_add];simpa [kC]using b 0 Yr
 .rw[Nat.zero_add];simpa [kC]using b 1 Yr
 .rw[Nat.zero_add];simpa [kC]using b 2 Yr
 .rw[Nat.zero_add];simpa [kC]using b 3 Yr
def Bu(zs:List (Kd×Value))(s:Zi):List (Kd×Value):=zs.filter (fun z=> !decide (z.1.sum=s))
theorem Je(a:List (Kd×Value))(s:Zi):(Bu a s).map (·.1)=Eg (a.map (·.1)) s:=by unfold Bu Eg;rw[List.filter_map];rfl
theorem PQ{a:List (Kd×Value)}{z:Kd×Value}(s:Zi)(c:a[k]?=some z):Bu (a.take (k+1)) s=Bu (a.take k) s++(if z.1.sum=s then []else [z]):=by obtain⟨b,rfl⟩:=Zw c;unfold Bu;rw[Zu b,List.filter_append];by_cases h:a[k].1.sum=s<;>simp[h]
theorem AS(h:Aa w b [Zg wd,Zg now,Zg given,Zg births,T,P,L]):Ah w b wd now given births T P L:=
 ⟨(h 0 _ rfl).1,(h 1 _ rfl).1,(h 2 _ rfl).1,(h 3 _ rfl).1,(h 4 _ rfl).1,(h 5 _ rfl).1,(h 6 _ rfl).1,h.lt⟩
def GI(ps:List Pd)(ls:List Ld)(ks:List Kd)(s:Zi):Prop:=((∃p∈ps,p.sum=s)\/∃l∈ls,l.sum=s)\/∃k∈ks,s∈k.B
def Pb(w w':Zh)(e:Ending)(wd now given births:Int)(P L:Value)(zs:List (Kd×Value))(ps:List Pd)(ls:List Ld)(s:Zi):Prop:=
 Below w.heap.size w w'/\((GI ps ls (zs.map (·.1)) s/\e=.returned (.agg #[Zg 6,Ze,Ze,Ze,Ze,Zb,Zb,Zb,Zc,Ze,Zc,Zc]))\/
  (¬GI ps ls (zs.map (·.1)) s/\∃g c,e=.returned (.agg #[Ze,Zg wd,Zg now,Zg given,Zg births,.slice (some ⟨g,0,none⟩) (Bu zs s).length c,P,L,Zc,Ze,Zc,Zc])/\Bf w' g 0 (Bu zs s)/\w.heap.size<=g/\g<w'.heap.size))
theorem KV(wd now given births:Int)(b off E t r:Nat)(p l:Zk)(a:List (Kd×Value))(ps:List Pd)(ls:List Ld)(s:Zi)(w:Zh)(B:Bf w b off a)(zW:b<w.heap.size)(hp:AO w w.heap.size p ps)(hl:AR w w.heap.size l ls)(xA:a.length<=600)(yX:ps.length<=100)(yW:ls.length<=200)(hr:∀z∈a,z.1.B.length<=1000)(yB:Aw (a.map (·.1)) s):
 Calls prog 129 #[.agg (Yj wd now given births (some ⟨b,off,none⟩) a.length E p ps.length t l ls.length r),.string s] w fun e w'=>Pb w w' e wd now given births (.slice p ps.length t) (.slice l ls.length r) a ps ls s:=by
 obtain⟨W,N⟩:∃W,W=(w.alloc (.cells (Yj wd now given births (some ⟨b,off,none⟩) a.length E p ps.length t l ls.length r) 27)).alloc (.cells Yi 134):=⟨_,rfl⟩;have hB:=(Bm N).1;have yZ:=(Bm N).2.1;have xW:Ah W w.heap.size wd now given births (.slice (some ⟨b,off,none⟩) a.length E) (.slice p ps.length t) (.slice l ls.length r):=by rw[N];exact Ah.af (Ah.new w wd now given births _ _ _ 27) (Zy) Yu
 have zR:Aa W (w.heap.size+1) z12:=by have h1:=Aa.new (w.alloc (.cells (Yj wd now given births (some ⟨b,off,none⟩) a.length E p ps.length t l ls.length r) 27)) z12 134;rw[World.size_alloc]at h1;rw[N];exact h1
 have HF:=Cn wd now given births (some ⟨b,off,none⟩) E (.slice p ps.length t) (.slice l ls.length r) (a.map (·.1)) s W w.heap.size (AI.below (B.ct zW) hB) hB.size (by rw[List.length_map];omega);rw[List.length_map]at HF;have yV:0<=BX (a.map (·.1)) s:=by
  rcases BV (a.map (·.1)) s with⟨_,hn⟩|⟨i,k,e,_⟩
  .exact absurd yB hn
  .omega
 have zI:=Yw HF;have yJ:=Yw zR;have yF:Hid (Aa W _ _):=(Bm N).2.2.1;have yE:w.heap.size+1<W.heap.size:=Yv
 have HZ:=Yw B;have zM:=Yw (Zn hp hl);have HW:=Yw N;have zP:=Yw xW;clear N B hp hl zR HF yB;obtain⟨x0,x1,x2,x3,x4,x5,x6,x7⟩:=xW;go_enter func129,ntmps129;go_upto_region 1 with fail;rw[<-HW.o];clear HW;go_wp2_with fail;refine Calls.mono zI.o ?_;rintro e w1 ⟨rfl,I⟩;have yT:¬BX (a.map (·.1)) s<0:=Yv
 have zE:=Yw (Ah.below zP.o I);obtain⟨Q,R,S,U,X,Y,Z,y7⟩:=zE.o;have D:Below w.heap.size w w1:=hB.trans (I.mono hB.size);clear x0 x1 x2 x3 x4 x5 x6 zI;generalize BX (a.map (·.1)) s=fi at *
 go_wp2_with fail;refine(PO wd now given births (.slice (some ⟨b,off,none⟩) a.length E) p l t r ps ls s w1 (AO.mono (AO.below zM.o.1 D) D.size) (AR.mono (AR.below zM.o.2 D) D.size) Yv Yv).mono ?_;rintro e C ⟨ok,rfl,zZ,J⟩;have zA:Below w.heap.size w C:=D.trans (J.mono D.size);have zO:=Yw (Ah.below zE.o J);have z2:Aa C (w.heap.size+1) z12:=Aa.below (v:=Ze) (Aa.below (v:=Ze) yJ.o I) J
 have zF:=Yw z2;have zK:=Yw zZ;clear zZ Q R S U X Y Z z2;cases ok
 .obtain⟨v0,v1,v2,v3,v4,v5,v6,v7⟩:=zO.o;have yN:w.heap.size+2<=C.heap.size:=by have:=I.size;have:=J.size;omega
  have bA:Below C.heap.size C (C.alloc (.cells #[] 37)):=Zy;go_wp2
  go_loopw [5,6] (fun v i wr=>∃(k g c:Nat),k<=a.length/\i=Zg k/\v=Yz g (Bu (a.take k) s).length c/\Hid (wr.ownsRow (w.heap.size+2) 37 4 (Yz g (Bu (a.take k) s).length c) (Bu (a.take k) s).length (Ai kC (Bu (a.take k) s))/\(∀z∈a.take k,¬s∈z.1.B)/\Aa wr w.heap.size (Yh wd now given births (some ⟨b,off,none⟩) a.length E p ps.length t l ls.length r)/\Aa wr (w.heap.size+1) z12/\Zz w wr)) (fun _ i _=>a.length -(intOf i).toNat)
  case atStart=>
   refine⟨0,C.heap.size,0,Nat.zero_le _,rfl,by simp[Bu],⟨?_,(fun z B=>by simp at B),Aa.below (Aa.below (Aa.below yF.o I) J) bA,Aa.below (v:=Ze) zF.o bA,zA.trans (bA.mono zA.size)⟩⟩;have:=World.ownsRow_lit (base:=w.heap.size+2) (e:=37) (size:=4) C #[] 0 yN Yp rfl;simpa [Bu,Ai]using this
  case round=>
   clear zE zP zF zO v0 v1 v2 v3 v4 v5 v6 v7 bA;obtain⟨k,g,c,hk,rfl,rfl,n⟩:=hrel;obtain⟨v0,v1,v2,v3,v4,v5,v6,v7⟩:=AS n.o.2.2.1;have f:=n.o.2.2.2.2;have xB:=f.size;by_cases hlt:k<a.length
   .have HG:Hid (a[k]?=some a[k]):=Zv hlt;obtain⟨⟨c0,c1,c2,c3⟩,F,G,h4,h5⟩:=(Bf.below HZ.o f zW) k _ HG.o;have yY:=hr _ (List.getElem_mem hlt);have zN:=Yw (PQ s HG.o);have yS:b<wr.heap.size:=Yv
    have yH:=Yw h5;have yI:Hid (a.take (k+1)=a.take k++[a[k]]):=Zu hlt;rw[h4]at c3;have H4:=Yw h4;clear h5 h4;generalize a[k]=z at *
    have yU:(Bu (a.take k) s).length<=600:=by have:=List.length_filter_le (fun z:Kd×Value=> !decide (z.1.sum=s)) (a.take k);unfold Bu;rw[List.length_take]at this;omega
    go_wp2_with fail;refine(DM (some F) G z.1.B s wr wr.heap.size yH.o Yv).mono ?_;rintro e w3 ⟨rfl,rfl⟩;by_cases hin:s∈z.1.B
    .have hd:z.1.B.any (fun x=>decide (x=s))=true:=by simpa using hin
     rw[hd];obtain⟨⟨Q,q0⟩,⟨R,q1⟩,⟨S,q2⟩,⟨U,q3⟩,⟨X,q4⟩,⟨Y,q5⟩,⟨Z,q6⟩,⟨y7,q7⟩,⟨y8,q8⟩,⟨y9,q9⟩,⟨K,yC⟩,M,yD⟩:=BL n.o.2.2.2.1;have yK:=Yw hin;clear hin hd c0 c1 c2 c3 v0 v1 v2 v3 v4 v5 v6;go_wp2
     refine bodyPost_ret (v:=.agg (Yg 6)) (by simp[results,results129,go_sem,Q,R,S,U,X,Y,Z,y7,y8,y9,K,M]) rfl ⟨f.trans (Tn.below (BR _ (w.heap.size+1) _ _ _ _ _ _ _ _ _ _ _ _) f.size Yu),.inl ⟨.inr ⟨z.1,List.mem_map.2 ⟨z,Zs HG.o,rfl⟩,yK.o⟩,rfl⟩⟩
    .have hd:z.1.B.any (fun x=>decide (x=s))=false:=by rw[List.any_eq_false];intro x hx e;exact hin (of_decide_eq_true e▸hx)
     rw[hd];have zJ:Hid (∀y∈a.take (k+1),¬s∈y.1.B):=by
      rw[yI.o];intro y hy;rcases List.mem_append.1 hy with hy|hy
      .exact n.o.2.1 y hy
      .simp at hy;rw[hy];exact hin
     clear hin hd;by_cases hzs:z.1.sum=s
     .have hq:(z.1.sum.toList !=s.toList)=false:=by rw[hzs];simp
      have yA:(z.1.sum.toList==s.toList)=true:=by rw[hzs];simp
      have A:=zN.o;rw[if_pos hzs,List.append_nil]at A;have H:=Yw A;clear A hzs;go_wp2;exact⟨⟨k+1,g,c,Yv,Yo,by rw[H.o],⟨by rw[H.o];exact n.o.1,zJ.o,n.o.2.2⟩⟩,by simp[intOf];omega⟩
     .have yA:(z.1.sum.toList==s.toList)=false:=By hzs;have hq:(z.1.sum.toList !=s.toList)=true:=by simp[bne,yA]
      have A:=zN.o;rw[if_neg hzs]at A;have H:=Yw A;clear A hzs;obtain⟨i0,hi,yO,yP,zC⟩:=info_parts Hz;have zY:=Ad n.o.1 (g:=g) rfl;go_wp2_with (first
       |(at_builtin;refine wpList_append_own_at _ rfl _ _ 23 rfl (w.heap.size+2) 37 i0 _ 4 64 underlying23 hi yO yP zC rfl Yr _ (Bu (a.take k) s).length (Ai kC (Bu (a.take k) s)) rfl ?d0 ⟨w3.heap.size,0,none⟩ 1 1 (kC (z.1,.slice (some F) z.1.B.length G)) rfl rfl ?d2 ?d3 ?d4 ?d5 ?d6 ?_)
       |go_in)
      case d0=>exact Ap n.o.1 (Zy)
      case d2=>
       intro j u hu;rw[Go.WideShapes.add_plain,Nat.zero_add];exact((Aa.new w3 (kC (z.1,.slice (some F) z.1.B.length G)) 37) j u hu).1
      case d3=>
       intro u hu;simp[kC]at hu;rcases hu with rfl|rfl|rfl|rfl<;>rfl
      case d4=>unfold maxLen;omega
      case d5=>omega
      case d6=>simp;omega
      intro v4 w4 zB zX yM yL;obtain⟨g4,c4,rfl,yQ,yR⟩:=Cs zB (fun e=>by subst e;rcases zB.2 with⟨_,hn⟩|⟨_,_,_,e,_⟩<;>first|omega|cases e);have b4:Below w3.heap.size w3 (w3.alloc (.cells #[.string z.1.sum,Zg z.1.born,.string z.1.E,.slice (some F) z.1.B.length G] 37)):=Zy;have o:w3.grownBy w4 (some g):=Am (Ae _ b4) zX;have zC:z.2=.slice (some F) z.1.B.length G:=H4.o
      have zH:(Bu (a.take (k+1)) s).length=(Bu (a.take k) s).length+1:=by rw[H.o];simp
      have zU:Ai kC (Bu (a.take (k+1)) s)=Ai kC (Bu (a.take k) s)++kC (z.1,.slice (some F) z.1.B.length G):=by rw[H.o,FZ,<-zC];simp[Ai]
      have HF:Hid (w4.ownsRow (w.heap.size+2) 37 4 (Yz g4 (Bu (a.take (k+1)) s).length c4) (Bu (a.take (k+1)) s).length (Ai kC (Bu (a.take (k+1)) s))/\(∀y∈a.take (k+1),¬s∈y.1.B)/\Aa w4 w.heap.size (Yh wd now given births (some ⟨b,off,none⟩) a.length E p ps.length t l ls.length r)/\Aa w4 (w.heap.size+1) z12/\Zz w w4):=by
       refine⟨by rw[zH,zU];exact zB,zJ.o,?_,?_,f.grown o Yv (fun q hq=>by cases hq;omega)⟩
       .exact Aa.aw n.o.2.2.1 o Yv
       .exact Aa.aw (v:=Ze) n.o.2.2.2.1 o Yv
      clear zB zX o yM yL b4 zU zC c0 c1 c2 c3 v0 v1 v2 v3 v4 v5 v6;have yG:=Yw zH;clear zH;go_wp2;exact⟨⟨k+1,g4,c4,Yv,Yo,by rw[yG.o],HF⟩,by simp[intOf];omega⟩
   .obtain rfl:k=a.length:=Yv
    have zV:=n.o;rw[Zt (Zx)]at zV;obtain⟨h1,h2,h3,h4,h5⟩:=zV;have zY:=Ad h1 (g:=g) rfl;have HE:=Yw (Zn h1 (Zn h2 h5));obtain⟨⟨Q,q0⟩,⟨R,q1⟩,⟨S,q2⟩,⟨U,q3⟩,⟨X,q4⟩,⟨Y,q5⟩,⟨Z,q6⟩,⟨y7,q7⟩,⟨y8,q8⟩,⟨y9,q9⟩,⟨K,yC⟩,M,yD⟩:=BL h4;have f4:=(h3 4 _ rfl).2;have H3:=Yw h3;clear h1 h2 h3 h4 h5;rw[Zt (Zx)];go_wp2
    have T:∀a0 a1 a2 a3 a4 a5 a6 a7 a8 a9 zS zT c4,Tn [w.heap.size,w.heap.size+1] wr _:=fun a0 a1 a2 a3 a4 a5 a6 a7 a8 a9 zS zT c4=>(Tn.set (V:=[w.heap.size,w.heap.size+1]) wr w.heap.size 4 c4 Yu).trans (Tn.mono (BR (wr.setCell (Zd (w.heap.size) 4) c4) (w.heap.size+1) a0 a1 a2 a3 a4 a5 a6 a7 a8 a9 zS zT) Yu)
    refine bodyPost_ret (v:=.agg #[Ze,Zg wd,Zg now,Zg given,Zg births,Yz g (Bu a s).length c,.slice p ps.length t,.slice l ls.length r,Zc,Ze,Zc,Zc]) (by simp[results,results129,go_sem,Q,R,S,U,X,Y,Z,y7,y8,y9,K,M]) rfl ?_;have T':=T Ze (Zg wd) (Zg now) (Zg given) (Zg births) (Yz g (Bu a s).length c) (.slice p ps.length t) (.slice l ls.length r) Zc Ze Zc Zc (Yz g (Bu a s).length c)
    have zG:=HE.o.2.2.trans (Tn.below T' HE.o.2.2.size Yu);refine⟨zG,.inr ⟨?_,g,c,rfl,Bf.own (As HE.o.1 (fun q hq=>T'.block q (Ad HE.o.1 hq).2 (by have:=(Ad HE.o.1 hq).1;simp;omega))) (fun z B=> ?_),Yv,Zr zY.2 T'.size⟩⟩
    .rintro(h|⟨x,hx,hs⟩)
     .have:=zK.o.2 h;simp at this
     .obtain⟨z,B,rfl⟩:=List.mem_map.1 hx;exact HE.o.2.1 z B hs
    .obtain⟨i,hi⟩:=List.getElem?_of_mem (List.mem_filter.1 B).1;obtain⟨_,F,G,e,hs⟩:=HZ.o i z hi;exact⟨F,G,e,Ab.mono (Ab.below hs zG) zG.size⟩
 .obtain⟨⟨Q,q0⟩,⟨R,q1⟩,⟨S,q2⟩,⟨U,q3⟩,⟨X,q4⟩,⟨Y,q5⟩,⟨Z,q6⟩,⟨y7,q7⟩,⟨y8,q8⟩,⟨y9,q9⟩,⟨K,yC⟩,M,yD⟩:=BL zF.o;go_wp2;refine bodyPost_ret (v:=.agg (Yg 6)) (by simp[results,results129,go_sem,Q,R,S,U,X,Y,Z,y7,y8,y9,K,M]) rfl ⟨zA.trans (Tn.below (BR C (w.heap.size+1) _ _ _ _ _ _ _ _ _ _ _ _) zA.size Yu),.inl ⟨.inl (zK.o.1 trivial),rfl⟩⟩
theorem PR(n:Int)(b:ls[k]?=some x):Bt (ls.take (k+1)) n=Bt (ls.take k) n++(if x.H=n then []else [x]):=by obtain⟨a,rfl⟩:=Zw b;unfold Bt;rw[Zu a,List.filter_append];by_cases h:ls[k].H=n<;>simp[h]
theorem Mm(ls:List Ld)(n:Int):(Bt ls n).length=ls.length↔¬∃x∈ls,x.H=n:=by unfold Bt;rw[List.length_filter_eq_length_iff];simp
def Re(w w':Zh)(e:Ending)(wd now given births:Int)(T P:Value)(ls:List Ld)(n:Int):Prop:=
 Below w.heap.size w w'/\(((¬∃x∈ls,x.H=n)/\e=.returned (.agg #[Zg 5,Ze,Ze,Ze,Ze,Zb,Zb,Zb,Zc,Ze,Zc,Zc]))\/
  ((∃x∈ls,x.H=n)/\∃g c,e=.returned (.agg #[Ze,Zg wd,Zg now,Zg given,Zg births,T,P,.slice (some ⟨g,0,none⟩) (Bt ls n).length c,Zc,Ze,Zc,Zc])/\w'.ownsRow w.heap.size 61 3 (.slice (some ⟨g,0,none⟩) (Bt ls n).length c) (Bt ls n).length (Ai lC (Bt ls n))))
theorem PS(wd now given births:Int)(j f A:Zk)(o l pn h E:Nat)(ls:List Ld)(n:Int)(w:Zh)(s:AR w w.heap.size A ls)(hl:ls.length<=1000):
 Calls prog 127 #[.agg (Yj wd now given births j o l f pn h A ls.length E),Zg n] w fun e w'=>Re w w' e wd now given births (.slice j o l) (.slice f pn h) ls n:=by
 obtain⟨W,y⟩:∃W,W=(w.alloc (.cells (Yj wd now given births j o l f pn h A ls.length E) 27)).alloc (.cells Yi 134):=⟨_,rfl⟩;have bW:=(Bm y).1;have N:=(Bm y).2.1;have x0:=(Bm y).2.2.1;have x1:Aa W (w.heap.size+1) z12:=by have h1:=Aa.new (w.alloc (.cells (Yj wd now given births j o l f pn h A ls.length E) 27)) z12 134;rw[World.size_alloc]at h1;rw[y];exact h1
 have U:Hid (∀X,Below (w.heap.size+2) W X->Aa X w.heap.size (Yh wd now given births j o l f pn h A ls.length E)/\Aa X (w.heap.size+1) z12):=fun X hX=>⟨Aa.same x0 (hX.block _ Yv),Aa.same x1 (hX.block _ Yv)⟩;have HW:=Yw y;have zH:Hid (W.heap.size=w.heap.size+2):=N;have t:w.heap.size+2<=W.heap.size:=Yv
 have HR:Hid (AR w w.heap.size A ls):=s;have zA:Hid (Zz w W):=bW;have bA:Below W.heap.size W (W.alloc (.cells #[] 61)):=Zy;have G:Hid ((W.alloc (.cells #[] 61)).ownsRow (w.heap.size+2) 61 3 (Yz W.heap.size 0 0) 0 []):=World.ownsRow_lit (base:=w.heap.size+2) (e:=61) (size:=3) W #[] 0 Yv Yp rfl;have F:Hid (Below (w.heap.size+2) W (W.alloc (.cells #[] 61))):=bA.mono t
 clear y N x0 x1 s bW bA;go_enter func127,ntmps127;go_upto_region 1 with fail;rw[<-HW.o];clear HW;go_wp2
 go_loopw [5,6] (fun v i wr=>∃(k g c:Nat),k<=ls.length/\i=Zg k/\v=Yz g (Bt (ls.take k) n).length c/\Hid (wr.ownsRow (w.heap.size+2) 61 3 (Yz g (Bt (ls.take k) n).length c) (Bt (ls.take k) n).length (Ai lC (Bt (ls.take k) n))/\Below (w.heap.size+2) W wr)) (fun _ i _=>ls.length -(intOf i).toNat)
 case atStart=>exact⟨0,W.heap.size,0,Nat.zero_le _,rfl,by simp[Bt],⟨by simpa [Bt,Ai]using G.o,F.o⟩⟩
 case round=>
  clear G F;obtain⟨k,g,c,hk,rfl,rfl,a⟩:=hrel;have b:Below w.heap.size w wr:=zA.o.trans (a.o.2.mono Yv);have Q:w.heap.size+2<=wr.heap.size:=Zm t a.o.2.size;obtain⟨v0,v1,v2,v3,v4,v5,v6,v7⟩:=AS (U.o _ a.o.2).1;by_cases hlt:k<ls.length
  .obtain⟨b',off,ha,hb,I⟩:=(AR.below HR.o b).at hlt;subst ha;have HG:Hid (ls[k]?=some ls[k]):=Zv hlt;obtain⟨c0,c1,c2⟩:=I k _ HG.o;have H:=Yw (PR n HG.o);have zI:(Bt (ls.take k) n).length<=1000:=by have:=List.length_filter_le (fun x:Ld=> !decide (x.H=n)) (ls.take k);unfold Bt;rw[List.length_take]at this;omega
   clear I;generalize ls[k]=x at *
   generalize hGk:Bt (ls.take k) n=gk at *
   have zG:=Yw hGk;clear hGk;by_cases hxn:x.H=n
   .have z:(x.H !=n)=false:=by simp[hxn]
    have B:Hid (Bt (ls.take (k+1)) n=gk):=by show _=_;rw[H.o,if_pos hxn,List.append_nil]
    clear hxn;go_wp2;exact⟨⟨k+1,g,c,Yv,Yo,by rw[B.o],⟨by rw[B.o];exact a.o.1,a.o.2⟩⟩,by simp[intOf];omega⟩
   .have z:(x.H !=n)=true:=by simp[hxn]
    have B:Hid (Bt (ls.take (k+1)) n=gk++[x]):=by show _=_;rw[H.o,if_neg hxn]
    clear hxn;obtain⟨g8,r,Z,M,K,J,zC⟩:=PL wr (w.heap.size+2) _ gk a.o.1 x Yv Q 25;have b8:Below (w.heap.size+2) wr Z:=(Below.refl _ _).grown J Q (fun q e=>(Ad a.o.1 e).1);have H8:Hid (Z.ownsRow (w.heap.size+2) 61 3 (Yz g8 (gk.length+1) r) (gk++[x]).length (Ai lC (gk++[x]))/\Below (w.heap.size+2) W Z):=⟨K,a.o.2.trans b8⟩;have zF:b'<wr.heap.size:=by have:=b.size;omega
    clear K J zC b8;go_wp2_with (at_builtin;refine wpList_append_run rfl _ _ 25 25 rfl rfl rfl M ?_);clear M c0 c1 c2 v0 v1 v2 v3 v4 v5 v6;go_wp2;exact⟨⟨k+1,g8,r,Yv,Yo,by rw[B.o,List.length_append];rfl,⟨by rw[B.o,List.length_append];exact List.length_append▸H8.o.1,H8.o.2⟩⟩,by simp[intOf];omega⟩
  .obtain rfl:k=ls.length:=Yv
   have D:=a.o.1;rw[Zt (Zx)]at D |-;have T:=Yw D;have u:Hid (Zz w wr):=b;obtain⟨⟨y0,q0⟩,⟨y1,q1⟩,⟨y2,q2⟩,⟨y3,q3⟩,⟨y4,q4⟩,⟨y5,q5⟩,⟨y6,q6⟩,⟨y7,q7⟩,⟨y8,q8⟩,⟨y9,q9⟩,⟨R,zJ⟩,S,zK⟩:=BL (U.o _ a.o.2).2;have f6:=((U.o _ a.o.2).1 6 _ rfl).2;by_cases hex:∃x∈ls,x.H=n
   .have zE:¬(Bt ls n).length=ls.length:=fun e=>(Mm ls n).1 e hex;have z:(((Bt ls n).length:Int)==(ls.length:Int))=false:=Yt
    have C:Hid (∃x∈ls,x.H=n):=hex;clear zE hex D b a;go_wp2;refine bodyPost_ret (v:=.agg #[Ze,Zg wd,Zg now,Zg given,Zg births,.slice j o l,.slice f pn h,Yz g (Bt ls n).length c,Zc,Ze,Zc,Zc]) (by simp[results,results127,go_sem,y0,y1,y2,y3,y4,y5,y6,y7,y8,y9,R,S]) rfl ?_
    have T':=(Tn.set (V:=[w.heap.size,w.heap.size+1]) wr w.heap.size 6 (Yz g (Bt ls n).length c) Yu).trans (Tn.mono (BR (wr.setCell (Zd (w.heap.size) 6) (Yz g (Bt ls n).length c)) (w.heap.size+1) Ze (Zg wd) (Zg now) (Zg given) (Zg births) (.slice j o l) (.slice f pn h) (Yz g (Bt ls n).length c) Zc Ze Zc Zc) Yu)
    exact⟨u.o.trans (T'.below u.o.size (by intro v Y;simp at Y;omega)),.inr ⟨C.o,g,c,rfl,(As T.o (fun q z=>T'.block q (Ad T.o z).2 (by have:=(Ad T.o z).1;simp;omega))).mono Yv⟩⟩
   .have zB:(Bt ls n).length=ls.length:=(Mm ls n).2 hex;have z:(((Bt ls n).length:Int)==(ls.length:Int))=true:=Yt
    have C:Hid (¬∃x∈ls,x.H=n):=hex;clear zB hex D b a;go_wp2;refine bodyPost_ret (v:=.agg (Yg 5)) (by simp[results,results127,go_sem,y0,y1,y2,y3,y4,y5,y6,y7,y8,y9,R,S]) rfl ?_;exact⟨u.o.trans (Tn.below (BR wr (w.heap.size+1) _ _ _ _ _ _ _ _ _ _ _ _) u.o.size (by intro v Y;simp at Y;omega)),.inl ⟨C.o,rfl⟩⟩
end Go.Proofs.YtmjlkgpekcnacaaGreat
