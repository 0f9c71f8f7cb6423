import Derived.Test.YtoglnpagihdhpaaGreatDoorX03
import Derived.Test.YtoglnpagihdhpaaGreatDoorX05
import Derived.Deep.RegionLaw
import Derived.Lib.BytesEntry
set_option maxRecDepth 100000
set_option maxHeartbeats 16000000
namespace Go.Proofs.YtoglnpagihdhpaaGreatDoor
open ChangeShapes WideShapes ChangeAt RowKit _root_.Go.Proofs.Tryz
variable{w w' d k:Zh}{K e:TypeId}{b n base a c B size g cap:Nat}{s t:Zi}{r T:Option Nat}{R V:List Nat}{l now:Int}{P L v:Value}{j:List Kd}
section
theorem AJ.block{f:Lit->Option Value}(h:AJ w K b n f)(g:w'.heap[b]?=w.heap[b]?):AJ w' K b n f:=by obtain⟨D,⟨a,clock,c,d⟩,e⟩:=h;exact⟨D,⟨a,clock,g.trans c,d⟩,e⟩
section
open Go.WideElems Go.MapKept Go.ChangeMaps
end
def GI(E:List (Zi×Zi))(t:Zi):Zl:=E.filterMap (fun p=>if p.1=t then some p.2 else none)
theorem Rz(E:List (Zi×Zi))(s r t:Zi):GI (E++[(s,r)]) t=if s=t then GI E t++[r]else GI E t:=by unfold GI;rw[List.filterMap_append];by_cases h:s=t<;>simp[h]
theorem Ts(E:List (Zi×Zi))(t:Zi):(GI E t).length<=E.length:=by unfold GI;exact List.length_filterMap_le _ _
noncomputable def rowV (f:Lit->Option Value) (t:Zi):Value:=(f (keyL t)).getD Zb
structure Lk (w:Zh) (base b n:Nat) (wd:Int) (E:List (Zi×Zi)) (av:List Nat) (f:Lit->Option Value):Prop where
 map:AJ w 111 b n f
 row:∀t:Zi,(t.size:Int)=wd->DW w base (rowV f t) (GI E t)
 apart:∀s t:Zi,(s.size:Int)=wd->(t.size:Int)=wd->s≠t->∀g,Ai (rowV f s)=some g->Ai (rowV f t)≠some g
 co:∀t:Zi,(t.size:Int)=wd->∀g,Ai (rowV f t)=some g->g∉av
theorem Lk.ag{e:Int}{E:List (Zi×Zi)}{a:List Nat}{f:Lit->Option Value}(h:Lk w base b n e E a f)(c:Zz w d):Lk d base b n e E a f:=
 ⟨h.map.ag c h.map.lt,fun t g=>(h.row t g).below c,h.apart,h.co⟩
theorem Lk.add{wr X:Zh}{i:Nat}{C:Int}{E:List (Zi×Zi)}{H:List Nat}{f:Lit->Option Value}(h:Lk wr i b n C E H f)(hb:b<i)(zH:i<=wr.heap.size)(J:∀q∈H,q<wr.heap.size)(F:wr.grownBy X (some b)){r:Zi}(x:(s.size:Int)=C)(h8:C<=8){T:TypeId}{U:Int}(hE:∀W,W.heap[b]?=X.heap[b]? ->∀O,∃P,(Instr.entryStore T (.map (some b)) (goInt U) O).run prog W=.ok () P/\AJ P 111 b (n+1) (upd f (keyL s) O)/\W.grownBy P (some b)){R:Value}(hx:R8 X X.heap.size R [r])(hlen:E.length<=1000000)(V:TypeId):
 ∃m o y,(Builtin.append_ #[105,105] V #[rowV f s,R]).run prog X=.ok m o/\(Instr.entryStore T (.map (some b)) (goInt U) m).run prog o=.ok () y/\
  Lk y i b (n+1) C (E++[(s,r)]) H (upd f (keyL s) m)/\Below b wr y/\(∀q∈H,q≠b->y.heap[q]?=wr.heap[q]? /\o.heap[q]?=wr.heap[q]?)/\wr.heap.size<=y.heap.size:=by
 have D:∀t:Zi,(t.size:Int)=C->∀g,Ai (rowV f t)=some g->X.heap[g]?=wr.heap[g]?:=fun t d g c=>by have:=(h.row t d).Z c;exact F.block g this.2 (fun e=>by have:=Option.some.inj e;omega)
 have N:∀t:Zi,(t.size:Int)=C->DW X i (rowV f t) (GI E t):=fun t d=>(h.row t d).stays F.size (D t d);have zI:=Ts E s;have zK:=F.size;obtain⟨m,o,hr,Q,z,zE⟩:=WE X i (rowV f s) (GI E s) (N s x) R [r] _ hx Yt Yv V;have zJ:=z.size;have Y:o.heap[b]?=X.heap[b]?:=z.block b Yv (fun e=>by have:=((h.row s x).Z e.symm).1;omega);obtain⟨y,zC,zA,A⟩:=hE o Y m;have zF:=A.size
 have l:∀g,Ai m=some g->(Ai (rowV f s)=some g\/g=X.heap.size):=fun g G=>by
  rcases zE with e|e
  .exact .inl (e▸G)
  .rw[e]at G;exact .inr (Option.some.inj G).symm
 have j:rowV (upd f (keyL s) m) s=m:=by unfold rowV;rw[Df];rfl
 have a:∀t:Zi,(t.size:Int)=C->s≠t->rowV (upd f (keyL s) m) t=rowV f t:=fun t d B=>by unfold rowV;rw[Db];intro e;exact B (key_inj e.symm Yv Yv)
 refine⟨m,o,y,hr,zC,⟨zA,fun t d=> ?_,fun u t I d B g v=> ?_,fun t d g c=> ?_⟩,?_,fun q L M=> ?_,Yv⟩
 .rw[Rz];by_cases e:s=t
  .subst e;rw[if_pos rfl,j];exact Q.stays zF (fun g K=>by
    have:i<=g:=(Q.Z K).1;exact A.block g (Q.Z K).2 (fun e=>by have:=Option.some.inj e;omega))
  .rw[if_neg e,a t d e];refine(N t d).stays Yv (fun g c=> ?_);have zG:=(h.row t d).Z c;rw[A.block g Yv (fun e=>by have:=Option.some.inj e;omega)];exact z.block g Yv (fun e2=>h.apart s t x d e g e2.symm c)
 .by_cases eu:s=u
  .subst eu;rw[j]at v;rw[a t d B];intro c;rcases l g v with w|w
   .exact h.apart s t x d B g w c
   .have:=((h.row t d).Z c).2;omega
  .rw[a u I eu]at v;by_cases et:s=t
   .subst et;rw[j];intro c;rcases l g c with w|w
    .exact h.apart s u x I eu g w v
    .have:=((h.row u I).Z v).2;omega
   .rw[a t d et];exact h.apart u t I d B g v
 .by_cases et:s=t
  .subst et;rw[j]at c;rcases l g c with w|w
   .exact h.co s x g w
   .intro Z;have:=J g Z;omega
  .rw[a t d et]at c;exact h.co t d g c
 .have b1:Below b wr X:=Ae.grown F Yv (fun k e=>by cases e;exact Zx);have b2:Below b X o:=Ae.grown z Yv (fun k e=>by have:=((h.row s x).Z e).1;omega);have b3:Below b o y:=Ae.grown A Yv (fun k e=>by cases e;exact Zx);exact(b1.trans b2).trans b3
 .have zB:=J q L;have S:o.heap[q]?=wr.heap[q]?:=by rw[z.block q Yv (fun e=>h.co s x q e.symm L),F.block q zB (fun e=>M (Option.some.inj e))]
  exact⟨(A.block q Yv (fun e=>M (Option.some.inj e))).trans S,S⟩
theorem Lk.new{d:Int}(c:AJ w 111 b 0 (fun _=>none)):Lk w a b 0 d [] [] (fun _=>none):=
 ⟨c,fun _ _=> .inl ⟨rfl,rfl⟩,fun _ _ _ _ _ _ h=>(by cases h),fun _ _ _ h=>(by cases h)⟩
theorem Lk.free{c:Int}{E:List (Zi×Zi)}{e:List Nat}{f:Lit->Option Value}(h:Lk w a b n c E e f):Lk w a b n c E [] f:=⟨h.map,h.row,h.apart,fun _ _ _ _ d=>by cases d⟩
end
section
attribute [local go_sem↓] Go.wp_at_zero Go.wp_at_succ
theorem Aa.same{l:Zj}(h:Aa w B l)(b:d.heap[B]?=w.heap[B]?):Aa d B l:=
 fun j v c=>⟨(World.cell?_of_block (a:=⟨B,j,none⟩) b).trans (h j v c).1,(World.frozen?_of_block (a:=⟨B,j,none⟩) b).trans (h j v c).2⟩
theorem GJ(w:Zh)(o:Obj)(h:b<w.heap.size):(w.alloc o).heap[b]?=w.heap[b]?:=Below.heap_alloc w o b h
theorem sk8{a:Zh}(h:a.heap[B]?=w.heap[B]?)(b:Aa w B (Yj (kB s))):
 a.cell? (Zd B 0)=some (.int .u8 (kB s 0))/\a.cell? (Zd B 1)=some (.int .u8 (kB s 1))/\a.cell? (Zd B 2)=some (.int .u8 (kB s 2))/\a.cell? (Zd B 3)=some (.int .u8 (kB s 3))/\a.cell? (Zd B 4)=some (.int .u8 (kB s 4))/\a.cell? (Zd B 5)=some (.int .u8 (kB s 5))/\a.cell? (Zd B 6)=some (.int .u8 (kB s 6))/\a.cell? (Zd B 7)=some (.int .u8 (kB s 7)):=by
 have:=Aa.same b h;exact⟨(this 0 _ rfl).1,(this 1 _ rfl).1,(this 2 _ rfl).1,(this 3 _ rfl).1,(this 4 _ rfl).1,(this 5 _ rfl).1,(this 6 _ rfl).1,(this 7 _ rfl).1⟩
end
theorem FR{d c a:Int}{T:Value}(h:AN w b d now c a T P L):w.cell? (Zd b 0)=some (Zg d)/\w.cell? (Zd b 1)=some (Zg now)/\w.cell? (Zd b 2)=some (Zg c)/\w.cell? (Zd b 3)=some (Zg a)/\w.cell? (Zd b 4)=some T/\w.cell? (Zd b 5)=some P/\w.cell? (Zd b 6)=some L:=
 ⟨h.1,h.2.1,h.2.2.1,h.2.2.2.1,h.2.2.2.2.1,h.2.2.2.2.2.1,h.2.2.2.2.2.2.1⟩
def vB(d m:Nat)(O P L:Value):List Nat:=d::m::(O.ownBlock.toList++(P.ownBlock.toList++L.ownBlock.toList))
def RC(base:Nat)(V:List Nat):Prop:=∃m,V[1]?=some m/\m<base+4
def Dn(w:Zh)(base:Nat)(V:List Nat)(a:Zk)(ss:Zl):Prop:=
 ss=[]\/∃b off,a=some ⟨b,off,none⟩/\b<w.heap.size/\b∉V/\((b<base/\RC base V)\/(base<=b/\∃cur,w.heap[b]?=some (.cells cur 9)))/\∀i s,ss[i]?=some s->w.cell? (Zd b (off+i))=some (.string s)
theorem Dn.row{a:Zk}{d:Zl}(h:Dn w c V a d):Ad w w.heap.size a d:=by
 rcases h with h|⟨b,e,f,g,_,_,i⟩
 .exact .inl h
 .exact .inr ⟨b,e,f,g,i⟩
def BL(w:Zh)(base:Nat)(V:List Nat)(wd:Int)(ks:List Kd)(f:Lit->Option Value):Prop:=
 ∀s:Zi,(s.size:Int)=wd->(f (keyL s)=none/\¬Au ks s)\/∃u ra rc,u∈ks/\u.sum=s/\f (keyL s)=some (DX u ra rc)/\Dn w base V ra u.B
theorem BL.of{W:Zh}{k:Int}{f:Lit->Option Value}(h:Holds W W.heap.size k j f)(g:Zz W w)(o:∀b∈V,W.heap.size<=b)(t:RC W.heap.size V):BL w W.heap.size V k j f:=by
 intro s e;rcases h s e with h|⟨u,x,y,l,m,n,d⟩
 .exact .inl h
 .refine .inr ⟨u,x,y,l,m,n,?_⟩;rcases d with d|⟨b,c,q,a,r⟩
  .exact .inl d
  .exact .inr ⟨b,c,q,Zr a g.size,fun v=>by have:=o b v;omega,.inl ⟨a,t⟩,fun i s e=>(g.cell (p:=⟨b,c+i,none⟩) a).trans (r i s e)⟩
structure Dr (w:Zh) (base d m:Nat) (O P L:Value) (wd now given births:Int) (ks:List Kd) (ps:List Pd) (ls:List Ld):Prop where
 box:Aa w d [Zg wd,.map (some m),Zg now,Zg given,Zg births,O,P,L]
 map:∃n f,n<=1000000+births.toNat/\AJ w 111 m n f/\BL w base (vB d m O P L) wd ks f
 ord:w.ownsRow base 111 8 O ks.length (AG (ks.map (·.sum)))
 ci:w.ownsRow base 69 2 P ps.length (Ab pC ps)
 ck:w.ownsRow base 71 3 L ls.length (Ab lC ls)
 bd:base<=d
 bm:base<=m
 ap:(vB d m O P L).Nodup
theorem BL.below{f:Lit->Option Value}(h:BL w base V l j f)(e:Zz w k):BL k base V l j f:=by
 intro s g;rcases h s g with h|⟨u,x,y,m,n,o,d⟩
 .exact .inl h
 .refine .inr ⟨u,x,y,m,n,o,?_⟩;rcases d with d|⟨b,c,q,a,v,t,r⟩
  .exact .inl d
  .exact .inr ⟨b,c,q,Zr a e.size,v,(by rw[e.block b a];exact t),fun i s g=>(e.cell (p:=⟨b,c+i,none⟩) a).trans (r i s g)⟩
theorem Ag{c:Zj}(h:w.ownsRow a e size v n c)(i:Zz w w'):w'.ownsRow a e size v n c:=by
 refine⟨h.1,?_⟩;rcases h.2 with j|⟨g,cap,d,k,f,b,rest⟩
 .exact .inl j
 .exact .inr ⟨g,cap,d,k,f,(i.block g (Array.getElem?_eq_some_iff.1 b).1).trans b,rest⟩
theorem Dr.below{d m:Nat}{O:Value}{b a:Int}{g:List Kd}{j:List Pd}{i:List Ld}(h:Dr w base d m O P L l now b a g j i)(c:Zz w k):Dr k base d m O P L l now b a g j i:=by obtain⟨n,f,o,e,q⟩:=h.map;exact⟨h.box.below c,⟨n,f,o,e.ag c e.lt,q.below c⟩,Ag h.ord c,Ag h.ci c,Ag h.ck c,h.bd,h.bm,h.ap⟩
theorem Ac{f:Zj}(h:w.ownsRow a e size v n f)(b:v.ownBlock=some g):a<=g/\g<w.heap.size:=by
 rcases h.2 with⟨rfl,_⟩|⟨j,cap,i,rfl,d,c,_⟩
 .cases b
 .cases b;exact⟨d,(Array.getElem?_eq_some_iff.1 c).1⟩
theorem OL{b:Zh}{c:Zj}(h:w.ownsRow a e size v n c)(j:Below B w b)(i:∀g,v.ownBlock=some g->g<B):b.ownsRow a e size v n c:=by
 refine⟨h.1,?_⟩;rcases h.2 with l|⟨g,cap,d,rfl,f,k,rest⟩
 .exact .inl l
 .exact .inr ⟨g,cap,d,rfl,f,(j.block g (i g rfl)).trans k,rest⟩
theorem Aap(w:Zh)(a:Nat)(v:Value)(b:Zl)(y:w.ownsRow a 111 8 v b.length (AG b))(s:Zi)(x:b.length<=1000000)(i:a<=w.heap.size)(k:TypeId):
 ∃g cap d,(Builtin.append_ #[105,105] k #[v,Yz w.heap.size 1 1]).run prog (w.alloc (GV s))=.ok (Yz g (b.length+1) cap) d/\d.ownsRow a 111 8 (Yz g (b.length+1) cap) (b++[s]).length (AG (b++[s]))/\w.grownBy d v.ownBlock/\(v.ownBlock=some g\/g=w.heap.size+1):=by
 obtain⟨A,t,m,n,o⟩:=info_parts Kl;have l:=Ag y (Ae.alloc (Zx) (GV s));have q:=R8.one w s;have h:∀j u,(AG [s])[j]?=some u->(w.alloc (GV s)).cell? ((⟨w.heap.size,0,none⟩:Addr).add j)=some u:=by
  rcases q with⟨e,_⟩|⟨g,B,cap,e,_,h⟩
  .cases e
  .cases e;exact R8.cells h
 obtain⟨C,d,z,f,r,_,c⟩:=run_append_own_at (P:=prog) (w.alloc (GV s)) a 105 k 111 A _ 8 8 underlying105 t m n o rfl Yq v b.length (AG b) l ⟨w.heap.size,0,none⟩ 1 1 (AG [s]) (CW [s]) h (Dt [s]) Yo Yv Yt;obtain⟨g,cap,rfl,_,_⟩:=Co f (fun e=>by subst e;rcases f.2 with⟨_,x⟩|⟨_,_,_,e,_⟩<;>first|omega|cases e)
 refine⟨g,cap,d,z,?_,(World.grownBy_alloc w (GV s) _).trans r,?_⟩
 .rw[Gv,List.length_append];exact f
 .rcases c with c|c
  .exact .inl c.symm
  .right;simpa [Value.ownBlock]using c
def kC(x:Kd×Value):Zj:=[.string x.1.sum,Zg x.1.born,.string x.1.J,x.2]
theorem Ko(x:Kd×Value):(kC x).length=4:=rfl
structure AY (w:Zh) (base:Nat) (T P L:Value) (rs:Zj) (ks:List Kd) (ps:List Pd) (ls:List Ld):Prop where
 len:rs.length=ks.length
 ak:w.ownsRow base 66 4 T ks.length (Ab kC (ks.zip rs))
 B:∀(i:Nat) (k:Kd) (r:Value),ks[i]?=some k->rs[i]?=some r->w.ownsRow base 9 1 r k.B.length (k.B.map Value.string)
 pins:w.ownsRow base 69 2 P ps.length (Ab pC ps)
 aq:w.ownsRow base 71 3 L ls.length (Ab lC ls)
 nd:((T::P::L::rs).filterMap Value.ownBlock).Nodup
theorem Dg{a:Zh}(h:Below B w.drew a):Below B w a:=⟨h.os,h.tape,h.output,h.size,h.block⟩
theorem As{d:Zj}(h:w.ownsRow b e size v n d):∃a c,v=.slice a n c:=by
 rcases h.2 with⟨rfl,rfl⟩|⟨g,cap,f,rfl,_⟩
 .exact⟨_,_,rfl⟩
 .exact⟨_,_,rfl⟩
theorem BM{c:Zj}(h:w.ownsRow a e size v n c)(d:∀g,v.ownBlock=some g->g≠b)(j:Nat)(u:Value):(w.setCell (Zd b j) u).ownsRow a e size v n c:=
 World.ownsRow.kept h (AA w b j u) (.inr (fun e=>d b e rfl))
theorem d8{d:Nat}{a i b c e j f g:Value}(h:Aa w d [a,i,b,c,e,j,f,g]):w.cell? (Zd d 0)=some a/\w.cell? (Zd d 2)=some b/\w.cell? (Zd d 3)=some c/\w.cell? (Zd d 4)=some e/\w.cell? (Zd d 6)=some f/\w.cell? (Zd d 7)=some g:=
 ⟨(h 0 _ rfl).1,(h 2 _ rfl).1,(h 3 _ rfl).1,(h 4 _ rfl).1,(h 6 _ rfl).1,(h 7 _ rfl).1⟩
def Ci(T P L:Value)(rs:Zj):List Nat:=T.ownBlock.toList++(P.ownBlock.toList++(L.ownBlock.toList++rs.filterMap Value.ownBlock))
theorem FY(T P L:Value)(a:Zj):(T::P::L::a).filterMap Value.ownBlock=Ci T P L a:=by unfold Ci;cases hT:T.ownBlock<;>cases hP:P.ownBlock<;>cases hL:L.ownBlock<;>simp[hT,hP,hL]
theorem WT{a P L:Option Nat}(h:(c::(T.toList++(P.toList++(L.toList++R)))).Nodup)(e:∀b∈c::(T.toList++(P.toList++(L.toList++R))),b<n)(i:∀g,r=some g->n<=g)(d:a=T\/∃t,a=some t/\n<=t/\∀g,r=some g->g≠t):(c::(a.toList++(P.toList++(L.toList++(R++r.toList))))).Nodup:=by
 rcases d with rfl|⟨t,rfl,j,f⟩
 .cases a<;>cases P<;>cases L<;>cases r<;>simp_all [List.nodup_append]<;>grind
 .cases T<;>cases P<;>cases L<;>cases r<;>simp_all [List.nodup_append]<;>grind
theorem Nj{P L:Option Nat}(h:(a::(T.toList++(P.toList++(L.toList++R)))).Nodup):
 (∀g,T=some g->g≠a)/\(∀g,P=some g->g≠a/\T≠some g)/\(∀g,L=some g->g≠a/\T≠some g)/\(∀g∈R,g≠a/\T≠some g):=by
 cases T<;>cases P<;>cases L<;>simp_all<;>grind
theorem Ak{b:Zj}(h:w.ownsRow a e size v n b)(j:∀g,v.ownBlock=some g->w'.heap[g]?=w.heap[g]?):w'.ownsRow a e size v n b:=by
 refine⟨h.1,?_⟩;rcases h.2 with i|⟨g,cap,c,rfl,d,f,rest⟩
 .exact .inl i
 .exact .inr ⟨g,cap,c,rfl,d,(j g rfl).trans f,rest⟩
theorem FZ{c:List Kd}(b:(c.map (·.sum)).Nodup){u v:Kd}(d:u∈c)(e:v∈c)(h:u.sum=v.sum):u=v:=by
 induction c with
 |nil=>cases d
 |cons x xs ih=>
  simp only[List.map_cons,List.nodup_cons,List.mem_map,not_exists,not_and]at b;rcases List.mem_cons.1 d with a|a<;>rcases List.mem_cons.1 e with hv'|hv'
  .rw[a,hv']
  .exact absurd (a▸h.symm) (b.1 v hv')
  .exact absurd (hv'▸h) (b.1 u a)
  .exact ih b.2 a hv'
def z7:Zj:=[Ze,Ze,Ze,Ze,Zb,Zb,Zb]
theorem RD(h:Aa w b z7):(w.cell? (Zd b 0)=some Ze/\w.frozen? ⟨b,0,none⟩=false)/\(w.cell? (Zd b 1)=some Ze/\w.frozen? ⟨b,1,none⟩=false)/\(w.cell? (Zd b 2)=some Ze/\w.frozen? ⟨b,2,none⟩=false)/\(w.cell? (Zd b 3)=some Ze/\w.frozen? ⟨b,3,none⟩=false)/\(w.cell? (Zd b 4)=some Zb/\w.frozen? ⟨b,4,none⟩=false)/\(w.cell? (Zd b 5)=some Zb/\w.frozen? ⟨b,5,none⟩=false)/\(w.cell? (Zd b 6)=some Zb/\w.frozen? ⟨b,6,none⟩=false):=
 ⟨h 0 _ rfl,h 1 _ rfl,h 2 _ rfl,h 3 _ rfl,h 4 _ rfl,h 5 _ rfl,h 6 _ rfl⟩
theorem ZA(h:Aa w b z7)(a c d e f g i:Value):Aa (((((((w.setCell (Zd b 0) a).setCell (Zd b 1) c).setCell (Zd b 2) d).setCell (Zd b 3) e).setCell (Zd b 4) f).setCell (Zd b 5) g).setCell (Zd b 6) i) b [a,c,d,e,f,g,i]:=
 (((((((h.set 0 a).set 1 c).set 2 d).set 3 e).set 4 f).set 5 g).set 6 i)
theorem GZ{d:Zj}(h:w.ownsRow c e size v n d)(a:∀g,v.ownBlock=some g->g≠b)(f i j k l m o:Value):(((((((w.setCell (Zd b 0) f).setCell (Zd b 1) i).setCell (Zd b 2) j).setCell (Zd b 3) k).setCell (Zd b 4) l).setCell (Zd b 5) m).setCell (Zd b 6) o).ownsRow c e size v n d:=
 BM (BM (BM (BM (BM (BM (BM h a 0 _) a 1 _) a 2 _) a 3 _) a 4 _) a 5 _) a 6 _
theorem FE{a:Zh}(h:Below B a w)(c:B<=b)(d e f g i j k:Value):Below B a (((((((w.setCell (Zd b 0) d).setCell (Zd b 1) e).setCell (Zd b 2) f).setCell (Zd b 3) g).setCell (Zd b 4) i).setCell (Zd b 5) j).setCell (Zd b 6) k):=
 ((((((h.setCell c d).setCell c e).setCell c f).setCell c g).setCell c i).setCell c j).setCell c k
def Tt(b:Nat)(P L:Value):Prop:=(∀g,P.ownBlock=some g->g≠b)/\(∀g,L.ownBlock=some g->g≠b)/\(∀g,P.ownBlock=some g->L.ownBlock=some g->False)
theorem Nk(zT d m:Nat)(O P L:Value)(wd now t q:Int)(c:List Kd)(A:List Pd)(z:List Ld)(w:Zh)(hd:Dr w zT d m O P L wd now t q c A z)(xR:(c.map (·.sum)).Nodup)(xW:∀k∈c,(k.sum.size:Int)=wd)(hk:c.length<=600)(hp:A.length<=100)(hl:z.length<=200)(yM:∀k∈c,k.B.length<=30):
 Calls prog 19 #[Yy d] w fun e M=>∃T P' L' rs,e=.returned (.agg #[Zg wd,Zg now,Zg t,Zg q,T,P',L'])/\AY M w.heap.size T P' L' rs c A z/\Zz w M:=by
 obtain⟨pa,yA,rfl⟩:=As hd.ci;obtain⟨la,zZ,rfl⟩:=As hd.ck;obtain⟨oa,vD,rfl⟩:=As hd.ord;have HD:=Yw hd;have vM:=hd.box.lt;obtain⟨W,hW⟩:=Af (w.alloc (.cells Yi 30));have yF:=(AB hW).1;have yU:=(AB hW).2.1;have ZW:Aa W w.heap.size z7:=(AB hW).2.2;have zU:=Yw (hd.below yF)
 have zG:Hid (∀X,Zz W X->Calls prog 40 #[.slice pa A.length yA] X fun e M=>∃a' c',e=.returned (.slice a' A.length c')/\M.ownsRow X.heap.size 69 2 (.slice a' A.length c') A.length (Ab pC A)/\Zz X M):=
  fun X K=>Jz pa yA A X (AO.own (Ag zU.o.ci K)) Yv
 have Y:Hid (∀X,Zz W X->Calls prog 41 #[.slice la z.length zZ] X fun e M=>∃a' c',e=.returned (.slice a' z.length c')/\M.ownsRow X.heap.size 71 3 (.slice a' z.length c') z.length (Ab lC z)/\Zz X M):=
  fun X K=>Is la zZ z X (AM.own (Ag zU.o.ck K)) Yv
 have HS:Hid (∀X,Zz W X->X.cell? (Zd d 0)=some (Zg wd)/\X.cell? (Zd d 2)=some (Zg now)/\X.cell? (Zd d 3)=some (Zg t)/\X.cell? (Zd d 4)=some (Zg q)/\X.cell? (Zd d 6)=some (.slice pa A.length yA)/\X.cell? (Zd d 7)=some (.slice la z.length zZ)):=
  fun X K=>d8 (zU.o.box.below K)
 have D0:Below W.heap.size W W.drew:=Ae.drew;have D1:∀o,Zz W (W.alloc o).drew:=fun o=>(Zy).drew;have HW:=Yw hW;have yO:=Yw ZW;have zE:=Yw yU;clear hd hW ZW yU;go_enter func19,ntmps19;go_upto_region 1 with fail;rw[<-HW.o];clear HW
 go_cut [3] (fun v wx=>∃(D:Nat) (H C:Zk) (I c2:Nat),v=Yy D/\Hid (Aa wx D (Yh wd now t q none 0 0 H A.length I C z.length c2)/\wx.ownsRow W.heap.size 69 2 (.slice H A.length I) A.length (Ab pC A)/\wx.ownsRow W.heap.size 71 3 (.slice C z.length c2) z.length (Ab lC z)/\Tt D (.slice H A.length I) (.slice C z.length c2)/\W.heap.size<=D/\Zz W wx))
 case first=>
  go_region_held3 (fun M=>M.cell? (Zd d 0)=some (Zg wd)/\M.cell? (Zd d 2)=some (Zg now)/\M.cell? (Zd d 3)=some (Zg t)/\M.cell? (Zd d 4)=some (Zg q)/\M.cell? (Zd d 6)=some (.slice pa A.length yA)/\M.cell? (Zd d 7)=some (.slice la z.length zZ))
   (first
     |with_reducible exact HS.o _ D0
     |with_reducible exact HS.o _ (D1 _)
     |with_reducible exact HS.o _ J
     |with_reducible exact HS.o _ V
     |with_reducible exact HS.o _ (J.alloc J.size _)
     |with_reducible exact HS.o _ (V.alloc V.size _)
     |with_reducible exact HS.o _ (FE V zA _ _ _ _ _ _ _))
   (first
     |(go_at_call 40;guard_target=~Calls prog 40 _ (World.drew (World.alloc W _)) _;refine(zG.o (W.alloc (.cells Yi 30)).drew (D1 _)).mono ?_;rintro e E ⟨H,I,rfl,S,zB⟩;have J:Below W.heap.size W E:=(D1 _).trans (zB.mono Yu);have nA:Aa E W.heap.size z7:=(Aa.below (w:=W.alloc (.cells Yi 30)) (Aa.new W _ _) (Dg zB)))
     |(go_at_call 40;guard_target=~Calls prog 40 _ (World.drew W) _;refine(zG.o W.drew D0).mono ?_;rintro e E ⟨H,I,rfl,S,zB⟩;have J:Below W.heap.size W E:=D0.trans zB)
     |(go_at_call 41;have yJ:=nA;refine(Y.o E J).mono ?_;rintro e w2 ⟨C,c2,rfl,U,F⟩;have V:Below W.heap.size W w2:=J.trans (F.mono J.size);have n2:Aa w2 W.heap.size z7:=(Aa.below nA F);have zA:W.heap.size<=W.heap.size:=Zx;obtain⟨⟨y0,q0⟩,⟨y1,q1⟩,⟨y2,q2⟩,⟨y3,q3⟩,⟨y4,q4⟩,⟨y5,q5⟩,y6,q6⟩:=RD n2)
     |(go_at_call 41;guard_target=~Calls prog 41 _ (World.alloc E _) _;refine(Y.o (E.alloc (.cells Yi 30)) (J.alloc J.size _)).mono ?_;rintro e w2 ⟨C,c2,rfl,U,F⟩;have V:Below W.heap.size W w2:=(J.alloc J.size _).trans (F.mono (by have:=J.size;simp;omega));have nB:Aa w2 E.heap.size z7:=(Aa.below (Aa.new E _ _) F);have zA:W.heap.size<=E.heap.size:=J.size;obtain⟨⟨y0,q0⟩,⟨y1,q1⟩,⟨y2,q2⟩,⟨y3,q3⟩,⟨y4,q4⟩,⟨y5,q5⟩,y6,q6⟩:=RD nB)
     |(go_at_call 41;refine(Y.o E J).mono ?_;rintro e w2 ⟨C,c2,rfl,U,F⟩;have nC:=S;have V:Below W.heap.size W w2:=J.trans (F.mono J.size)))
  all_goals (go_wp2_with fail;go_meet)
  all_goals first
   |(have yJ:=nA
     have zz:=zE.o;have l1:∀g,(Value.slice H A.length I).ownBlock=some g->W.heap.size+1<=g/\g<E.heap.size:=fun g a=>by have:=Ac S a;simp at this;omega
     have l2:∀g,(Value.slice C z.length c2).ownBlock=some g->E.heap.size<=g:=fun g a=>(Ac U a).1;have z1:W.heap.size+1<=E.heap.size:=by have:=zB.size;simp at this;omega
     exact⟨W.heap.size,H,C,I,c2,rfl,ZA n2 _ _ _ _ _ _ _,GZ (Ag (S.mono Yu) F) (fun g a=>by have:=l1 g a;omega) _ _ _ _ _ _ _,GZ (U.mono Yv) (fun g a=>by have:=l2 g a;omega) _ _ _ _ _ _ _,⟨fun g a=>by have:=l1 g a;omega,fun g a=>by have:=l2 g a;omega,fun g a zP=>by have:=l1 g a;have:=l2 g zP;omega⟩,Zx,FE V (Zx) _ _ _ _ _ _ _⟩)
   |(have yJ:=nB
     have l1:∀g,(Value.slice H A.length I).ownBlock=some g->W.heap.size<=g/\g<E.heap.size:=fun g a=>by have:=Ac S a;simp at this;omega
     have l2:∀g,(Value.slice C z.length c2).ownBlock=some g->E.heap.size+1<=g:=fun g a=>by have:=(Ac U a).1;simp at this;omega
     exact⟨E.heap.size,H,C,I,c2,rfl,ZA nB _ _ _ _ _ _ _,GZ (Ag (Ag (S.mono Yu) (Zy)) F) (fun g a=>by have:=l1 g a;omega) _ _ _ _ _ _ _,GZ (U.mono Yt) (fun g a=>by have:=l2 g a;omega) _ _ _ _ _ _ _,⟨fun g a=>by have:=l1 g a;omega,fun g a=>by have:=l2 g a;omega,fun g a zP=>by have:=l1 g a;have:=l2 g zP;omega⟩,zA,FE V zA _ _ _ _ _ _ _⟩)
   |(have yJ:=nC
     have l1:∀g,(Value.slice H A.length I).ownBlock=some g->W.heap.size<=g/\g<E.heap.size:=fun g a=>by have:=Ac S a;simp at this;omega
     have l2:∀g,(Value.slice C z.length c2).ownBlock=some g->E.heap.size<=g/\g<w2.heap.size:=fun g a=>Ac U a;have z2:=F.size;exact⟨w2.heap.size,H,C,I,c2,rfl,Aa.new w2 _ _,Ag (Ag (S.mono Yu) F) (Zy),Ag (U.mono J.size) (Zy),⟨fun g a=>by have:=l1 g a;omega,fun g a=>by have:=l2 g a;omega,fun g a zP=>by have:=l1 g a;have:=l2 g zP;omega⟩,V.size,V.alloc V.size _⟩)
 case rest=>
  revert wc;intro wN hcut;obtain⟨D,H,C,I,c2,rfl,HC⟩:=hcut;have yY:Hid (Zz w wN):=yF.trans (HC.o.2.2.2.2.2.mono yF.size);have dN:=(zU.o.box.below HC.o.2.2.2.2.2);obtain⟨e5,_⟩:=dN 5 _ rfl;have zN:=HC.o.2.2.2.2.2.size;have vQ:W.heap.size<=D:=HC.o.2.2.2.2.1;have xD:Hid (Aa wN w.heap.size z7):=Aa.below (v:=Ze) (l:=z7.tail) yO.o HC.o.2.2.2.2.2;clear dN zG Y HS D0 D1 yO;go_wp2
  go_loopw [40] (fun i wr=>∃(k:Nat) (T:Value) (rs:Zj),k<=c.length/\i=Zg k/\Hid (Aa wr D [Zg wd,Zg now,Zg t,Zg q,T,.slice H A.length I,.slice C z.length c2]/\Aa wr w.heap.size z7/\wr.ownsRow W.heap.size 66 4 T k (Ab kC ((c.take k).zip rs))/\rs.length=k/\(∀(i:Nat) (x:Kd) (r:Value),(c.take k)[i]?=some x->rs[i]?=some r->wr.ownsRow W.heap.size 9 1 r x.B.length (x.B.map Value.string))/\wr.ownsRow W.heap.size 69 2 (.slice H A.length I) A.length (Ab pC A)/\wr.ownsRow W.heap.size 71 3 (.slice C z.length c2) z.length (Ab lC z)/\(D::Ci T (.slice H A.length I) (.slice C z.length c2) rs).Nodup)/\Zz w wr) (fun i _=>c.length -(intOf i).toNat)
  case atStart=>
   refine⟨0,Zb,[],Nat.zero_le _,rfl,⟨HC.o.1,xD.o,⟨rfl,.inl ⟨rfl,rfl⟩⟩,rfl,fun i x r hx=>by simp at hx,HC.o.2.1,HC.o.2.2.1,?_⟩,yY.o⟩;have h3:=HC.o.2.2.2.1;unfold Tt at h3;unfold Ci;generalize (Value.slice H A.length I).ownBlock=x1 at *
   generalize (Value.slice C z.length c2).ownBlock=x2 at *
   cases x1<;>cases x2<;>simp_all [Value.ownBlock]<;>grind
  case round=>
   obtain⟨k,T,rs,vN,rfl,HI,G⟩:=hrel;by_cases hlt:k<c.length
   .obtain⟨n,f,hn,hM,hH⟩:=HD.o.map;have yI:=G.size;have ho:wr.ownsRow zT 111 8 (.slice oa c.length vD) c.length (AG (c.map (·.sum))):=OL HD.o.ord G (fun g a=>(Ac HD.o.ord a).2);obtain⟨og,oc,xL,_,vO⟩:=Co ho (fun e=>by injection e with _ h2 _;omega);cases xL;have HG:Hid (c[k]?=some c[k]):=Zv hlt;have Q:c[k]∈c:=List.getElem_mem hlt;have xY:=xW _ Q;have vJ:=yM _ Q
    have yS:(c.map (·.sum))[k]?=some c[k].sum:=by simp[hlt]
    have s:∀j,j<8->wr.cell? (Zd og (k *8+j))=some (.int .u8 (kB c[k].sum j)):=fun j hj=>(ho.cellAt _ Yv).trans (EM yS hj);obtain⟨R,rc,yR,xA⟩:∃R rc,f (keyL c[k].sum)=some (DX c[k] R rc)/\Hid (Ad w w.heap.size R c[k].B):=by
     rcases hH _ xY with⟨_,xS⟩|⟨u,R,rc,hu,xX,xN,xU⟩
     .exact absurd ⟨_,Q,rfl⟩ xS
     .obtain rfl:=FZ xR hu Q xX;exact⟨R,rc,xN,xU.row⟩
    have yG:∀X,Zz wr X->(Instr.lookup 102 (.map (some m)) (Cn c[k].sum) false).run prog X=.ok (DX c[k] R rc) X:=fun X K=>by have:=(hM.ag (G.trans (K.mono yI)) hM.lt).look keyed underlying102 (KV _) (EL c[k].sum);rw[yR]at this;exact this
    have dr:Aa wr d _:=Aa.below HD.o.box G;have yQ:=s 0 Yv;have xE:=s 1 Yv;have xF:=s 2 Yv;have xG:=s 3 Yv;have xH:=s 4 Yv;have xI:=s 5 Yv;have xJ:=s 6 Yv;have xK:=s 7 Yv;rw[Nat.add_zero]at yQ;have HX:Hid (c.take (k+1)=c.take k++[c[k]]):=Zu hlt;unfold Cn CR DX at yG;clear ho s yS hH yR Q hM;generalize c[k]=x at *
    obtain⟨B,zJ⟩:=Af (wr.alloc (.cells (Yk (kB x.sum)) 111));have b1:=(AB zJ).1;have z1:=(AB zJ).2.1;have K1:=(AB zJ).2.2
    have yB:Hid (∀X,Zz B X->X.cell? (Zd d 1)=some (.map (some m))/\(X.cell? (Zd (wr.heap.size) 0)=some (.int .u8 (kB x.sum 0))/\X.cell? (Zd (wr.heap.size) 1)=some (.int .u8 (kB x.sum 1))/\X.cell? (Zd (wr.heap.size) 2)=some (.int .u8 (kB x.sum 2))/\X.cell? (Zd (wr.heap.size) 3)=some (.int .u8 (kB x.sum 3))/\X.cell? (Zd (wr.heap.size) 4)=some (.int .u8 (kB x.sum 4))/\X.cell? (Zd (wr.heap.size) 5)=some (.int .u8 (kB x.sum 5))/\X.cell? (Zd (wr.heap.size) 6)=some (.int .u8 (kB x.sum 6))/\X.cell? (Zd (wr.heap.size) 7)=some (.int .u8 (kB x.sum 7)))/\(Instr.lookup 102 (.map (some m)) (.agg (Yk (kB x.sum))) false).run prog X=.ok (.agg #[.string x.sum,Zg x.born,.string x.J,.slice R x.B.length rc]) X):=
     fun X K=>⟨((dr.below (b1.trans (K.mono b1.size))) 1 _ rfl).1,sk8 (K.block _ Yv) K1,yG X (b1.trans (K.mono b1.size))⟩
    have D0:Below B.heap.size B B.drew:=Ae.drew;have D1:∀o,Zz B (B.alloc o).drew:=fun o=>(Zy).drew;have yN:=Yw zJ;have zH:=Yw z1;have yX:=Yw b1;clear zJ z1 yG K1 b1 dr;go_upto_region 5 with fail;rw[<-yN.o];clear yN yQ xE xF xG xH xI xJ xK
    go_region_held3 (fun X=>X.cell? (Zd d 1)=some (.map (some m))/\(X.cell? (Zd (wr.heap.size) 0)=some (.int .u8 (kB x.sum 0))/\X.cell? (Zd (wr.heap.size) 1)=some (.int .u8 (kB x.sum 1))/\X.cell? (Zd (wr.heap.size) 2)=some (.int .u8 (kB x.sum 2))/\X.cell? (Zd (wr.heap.size) 3)=some (.int .u8 (kB x.sum 3))/\X.cell? (Zd (wr.heap.size) 4)=some (.int .u8 (kB x.sum 4))/\X.cell? (Zd (wr.heap.size) 5)=some (.int .u8 (kB x.sum 5))/\X.cell? (Zd (wr.heap.size) 6)=some (.int .u8 (kB x.sum 6))/\X.cell? (Zd (wr.heap.size) 7)=some (.int .u8 (kB x.sum 7)))/\(Instr.lookup 102 (.map (some m)) (.agg (Yk (kB x.sum))) false).run prog X=.ok (.agg #[.string x.sum,Zg x.born,.string x.J,.slice R x.B.length rc]) X)
     (first|with_reducible exact yB.o _ D0|with_reducible exact yB.o _ (D1 _))
     (fail)
    all_goals
     clear yB D0 D1;obtain⟨W2,zK⟩:=Af ((B.alloc (.cells #[.string x.sum,Zg x.born,.string x.J,.slice R x.B.length rc] 66)).drew);have b2:Below B.heap.size B W2:=by rw[zK];exact(Zy).drew
     have z2:W2.heap.size=B.heap.size+1:=by rw[zK];simp
     have K2:Aa W2 B.heap.size [.string x.sum,Zg x.born,.string x.J,.slice R x.B.length rc]:=by rw[zK];exact Aa.new B _ _
     have z1:=zH.o;have yD:Below wr.heap.size wr W2:=yX.o.trans (b2.mono Yv);have R2:Ad W2 W2.heap.size R x.B:=Ad.mono (Ad.below xA.o (G.trans (yD.mono yI))) Yv;rw[<-zK];obtain⟨k3,_⟩:=K2 3 _ rfl;have yC:=Yw z2;have xT:x.B.length<=1048576:=Yv
     clear zK z1 z2;go_wp2_with fail;refine(Oz R rc x.B W2 R2 xT).mono ?_;rintro e w3 ⟨a3,c3,rfl,yH,zO⟩;clear k3;have z1:=zH.o;have z2:=yC.o;have zV:Below wr.heap.size wr w3:=yD.trans (zO.mono Yv);have z3:=zO.size;obtain⟨i1,i2,i3,i4,i5,i6,i7,i8⟩:=HI.o;have zW:=zE.o;have S3:=Aa.below i1 zV;obtain⟨ta,tc,rfl⟩:=As i3;obtain⟨s4,f4⟩:=S3 4 _ rfl;have xV:D<wr.heap.size:=i1.lt
     have yL:¬D=B.heap.size:=Yv
     have vH:¬B.heap.size=D:=Yv
     obtain⟨k0,k1,k2⟩:=Aa.c3 (Aa.below K2 zO) 0 1 2;obtain⟨k3,g3⟩:=Aa.below K2 zO 3 _ rfl;have xC:=Yw (Ag i3 zV);have zI:∀g,(Value.slice ta k tc).ownBlock=some g->W.heap.size<=g/\g<wr.heap.size:=fun g a=>Ac i3 a;have yE:∀g,(Value.slice a3 x.B.length c3).ownBlock=some g->W2.heap.size<=g/\g<w3.heap.size:=fun g a=>Ac yH a;have yZ:=Yw yH;have zS:=Yw zV;have xB:=Yw S3
     have vK:W.heap.size<=w3.heap.size:=Yv
     obtain⟨i0,hi,xZ,vA,vC⟩:=info_parts IE;have yP:=Yw z3;clear K2 b2 yD R2 i1 i2 i3 i4 i5 i6 i7 i8 zO yH zV S3 z1 z2 z3 zW;go_wp2_with (first
      |(at_builtin;refine wpList_append_own_at _ rfl _ _ 26 rfl W.heap.size 66 i0 _ 4 64 underlying26 hi xZ vA vC rfl Yq _ k (Ab kC ((c.take k).zip rs)) rfl ?d0 ⟨w3.heap.size,0,none⟩ 1 1 (kC (x,.slice a3 x.B.length c3)) rfl rfl ?d2 ?d3 ?d4 ?d5 ?d6 ?_)
      |go_in)
     case d0=>exact Ag (BM xC.o (fun g a=>by have:=zI g a;have:=zH.o;omega) 3 _) (Zy)
     case d2=>
      intro j u hu;rw[Go.WideShapes.add_plain,Nat.zero_add];have:=(Aa.new (w3.setCell (Zd (B.heap.size) 3) (.slice a3 x.B.length c3)) (kC (x,.slice a3 x.B.length c3)) 66) j u hu;simpa [kC]using this.1
     case d3=>
      intro u hu;simp[kC]at hu;rcases hu with rfl|rfl|rfl|rfl<;>rfl
     case d4=>unfold maxLen;omega
     case d5=>omega
     case d6=>simp;omega
     intro v4 w4 zF zR xQ zM;obtain⟨g4,c4,rfl,vE,vF⟩:=Co zF (fun e=>by subst e;rcases zF.2 with⟨_,hn⟩|⟨_,_,_,e,_⟩<;>first|omega|cases e);obtain⟨i1,i2,i3,i4,i5,i6,i7,i8⟩:=HI.o;have nf:=Nj i8;have z1:=zH.o;have z2:=yC.o;have z3:=yP.o;have zW:=zE.o;have K:∀b,b<w3.heap.size->b≠B.heap.size->(Value.slice ta k tc).ownBlock≠some b->w4.heap[b]?=w3.heap[b]?:=fun b Z zB F=>by rw[zR.block b Yt (fun e=>F e.symm),Below.heap_alloc _ _ _ Yt,Below.heap_setCell _ _ _ _ (by simpa using zB)]
     have S4:=Aa.same xB.o (K D Yv yL (fun e=>nf.1 _ e rfl));obtain⟨_,vL⟩:=S4 4 _ rfl;obtain⟨vP,_⟩:=S4 4 _ rfl;have vG:g4≠D:=by
      rcases zM with ha|ha
      .exact nf.1 g4 ha.symm
      .simp[Value.ownBlock]at ha;omega
     have HF:=Yw (Zn S4 (Zn K (Zn zF (Zn zM zR))));clear S4 K zF zM zR i1 i2 i3 i4 i5 i6 i7 i8 nf z1 z2 z3 zW s4 f4 k0 k1 k2 k3 g3 xQ;go_wp2;obtain⟨S4,K,zF,zM,zR⟩:=HF.o;obtain⟨i1,i2,i3,i4,i5,i6,i7,i8⟩:=HI.o;have nf:=Nj i8;have z1:=zH.o;have z2:=yC.o;have z3:=yP.o;have zW:=zE.o
     have hY:∀b,b<w3.heap.size->b≠B.heap.size->b≠D->(Value.slice ta k tc).ownBlock≠some b->(w4.setCell (Zd D 4) (Yz g4 (k+1) c4)).heap[b]?=w3.heap[b]?:=fun b h1 h2 h3 h4=>(Below.heap_setCell _ _ _ _ (by simpa using h3)).trans (K b h1 h2 h4)
     have zX:∀b,b<wr.heap.size->b≠D->(Value.slice ta k tc).ownBlock≠some b->(w4.setCell (Zd D 4) (Yz g4 (k+1) c4)).heap[b]?=wr.heap[b]?:=fun b h1 h3 h4=>(hY b Yv Yv h3 h4).trans (zS.o.block b h1);have yV:∀r∈rs,∀g,r.ownBlock=some g->g<wr.heap.size:=by
      intro r N g a;obtain⟨i,hi⟩:=List.getElem?_of_mem N;have xP:i<k:=by have:=(Zw hi).1;omega
      exact(Ac (i5 i _ r (by rw[List.getElem?_take_of_lt xP];exact Zv Yv) hi) a).2
     refine⟨⟨k+1,Yz g4 (k+1) c4,rs++[.slice a3 x.B.length c3],Yv,Yn,⟨Aa.set S4 4 _,?_,?_,?_,?_,?_,?_,?_⟩,?_⟩,Ys⟩
     .exact Aa.same i2 (zX w.heap.size Yv Yv (fun e=>by have:=(zI _ e).1;omega))
     .rw[HX.o,List.zip_append (by rw[i4,List.length_take];omega),Bn];exact BM zF (fun g a=>by simp[Value.ownBlock]at a;omega) 4 _
     .simp[i4]
     .intro i y r hy N;rw[HX.o]at hy;have yK:(c.take k).length=k:=by rw[List.length_take];omega
      rcases Nat.lt_or_ge i k with h|h
      .rw[List.getElem?_append_left Yv]at hy N;refine Ak (i5 i y r hy N) (fun g a=> ?_);have:=nf.2.2.2 g (List.mem_filterMap.2 ⟨r,Zs N,a⟩);exact zX g (yV r (Zs N) g a) this.1 this.2
      .have xO:i=k:=by have:=(Zw N).1;simp at this;omega
       subst xO;rw[List.getElem?_append_right Yv,yK,Nat.sub_self]at hy;rw[List.getElem?_append_right Yv,i4,Nat.sub_self]at N;simp at hy N;subst hy;subst N;refine Ak (World.ownsRow.mono yZ.o Yv) (fun g a=> ?_);have:=yE g a;exact hY g this.2 Yv Yv (fun e=>by have:=(zI g e).2;omega)
     .exact Ak i6 (fun g a=>zX g (Ac i6 a).2 (nf.2.1 g a).1 (nf.2.1 g a).2)
     .exact Ak i7 (fun g a=>zX g (Ac i7 a).2 (nf.2.2.1 g a).1 (nf.2.2.1 g a).2)
     .unfold Ci;rw[List.filterMap_append];have xM:List.filterMap Value.ownBlock [.slice a3 x.B.length c3]=(Value.slice a3 x.B.length c3).ownBlock.toList:=by cases h:(Value.slice a3 x.B.length c3).ownBlock<;>simp[h]
      rw[xM];refine WT (n:=wr.heap.size) i8 ?_ (fun g a=>by have:=(yE g a).1;omega) ?_
      .intro b Z;simp only[List.mem_cons,List.mem_append,Option.mem_toList,List.mem_filterMap]at Z;rcases Z with rfl|Z|Z|Z|⟨r,N,Z⟩
       .exact xV
       .exact(zI _ Z).2
       .exact(Ac i6 Z).2
       .exact(Ac i7 Z).2
       .exact yV r N b Z
      .rcases zM with ha|ha
       .exact .inl ha
       .refine .inr ⟨w3.heap.size+1,by simpa using ha,Yv,fun g a=>by have:=(yE g a).2;omega⟩
     .have hq:Below w.heap.size w w3:=G.trans (zS.o.mono yI);exact(((hq.setCell Yt _).alloc Yt _).grown zR Yt (fun g a=>by have:=(zI g a).1;omega)).setCell Yt _
   .obtain rfl:k=c.length:=Yv
    obtain⟨i1,i2,i3,i4,i5,i6,i7,i8⟩:=HI.o;have zW:=zE.o;obtain⟨⟨y0,q0⟩,⟨y1,q1⟩,⟨y2,q2⟩,⟨y3,q3⟩,⟨y4,q4⟩,⟨y5,q5⟩,y6,q6⟩:=RD i2;obtain⟨ta,tc,rfl⟩:=As i3;obtain⟨x0,x1,x2,x3,x4,x5,x6⟩:=Aa.c7 i1 0 1 2 3 4 5 6;have vI:¬D=w.heap.size:=Yv
    have yW:¬w.heap.size=D:=Yv
    have zC:=Yw (Zn i2 (Zn i3 (Zn i4 (Zn i5 (Zn i6 (Zn i7 i8))))));clear i1 i2 i3 i4 i5 i6 i7 i8 zW;go_wp2;have zW:=zE.o
    have zY:∀{e:TypeId} {size:Nat} {v:Value} {n:Nat} {xs:Zj},wr.ownsRow W.heap.size e size v n xs->(((((((wr.setCell (Zd (w.heap.size) 0) (Zg wd)).setCell (Zd (w.heap.size) 1) (Zg now)).setCell (Zd (w.heap.size) 2) (Zg t)).setCell (Zd (w.heap.size) 3) (Zg q)).setCell (Zd (w.heap.size) 4) (.slice ta c.length tc)).setCell (Zd (w.heap.size) 5) (.slice H A.length I)).setCell (Zd (w.heap.size) 6) (.slice C z.length c2)).ownsRow w.heap.size e size v n xs:=fun h=>World.ownsRow.mono (GZ h (fun g a=>by have:=(Ac h a).1;omega) _ _ _ _ _ _ _) Yv
    have yT:c.take c.length=c:=Zt (Zx);refine bodyPost_ret (v:=.agg (Yg wd now t q ta c.length tc H A.length I C z.length c2)) (by simp[results,results19,go_sem,y0,y1,y2,y3,y4,y5,y6]) rfl ⟨_,_,_,rs,rfl,⟨zC.o.2.2.1,?_,?_,zY zC.o.2.2.2.2.1,zY zC.o.2.2.2.2.2.1,?_⟩,FE G (Zx) _ _ _ _ _ _ _⟩
    .have:=zC.o.2.1;rw[yT]at this;exact zY this
    .intro i y r hy N;exact zY (zC.o.2.2.2.1 i y r (by rw[yT];exact hy) N)
    .rw[FY];exact(List.nodup_cons.1 zC.o.2.2.2.2.2.2).2
def kI(s:Zi):List Int:=[kB s 0,kB s 1,kB s 2,kB s 3,kB s 4,kB s 5,kB s 6,kB s 7]
def Fo(s t:Zi):Int:=Lib.compareBytes (Lib.bytesOf (kI s)) (Lib.bytesOf (kI t))
theorem WU(x:List UInt8):Lib.compareBytes x x=0:=by
 induction x with
 |nil=>rfl
 |cons a x ih=>unfold Lib.compareBytes;simp[ih,UInt8.lt_irrefl]
theorem ON(z:List UInt8):∀(x y:List UInt8),x.length=y.length->Lib.compareBytes (x++z) (y++z)=Lib.compareBytes x y
 |[],[],_=>by rw[List.nil_append,WU];rfl
 |a::x,b::y,h=>by have c:=ON z x y (by simpa using h);show Lib.compareBytes (a::(x++z)) (b::(y++z))=_;unfold Lib.compareBytes;rw[c]
theorem Tu:∀(x y:List UInt8),x.length=y.length->(Lib.compareBytes x y<0↔x<y)
 |[],[],_=>by simp[Lib.compareBytes]
 |a::x,b::y,h=>by
  have c:=Tu x y (by simpa using h);unfold Lib.compareBytes;rw[List.cons_lt_cons_iff,<-c];by_cases h1:a<b
  .simp[h1]
  .by_cases h2:b<a
   .have:¬a=b:=fun e=>by subst e;exact absurd h2 (UInt8.lt_irrefl _)
    simp[h1,h2,this]
   .have:a=b:=UInt8.le_antisymm (UInt8.not_lt.1 h2) (UInt8.not_lt.1 h1);simp[this]
theorem QN:∀(x y:List UInt8),x.length=y.length->(Lib.compareBytes x y=0↔x=y)
 |[],[],_=>by simp[Lib.compareBytes]
 |a::x,b::y,h=>by
  have c:=QN x y (by simpa using h);unfold Lib.compareBytes;by_cases h1:a<b
  .have:¬a=b:=fun e=>by subst e;exact absurd h1 (UInt8.lt_irrefl _)
   simp[h1,this]
  .by_cases h2:b<a
   .have:¬a=b:=fun e=>by subst e;exact absurd h2 (UInt8.lt_irrefl _)
    simp[h1,h2,this]
   .have:a=b:=UInt8.le_antisymm (UInt8.not_lt.1 h2) (UInt8.not_lt.1 h1);simp[this,c]
theorem LH(s:Zi)(h:s.size<=8):Lib.bytesOf (kI s)=s.data.toList++List.replicate (8 -s.size) 0:=by
 have c:=BH s;have b:∀i,(kB s i).toNat.toUInt8=(s.data.toList[i]?).getD 0:=fun i=>by unfold kB;simp
 unfold kI Lib.bytesOf;simp only[List.map_cons,List.map_nil,b];apply List.ext_getElem?;intro i;rw[List.getElem?_append];rw[c];rcases Nat.lt_or_ge i 8 with a|a
 .have e:([(s.data.toList[0]?).getD 0,(s.data.toList[1]?).getD 0,(s.data.toList[2]?).getD 0,(s.data.toList[3]?).getD 0,(s.data.toList[4]?).getD 0,(s.data.toList[5]?).getD 0,(s.data.toList[6]?).getD 0,(s.data.toList[7]?).getD 0]:List UInt8)[i]?=some ((s.data.toList[i]?).getD 0):=by rcases(show i=0\/i=1\/i=2\/i=3\/i=4\/i=5\/i=6\/i=7 by omega)with rfl|rfl|rfl|rfl|rfl|rfl|rfl|rfl<;>rfl
  rw[e];by_cases hi:i<s.size
  .rw[if_pos hi,Zv Yv];rfl
  .rw[if_neg hi,List.getElem?_eq_none Yv,List.getElem?_replicate,if_pos Yv];rfl
 .rw[List.getElem?_eq_none Yt,if_neg Yv,List.getElem?_eq_none Yt]
theorem UT(b:s.size<=8)(a:t.size=s.size):Fo s t<0↔less s t=true:=by unfold Fo less;rw[LH s b,LH t Yv,a,ON _ _ _ (by rw[BH,BH,a]),Tu _ _ (by rw[BH,BH,a]),ByteArray.toList_eq,ByteArray.toList_eq,OB]
theorem Tv(b:s.size<=8)(a:t.size=s.size):Fo s t=0↔s=t:=by
 unfold Fo;rw[LH s b,LH t Yv,a,ON _ _ _ (by rw[BH,BH,a]),QN _ _ (by rw[BH,BH,a])];constructor
 .intro h;exact toList_inj (by rw[ByteArray.toList_eq,ByteArray.toList_eq];exact h)
 .rintro rfl;rfl
theorem OO(h:Aa w b (Am s)):∀j x,(kI s)[j]?=some x->w.cell? ((⟨b,0,none⟩:Addr).add j)=some (.int .u8 x):=by intro j x a;rw[Go.WideShapes.add_plain,Nat.zero_add];have c:j<8:=(Zw a).1;refine(h j (.int .u8 x) ?_).1;unfold Am CR;unfold kI at a;rcases(show j=0\/j=1\/j=2\/j=3\/j=4\/j=5\/j=6\/j=7 by omega)with rfl|rfl|rfl|rfl|rfl|rfl|rfl|rfl<;>(simp at a;subst a;rfl)
theorem Qb(w:Zh)(a b:Nat)(s t:Zi)(f:Aa w a (Am s))(g:Aa w b (Am t)):
 (callFunc 177 #[Yz a 8 8,Yz b 8 8]).run prog w=.ok (.value (Zg (Fo s t))) w:=by
 rw[run_callFunc_extern (fn:=f177) (e:=Extern.BytealgCompare.compare) func177 Yr Yr Yr Yr];have c:=Lib.run_loadBytesX (P:=prog) w (kI s) ⟨a,0,none⟩ .empty (OO f);have d:=Lib.run_loadBytesX (P:=prog) w (kI t) ⟨b,0,none⟩ .empty (OO g);have h:∀l:List UInt8,(⟨ByteArray.empty.data++l.toArray⟩:Zi)=⟨l.toArray⟩:=fun l=>by apply ByteArray.ext;show(#[]:Array UInt8)++l.toArray=l.toArray;simp
 rw[h]at c d;change (Sem.run prog (do pure (goInt (Extern.BytealgCompare.cmp (<-Extern.Bytes.bytesOf (Yz a 8 8)) (<-Extern.Bytes.bytesOf (Yz b 8 8))))) w).andThen _=_;simp only[Extern.Bytes.bytesOf,Sem.run_bind,Sem.run_pure];rw[show(8:Nat)=(kI s).length from rfl,c];rw[Result.andThen_ok,show(kI s).length=(kI t).length from rfl,d];simp only[Result.andThen];rw[Lib.cmp_eq];rfl
theorem KY(w:Zh)(a b:Nat)(s t:Zi)(c:Aa w a (Am s))(d:Aa w b (Am t)):
 Calls prog 164 #[Yz a 8 8,Yz b 8 8] w fun e f=>e=.returned (Zg (Fo s t))/\f=w:=by
 have g:=Qb w a b s t c d;clear c d;go_enter func164,ntmps164;go_wp2;go_ret;exact⟨rfl,rfl⟩
theorem LI(s t:Zi)(w:Zh):
 Calls prog 163 #[Cn s,Cn t] w fun e h=>e=.returned (Zg (Fo s t))/\Zz w h:=by
 obtain⟨W,a⟩:=Af ((w.alloc (.cells (Yk (kB s)) 111)).alloc (.cells (Yk (kB t)) 111));have g:=(Bb a).1;have d:Aa W w.heap.size (Am s):=by rw[a];exact Aa.below (v:=.int .u8 (kB s 0)) (Aa.new w (Am s) 111) (Zy)
 have f:Aa W (w.heap.size+1) (Am t):=by have:=Aa.new (w.alloc (.cells (Yk (kB s)) 111)) (Am t) 111;rw[World.size_alloc]at this;rw[a];exact this
 have b:=Yw (Za d f);have c:=Yw a;clear a d f;unfold Cn CR;go_enter func163,ntmps163;go_upto_region 1 with fail;rw[<-c.o];clear c;go_region_with (go_at_call 164;refine(KY W.drew w.heap.size (w.heap.size+1) s t b.o.1 b.o.2).mono ?_;rintro e i ⟨rfl,rfl⟩)
 all_goals
  go_wp2;go_ret;exact⟨rfl,g.drew⟩
structure Fv (ss:Zl) (s:Zi) (i:Nat):Prop where
 le:i<=ss.length
 lo:∀j x,j<i->ss[j]?=some x->less x s=true
 hi:∀j x,i<=j->ss[j]?=some x->less x s=false
theorem WV{a:Zl}(e:w.ownsRow b 111 8 (Yz g a.length cap) a.length (AG a)){k:Nat}(c:a[k]?=some s):∀j,j<8->w.cell? (Zd g (k *8+j))=some (.int .u8 (kB s j)):=fun j d=>by have:=(Zw c).1;exact(e.cellAt _ Yv).trans (EM c d)
theorem ZB{a:Zl}(c:w.ownsRow b 111 8 (Yz g a.length cap) a.length (AG a)){k:Nat}(d:a[k]?=some s):
 w.cell? (Zd g (k *8))=some (.int .u8 (kB s 0))/\w.cell? (Zd g (k *8+1))=some (.int .u8 (kB s 1))/\w.cell? (Zd g (k *8+2))=some (.int .u8 (kB s 2))/\w.cell? (Zd g (k *8+3))=some (.int .u8 (kB s 3))/\w.cell? (Zd g (k *8+4))=some (.int .u8 (kB s 4))/\w.cell? (Zd g (k *8+5))=some (.int .u8 (kB s 5))/\w.cell? (Zd g (k *8+6))=some (.int .u8 (kB s 6))/\w.cell? (Zd g (k *8+7))=some (.int .u8 (kB s 7)):=
 have h:=WV c d
 ⟨by simpa using h 0 Yq,h 1 Yq,h 2 Yq,h 3 Yq,h 4 Yq,h 5 Yq,h 6 Yq,h 7 Yq⟩
theorem Ha(h:Aa w g (Am s)):
 w.cell? (Zd g 0)=some (.int .u8 (kB s 0))/\w.cell? (Zd g 1)=some (.int .u8 (kB s 1))/\w.cell? (Zd g 2)=some (.int .u8 (kB s 2))/\w.cell? (Zd g 3)=some (.int .u8 (kB s 3))/\w.cell? (Zd g 4)=some (.int .u8 (kB s 4))/\w.cell? (Zd g 5)=some (.int .u8 (kB s 5))/\w.cell? (Zd g 6)=some (.int .u8 (kB s 6))/\w.cell? (Zd g 7)=some (.int .u8 (kB s 7)):=
 ⟨(h 0 _ rfl).1,(h 1 _ rfl).1,(h 2 _ rfl).1,(h 3 _ rfl).1,(h 4 _ rfl).1,(h 5 _ rfl).1,(h 6 _ rfl).1,(h 7 _ rfl).1⟩
theorem LJ(g cap:Nat)(d:Zl)(s:Zi)(w:Zh)(zC:Nat)(ho:w.ownsRow zC 111 8 (.slice (some ⟨g,0,none⟩) d.length cap) d.length (AG d))(hl:d.length<=600)(zR:s.size<=8)(zI:∀x∈d,x.size=s.size)(l:d.Pairwise (fun a b=>less a b=true)):
 Calls prog 162 #[.slice (some ⟨g,0,none⟩) d.length cap,Cn s,.func (.func 163) #[] #[]] w fun e w'=>∃i:Nat,e=.returned (.tuple #[Zg i,.bool (decide (d[i]?=some s))])/\Fv d s i/\Zz w w':=by
 unfold Cn CR;have zO:=(Ac ho rfl).2;obtain⟨W,hW⟩:=Af (w.alloc (.cells (Yk (kB s)) 111));have N:=(AB hW).1;have cb:Aa W w.heap.size (Am s):=by rw[hW];exact Aa.new w (Am s) 111
 have zH:=Ag ho N;have HW:Hid _:=hW;have HO:Hid _:=zH;have HC:Hid _:=cb;have zS:=Aa.lt (v:=.int .u8 (kB s 0)) cb;clear hW zH cb ho;go_enter func162,ntmps162;go_upto_region 1 with fail;rw[<-HW.o];clear HW;have zN:=enters_of func163 Yr rfl;go_wp2
 go_loopw [9,10] (fun i j wr=>∃lo f:Nat,i=Zg lo/\j=Zg f/\lo<=f/\f<=d.length/\Hid ((∀j x,j<lo->d[j]?=some x->less x s=true)/\(∀j x,f<=j->d[j]?=some x->less x s=false))/\Zz W wr) (fun i j _=>(intOf j).toNat -(intOf i).toNat)
 case atStart=>exact⟨0,d.length,rfl,rfl,Nat.zero_le _,Zx,⟨fun j x h=>by omega,fun j x h hx=>by have:=(Zw hx).1;omega⟩,Ae⟩
 case round=>
  obtain⟨lo,f,rfl,rfl,zP,zF,HI,c⟩:=hrel;have q:=c.size;by_cases hlt:lo<f
  .have O:(lo+f)/2<d.length:=Yv
   have n:Hid _:=Zv O;have zM:=zI _ (List.getElem_mem O);generalize d[(lo+f)/2]=x at *
   obtain⟨r0,P,Q,R,S,T,r6,U⟩:=ZB (Ag HO.o c) n.o;obtain⟨V,X,Y,Z,t4,t5,t6,t7⟩:=Ha (Aa.below (v:=.int .u8 (kB s 0)) HC.o c);have r:=Aw.cell r0 (show g<wr.heap.size by omega);have u:=Aw.cell P (show g<wr.heap.size by omega);have z:=Aw.cell Q (show g<wr.heap.size by omega);have A:=Aw.cell R (show g<wr.heap.size by omega);have B:=Aw.cell S (show g<wr.heap.size by omega)
   have C:=Aw.cell T (show g<wr.heap.size by omega);have D:=Aw.cell r6 (show g<wr.heap.size by omega);have E:=Aw.cell U (show g<wr.heap.size by omega);have F:=Aw.cell V (show w.heap.size<wr.heap.size by omega);have G:=Aw.cell X (show w.heap.size<wr.heap.size by omega);have H:=Aw.cell Y (show w.heap.size<wr.heap.size by omega);have I:=Aw.cell Z (show w.heap.size<wr.heap.size by omega)
   have J:=Aw.cell t4 (show w.heap.size<wr.heap.size by omega);have K:=Aw.cell t5 (show w.heap.size<wr.heap.size by omega);have L:=Aw.cell t6 (show w.heap.size<wr.heap.size by omega);have M:=Aw.cell t7 (show w.heap.size<wr.heap.size by omega);have zG:=Aw.ne wr
   have k:Hid (∀m:Aw wr,Calls prog 163 #[.agg (Yk (kB x)),.agg (Yk (kB s))] m.w fun e w'=>e=.returned (Zg (Fo x s))/\Below m.w.heap.size m.w w'):=fun m=>LI x s m.w;clear r0 P Q R S T r6 U V X Y Z t4 t5 t6 t7;have zA:Hid _:=UT (s:=x) (t:=s) Yv Yv;by_cases hc:Fo x s<0
   .have hd:decide (Fo x s<0)=true:=by simpa using hc
    go_wp2;refine Ax Yr Yr ?_
    repeat (go_big_quiet_step (exact Aw.calls (k.o _)))
    refine wpQuiet_nil ?_;intro m;clear r u z A B C D E F G H I J K L M k;go_wp2;refine⟨⟨(lo+f)/2+1,f,Yn,rfl,Yv,zF,⟨?_,HI.o.2⟩,c.trans (m.h.mono q)⟩,Ys⟩;intro j y hj o;rcases Nat.lt_or_ge j ((lo+f)/2)with h|h
    .have:=List.pairwise_iff_getElem.1 l j ((lo+f)/2) Yv O h;obtain⟨_,rfl⟩:=Zw o;obtain⟨_,e⟩:=Zw n.o;rw[e]at this;exact Cb this (zA.o.1 hc)
    .obtain rfl:j=(lo+f)/2:=Yv
     rw[n.o]at o;cases o;exact zA.o.1 hc
   .have hd:decide (Fo x s<0)=false:=by simpa using hc
    have zJ:Hid _:=hc;clear hc;go_wp2;refine Ax Yr Yr ?_
    repeat (go_big_quiet_step (exact Aw.calls (k.o _)))
    refine wpQuiet_nil ?_;intro m;clear r u z A B C D E F G H I J K L M k;go_wp2;refine⟨⟨lo,(lo+f)/2,rfl,Yn,Yv,Yv,⟨HI.o.1,?_⟩,c.trans (m.h.mono q)⟩,Ys⟩;have zB:less x s=false:=by
     cases h:less x s with
     |false=>rfl
     |true=>exact absurd (zA.o.2 h) zJ.o
    intro j y hj o;rcases Nat.lt_or_ge ((lo+f)/2) j with h|h
    .have zK:=(Zw o).1;have:=List.pairwise_iff_getElem.1 l ((lo+f)/2) j O zK h;obtain⟨_,rfl⟩:=Zw o;obtain⟨_,e⟩:=Zw n.o;rw[e]at this;cases h':less d[j] s with
     |false=>rfl
     |true=>rw[Cb this h']at zB;cases zB
    .obtain rfl:j=(lo+f)/2:=Yv
     rw[n.o]at o;cases o;exact zB
  .obtain rfl:lo=f:=Yv
   have HP:Hid (Fv d s lo):=⟨zF,HI.o.1,HI.o.2⟩;by_cases hn:lo<d.length
   .have n:Hid _:=Zv hn;have zM:=zI _ (List.getElem_mem hn);generalize d[lo]=x at *
    obtain⟨r0,P,Q,R,S,T,r6,U⟩:=ZB (Ag HO.o c) n.o;obtain⟨V,X,Y,Z,t4,t5,t6,t7⟩:=Ha (Aa.below (v:=.int .u8 (kB s 0)) HC.o c);have r:=Aw.cell r0 (show g<wr.heap.size by omega);have u:=Aw.cell P (show g<wr.heap.size by omega);have z:=Aw.cell Q (show g<wr.heap.size by omega);have A:=Aw.cell R (show g<wr.heap.size by omega);have B:=Aw.cell S (show g<wr.heap.size by omega)
    have C:=Aw.cell T (show g<wr.heap.size by omega);have D:=Aw.cell r6 (show g<wr.heap.size by omega);have E:=Aw.cell U (show g<wr.heap.size by omega);have F:=Aw.cell V (show w.heap.size<wr.heap.size by omega);have G:=Aw.cell X (show w.heap.size<wr.heap.size by omega);have H:=Aw.cell Y (show w.heap.size<wr.heap.size by omega);have I:=Aw.cell Z (show w.heap.size<wr.heap.size by omega)
    have J:=Aw.cell t4 (show w.heap.size<wr.heap.size by omega);have K:=Aw.cell t5 (show w.heap.size<wr.heap.size by omega);have L:=Aw.cell t6 (show w.heap.size<wr.heap.size by omega);have M:=Aw.cell t7 (show w.heap.size<wr.heap.size by omega);have zG:=Aw.ne wr
    have k:Hid (∀m:Aw wr,Calls prog 163 #[.agg (Yk (kB x)),.agg (Yk (kB s))] m.w fun e w'=>e=.returned (Zg (Fo x s))/\Below m.w.heap.size m.w w'):=fun m=>LI x s m.w;clear r0 P Q R S T r6 U V X Y Z t4 t5 t6 t7;have zE:Hid _:=Tv (s:=x) (t:=s) Yv Yv;by_cases hc:Fo x s=0
    .have hd:(Fo x s==0)=true:=by simpa using hc
     go_wp2;refine Ax Yr Yr ?_
     repeat (go_big_quiet_step (exact Aw.calls (k.o _)))
     refine wpQuiet_nil ?_;intro m;clear r u z A B C D E F G H I J K L M k;go_wp2
     go_ret2
     refine⟨lo,?_,HP.o,N.trans ((c.trans (m.h.mono q)).mono N.size)⟩;rw[n.o,zE.o.1 hc,decide_eq_true rfl];rfl
    .have hd:(Fo x s==0)=false:=by simpa using hc
     go_wp2;refine Ax Yr Yr ?_
     repeat (go_big_quiet_step (exact Aw.calls (k.o _)))
     refine wpQuiet_nil ?_;intro m;clear r u z A B C D E F G H I J K L M k;go_wp2
     go_ret2
     refine⟨lo,?_,HP.o,N.trans ((c.trans (m.h.mono q)).mono N.size)⟩;rw[n.o,decide_eq_false (fun e=>hc (zE.o.2 (Option.some.inj e)))];rfl
   .have zG:=Aw.ne wr;go_wp2;refine Ax Yr Yr ?_
    repeat (go_big_quiet_step (fail))
    refine wpQuiet_nil ?_;intro m;go_wp2
    go_ret2
    refine⟨lo,?_,HP.o,N.trans ((c.trans (m.h.mono q)).mono N.size)⟩;rw[List.getElem?_eq_none Yv,decide_eq_false Yu];rfl
section
open Go.WideElems Go.MapKept Go.ChangeMaps
open Classical in
noncomputable def fo (f:Lit->Option Value) (kl:Lit):Lit->Option Value:=fun x=>if x=kl then none else f x
theorem AJ.del{t:TypeId}{f:Lit->Option Value}(h:AJ w K b n f)(q:Maps.Keyed prog K)(v:prog.underlying t=some (.map K e)){j:Value}{a:Lit}(d:keyOf prog K j=some a)(k:TypeId):
 ∃c,(Builtin.delete_ #[t,K] k #[.map (some b),j]).run prog w=.ok (.tuple #[]) c/\AJ c K b n (fo f a)/\w.grownBy c (some b):=by
 obtain⟨D,l,m,o⟩:=h;obtain⟨c,u,s,A,clock,y,g,B,rfl⟩:=l.drop q v d k;refine⟨_,u,⟨_,s,fun x z=> ?_,fun x=> ?_⟩,?_⟩
 .by_cases hx:x=a
  .subst hx;rw[Maps.atKey_del_same];simp[fo]
  .rw[Maps.atKey_del_other hx,m];simp[fo,hx]
 .by_cases hx:x=a
  .subst hx;rw[Maps.has_del_same];simp[fo]
  .rw[Maps.has_del_other hx,o];simp[fo,hx]
 .refine⟨rfl,rfl,rfl,by simp[setBlock],fun i _ r=> ?_⟩;simp only[setBlock];rw[Array.getElem?_setIfInBounds_ne (fun e=>r (by rw[e]))]
theorem WW(w:Zh):(zeroValue 111).run prog w=.ok (.agg Cm) w:=Yr
theorem NN(w:Zh)(i:TypeId)(b o c:Nat)(g:∀j,j<8->(w.cell? (Zd b (o+j))).isSome=true)(h:∀j,j<8->w.frozen? ⟨b,o+j,none⟩=false):
 (Builtin.clear_ #[105] i #[.slice (some ⟨b,o,none⟩) 1 c]).run prog w=.ok (.tuple #[]) (w.setCells b o Cm.toList):=by
 have e:(Builtin.zeroCells (Value.agg Cm).cells 1).toList=Cm.toList:=Yr
 have a:=run_storeCells_cells (P:=prog) b o Cm.toList 0 w (by simpa [Cm]using g) (by simpa [Cm]using h) (by intro v d;simp[Cm]at d;subst d;rfl);simp only[Nat.add_zero]at a;have f:=WW;unfold Cm at e a f |-;simp[Builtin.clear_,run_underlying underlying105,f,e,a]
theorem Hb{b:Zj}:∀(vs:Zj) (o:Nat) (w:Zh),w.ownsRow a e size (Yz g n cap) n b->n *size<=o->(w.setCells g o vs).ownsRow a e size (Yz g n cap) n b
 |[],_,_,h,_=>h
 |v::r,o,w,h,ho=>by rw[World.setCells];refine Hb r (o+1) _ ?_ Yv;have:=(h.stored o v).1;rw[List.set_eq_of_length_le (by rw[h.1];exact ho)]at this;exact this
theorem Cd(g:Nat):∀(vs:Zj) (o:Nat) (w:Zh),w.grownBy (w.setCells g o vs) (some g)
 |[],_,w=>⟨rfl,rfl,rfl,Zx,fun _ _ _=>rfl⟩
 |v::r,o,w=>by rw[World.setCells];exact Ar (AA w g o v) (Cd g r (o+1) _)
theorem Dh{a:Zh}(h:w.drew.grownBy a r):w.grownBy a r:=⟨h.os,h.tape,h.output,h.size,h.block⟩
theorem WX{b:Zl}(h:w.ownsRow a 111 8 (Yz g b.length cap) b.length (AG b))(i:Nat)(n:i<=b.length):w.ownsRow a 111 8 (Yz g i cap) i (AG (b.take i)):=by
 refine⟨by rw[CW,List.length_take];congr 1;omega,?_⟩;rcases h.2 with⟨e,_⟩|⟨o,d,c,e,l,m,q,f,j,k⟩
 .cases e
 .cases e;refine .inr ⟨g,cap,c,rfl,l,m,Yv,f,j,?_⟩;rw[Gj,<-FV Ex b i n,<-Gj,<-k,List.take_take];congr 1;omega
theorem NO(g cap i:Nat)(a:Zl)(w:Zh)(d:Nat)(s:w.ownsRow d 111 8 (Yz g a.length cap) a.length (AG a))(hl:a.length<=600)(hi:i<a.length):
 Calls prog 144 #[Yz g a.length cap,Zg i,Zg ((i:Int)+1)] w fun e C=>e=.returned (Yz g (a.length -1) cap)/\C.ownsRow d 111 8 (Yz g (a.length -1) cap) (a.length -1) (AG (a.eraseIdx i))/\w.grownBy C (some g):=by
 obtain⟨M,o,U,G,V⟩:=info_parts Kl;have n:a.length<=cap/\cap<=maxLen:=by
  rcases s.2 with⟨e,_⟩|⟨I,m,D,e,L,z,x,y,J,K⟩
  .cases e
  .cases e;exact⟨x,y⟩
 obtain⟨N,E⟩:=n;unfold maxLen at E;have hcut:=WX s i Yv;obtain⟨A,Z,c⟩:∃A,(if cap=i+1 then some (⟨g,0,none⟩:Addr)else some ⟨g,(i+1) *8,none⟩)=some A/\∀j u,(AG (a.drop (i+1)))[j]?=some u->w.drew.cell? (A.add j)=some u:=by
  by_cases h:cap=i+1
  .refine⟨⟨g,0,none⟩,by rw[if_pos h],fun j u k=> ?_⟩;rw[List.drop_of_length_le Yv]at k;simp[AG]at k
  .refine⟨⟨g,(i+1) *8,none⟩,by rw[if_neg h],fun j u k=> ?_⟩;rw[Go.WideShapes.add_plain];rw[Gj,<-Fm Ex a (i+1) Yv,<-Gj,List.getElem?_drop]at k;have F:=(Zw k).1;rw[CW]at F;exact(s.cellAt _ Yv).trans k
 obtain⟨t,B,b,f⟩:=run_append_fits (P:=prog) w.drew d 105 105 111 M 8 underlying105 o G g i cap (AG (a.take i)) hcut A (a.length -(i+1)) (cap -(i+1)) (AG (a.drop (i+1))) (by rw[CW,List.length_drop]) c (Dt _) Yv;rw[<-Gv,show i+(a.length -(i+1))=a.length -1 by omega]at b;rw[show i+(a.length -(i+1))=a.length -1 by omega]at B;have q:=(List.eraseIdx_eq_take_drop_succ a i).symm;rw[q]at b
 have v:=Yw (Zn b f);clear c b hcut q;go_enter func144,ntmps144;have O:¬((i:Int)==(i:Int)+1)=true:=Yt
 have Q:i<=cap:=Yv
 have R:(0:Int)<=(i:Int)+1:=Yv
 have S:(i:Int)+1<=(a.length:Int):=Yv
 have T:((i:Int)+1).toNat=i+1:=Yv
 go_upto_region 5 with fail
 go_region_law (first
  |(refine Bv Yp (.tmp 22) (.tmp 25) 105 105 Yp Yp (by simp[Act.eval,Act.put]) B ?_))
 all_goals
  have r:∀j,j<8->(t.cell? (Zd g ((a.length -1) *8+j))).isSome=true/\t.frozen? ⟨g,(a.length -1) *8+j,none⟩=false:=fun j l=>by
   obtain⟨b,f⟩:=v.o;rcases b.2 with⟨e,_⟩|⟨I,m,D,e,L,z,x,y,J,K⟩
   .cases e
   .cases e;constructor
    .simp only[World.cell?,z];rw[Array.getElem?_eq_getElem Yv];rfl
    .exact b.frozenAt _
  have H:=NN t 0 g ((a.length -1) *8) (cap -(a.length -1)) (fun j l=>(r j l).1) (fun j l=>(r j l).2);have W:a.length -(a.length -1)=1:=Yv
  have X:¬cap=a.length -1:=Yv
  have Y:a.length -1<=a.length:=Yv
  go_wp2;go_ret;obtain⟨b,f⟩:=v.o;exact⟨rfl,Hb _ _ _ b (Zx),Ar (Dh f) (Cd g _ _ _)⟩
theorem Tw(f d m g cap:Nat)(P L:Value)(U now l h:Int)(c:List Kd)(s:Zi)(w:Zh)(j:Aa w d [Zg U,.map (some m),Zg now,Zg l,Zg h,Yz g c.length cap,P,L])(k:w.ownsRow f 111 8 (Yz g c.length cap) c.length (AG (c.map (·.sum))))(O:c.length<=600)(C:s.size<=8)(D:∀x∈c,x.sum.size=s.size)(n:(c.map (·.sum)).Pairwise (fun a b=>less a b=true)):
 Calls prog 143 #[Yy d,Cn s] w fun e T=>∃i:Nat,e=.returned (.tuple #[Zg i,.bool (decide ((c.map (·.sum))[i]?=some s))])/\Fv (c.map (·.sum)) s i/\Zz w T:=by
 obtain⟨W,q⟩:=Af (w.alloc (.cells (Yk (kB s)) 111));have o:=(AB q).1;have z:Aa W w.heap.size (Am s):=by rw[q];exact Aa.new w (Am s) 111
 have r:W.drew.ownsRow f 111 8 (Yz g (c.map (·.sum)).length cap) (c.map (·.sum)).length (AG (c.map (·.sum))):=by rw[List.length_map];exact Ag k o.drew
 have t:=Yw (LJ g cap (c.map (·.sum)) s W.drew f r (by rw[List.length_map];exact O) C (fun x Q=>by obtain⟨y,R,rfl⟩:=List.mem_map.1 Q;exact D y R) n);rw[List.length_map]at t
 have N:W.drew.cell? (Zd d 5)=some (Yz g c.length cap)/\(W.drew.cell? (Zd (w.heap.size) 0)=some (.int .u8 (kB s 0))/\W.drew.cell? (Zd (w.heap.size) 1)=some (.int .u8 (kB s 1))/\W.drew.cell? (Zd (w.heap.size) 2)=some (.int .u8 (kB s 2))/\W.drew.cell? (Zd (w.heap.size) 3)=some (.int .u8 (kB s 3))/\W.drew.cell? (Zd (w.heap.size) 4)=some (.int .u8 (kB s 4))/\W.drew.cell? (Zd (w.heap.size) 5)=some (.int .u8 (kB s 5))/\W.drew.cell? (Zd (w.heap.size) 6)=some (.int .u8 (kB s 6))/\W.drew.cell? (Zd (w.heap.size) 7)=some (.int .u8 (kB s 7))):=⟨(Aa.below j o 5 _ rfl).1,Ha z⟩
 have v:=Yw q;clear q z r j k;unfold Cn CR at *
 go_enter func143,ntmps143;go_upto_region 1 with fail;rw[<-v.o];clear v;obtain⟨S,E,F,G,H,I,J,K,M⟩:=N;go_region_with (go_at_call 162;refine t.Ah ?_;rintro e V ⟨i,rfl,B,A⟩)
 all_goals
  have u:=Yw (Zn B (o.trans ((Dg A).mono o.size)));clear B A S E F G H I J K M t;go_wp2
  go_ret2
  exact⟨i,by first|rfl|simp[Act.put],u.o.1,u.o.2⟩
end
theorem UU(x:Zi)(w:Zh):Calls prog 168 #[.string x] w fun e a=>e=.returned (.bool false)/\Zz w a:=by go_enter func168,ntmps168;go_wp2;go_ret;exact⟨Yu,Ae⟩
theorem UW(x:Zi)(w:Zh):Calls prog 183 #[.string x] w fun e a=>e=.returned (.bool false)/\Zz w a:=by go_enter func183,ntmps183;go_wp2;go_ret;exact⟨Yu,Ae⟩
theorem Nl(x y:Zi)(w:Zh):Calls prog 182 #[.string x,.string y] w fun e b=>e=.returned (.bool (less x y))/\Zz w b:=by go_enter func182,ntmps182;unfold less;go_wp2_with (go_at_call 168;refine(UU x w).mono ?_;rintro e c ⟨rfl,a⟩);go_wp2;go_ret;exact⟨Yu,a⟩
theorem Qc(a:Zk)(cap:Nat)(f:Zl)(s:Zi)(w:Zh)(r:Ad w w.heap.size a f)(T:f.length<=1000)(g:f.Pairwise (fun a b=>less a b=true)):
 Calls prog 176 #[.slice a f.length cap,.string s] w fun e P=>∃(i:Int) (ok:Bool),e=.returned (.tuple #[Zg i,.bool ok])/\(ok=true↔s∈f)/\Zz w P:=by
 have S:=Yw Nl;go_enter func176,ntmps176;go_wp2
 go_loopw [7,8] (fun i j wr=>∃lo d:Nat,i=Zg lo/\j=Zg d/\lo<=d/\d<=f.length/\Hid ((∀j x,j<lo->f[j]?=some x->less x s=true)/\(∀j x,d<=j->f[j]?=some x->less x s=false))/\Zz w wr) (fun i j _=>(intOf j).toNat -(intOf i).toNat)
 case atStart=>exact⟨0,f.length,rfl,rfl,Nat.zero_le _,Zx,⟨fun j x h=>by omega,fun j x h G=>by have:=(Zw G).1;omega⟩,Ae⟩
 case round=>
  obtain⟨lo,d,rfl,rfl,R,K,B,c⟩:=hrel;have E:=c.size;by_cases hlt:lo<d
  .have u:(lo+d)/2<f.length:=Yv
   have l:=Yw (Zv u);obtain⟨b,L,F,M,k⟩:=(r.below c).at u;subst F;have G:=k _ _ l.o;clear k;generalize f[(lo+d)/2]=x at *
   go_wp2_with fail;refine(Nl x s wr).mono ?_;rintro e Q ⟨rfl,z⟩;have D:=c.trans (z.mono E);by_cases k:less x s=true
   .rw[k];go_wp2;refine⟨⟨(lo+d)/2+1,d,Yn,rfl,Yv,K,⟨?_,B.o.2⟩,D⟩,Ys⟩;intro j y t n;rcases Nat.lt_or_ge j ((lo+d)/2)with h|h
    .have:=List.pairwise_iff_getElem.1 g j ((lo+d)/2) Yv u h;obtain⟨_,rfl⟩:=Zw n;obtain⟨_,e⟩:=Zw l.o;rw[e]at this;exact Cb this k
    .obtain rfl:j=(lo+d)/2:=Yv
     rw[l.o]at n;cases n;exact k
   .have v:less x s=false:=by simpa using k
    rw[v];go_wp2;refine⟨⟨lo,(lo+d)/2,rfl,Yn,Yv,Yv,⟨B.o.1,?_⟩,D⟩,Ys⟩;intro j y t n;rcases Nat.lt_or_ge ((lo+d)/2) j with h|h
    .have A:=(Zw n).1;have:=List.pairwise_iff_getElem.1 g ((lo+d)/2) j u A h;obtain⟨_,rfl⟩:=Zw n;obtain⟨_,e⟩:=Zw l.o;rw[e]at this;cases C:less f[j] s with
     |false=>rfl
     |true=>rw[Cb this C]at v;cases v
    .obtain rfl:j=(lo+d)/2:=Yv
     rw[l.o]at n;cases n;exact v
  .obtain rfl:lo=d:=Yv
   have q:s∈f->f[lo]?=some s:=fun O=>by
    obtain⟨j,t⟩:=List.getElem?_of_mem O;rcases Nat.lt_or_ge j lo with h|h
    .have:=B.o.1 j s h t;rw[BI]at this;cases this
    .rcases Nat.lt_or_ge lo j with C|C
     .have A:=(Zw t).1;have I:=List.pairwise_iff_getElem.1 g lo j Yv A C;have J:=B.o.2 lo _ (Zx) (Zv Yv);obtain⟨_,e⟩:=Zw t;rw[e]at I;rw[I]at J;cases J
     .obtain rfl:j=lo:=Yv
      exact t
   have H:=Yw q;clear q;by_cases hn:lo<f.length
   .have l:=Yw (Zv hn);obtain⟨b,L,F,M,k⟩:=(r.below c).at hn;subst F;have G:=k _ _ l.o;clear k;generalize f[lo]=x at *
    by_cases he:x=s
    .subst he;have m:=Zs l.o;have o:=Yw m;clear m;have N:(x.toList==x.toList)=true:=Yu
     go_wp2
     go_ret2
     exact⟨_,true,by first|rfl|simp[Act.put],⟨fun _=>o.o,fun _=>rfl⟩,c⟩
    .have m:¬s∈f:=by intro h;have:=H.o h;rw[l.o]at this;exact he (Option.some.inj this)
     have o:=Yw m;clear m;have N:=Bz he;go_wp2_with (go_at_call 183;refine(UW x wr).mono ?_;rintro e Q ⟨rfl,z⟩);go_wp2
     go_ret2
     exact⟨_,false,by first|rfl|simp[Act.put],⟨(fun h=>by cases h),(fun h=>absurd h o.o)⟩,c.trans (z.mono E)⟩
   .have m:¬s∈f:=by intro h;have:=(Zw (H.o h)).1;omega
    have o:=Yw m;clear m;go_wp2
    go_ret2
    exact⟨_,false,by first|rfl|simp[Act.put],⟨(fun h=>by cases h),(fun h=>absurd h o.o)⟩,c⟩
section
attribute [local go_sem↓] Go.wp_at_zero Go.wp_at_succ
theorem RE(p:Pd)(s:Zi)(b:Nat)(w:Zh)(d:w.cell? (Zd b 0)=some (.string s)):
 Calls prog 171 #[.agg #[.string p.name,.string p.sum],Yy b] w fun e g=>e=.returned (.bool (decide (p.sum=s)))/\Zz w g:=by
 have j:b<w.heap.size:=World.block_lt_of_cell? w _ d;have i:¬w.heap.size=b:=Yv
 have c:∀o,Zz w (w.alloc o):=fun o=>Zy;by_cases h:p.sum=s
 .have f:(p.sum.toList==s.toList)=true:=by rw[h];simp
  have a:decide (p.sum=s)=true:=by simpa using h
  clear h;go_enter func171,ntmps171;go_wp2;go_ret;exact⟨by rw[a];rfl,c _⟩
 .have f:(p.sum.toList==s.toList)=false:=Bz h;have a:decide (p.sum=s)=false:=by simpa using h
  clear h;go_enter func171,ntmps171;go_wp2;go_ret;exact⟨by rw[a];rfl,c _⟩
theorem OP(a:Zk)(cap b:Nat)(d:List Pd)(s:Zi)(w:Zh)(g:AO w w.heap.size a d)(M:d.length<=1048576)(u:w.cell? (Zd b 0)=some (.string s)):
 Calls prog 180 #[.slice a d.length cap,.func (.func 171) #[] #[Yy b]] w fun e F=>∃r:Int,e=.returned (Zg r)/\(0<=r↔∃p∈d,p.sum=s)/\Zz w F:=by
 have A:=World.block_lt_of_cell? w _ u;go_enter func180,ntmps180;go_wp2
 go_loopw [8] (fun i wr=>∃k:Nat,k<=d.length/\i=Zg k/\Hid (∀j x,j<k->d[j]?=some x->¬x.sum=s)/\Zz w wr) (fun i _=>d.length -(intOf i).toNat)
 case atStart=>exact⟨0,Nat.zero_le _,rfl,(fun j x h=>by omega),Ae⟩
 case round=>
  obtain⟨k,L,rfl,f,c⟩:=hrel;have C:=c.size;by_cases hlt:k<d.length
  .obtain⟨H,G,E,K,m⟩:=(g.below c).at hlt;subst E;have o:=Yw (Zv hlt);obtain⟨I,J⟩:=m k _ o.o;have B:=(c.cell (p:=⟨b,0,none⟩) A).trans u;clear m g;generalize d[k]=x at *
   go_wp2_with fail;refine(RE x s b wr B).mono ?_;rintro e N ⟨rfl,z⟩;have l:=c.trans (z.mono C);by_cases h:x.sum=s
   .have n:decide (x.sum=s)=true:=by simpa using h
    rw[n];go_wp2;go_ret;exact⟨_,rfl,⟨fun _=>⟨x,Zs o.o,h⟩,fun _=>by omega⟩,l⟩
   .have D:Hid (∀j y,j<k+1->d[j]?=some y->¬y.sum=s):=by
     intro j y v q;rcases Nat.lt_or_ge j k with t|t
     .exact f.o j y t q
     .obtain rfl:j=k:=Yv
      rw[o.o]at q;cases q;exact h
    have n:decide (x.sum=s)=false:=by simpa using h
    rw[n];clear h;go_wp2;exact⟨⟨k+1,Yv,Yn,D,l⟩,Ys⟩
  .go_wp2;go_ret;refine⟨_,rfl,⟨fun h=>by omega,fun⟨p,hp,h⟩=> ?_⟩,c⟩;obtain⟨j,v,rfl⟩:=List.getElem_of_mem hp;exact absurd h (f.o j _ Yv (Zv v))
theorem LK(a:Zk)(cap b:Nat)(c:List Pd)(s:Zi)(w:Zh)(d:AO w w.heap.size a c)(l:c.length<=1048576)(j:w.cell? (Zd b 0)=some (.string s)):
 Calls prog 170 #[.slice a c.length cap,.func (.func 171) #[] #[Yy b]] w fun e m=>∃ok,e=.returned (.bool ok)/\(ok=true↔∃p∈c,p.sum=s)/\Zz w m:=by
 go_enter func170,ntmps170;go_wp2_with fail;refine(OP a cap b c s w d l j).mono ?_;rintro e n ⟨r,rfl,i,f⟩;have g:=Yw i;clear i;by_cases h:0<=r
 .have k:decide ((0:Int)<=r)=true:=by simpa using h
  go_wp2;go_ret;exact⟨true,rfl,⟨(fun _=>g.o.1 h),(fun _=>rfl)⟩,f⟩
 .have k:decide ((0:Int)<=r)=false:=by simpa using h
  go_wp2;go_ret;exact⟨false,rfl,⟨(fun e=>by cases e),(fun e=>absurd (g.o.2 e) Yv)⟩,f⟩
theorem OQ(p:Ld)(s:Zi)(b:Nat)(w:Zh)(d:w.cell? (Zd b 0)=some (.string s)):
 Calls prog 173 #[.agg #[Zg p.H,.string p.sum,Zg p.R],Yy b] w fun e g=>e=.returned (.bool (decide (p.sum=s)))/\Zz w g:=by
 have j:b<w.heap.size:=World.block_lt_of_cell? w _ d;have i:¬w.heap.size=b:=Yv
 have c:∀o,Zz w (w.alloc o):=fun o=>Zy;by_cases h:p.sum=s
 .have f:(p.sum.toList==s.toList)=true:=by rw[h];simp
  have a:decide (p.sum=s)=true:=by simpa using h
  clear h;go_enter func173,ntmps173;go_wp2;go_ret;exact⟨by rw[a];rfl,c _⟩
 .have f:(p.sum.toList==s.toList)=false:=Bz h;have a:decide (p.sum=s)=false:=by simpa using h
  clear h;go_enter func173,ntmps173;go_wp2;go_ret;exact⟨by rw[a];rfl,c _⟩
theorem Mz(a:Zk)(cap b:Nat)(d:List Ld)(s:Zi)(w:Zh)(g:AM w w.heap.size a d)(M:d.length<=1048576)(u:w.cell? (Zd b 0)=some (.string s)):
 Calls prog 159 #[.slice a d.length cap,.func (.func 173) #[] #[Yy b]] w fun e F=>∃r:Int,e=.returned (Zg r)/\(0<=r↔∃p∈d,p.sum=s)/\Zz w F:=by
 have A:=World.block_lt_of_cell? w _ u;go_enter func159,ntmps159;go_wp2
 go_loopw [8] (fun i wr=>∃k:Nat,k<=d.length/\i=Zg k/\Hid (∀j x,j<k->d[j]?=some x->¬x.sum=s)/\Zz w wr) (fun i _=>d.length -(intOf i).toNat)
 case atStart=>exact⟨0,Nat.zero_le _,rfl,(fun j x h=>by omega),Ae⟩
 case round=>
  obtain⟨k,L,rfl,f,c⟩:=hrel;have C:=c.size;by_cases hlt:k<d.length
  .obtain⟨H,G,E,K,m⟩:=(g.below c).at hlt;subst E;have o:=Yw (Zv hlt);obtain⟨I,J,c2⟩:=m k _ o.o;have B:=(c.cell (p:=⟨b,0,none⟩) A).trans u;clear m g;generalize d[k]=x at *
   go_wp2_with fail;refine(OQ x s b wr B).mono ?_;rintro e N ⟨rfl,z⟩;have l:=c.trans (z.mono C);by_cases h:x.sum=s
   .have n:decide (x.sum=s)=true:=by simpa using h
    rw[n];go_wp2;go_ret;exact⟨_,rfl,⟨fun _=>⟨x,Zs o.o,h⟩,fun _=>by omega⟩,l⟩
   .have D:Hid (∀j y,j<k+1->d[j]?=some y->¬y.sum=s):=by
     intro j y v q;rcases Nat.lt_or_ge j k with t|t
     .exact f.o j y t q
     .obtain rfl:j=k:=Yv
      rw[o.o]at q;cases q;exact h
    have n:decide (x.sum=s)=false:=by simpa using h
    rw[n];clear h;go_wp2;exact⟨⟨k+1,Yv,Yn,D,l⟩,Ys⟩
  .go_wp2;go_ret;refine⟨_,rfl,⟨fun h=>by omega,fun⟨p,hp,h⟩=> ?_⟩,c⟩;obtain⟨j,v,rfl⟩:=List.getElem_of_mem hp;exact absurd h (f.o j _ Yv (Zv v))
theorem Kz(a:Zk)(cap b:Nat)(c:List Ld)(s:Zi)(w:Zh)(d:AM w w.heap.size a c)(l:c.length<=1048576)(j:w.cell? (Zd b 0)=some (.string s)):
 Calls prog 172 #[.slice a c.length cap,.func (.func 173) #[] #[Yy b]] w fun e m=>∃ok,e=.returned (.bool ok)/\(ok=true↔∃p∈c,p.sum=s)/\Zz w m:=by
 go_enter func172,ntmps172;go_wp2_with fail;refine(Mz a cap b c s w d l j).mono ?_;rintro e n ⟨r,rfl,i,f⟩;have g:=Yw i;clear i;by_cases h:0<=r
 .have k:decide ((0:Int)<=r)=true:=by simpa using h
  go_wp2;go_ret;exact⟨true,rfl,⟨(fun _=>g.o.1 h),(fun _=>rfl)⟩,f⟩
 .have k:decide ((0:Int)<=r)=false:=by simpa using h
  go_wp2;go_ret;exact⟨false,rfl,⟨(fun e=>by cases e),(fun e=>absurd (g.o.2 e) Yv)⟩,f⟩
theorem RG(o d m:Nat)(O P L:Value)(N now c a:Int)(H:List Kd)(n:List Pd)(k:List Ld)(s:Zi)(w:Zh)(f:Dr w o d m O P L N now c a H n k)(T:n.length<=100)(S:k.length<=200):
 Calls prog 160 #[Yy d,.string s] w fun e K=>∃ok,e=.returned (.bool ok)/\(ok=true↔(∃p∈n,p.sum=s)\/∃l∈k,l.sum=s)/\Zz w K:=by
 have Q:∀(fn:Fn) (first cap:Array Value) (w:Zh),(Instr.makeFunc fn first cap).run prog w=.ok (.func fn first cap) w:=fun _ _ _ _=>rfl;obtain⟨J,F,rfl⟩:=As f.ci;obtain⟨I,C,rfl⟩:=As f.ck;have R:=Yw f;obtain⟨W,j⟩:=Af (w.alloc (.cells #[.string s] 9));have i:=(AB j).1;have h:W.cell? (Zd (w.heap.size) 0)=some (.string s):=by rw[j];simp
 have g:=f.below i;obtain⟨c6,c7⟩:=Aa.c2 g.box 6 7;have r:=Yw g;have x:=Yw j;clear j f g;go_enter func160,ntmps160;go_upto_region 1 with fail;rw[<-x.o];clear x;go_wp2_with fail;refine(LK J F _ n s W (AO.own r.o.ci) Yv h).mono ?_;rintro e M ⟨D,rfl,z,b⟩;have q:=Yw (Dr.below r.o b);obtain⟨G,_⟩:=q.o.box 7 _ rfl;have y:=(b.cell (p:=⟨w.heap.size,0,none⟩) (World.block_lt_of_cell? W _ h)).trans h
 have u:=Yw z;clear z c6 c7 h;go_wp2_with fail;refine(Kz I C _ k s M (AM.own q.o.ck) Yv y).mono ?_;rintro e U ⟨E,rfl,A,B⟩;have v:=Yw A;have t:=(i.trans (b.mono i.size)).trans (B.mono (Zm i.size b.size));clear A G y;cases D
 .go_wp2;go_ret;exact⟨E,rfl,⟨(fun e=> .inr (v.o.1 e)),(fun e=>e.elim (fun e=>by have:=u.o.2 e;cases this) v.o.2)⟩,t⟩
 .go_wp2;go_ret;exact⟨true,rfl,⟨(fun _=> .inl (u.o.1 trivial)),(fun _=>rfl)⟩,t⟩
end
section
attribute [local go_sem↓] Go.wp_at_zero Go.wp_at_succ
end
section
attribute [local go_sem↓] Go.wp_at_zero Go.wp_at_succ
end
end Go.Proofs.YtoglnpagihdhpaaGreatDoor
