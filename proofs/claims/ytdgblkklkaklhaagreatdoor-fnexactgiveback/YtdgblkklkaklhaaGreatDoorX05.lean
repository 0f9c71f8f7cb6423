import Derived.Test.YtdgblkklkaklhaaGreatDoorX04
import Derived.Deep.RegionLaw
set_option maxRecDepth 100000
set_option maxHeartbeats 16000000
namespace Go.Proofs.YtdgblkklkaklhaaGreatDoor
open Go.ChangeShapes Go.WideShapes Go.ChangeAt Go.RowKit _root_.Go.Proofs.Tryz
theorem Lt(s:Zi)(w:Zh):
 Calls prog 154 #[.string s] w fun e a=>e=.returned (.agg (Yw (kB s)))/\Zz w a:=Ij s w
def GI(s:Zi):Obj:=.cells #[.int .u8 (kB s 0),.int .u8 (kB s 1),.int .u8 (kB s 2),.int .u8 (kB s 3),.int .u8 (kB s 4),.int .u8 (kB s 5),.int .u8 (kB s 6),.int .u8 (kB s 7)] 190
theorem R8.one(w:Zh)(s:Zi):R8 (w.alloc (GI s)) (w.heap.size+1) (Za w.heap.size 1 1) [s]:=by
 refine .inr ⟨w.heap.size,0,1,rfl,by omega,fun i t a j b=> ?_⟩;cases i with
 |zero=>
  simp at a;subst a;rw[Nat.zero_mul,Nat.zero_add,Nat.zero_add];unfold GI;rw[World.cell?_alloc_at _ _ _ _ rfl]
  match j,b with
  |0,_|1,_|2,_|3,_|4,_|5,_|6,_|7,_=>rfl
 |succ i=>simp at a
theorem DK.alloc{w:Zh}{base:Nat}{v:Value}{a:Zl}(h:DK w base v a)(o:Obj):DK (w.alloc o) base v a:=h.below (Zy)
section
theorem AV.block{w w':Zh}{K:TypeId}{b n:Nat}{f:Lit->Option Value}(h:AV w K b n f)(g:w'.heap[b]?=w.heap[b]?):AV w' K b n f:=by obtain⟨D,⟨a,clock,c,d⟩,e⟩:=h;exact⟨D,⟨a,clock,g.trans c,d⟩,e⟩
section
open Go.WideElems Go.MapKept Go.ChangeMaps
end
def Gp(E:List (Zi×Zi))(t:Zi):Zl:=E.filterMap (fun p=>if p.1=t then some p.2 else none)
theorem QC(E:List (Zi×Zi))(s r t:Zi):Gp (E++[(s,r)]) t=if s=t then Gp E t++[r]else Gp E t:=by unfold Gp;rw[List.filterMap_append];by_cases h:s=t<;>simp[h]
theorem Sj(E:List (Zi×Zi))(t:Zi):(Gp E t).length<=E.length:=by unfold Gp;exact List.length_filterMap_le _ _
noncomputable def rowV (f:Lit->Option Value) (t:Zi):Value:=(f (keyL t)).getD Zc
structure Lk (w:Zh) (base b n:Nat) (wd:Int) (E:List (Zi×Zi)) (av:List Nat) (f:Lit->Option Value):Prop where
 map:AV w 190 b n f
 row:∀t:Zi,(t.size:Int)=wd->DK w base (rowV f t) (Gp E t)
 apart:∀s t:Zi,(s.size:Int)=wd->(t.size:Int)=wd->s≠t->∀g,Ak (rowV f s)=some g->Ak (rowV f t)≠some g
 cl:∀t:Zi,(t.size:Int)=wd->∀g,Ak (rowV f t)=some g->g∉av
theorem Lk.aj{w d:Zh}{base b n:Nat}{e:Int}{E:List (Zi×Zi)}{a:List Nat}{f:Lit->Option Value}(h:Lk w base b n e E a f)(c:Zz w d):Lk d base b n e E a f:=
 ⟨h.map.aj c h.map.lt,fun t g=>(h.row t g).below c,h.apart,h.cl⟩
theorem Lk.add{wr X:Zh}{base b n:Nat}{A:Int}{E:List (Zi×Zi)}{F:List Nat}{f:Lit->Option Value}(h:Lk wr base b n A E F f)(hb:b<base)(zF:base<=wr.heap.size)(H:∀q∈F,q<wr.heap.size)(C:wr.grownBy X (some b)){s r:Zi}(v:(s.size:Int)=A)(h8:A<=8){T:TypeId}{R:Int}
 (hE:∀W,W.heap[b]?=X.heap[b]? ->∀M,∃N,(Instr.entryStore T (.map (some b)) (goInt R) M).run prog W=.ok () N/\AV N 190 b (n+1) (upd f (keyL s) M)/\W.grownBy N (some b))
 {P:Value} (hx:R8 X X.heap.size P [r]) (hlen:E.length<=1000000) (S:TypeId):
 ∃l m w,(Builtin.append_ #[155,155] S #[rowV f s,P]).run prog X=.ok l m/\(Instr.entryStore T (.map (some b)) (goInt R) l).run prog m=.ok () w/\
  Lk w base b (n+1) A (E++[(s,r)]) F (upd f (keyL s) l)/\Below b wr w/\(∀q∈F,q≠b->w.heap[q]?=wr.heap[q]? /\m.heap[q]?=wr.heap[q]?)/\wr.heap.size<=w.heap.size:=by
 have B:∀t:Zi,(t.size:Int)=A->∀g,Ak (rowV f t)=some g->X.heap[g]?=wr.heap[g]?:=fun t d g c=>by have:=(h.row t d).bj c;exact C.block g this.2 (fun e=>by have:=Option.some.inj e;omega)
 have L:∀t:Zi,(t.size:Int)=A->DK X base (rowV f t) (Gp E t):=fun t d=>(h.row t d).stays C.size (B t d);have zG:=Sj E s;have zI:=C.size;obtain⟨l,m,hr,O,x,zB⟩:=VW X base (rowV f s) (Gp E s) (L s v) P [r] _ hx (by simp;omega) (by omega) S;have zH:=x.size;have U:m.heap[b]?=X.heap[b]?:=x.block b (by omega) (fun e=>by have:=((h.row s v).bj e.symm).1;omega);obtain⟨w,zA,Y,y⟩:=hE m U l;have zC:=y.size
 have j:∀g,Ak l=some g->(Ak (rowV f s)=some g∨g=X.heap.size):=fun g D=>by
  rcases zB with e|e
  ·exact .inl (e▸D)
  ·rw[e]at D;exact .inr (Option.some.inj D).symm
 have i:rowV (upd f (keyL s) l) s=l:=by unfold rowV;rw[Dm];rfl
 have a:∀t:Zi,(t.size:Int)=A->s≠t->rowV (upd f (keyL s) l) t=rowV f t:=fun t d z=>by unfold rowV;rw[Dg];intro e;exact z (key_inj e.symm (by omega) (by omega))
 refine⟨l,m,w,hr,zA,⟨Y,fun t d=> ?_,fun u t G d z g o=> ?_,fun t d g c=> ?_⟩,?_,fun q J K=> ?_,by omega⟩
 ·rw[QC];by_cases e:s=t
  ·subst e;rw[if_pos rfl,i];exact O.stays zC (fun g I=>by
    have:base<=g:=(O.bj I).1;exact y.block g (O.bj I).2 (fun e=>by have:=Option.some.inj e;omega))
  ·rw[if_neg e,a t d e];refine(L t d).stays (by omega) (fun g c=> ?_);have zE:=(h.row t d).bj c;rw[y.block g (by omega) (fun e=>by have:=Option.some.inj e;omega)];exact x.block g (by omega) (fun e2=>h.apart s t v d e g e2.symm c)
 ·by_cases eu:s=u
  ·subst eu;rw[i]at o;rw[a t d z];intro c;rcases j g o with p|p
   ·exact h.apart s t v d z g p c
   ·have:=((h.row t d).bj c).2;omega
  ·rw[a u G eu]at o;by_cases et:s=t
   ·subst et;rw[i];intro c;rcases j g c with p|p
    ·exact h.apart s u v G eu g p o
    ·have:=((h.row u G).bj o).2;omega
   ·rw[a t d et];exact h.apart u t G d z g o
 ·by_cases et:s=t
  ·subst et;rw[i]at c;rcases j g c with p|p
   ·exact h.cl s v g p
   ·intro V;have:=H g V;omega
  ·rw[a t d et]at c;exact h.cl t d g c
 ·have b1:Below b wr X:=(Below.refl _ _).grown C (by omega) (fun k e=>by cases e;exact Zx);have b2:Below b X m:=(Below.refl _ _).grown x (by omega) (fun k e=>by have:=((h.row s v).bj e).1;omega);have b3:Below b m w:=(Below.refl _ _).grown y (by omega) (fun k e=>by cases e;exact Zx);exact(b1.trans b2).trans b3
 ·have Z:=H q J;have Q:m.heap[q]?=wr.heap[q]?:=by rw[x.block q (by omega) (fun e=>h.cl s v q e.symm J),C.block q Z (fun e=>K (Option.some.inj e))]
  exact⟨(y.block q (by omega) (fun e=>K (Option.some.inj e))).trans Q,Q⟩
theorem Lk.new{w:Zh}{base b:Nat}{c:Int}(a:AV w 190 b 0 (fun _=>none)):Lk w base b 0 c [] [] (fun _=>none):=
 ⟨a,fun _ _=> .inl ⟨rfl,rfl⟩,fun _ _ _ _ _ _ h=>(by cases h),fun _ _ _ h=>(by cases h)⟩
theorem Lk.free{w:Zh}{base b n:Nat}{a:Int}{E:List (Zi×Zi)}{d:List Nat}{f:Lit->Option Value}(h:Lk w base b n a E d f):Lk w base b n a E [] f:=⟨h.map,h.row,h.apart,fun _ _ _ _ c=>by cases c⟩
end
section
attribute [local go_sem↓] Go.wp_at_zero Go.wp_at_succ
theorem Aa.same{w d:Zh}{B:Nat}{l:Zj}(h:Aa w B l)(b:d.heap[B]?=w.heap[B]?):Aa d B l:=
 fun j v c=>⟨(World.cell?_of_block (a:=⟨B,j,none⟩) b).trans (h j v c).1,(World.frozen?_of_block (a:=⟨B,j,none⟩) b).trans (h j v c).2⟩
theorem Gq(w:Zh)(o:Obj){b:Nat}(h:b<w.heap.size):(w.alloc o).heap[b]?=w.heap[b]?:=Below.heap_alloc w o b h
theorem ZX{w a:Zh}{B:Nat}{s:Zi}(h:a.heap[B]?=w.heap[B]?)(b:Aa w B (Yv (kB s))):
 a.cell? (Ze B 0)=some (.int .u8 (kB s 0))/\a.cell? (Ze B 1)=some (.int .u8 (kB s 1))/\a.cell? (Ze B 2)=some (.int .u8 (kB s 2))/\a.cell? (Ze B 3)=some (.int .u8 (kB s 3))/\a.cell? (Ze B 4)=some (.int .u8 (kB s 4))/\a.cell? (Ze B 5)=some (.int .u8 (kB s 5))/\a.cell? (Ze B 6)=some (.int .u8 (kB s 6))/\a.cell? (Ze B 7)=some (.int .u8 (kB s 7)):=by
 have:=Aa.same b h;exact⟨(this 0 _ rfl).1,(this 1 _ rfl).1,(this 2 _ rfl).1,(this 3 _ rfl).1,(this 4 _ rfl).1,(this 5 _ rfl).1,(this 6 _ rfl).1,(this 7 _ rfl).1⟩
end
theorem Sk{w:Zh}{b:Nat}{c a given ae:Int}{T P L:Value}(h:Bg w b c a given ae T P L):w.cell? (Ze b 0)=some (Zg c)/\w.cell? (Ze b 1)=some (Zg a)/\w.cell? (Ze b 2)=some (Zg given)/\w.cell? (Ze b 3)=some (Zg ae)/\w.cell? (Ze b 4)=some T/\w.cell? (Ze b 5)=some P/\w.cell? (Ze b 6)=some L:=
 ⟨h.1,h.2.1,h.2.2.1,h.2.2.2.1,h.2.2.2.2.1,h.2.2.2.2.2.1,h.2.2.2.2.2.2.1⟩
def vB(d m:Nat)(O P L:Value):List Nat:=d::m::(O.ownBlock.toList++(P.ownBlock.toList++L.ownBlock.toList))
def QD(base:Nat)(V:List Nat):Prop:=∃m,V[1]?=some m/\m<base+4
def De(w:Zh)(base:Nat)(V:List Nat)(a:Zk)(ss:Zl):Prop:=
 ss=[]∨∃b off,a=some ⟨b,off,none⟩/\b<w.heap.size/\b∉V/\((b<base/\QD base V)∨(base<=b/\∃cur,w.heap[b]?=some (.cells cur 9)))/\∀i s,ss[i]?=some s->w.cell? (Ze b (off+i))=some (.string s)
theorem De.row{w:Zh}{base:Nat}{V:List Nat}{a:Zk}{c:Zl}(h:De w base V a c):Ad w w.heap.size a c:=by
 rcases h with h|⟨b,d,e,f,_,_,g⟩
 ·exact .inl h
 ·exact .inr ⟨b,d,e,f,g⟩
def BQ(w:Zh)(base:Nat)(V:List Nat)(wd:Int)(ks:List Kd)(f:Lit->Option Value):Prop:=
 ∀s:Zi,(s.size:Int)=wd->(f (keyL s)=none/\¬Ax ks s)∨∃u ra rc,u∈ks/\u.sum=s/\f (keyL s)=some (Ee u ra rc)/\De w base V ra u.refs
theorem BQ.of{W w:Zh}{V:List Nat}{k:Int}{j:List Kd}{f:Lit->Option Value}(h:Holds W W.heap.size k j f)(g:Zz W w)(o:∀b∈V,W.heap.size<=b)(t:QD W.heap.size V):BQ w W.heap.size V k j f:=by
 intro s e;rcases h s e with h|⟨u,x,y,l,m,n,d⟩
 ·exact .inl h
 ·refine .inr ⟨u,x,y,l,m,n,?_⟩;rcases d with d|⟨b,c,q,a,r⟩
  ·exact .inl d
  ·exact .inr ⟨b,c,q,Zr a g.size,fun v=>by have:=o b v;omega,.inl ⟨a,t⟩,fun i s e=>(g.cell (p:=⟨b,c+i,none⟩) a).trans (r i s e)⟩
structure Dr (w:Zh) (base d m:Nat) (O P L:Value) (wd now given ae:Int) (ks:List Kd) (ps:List Pd) (ls:List Ld):Prop where
 box:Aa w d [Zg wd,.map (some m),Zg now,Zg given,Zg ae,O,P,L]
 map:∃n f,n<=1000000+ae.toNat/\AV w 190 m n f/\BQ w base (vB d m O P L) wd ks f
 ord:w.ownsRow base 190 8 O ks.length (AA (ks.map (·.sum)))
 ci:w.ownsRow base 137 2 P ps.length (Ab pC ps)
 ck:w.ownsRow base 139 3 L ls.length (Ab lC ls)
 bd:base<=d
 bm:base<=m
 ap:(vB d m O P L).Nodup
theorem BQ.below{w k:Zh}{base:Nat}{V:List Nat}{l:Int}{j:List Kd}{f:Lit->Option Value}(h:BQ w base V l j f)(e:Zz w k):BQ k base V l j f:=by
 intro s g;rcases h s g with h|⟨u,x,y,m,n,o,d⟩
 ·exact .inl h
 ·refine .inr ⟨u,x,y,m,n,o,?_⟩;rcases d with d|⟨b,c,q,a,v,t,r⟩
  ·exact .inl d
  ·exact .inr ⟨b,c,q,Zr a e.size,v,(by rw[e.block b a];exact t),fun i s g=>(e.cell (p:=⟨b,c+i,none⟩) a).trans (r i s g)⟩
theorem Ae{w w':Zh}{base:Nat}{e:TypeId}{size:Nat}{v:Value}{n:Nat}{b:Zj}(h:w.ownsRow base e size v n b)(i:Zz w w'):w'.ownsRow base e size v n b:=by
 refine⟨h.1,?_⟩;rcases h.2 with j|⟨g,c,d,k,f,a,rest⟩
 ·exact .inl j
 ·exact .inr ⟨g,c,d,k,f,(i.block g (Array.getElem?_eq_some_iff.1 a).1).trans a,rest⟩
theorem Dr.below{w j:Zh}{base d m:Nat}{O P L:Value}{k b given ae:Int}{e:List Kd}{i:List Pd}{g:List Ld}(h:Dr w base d m O P L k b given ae e i g)(a:Zz w j):Dr j base d m O P L k b given ae e i g:=by obtain⟨n,f,l,c,o⟩:=h.map;exact⟨h.box.below a,⟨n,f,l,c.aj a c.lt,o.below a⟩,Ae h.ord a,Ae h.ci a,Ae h.ck a,h.bd,h.bm,h.ap⟩
theorem Ac{w:Zh}{base:Nat}{e:TypeId}{size:Nat}{v:Value}{n:Nat}{d:Zj}(h:w.ownsRow base e size v n d){g:Nat}(a:v.ownBlock=some g):base<=g/\g<w.heap.size:=by
 rcases h.2 with⟨rfl,_⟩|⟨j,f,i,rfl,c,b,_⟩
 ·cases a
 ·cases a;exact⟨c,(Array.getElem?_eq_some_iff.1 b).1⟩
theorem NC{w a:Zh}{base B:Nat}{e:TypeId}{size:Nat}{v:Value}{n:Nat}{b:Zj}(h:w.ownsRow base e size v n b)(j:Below B w a)(i:∀g,v.ownBlock=some g->g<B):a.ownsRow base e size v n b:=by
 refine⟨h.1,?_⟩;rcases h.2 with l|⟨g,c,d,rfl,f,k,rest⟩
 ·exact .inl l
 ·exact .inr ⟨g,c,d,rfl,f,(j.block g (i g rfl)).trans k,rest⟩
theorem ZA(w:Zh)(base:Nat)(v:Value)(a:Zl)(x:w.ownsRow base 190 8 v a.length (AA a))(s:Zi)(t:a.length<=1000000)(i:base<=w.heap.size)(k:TypeId):
 ∃g b d,(Builtin.append_ #[155,155] k #[v,Za w.heap.size 1 1]).run prog (w.alloc (GI s))=.ok (Za g (a.length+1) b) d/\d.ownsRow base 190 8 (Za g (a.length+1) b) (a++[s]).length (AA (a++[s]))/\w.grownBy d v.ownBlock/\(v.ownBlock=some g∨g=w.heap.size+1):=by
 obtain⟨z,r,m,n,o⟩:=info_parts JA;have l:=Ae x ((Below.refl _ _).alloc (Zx) (GI s));have p:=R8.one w s;have h:∀j u,(AA [s])[j]?=some u->(w.alloc (GI s)).cell? ((⟨w.heap.size,0,none⟩:Addr).add j)=some u:=by
  rcases p with⟨e,_⟩|⟨g,A,b,e,_,h⟩
  ·cases e
  ·cases e;exact R8.cells h
 obtain⟨B,d,y,f,q,_,c⟩:=run_append_own_at (P:=prog) (w.alloc (GI s)) base 155 k 190 z _ 8 8 underlying155 r m n o rfl (by decide) v a.length (AA a) l ⟨w.heap.size,0,none⟩ 1 1 (AA [s]) (CQ [s]) h (Dh [s]) (by unfold maxLen;omega) (by omega) (by simp;omega);obtain⟨g,b,rfl,_,_⟩:=Cf f (fun e=>by subst e;rcases f.2 with⟨_,t⟩|⟨_,_,_,e,_⟩<;>first|omega|cases e)
 refine⟨g,b,d,y,?_,(World.grownBy_alloc w (GI s) _).trans q,?_⟩
 ·rw[Gh,List.length_append];exact f
 ·rcases c with c|c
  ·exact .inl c.symm
  ·right;simpa [Value.ownBlock]using c
def kC(x:Kd×Value):Zj:=[.string x.1.sum,Zg x.1.born,.string x.1.text,x.2]
theorem DX(x:Kd×Value):(kC x).length=4:=rfl
structure AO (w:Zh) (base:Nat) (T P L:Value) (rs:Zj) (ks:List Kd) (ps:List Pd) (ls:List Ld):Prop where
 len:rs.length=ks.length
 ai:w.ownsRow base 131 4 T ks.length (Ab kC (ks.zip rs))
 refs:∀(i:Nat) (k:Kd) (r:Value),ks[i]?=some k->rs[i]?=some r->w.ownsRow base 9 1 r k.refs.length (k.refs.map Value.string)
 pins:w.ownsRow base 137 2 P ps.length (Ab pC ps)
 aq:w.ownsRow base 139 3 L ls.length (Ab lC ls)
 nd:((T::P::L::rs).filterMap Value.ownBlock).Nodup
theorem Dv{B:Nat}{w a:Zh}(h:Below B w.drew a):Below B w a:=⟨h.os,h.tape,h.output,h.size,h.block⟩
theorem As{w:Zh}{base:Nat}{e:TypeId}{size:Nat}{v:Value}{n:Nat}{b:Zj}(h:w.ownsRow base e size v n b):∃a c,v=.slice a n c:=by
 rcases h.2 with⟨rfl,rfl⟩|⟨g,d,f,rfl,_⟩
 ·exact⟨_,_,rfl⟩
 ·exact⟨_,_,rfl⟩
theorem Bk{w:Zh}{base:Nat}{e:TypeId}{size:Nat}{v:Value}{n:Nat}{a:Zj}(h:w.ownsRow base e size v n a){b:Nat}(c:∀g,v.ownBlock=some g->g≠b)(j:Nat)(u:Value):(w.setCell (Ze b j) u).ownsRow base e size v n a:=
 World.ownsRow.kept h (Ay w b j u) (.inr (fun e=>c b e rfl))
theorem d8{w:Zh}{d:Nat}{a i b c e j f g:Value}(h:Aa w d [a,i,b,c,e,j,f,g]):w.cell? (Ze d 0)=some a/\w.cell? (Ze d 2)=some b/\w.cell? (Ze d 3)=some c/\w.cell? (Ze d 4)=some e/\w.cell? (Ze d 6)=some f/\w.cell? (Ze d 7)=some g:=
 ⟨(h 0 _ rfl).1,(h 2 _ rfl).1,(h 3 _ rfl).1,(h 4 _ rfl).1,(h 6 _ rfl).1,(h 7 _ rfl).1⟩
def Bb(T P L:Value)(rs:Zj):List Nat:=T.ownBlock.toList++(P.ownBlock.toList++(L.ownBlock.toList++rs.filterMap Value.ownBlock))
theorem Fh(T P L:Value)(a:Zj):(T::P::L::a).filterMap Value.ownBlock=Bb T P L a:=by unfold Bb;cases hT:T.ownBlock<;>cases hP:P.ownBlock<;>cases hL:L.ownBlock<;>simp[hT,hP,hL]
theorem VZ{c n:Nat}{T a P L r:Option Nat}{R:List Nat}(h:(c::(T.toList++(P.toList++(L.toList++R)))).Nodup)(e:∀b∈c::(T.toList++(P.toList++(L.toList++R))),b<n)
 (i:∀g,r=some g->n<=g) (d:a=T∨∃t,a=some t/\n<=t/\∀g,r=some g->g≠t):(c::(a.toList++(P.toList++(L.toList++(R++r.toList))))).Nodup:=by
 rcases d with rfl|⟨t,rfl,j,f⟩
 ·cases a<;>cases P<;>cases L<;>cases r<;>simp_all [List.nodup_append]<;>grind
 ·cases T<;>cases P<;>cases L<;>cases r<;>simp_all [List.nodup_append]<;>grind
theorem Ma{a:Nat}{T P L:Option Nat}{R:List Nat}(h:(a::(T.toList++(P.toList++(L.toList++R)))).Nodup):
 (∀g,T=some g->g≠a)/\(∀g,P=some g->g≠a/\T≠some g)/\(∀g,L=some g->g≠a/\T≠some g)/\(∀g∈R,g≠a/\T≠some g):=by
 cases T<;>cases P<;>cases L<;>simp_all<;>grind
theorem Ai{w w':Zh}{base:Nat}{e:TypeId}{size:Nat}{v:Value}{n:Nat}{a:Zj}(h:w.ownsRow base e size v n a)(j:∀g,v.ownBlock=some g->w'.heap[g]?=w.heap[g]?):w'.ownsRow base e size v n a:=by
 refine⟨h.1,?_⟩;rcases h.2 with i|⟨g,b,c,rfl,d,f,rest⟩
 ·exact .inl i
 ·exact .inr ⟨g,b,c,rfl,d,(j g rfl).trans f,rest⟩
theorem GJ{c:List Kd}(b:(c.map (·.sum)).Nodup){u v:Kd}(d:u∈c)(e:v∈c)(h:u.sum=v.sum):u=v:=by
 induction c with
 |nil=>cases d
 |cons x xs ih=>
  simp only[List.map_cons,List.nodup_cons,List.mem_map,not_exists,not_and]at b;rcases List.mem_cons.1 d with a|a<;>rcases List.mem_cons.1 e with hv'|hv'
  ·rw[a,hv']
  ·exact absurd (a▸h.symm) (b.1 v hv')
  ·exact absurd (hv'▸h) (b.1 u a)
  ·exact ih b.2 a hv'
def z7:Zj:=[Zf,Zf,Zf,Zf,Zc,Zc,Zc]
theorem QE{w:Zh}{b:Nat}(h:Aa w b z7):(w.cell? (Ze b 0)=some Zf/\w.frozen? ⟨b,0,none⟩=false)/\(w.cell? (Ze b 1)=some Zf/\w.frozen? ⟨b,1,none⟩=false)/\(w.cell? (Ze b 2)=some Zf/\w.frozen? ⟨b,2,none⟩=false)/\(w.cell? (Ze b 3)=some Zf/\w.frozen? ⟨b,3,none⟩=false)/\(w.cell? (Ze b 4)=some Zc/\w.frozen? ⟨b,4,none⟩=false)/\(w.cell? (Ze b 5)=some Zc/\w.frozen? ⟨b,5,none⟩=false)/\(w.cell? (Ze b 6)=some Zc/\w.frozen? ⟨b,6,none⟩=false):=
 ⟨h 0 _ rfl,h 1 _ rfl,h 2 _ rfl,h 3 _ rfl,h 4 _ rfl,h 5 _ rfl,h 6 _ rfl⟩
theorem XG{w:Zh}{b:Nat}(h:Aa w b z7)(a c d e f g i:Value):Aa (((((((w.setCell (Ze b 0) a).setCell (Ze b 1) c).setCell (Ze b 2) d).setCell (Ze b 3) e).setCell (Ze b 4) f).setCell (Ze b 5) g).setCell (Ze b 6) i) b [a,c,d,e,f,g,i]:=
 (((((((h.set 0 a).set 1 c).set 2 d).set 3 e).set 4 f).set 5 g).set 6 i)
theorem GL{w:Zh}{base:Nat}{e:TypeId}{size:Nat}{v:Value}{n:Nat}{c:Zj}(h:w.ownsRow base e size v n c){b:Nat}(a:∀g,v.ownBlock=some g->g≠b)(d f i j k l m:Value):(((((((w.setCell (Ze b 0) d).setCell (Ze b 1) f).setCell (Ze b 2) i).setCell (Ze b 3) j).setCell (Ze b 4) k).setCell (Ze b 5) l).setCell (Ze b 6) m).ownsRow base e size v n c:=
 Bk (Bk (Bk (Bk (Bk (Bk (Bk h a 0 _) a 1 _) a 2 _) a 3 _) a 4 _) a 5 _) a 6 _
theorem Fo{B:Nat}{a w:Zh}(h:Below B a w){b:Nat}(c:B<=b)(d e f g i j k:Value):Below B a (((((((w.setCell (Ze b 0) d).setCell (Ze b 1) e).setCell (Ze b 2) f).setCell (Ze b 3) g).setCell (Ze b 4) i).setCell (Ze b 5) j).setCell (Ze b 6) k):=
 ((((((h.setCell c d).setCell c e).setCell c f).setCell c g).setCell c i).setCell c j).setCell c k
def Sl(b:Nat)(P L:Value):Prop:=(∀g,P.ownBlock=some g->g≠b)/\(∀g,L.ownBlock=some g->g≠b)/\(∀g,P.ownBlock=some g->L.ownBlock=some g->False)
theorem IX(base d m:Nat)(O P L:Value)(wd R given ae:Int)(c:List Kd)(s:List Pd)(q:List Ld)(w:Zh)(hd:Dr w base d m O P L wd R given ae c s q)(xO:(c.map (·.sum)).Nodup)(xT:∀k∈c,(k.sum.size:Int)=wd)(hk:c.length<=600)(hp:s.length<=100)(hl:q.length<=200)(yJ:∀k∈c,k.refs.length<=30):
 Calls prog 96 #[Yz d] w fun e I=>∃T P' L' rs,e=.returned (.agg #[Zg wd,Zg R,Zg given,Zg ae,T,P',L'])/\AO I w.heap.size T P' L' rs c s q/\Zz w I:=by
 obtain⟨pa,zY,rfl⟩:=As hd.ci;obtain⟨la,zX,rfl⟩:=As hd.ck;obtain⟨oa,xZ,rfl⟩:=As hd.ord;have HD:=Yx hd;have vJ:=hd.box.lt;obtain⟨W,hW⟩:∃W,W=w.alloc (.cells Yu 40):=⟨_,rfl⟩;have yD:=(AG hW).1;have yR:=(AG hW).2.1;have ZW:Aa W w.heap.size z7:=(AG hW).2.2;have zS:=Yx (hd.below yD)
 have zF:Hid (∀X,Zz W X->Calls prog 132 #[.slice pa s.length zY] X fun e I=>∃a' c',e=.returned (.slice a' s.length c')/\I.ownsRow X.heap.size 137 2 (.slice a' s.length c') s.length (Ab pC s)/\Zz X I):=
  fun X H=>IU pa zY s X (AS.own (Ae zS.o.ci H)) (by omega)
 have U:Hid (∀X,Zz W X->Calls prog 133 #[.slice la q.length zX] X fun e I=>∃a' c',e=.returned (.slice a' q.length c')/\I.ownsRow X.heap.size 139 3 (.slice a' q.length c') q.length (Ab lC q)/\Zz X I):=
  fun X H=>Ik la zX q X (AU.own (Ae zS.o.ck H)) (by omega)
 have HS:Hid (∀X,Zz W X->X.cell? (Ze d 0)=some (Zg wd)/\X.cell? (Ze d 2)=some (Zg R)/\X.cell? (Ze d 3)=some (Zg given)/\X.cell? (Ze d 4)=some (Zg ae)/\X.cell? (Ze d 6)=some (.slice pa s.length zY)/\X.cell? (Ze d 7)=some (.slice la q.length zX)):=
  fun X H=>d8 (zS.o.box.below H)
 have D0:Below W.heap.size W W.drew:=(Below.refl _ _).drew;have D1:∀o,Zz W (W.alloc o).drew:=fun o=>(Zy).drew;have HW:=Yx hW;have yL:=Yx ZW;have zC:=Yx yR;clear hd hW ZW yR;go_enter func96,ntmps96;go_upto_region 1 with fail;rw[←HW.o];clear HW
 go_cut [3] (fun v wx=>∃(A:Nat) (E z:Zk) (F c2:Nat),v=Yz A/\Hid (Aa wx A (Yt wd R given ae none 0 0 E s.length F z q.length c2)/\wx.ownsRow W.heap.size 137 2 (.slice E s.length F) s.length (Ab pC s)/\wx.ownsRow W.heap.size 139 3 (.slice z q.length c2) q.length (Ab lC q)/\Sl A (.slice E s.length F) (.slice z q.length c2)/\W.heap.size<=A/\Zz W wx))
 case first=>
  go_region_held3 (fun I=>I.cell? (Ze d 0)=some (Zg wd)/\I.cell? (Ze d 2)=some (Zg R)/\I.cell? (Ze d 3)=some (Zg given)/\I.cell? (Ze d 4)=some (Zg ae)/\I.cell? (Ze d 6)=some (.slice pa s.length zY)/\I.cell? (Ze d 7)=some (.slice la q.length zX))
   (first
     |with_reducible exact HS.o _ D0
     |with_reducible exact HS.o _ (D1 _)
     |with_reducible exact HS.o _ G
     |with_reducible exact HS.o _ S
     |with_reducible exact HS.o _ (G.alloc G.size _)
     |with_reducible exact HS.o _ (S.alloc S.size _)
     |with_reducible exact HS.o _ (Fo S Y _ _ _ _ _ _ _))
   (first
     |(go_at_call 132;guard_target=~Calls prog 132 _ (World.drew (World.alloc W _)) _;refine(zF.o (W.alloc (.cells Yu 40)).drew (D1 _)).mono ?_;rintro e B ⟨E,F,rfl,N,zA⟩;have G:Below W.heap.size W B:=(D1 _).trans (zA.mono (by simp));have nA:Aa B W.heap.size z7:=(Aa.below (w:=W.alloc (.cells Yu 40)) (Aa.new W _ _) (Dv zA)))
     |(go_at_call 132;guard_target=~Calls prog 132 _ (World.drew W) _;refine(zF.o W.drew D0).mono ?_;rintro e B ⟨E,F,rfl,N,zA⟩;have G:Below W.heap.size W B:=D0.trans zA)
     |(go_at_call 133;have yG:=nA;refine(U.o B G).mono ?_;rintro e w2 ⟨z,c2,rfl,Q,C⟩;have S:Below W.heap.size W w2:=G.trans (C.mono G.size);have n2:Aa w2 W.heap.size z7:=(Aa.below nA C);have Y:W.heap.size<=W.heap.size:=Zx;obtain⟨⟨y0,q0⟩,⟨y1,q1⟩,⟨y2,q2⟩,⟨y3,q3⟩,⟨y4,q4⟩,⟨y5,q5⟩,y6,q6⟩:=QE n2)
     |(go_at_call 133;guard_target=~Calls prog 133 _ (World.alloc B _) _;refine(U.o (B.alloc (.cells Yu 40)) (G.alloc G.size _)).mono ?_;rintro e w2 ⟨z,c2,rfl,Q,C⟩;have S:Below W.heap.size W w2:=(G.alloc G.size _).trans (C.mono (by have:=G.size;simp;omega));have nB:Aa w2 B.heap.size z7:=(Aa.below (Aa.new B _ _) C);have Y:W.heap.size<=B.heap.size:=G.size;obtain⟨⟨y0,q0⟩,⟨y1,q1⟩,⟨y2,q2⟩,⟨y3,q3⟩,⟨y4,q4⟩,⟨y5,q5⟩,y6,q6⟩:=QE nB)
     |(go_at_call 133;refine(U.o B G).mono ?_;rintro e w2 ⟨z,c2,rfl,Q,C⟩;have nC:=N;have S:Below W.heap.size W w2:=G.trans (C.mono G.size)))
  all_goals (go_wp2_with fail;go_meet)
  all_goals first
   |(have yG:=nA
     have zz:=zC.o;have l1:∀g,(Value.slice E s.length F).ownBlock=some g->W.heap.size+1<=g/\g<B.heap.size:=fun g a=>by have:=Ac N a;simp at this;omega
     have l2:∀g,(Value.slice z q.length c2).ownBlock=some g->B.heap.size<=g:=fun g a=>(Ac Q a).1;have z1:W.heap.size+1<=B.heap.size:=by have:=zA.size;simp at this;omega
     exact⟨W.heap.size,E,z,F,c2,rfl,XG n2 _ _ _ _ _ _ _,GL (Ae (N.mono (by simp)) C) (fun g a=>by have:=l1 g a;omega) _ _ _ _ _ _ _,GL (Q.mono (by omega)) (fun g a=>by have:=l2 g a;omega) _ _ _ _ _ _ _,⟨fun g a=>by have:=l1 g a;omega,fun g a=>by have:=l2 g a;omega,fun g a zO=>by have:=l1 g a;have:=l2 g zO;omega⟩,Zx,Fo S (Zx) _ _ _ _ _ _ _⟩)
   |(have yG:=nB
     have l1:∀g,(Value.slice E s.length F).ownBlock=some g->W.heap.size<=g/\g<B.heap.size:=fun g a=>by have:=Ac N a;simp at this;omega
     have l2:∀g,(Value.slice z q.length c2).ownBlock=some g->B.heap.size+1<=g:=fun g a=>by have:=(Ac Q a).1;simp at this;omega
     exact⟨B.heap.size,E,z,F,c2,rfl,XG nB _ _ _ _ _ _ _,GL (Ae (Ae (N.mono (by simp)) (Zy)) C) (fun g a=>by have:=l1 g a;omega) _ _ _ _ _ _ _,GL (Q.mono (by simp;omega)) (fun g a=>by have:=l2 g a;omega) _ _ _ _ _ _ _,⟨fun g a=>by have:=l1 g a;omega,fun g a=>by have:=l2 g a;omega,fun g a zO=>by have:=l1 g a;have:=l2 g zO;omega⟩,Y,Fo S Y _ _ _ _ _ _ _⟩)
   |(have yG:=nC
     have l1:∀g,(Value.slice E s.length F).ownBlock=some g->W.heap.size<=g/\g<B.heap.size:=fun g a=>by have:=Ac N a;simp at this;omega
     have l2:∀g,(Value.slice z q.length c2).ownBlock=some g->B.heap.size<=g/\g<w2.heap.size:=fun g a=>Ac Q a;have z2:=C.size;exact⟨w2.heap.size,E,z,F,c2,rfl,Aa.new w2 _ _,Ae (Ae (N.mono (by simp)) C) (Zy),Ae (Q.mono G.size) (Zy),⟨fun g a=>by have:=l1 g a;omega,fun g a=>by have:=l2 g a;omega,fun g a zO=>by have:=l1 g a;have:=l2 g zO;omega⟩,S.size,S.alloc S.size _⟩)
 case rest=>
  revert wc;intro wN hcut;obtain⟨A,E,z,F,c2,rfl,HC⟩:=hcut;have yV:Hid (Zz w wN):=yD.trans (HC.o.2.2.2.2.2.mono yD.size);have dN:=(zS.o.box.below HC.o.2.2.2.2.2);obtain⟨e5,_⟩:=dN 5 _ rfl;have zN:=HC.o.2.2.2.2.2.size;have vO:W.heap.size<=A:=HC.o.2.2.2.2.1;have xA:Hid (Aa wN w.heap.size z7):=Aa.below (v:=Zf) (l:=z7.tail) yL.o HC.o.2.2.2.2.2;clear dN zF U HS D0 D1 yL;go_wp2
  go_loopw [40] (fun i wr=>∃(k:Nat) (T:Value) (rs:Zj),k<=c.length/\i=Zg k/\Hid (Aa wr A [Zg wd,Zg R,Zg given,Zg ae,T,.slice E s.length F,.slice z q.length c2]/\Aa wr w.heap.size z7/\wr.ownsRow W.heap.size 131 4 T k (Ab kC ((c.take k).zip rs))/\rs.length=k/\(∀(i:Nat) (x:Kd) (r:Value),(c.take k)[i]?=some x->rs[i]?=some r->wr.ownsRow W.heap.size 9 1 r x.refs.length (x.refs.map Value.string))/\wr.ownsRow W.heap.size 137 2 (.slice E s.length F) s.length (Ab pC s)/\wr.ownsRow W.heap.size 139 3 (.slice z q.length c2) q.length (Ab lC q)/\(A::Bb T (.slice E s.length F) (.slice z q.length c2) rs).Nodup)/\Zz w wr) (fun i _=>c.length -(intOf i).toNat)
  case atStart=>
   refine⟨0,Zc,[],Nat.zero_le _,rfl,⟨HC.o.1,xA.o,⟨rfl,.inl ⟨rfl,rfl⟩⟩,rfl,fun i x r hx=>by simp at hx,HC.o.2.1,HC.o.2.2.1,?_⟩,yV.o⟩;have h3:=HC.o.2.2.2.1;unfold Sl at h3;unfold Bb;generalize (Value.slice E s.length F).ownBlock=x1 at *
   generalize (Value.slice z q.length c2).ownBlock=x2 at *
   cases x1<;>cases x2<;>simp_all [Value.ownBlock]<;>grind
  case round=>
   obtain⟨k,T,rs,vK,rfl,HI,D⟩:=hrel;by_cases hlt:k<c.length
   ·obtain⟨n,f,hn,hM,hH⟩:=HD.o.map;have yF:=D.size;have ho:wr.ownsRow base 190 8 (.slice oa c.length xZ) c.length (AA (c.map (·.sum))):=NC HD.o.ord D (fun g a=>(Ac HD.o.ord a).2);obtain⟨og,oc,xI,_,vL⟩:=Cf ho (fun e=>by injection e with _ h2 _;omega);cases xI;have HG:Hid (c[k]?=some c[k]):=Zv hlt;have K:c[k]∈c:=List.getElem_mem hlt;have xV:=xT _ K;have vG:=yJ _ K
    have yP:(c.map (·.sum))[k]?=some c[k].sum:=by simp[hlt]
    have p:∀j,j<8->wr.cell? (Ze og (k *8+j))=some (.int .u8 (kB c[k].sum j)):=fun j hj=>(ho.cellAt _ (by omega)).trans (ED yP hj);obtain⟨M,rc,yO,yX⟩:∃M rc,f (keyL c[k].sum)=some (Ee c[k] M rc)/\Hid (Ad w w.heap.size M c[k].refs):=by
     rcases hH _ xV with⟨_,xP⟩|⟨u,M,rc,hu,xU,xK,xR⟩
     ·exact absurd ⟨_,K,rfl⟩ xP
     ·obtain rfl:=GJ xO hu K xU;exact⟨M,rc,xK,xR.row⟩
    have fq:∀X,Zz wr X->(Instr.lookup 152 (.map (some m)) (Cm c[k].sum) false).run prog X=.ok (Ee c[k] M rc) X:=fun X H=>by have:=(hM.aj (D.trans (H.mono yF)) hM.lt).look keyed underlying152 (Kf _) (EC c[k].sum);rw[yO]at this;exact this
    have dr:Aa wr d _:=Aa.below HD.o.box D;have yN:=p 0 (by omega);have xB:=p 1 (by omega);have xC:=p 2 (by omega);have xD:=p 3 (by omega);have xE:=p 4 (by omega);have xF:=p 5 (by omega);have xG:=p 6 (by omega);have xH:=p 7 (by omega);rw[Nat.add_zero]at yN;have HX:Hid (c.take (k+1)=c.take k++[c[k]]):=Zu hlt;unfold Cm CO Ee at fq;clear ho p yP hH yO K hM;generalize c[k]=x at *
    obtain⟨t,zI⟩:∃t,t=wr.alloc (.cells (Yw (kB x.sum)) 190):=⟨_,rfl⟩;have b1:=(AG zI).1;have z1:=(AG zI).2.1;have K1:=(AG zI).2.2
    have zZ:Hid (∀X,Zz t X->X.cell? (Ze d 1)=some (.map (some m))/\(X.cell? (Ze (wr.heap.size) 0)=some (.int .u8 (kB x.sum 0))/\X.cell? (Ze (wr.heap.size) 1)=some (.int .u8 (kB x.sum 1))/\X.cell? (Ze (wr.heap.size) 2)=some (.int .u8 (kB x.sum 2))/\X.cell? (Ze (wr.heap.size) 3)=some (.int .u8 (kB x.sum 3))/\X.cell? (Ze (wr.heap.size) 4)=some (.int .u8 (kB x.sum 4))/\X.cell? (Ze (wr.heap.size) 5)=some (.int .u8 (kB x.sum 5))/\X.cell? (Ze (wr.heap.size) 6)=some (.int .u8 (kB x.sum 6))/\X.cell? (Ze (wr.heap.size) 7)=some (.int .u8 (kB x.sum 7)))/\(Instr.lookup 152 (.map (some m)) (.agg (Yw (kB x.sum))) false).run prog X=.ok (.agg #[.string x.sum,Zg x.born,.string x.text,.slice M x.refs.length rc]) X):=
     fun X H=>⟨((dr.below (b1.trans (H.mono b1.size))) 1 _ rfl).1,ZX (H.block _ (by omega)) K1,fq X (b1.trans (H.mono b1.size))⟩
    have D0:Below t.heap.size t t.drew:=(Below.refl _ _).drew;have D1:∀o,Zz t (t.alloc o).drew:=fun o=>(Zy).drew;have yK:=Yx zI;have zG:=Yx z1;have yU:=Yx b1;clear zI z1 fq K1 b1 dr;go_upto_region 5 with fail;rw[←yK.o];clear yK yN xB xC xD xE xF xG xH
    go_region_held3 (fun X=>X.cell? (Ze d 1)=some (.map (some m))/\(X.cell? (Ze (wr.heap.size) 0)=some (.int .u8 (kB x.sum 0))/\X.cell? (Ze (wr.heap.size) 1)=some (.int .u8 (kB x.sum 1))/\X.cell? (Ze (wr.heap.size) 2)=some (.int .u8 (kB x.sum 2))/\X.cell? (Ze (wr.heap.size) 3)=some (.int .u8 (kB x.sum 3))/\X.cell? (Ze (wr.heap.size) 4)=some (.int .u8 (kB x.sum 4))/\X.cell? (Ze (wr.heap.size) 5)=some (.int .u8 (kB x.sum 5))/\X.cell? (Ze (wr.heap.size) 6)=some (.int .u8 (kB x.sum 6))/\X.cell? (Ze (wr.heap.size) 7)=some (.int .u8 (kB x.sum 7)))/\(Instr.lookup 152 (.map (some m)) (.agg (Yw (kB x.sum))) false).run prog X=.ok (.agg #[.string x.sum,Zg x.born,.string x.text,.slice M x.refs.length rc]) X)
     (first|with_reducible exact zZ.o _ D0|with_reducible exact zZ.o _ (D1 _))
     (fail)
    all_goals
     clear zZ D0 D1;obtain⟨W2,zJ⟩:∃W2,W2=(t.alloc (.cells #[.string x.sum,Zg x.born,.string x.text,.slice M x.refs.length rc] 131)).drew:=⟨_,rfl⟩;have b2:Below t.heap.size t W2:=by rw[zJ];exact(Zy).drew
     have z2:W2.heap.size=t.heap.size+1:=by rw[zJ];simp
     have K2:Aa W2 t.heap.size [.string x.sum,Zg x.born,.string x.text,.slice M x.refs.length rc]:=by rw[zJ];exact Aa.new t _ _
     have z1:=zG.o;have yB:Below wr.heap.size wr W2:=yU.o.trans (b2.mono (by omega));have R2:Ad W2 W2.heap.size M x.refs:=Ad.mono (Ad.below yX.o (D.trans (yB.mono yF))) (by omega);rw[←zJ];obtain⟨k3,_⟩:=K2 3 _ rfl;have yA:=Yx z2;have xQ:x.refs.length<=1048576:=by omega
     clear zJ z1 z2;go_wp2_with fail;refine(El M rc x.refs W2 R2 xQ).mono ?_;rintro e w3 ⟨a3,c3,rfl,yE,zM⟩;clear k3;have z1:=zG.o;have z2:=yA.o;have zT:Below wr.heap.size wr w3:=yB.trans (zM.mono (by omega));have z3:=zM.size;obtain⟨i1,i2,Z,i4,i5,i6,i7,i8⟩:=HI.o;have zW:=zC.o;have S3:=Aa.below i1 zT;obtain⟨ta,tc,rfl⟩:=As Z;obtain⟨s4,f4⟩:=S3 4 _ rfl;have xS:A<wr.heap.size:=i1.lt
     have yI:¬A=t.heap.size:=by omega
     have vE:¬t.heap.size=A:=by omega
     obtain⟨k0,k1,k2⟩:=Aa.c3 (Aa.below K2 zM) 0 1 2;obtain⟨k3,g3⟩:=Aa.below K2 zM 3 _ rfl;have yZ:=Yx (Ae Z zT);have zH:∀g,(Value.slice ta k tc).ownBlock=some g->W.heap.size<=g/\g<wr.heap.size:=fun g a=>Ac Z a;have yC:∀g,(Value.slice a3 x.refs.length c3).ownBlock=some g->W2.heap.size<=g/\g<w3.heap.size:=fun g a=>Ac yE a;have yW:=Yx yE;have zR:=Yx zT;have yY:=Yx S3
     have vH:W.heap.size<=w3.heap.size:=by omega
     obtain⟨i0,hi,xW,xX,xY⟩:=info_parts GF;have yM:=Yx z3;clear K2 b2 yB R2 i1 i2 Z i4 i5 i6 i7 i8 zM yE zT S3 z1 z2 z3 zW;go_wp2_with (first
      |(at_builtin;refine wpList_append_own_at _ rfl _ _ 36 rfl W.heap.size 131 i0 _ 4 64 underlying36 hi xW xX xY rfl (by decide) _ k (Ab kC ((c.take k).zip rs)) rfl ?d0 ⟨w3.heap.size,0,none⟩ 1 1 (kC (x,.slice a3 x.refs.length c3)) rfl rfl ?d2 ?d3 ?d4 ?d5 ?d6 ?_)
      |go_in)
     case d0=>exact Ae (Bk yZ.o (fun g a=>by have:=zH g a;have:=zG.o;omega) 3 _) (Zy)
     case d2=>
      intro j u hu;rw[Go.WideShapes.add_plain,Nat.zero_add];have:=(Aa.new (w3.setCell (Ze (t.heap.size) 3) (.slice a3 x.refs.length c3)) (kC (x,.slice a3 x.refs.length c3)) 131) j u hu;simpa [kC]using this.1
     case d3=>
      intro u hu;simp[kC]at hu;rcases hu with rfl|rfl|rfl|rfl<;>rfl
     case d4=>unfold maxLen;omega
     case d5=>omega
     case d6=>simp;omega
     intro v4 w4 zE zP xN zK;obtain⟨g4,c4,rfl,vA,vC⟩:=Cf zE (fun e=>by subst e;rcases zE.2 with⟨_,hn⟩|⟨_,_,_,e,_⟩<;>first|omega|cases e);obtain⟨i1,i2,Z,i4,i5,i6,i7,i8⟩:=HI.o;have nf:=Ma i8;have z1:=zG.o;have z2:=yA.o;have z3:=yM.o;have zW:=zC.o;have H:∀b,b<w3.heap.size->b≠t.heap.size->(Value.slice ta k tc).ownBlock≠some b->w4.heap[b]?=w3.heap[b]?:=fun b V zA C=>by rw[zP.block b (by simp;omega) (fun e=>C e.symm),Below.heap_alloc _ _ _ (by simp;omega),Below.heap_setCell _ _ _ _ (by simpa using zA)]
     have S4:=Aa.same yY.o (H A (by omega) yI (fun e=>nf.1 _ e rfl));obtain⟨_,vI⟩:=S4 4 _ rfl;obtain⟨vM,_⟩:=S4 4 _ rfl;have vD:g4≠A:=by
      rcases zK with ha|ha
      ·exact nf.1 g4 ha.symm
      ·simp[Value.ownBlock]at ha;omega
     have HF:=Yx (Zn S4 (Zn H (Zn zE (Zn zK zP))));clear S4 H zE zK zP i1 i2 Z i4 i5 i6 i7 i8 nf z1 z2 z3 zW s4 f4 k0 k1 k2 k3 g3 xN;go_wp2;obtain⟨S4,H,zE,zK,zP⟩:=HF.o;obtain⟨i1,i2,Z,i4,i5,i6,i7,i8⟩:=HI.o;have nf:=Ma i8;have z1:=zG.o;have z2:=yA.o;have z3:=yM.o;have zW:=zC.o
     have hY:∀b,b<w3.heap.size->b≠t.heap.size->b≠A->(Value.slice ta k tc).ownBlock≠some b->(w4.setCell (Ze A 4) (Za g4 (k+1) c4)).heap[b]?=w3.heap[b]?:=fun b h1 h2 h3 h4=>(Below.heap_setCell _ _ _ _ (by simpa using h3)).trans (H b h1 h2 h4)
     have zU:∀b,b<wr.heap.size->b≠A->(Value.slice ta k tc).ownBlock≠some b->(w4.setCell (Ze A 4) (Za g4 (k+1) c4)).heap[b]?=wr.heap[b]?:=fun b h1 h3 h4=>(hY b (by omega) (by omega) h3 h4).trans (zR.o.block b h1);have yS:∀r∈rs,∀g,r.ownBlock=some g->g<wr.heap.size:=by
      intro r J g a;obtain⟨i,hi⟩:=List.getElem?_of_mem J;have xM:i<k:=by have:=(Zw hi).1;omega
      exact(Ac (i5 i _ r (by rw[List.getElem?_take_of_lt xM];exact Zv (by omega)) hi) a).2
     refine⟨⟨k+1,Za g4 (k+1) c4,rs++[.slice a3 x.refs.length c3],by omega,by go_num,⟨Aa.set S4 4 _,?_,?_,?_,?_,?_,?_,?_⟩,?_⟩,by simp[intOf];omega⟩
     ·exact Aa.same i2 (zU w.heap.size (by omega) (by omega) (fun e=>by have:=(zH _ e).1;omega))
     ·rw[HX.o,List.zip_append (by rw[i4,List.length_take];omega),Bi];exact Bk zE (fun g a=>by simp[Value.ownBlock]at a;omega) 4 _
     ·simp[i4]
     ·intro i y r hy J;rw[HX.o]at hy;have yH:(c.take k).length=k:=by rw[List.length_take];omega
      rcases Nat.lt_or_ge i k with h|h
      ·rw[List.getElem?_append_left (by omega)]at hy J;refine Ai (i5 i y r hy J) (fun g a=> ?_);have:=nf.2.2.2 g (List.mem_filterMap.2 ⟨r,Zs J,a⟩);exact zU g (yS r (Zs J) g a) this.1 this.2
      ·have xL:i=k:=by have:=(Zw J).1;simp at this;omega
       subst xL;rw[List.getElem?_append_right (by omega),yH,Nat.sub_self]at hy;rw[List.getElem?_append_right (by omega),i4,Nat.sub_self]at J;simp at hy J;subst hy;subst J;refine Ai (World.ownsRow.mono yW.o (by omega)) (fun g a=> ?_);have:=yC g a;exact hY g this.2 (by omega) (by omega) (fun e=>by have:=(zH g e).2;omega)
     ·exact Ai i6 (fun g a=>zU g (Ac i6 a).2 (nf.2.1 g a).1 (nf.2.1 g a).2)
     ·exact Ai i7 (fun g a=>zU g (Ac i7 a).2 (nf.2.2.1 g a).1 (nf.2.2.1 g a).2)
     ·unfold Bb;rw[List.filterMap_append];have xJ:List.filterMap Value.ownBlock [.slice a3 x.refs.length c3]=(Value.slice a3 x.refs.length c3).ownBlock.toList:=by cases h:(Value.slice a3 x.refs.length c3).ownBlock<;>simp[h]
      rw[xJ];refine VZ (n:=wr.heap.size) i8 ?_ (fun g a=>by have:=(yC g a).1;omega) ?_
      ·intro b V;simp only[List.mem_cons,List.mem_append,Option.mem_toList,List.mem_filterMap]at V;rcases V with rfl|V|V|V|⟨r,J,V⟩
       ·exact xS
       ·exact(zH _ V).2
       ·exact(Ac i6 V).2
       ·exact(Ac i7 V).2
       ·exact yS r J b V
      ·rcases zK with ha|ha
       ·exact .inl ha
       ·refine .inr ⟨w3.heap.size+1,by simpa using ha,by omega,fun g a=>by have:=(yC g a).2;omega⟩
     ·have hq:Below w.heap.size w w3:=D.trans (zR.o.mono yF);exact(((hq.setCell (by simp;omega) _).alloc (by simp;omega) _).grown zP (by simp;omega) (fun g a=>by have:=(zH g a).1;omega)).setCell (by simp;omega) _
   ·obtain rfl:k=c.length:=by omega
    obtain⟨i1,i2,Z,i4,i5,i6,i7,i8⟩:=HI.o;have zW:=zC.o;obtain⟨⟨y0,q0⟩,⟨y1,q1⟩,⟨y2,q2⟩,⟨y3,q3⟩,⟨y4,q4⟩,⟨y5,q5⟩,y6,q6⟩:=QE i2;obtain⟨ta,tc,rfl⟩:=As Z;obtain⟨x0,x1,x2,x3,x4,x5,x6⟩:=Aa.c7 i1 0 1 2 3 4 5 6;have vF:¬A=w.heap.size:=by omega
    have yT:¬w.heap.size=A:=by omega
    have zB:=Yx (Zn i2 (Zn Z (Zn i4 (Zn i5 (Zn i6 (Zn i7 i8))))));clear i1 i2 Z i4 i5 i6 i7 i8 zW;go_wp2;have zW:=zC.o
    have zV:∀{e:TypeId} {size:Nat} {v:Value} {n:Nat} {xs:Zj},wr.ownsRow W.heap.size e size v n xs->(((((((wr.setCell (Ze (w.heap.size) 0) (Zg wd)).setCell (Ze (w.heap.size) 1) (Zg R)).setCell (Ze (w.heap.size) 2) (Zg given)).setCell (Ze (w.heap.size) 3) (Zg ae)).setCell (Ze (w.heap.size) 4) (.slice ta c.length tc)).setCell (Ze (w.heap.size) 5) (.slice E s.length F)).setCell (Ze (w.heap.size) 6) (.slice z q.length c2)).ownsRow w.heap.size e size v n xs:=fun h=>World.ownsRow.mono (GL h (fun g a=>by have:=(Ac h a).1;omega) _ _ _ _ _ _ _) (by omega)
    have yQ:c.take c.length=c:=Zt (Zx);refine bodyPost_ret (v:=.agg (Ys wd R given ae ta c.length tc E s.length F z q.length c2)) (by simp[results,results96,go_sem,y0,y1,y2,y3,y4,y5,y6]) rfl ⟨_,_,_,rs,rfl,⟨zB.o.2.2.1,?_,?_,zV zB.o.2.2.2.2.1,zV zB.o.2.2.2.2.2.1,?_⟩,Fo D (Zx) _ _ _ _ _ _ _⟩
    ·have:=zB.o.2.1;rw[yQ]at this;exact zV this
    ·intro i y r hy J;exact zV (zB.o.2.2.2.1 i y r (by rw[yQ];exact hy) J)
    ·rw[Fh];exact(List.nodup_cons.1 zB.o.2.2.2.2.2.2).2
end Go.Proofs.YtdgblkklkaklhaaGreatDoor
