import Derived.Test.YtdgblkklkaklhaaGreatDoorX27
import Derived.Test.YtdgblkklkaklhaaGreatDoorX16
import Derived.Laws.ResultCell
set_option maxRecDepth 100000
set_option maxHeartbeats 16000000
namespace Go.Proofs.YtdgblkklkaklhaaGreatDoor
open Go.ChangeShapes Go.WideShapes Go.ChangeAt Go.RowKit _root_.Go.Proofs.Tryz
theorem Bn{V:List Nat}{w c:Zh}{lo:Nat}{e:TypeId}{size:Nat}{v:Value}{n:Nat}{d:Zj}(h:w.ownsRow lo e size v n d)(i:Tn V w c)(g:∀b∈V,b<lo):c.ownsRow lo e size v n d:=
 Ai h (fun q a=>i.block q (Ac h a).2 (fun f=>by have j:=g q f;have k:=(Ac h a).1;omega))
theorem Aa.there{w:Zh}{B:Nat}{l:Zj}(h:Aa w B l):w.there B 0 l.length:=fun j c=>by obtain⟨a,b⟩:=h j _ (Zv c);rw[Nat.zero_add];exact⟨by rw[a];rfl,b⟩
theorem Aa.range{w:Zh}{B:Nat}{l:Zj}(h:Aa w B l):w.rangeAt B 0 l:=fun j v a=>by rw[Nat.zero_add];exact(h j v a).1
theorem AP(B:Nat):∀(vs:Zj) (o:Nat) (w:Zh),Tn [B] w (w.setCells B o vs)
 |[],_,w=>Tn.of (Below.refl _ _)
 |v::r,o,w=>(Tn.set w B o v (by simp)).trans (AP B r (o+1) (w.setCell (Ze B o) v))
theorem Aa.ba{w:Zh}{B:Nat}{l:Zj}(h:Aa w B l)(a:Zj)(d:a.length=l.length):Aa (w.setCells B 0 a) B a:=fun j v c=>by have e:=(Zw c).1;have b:=World.rangeAt_setCells_same w B 0 a (d▸h.there) j v c;rw[Nat.zero_add]at b;refine⟨b,?_⟩;rw[World.frozen?_setCells];exact(h j _ (Zv (by omega))).2
theorem BN{P:Program}{e:Func}{p:Tmp}{c:TypeId}(h:e.results= #[.cell p c])(tmps:Array Value)(w:Zh)(b:Nat)(a:Zj)(d:TypeDesc)
 (k:tmps.getD p undef=Yz b) (g:w.rangeAt b 0 a) (l:P.underlying c=some d) (i:d.isRow=true) (j:(P.info? c).map (·.size)=some a.length):
 (results e tmps).run P w=.ok (.agg a.toArray) w:=by
 have f:tmps[p]?.getD undef=Yz b:=by simpa using k
 simp[results,h,f,asAddr,run_loadVar_mid w b 0 c a d g l i j]
theorem GH.tn{V:List Nat}{w k:Zh}{lo g p l:Nat}{e:List Kd}{j:List Pd}{f:List Ld}(h:GH w lo g p l e j f)(c:Tn V w k)(a:∀b∈V,b<lo):GH k lo g p l e j f:=by obtain⟨D,d,u,t⟩:=h.k;obtain⟨C,y,n⟩:=h.p;obtain⟨B,v,m⟩:=h.l;refine⟨⟨D,Bn d c a,fun i x A=> ?_,t⟩,⟨C,Bn y c a,n⟩,⟨B,Bn v c a,m⟩⟩;obtain⟨o,q,c2,r,c3,z⟩:=u i x A;exact⟨o,q,c2,r,c3,Bn z c (fun b s=>by have E:=a b s;have F:=(d.lt g rfl).1;omega)⟩
theorem GH.aj{w e:Zh}{lo g p l:Nat}{b:List Kd}{d:List Pd}{c:List Ld}(h:GH w lo g p l b d c)(a:Zz w e):GH e lo g p l b d c:=⟨h.k.aj a,h.p.aj a,h.l.aj a⟩
def Vl(w:Zh)(lo:Nat)(a:Va)(v:Vd):Prop:=
 ∃(g k g3 q3 r3 g5 k5 lo1 lo2:Nat) (w2:Zh),a=⟨some ⟨g,0,none⟩,v.ss.length,some ⟨k,0,none⟩,v.tt.length,some ⟨g3,0,none⟩,v.ks.length,some ⟨q3,0,none⟩,v.ps.length,some ⟨r3,0,none⟩,v.ls.length,some ⟨g5,0,none⟩,v.qs.length,some ⟨k5,0,none⟩,v.ms.length⟩/\
  g<k/\k<lo1/\lo<=lo1/\lo1<=lo2/\lo2<=w.heap.size/\g5<k5/\
  w.ownsRow lo 9 1 (.slice (some ⟨g,0,none⟩) v.ss.length v.ss.length) v.ss.length (v.ss.map Value.string)/\w.ownsRow lo 9 1 (.slice (some ⟨k,0,none⟩) v.tt.length v.tt.length) v.tt.length (v.tt.map Value.string)/\
  GH w2 lo1 g3 q3 r3 v.ks v.ps v.ls/\w2.heap.size<=lo2/\(∀b,lo1<=b->b<w2.heap.size->w.heap[b]?=w2.heap[b]?)/\
  w.ownsRow lo2 9 1 (.slice (some ⟨g5,0,none⟩) v.qs.length v.qs.length) v.qs.length (v.qs.map Value.string)/\w.ownsRow lo2 9 1 (.slice (some ⟨k5,0,none⟩) v.ms.length v.ms.length) v.ms.length (v.ms.map Value.string)
theorem Vl.aj{w l:Zh}{lo:Nat}{a:Va}{v:Vd}(h:Vl w lo a v)(F:w.heap.size<=l.heap.size)(d:∀b,lo<=b->b<w.heap.size->l.heap[b]?=w.heap[b]?):Vl l lo a v:=by obtain⟨g,k,s,H,I,t,G,p,r,J,u,x,y,z,A,B,C,i,j,D,m,n,e,f⟩:=h;refine⟨g,k,s,H,I,t,G,p,r,J,u,x,y,z,A,Zm B F,C,Ai i (fun q c=>d q (Ac i c).1 (Ac i c).2),Ai j (fun q c=>d q (Ac j c).1 (Ac j c).2),D,m,fun b E o=>(d b (by omega) (by omega)).trans (n b E o),Ai e (fun q c=>d q (by have:=(Ac e c).1;omega) (Ac e c).2),Ai f (fun q c=>d q (by have:=(Ac f c).1;omega) (Ac f c).2)⟩
structure Iq (n kmax feq fmark:Nat) (R:Nat->Zh->Zj->Prop) (O:Nat->Nat->Zh->Zj->Prop) (M:Nat->Nat->Zh->Zj->Nat->Prop):Prop where
 eq:∀(X:Zh) (cs ds:Zj),R X.heap.size X cs->R X.heap.size X ds->Calls prog feq #[.agg cs.toArray,.agg ds.toArray] X fun e X'=>e=.returned (.bool true)/\Zz X X'
 mark:∀(lo N:Nat) (X:Zh) (cs:Zj) (k:Nat),O lo N X cs->1<=k->k<=kmax->Calls prog fmark #[.agg cs.toArray,Zg k] X fun e X'=>(∃K:Nat,e=.returned (Zg K)/\1<=K/\K<=90000000/\M lo N X' cs K)/\Below lo X X'/\∀q,N<=q->q<X.heap.size->X'.heap[q]?=X.heap[q]?
 dj:∀(L:Nat) (X X':Zh) (cs:Zj),R L X cs->Below L X X'->R L X' cs
 dd:∀(L L':Nat) (X:Zh) (cs:Zj),R L X cs->L<=L'->R L' X cs
 db:∀(lo N:Nat) (X X':Zh) (cs:Zj),O lo N X cs->X.heap.size<=X'.heap.size->(∀q,lo<=q->q<N->X'.heap[q]?=X.heap[q]?)->O lo N X' cs
 gi:∀(lo N:Nat) (X X':Zh) (cs:Zj) (K:Nat),M lo N X cs K->X.heap.size<=X'.heap.size->(∀q,lo<=q->q<N->X'.heap[q]?=X.heap[q]?)->M lo N X' cs K
 ga:∀(lo N:Nat) (X:Zh) (cs:Zj),O lo N X cs->N<=X.heap.size/\R X.heap.size X cs
 dy:∀(L:Nat) (X:Zh) (cs:Zj),R L X cs->cs.length=n/\∀u∈cs,u.oneCell'=true
structure L1 (RA:Nat->Zh->Zj->Prop) (w X:Zh) (A sc:Zj) (pS L:Nat):Prop where
 cf:Below w.heap.size w X
 bA:Aa X w.heap.size A
 bS:Aa X pS sc
 rS:RA L X sc
 l0:w.heap.size<L
 l1:pS<L
 le:L<=X.heap.size
theorem L1.aj{n c i a:Nat}{d:Nat->Zh->Zj->Prop}{l:Nat->Nat->Zh->Zj->Prop}{j:Nat->Nat->Zh->Zj->Nat->Prop}(k:Iq n c i a d l j){w X e:Zh}{A g:Zj}{f L:Nat}(h:L1 d w X A g f L)(b:Below L X e):L1 d w e A g f L:=
 ⟨h.cf.trans (b.mono (by have:=h.l0;omega)),Aa.same h.bA (b.block _ h.l0),Aa.same h.bS (b.block _ h.l1),k.dj _ _ _ _ h.rS b,h.l0,h.l1,Zm h.le b.size⟩
structure L2 (OX:Nat->Nat->Zh->Zj->Prop) (X:Zh) (xc:Zj) (L pX N:Nat):Prop where
 bX:Aa X pX xc
 oX:OX L N X xc
 l1:N<=pX
 le:pX<X.heap.size
theorem L2.aj{n c i a:Nat}{l:Nat->Zh->Zj->Prop}{d:Nat->Nat->Zh->Zj->Prop}{j:Nat->Nat->Zh->Zj->Nat->Prop}(k:Iq n c i a l d j){X e:Zh}{g:Zj}{L f N:Nat}(h:L2 d X g L f N)(b:Zz X e):L2 d e g L f N:=
 ⟨Aa.same h.bX (b.block _ h.le),k.db _ _ _ _ _ h.oX b.size (fun q _ m=>b.block q (by have:=h.l1;have:=h.le;omega)),h.l1,Zr h.le b.size⟩
structure L3 (P:Nat->Nat->Zh->Zj->Prop) (X:Zh) (gc:Zj) (lo pG N:Nat):Prop where
 bG:Aa X pG gc
 oG:P lo N X gc
 l1:N<=pG
 le:pG<X.heap.size
theorem L3.stays{P:Nat->Nat->Zh->Zj->Prop}(k:∀(lo N:Nat) (X a:Zh) (c:Zj),P lo N X c->X.heap.size<=a.heap.size->(∀q,lo<=q->q<N->a.heap[q]?=X.heap[q]?)->P lo N a c){X a:Zh}{d:Zj}{lo b N B:Nat}(h:L3 P X d lo b N)(l:B<=lo)(g:B<=b)(f:X.heap.size<=a.heap.size)(e:∀q,B<=q->q<X.heap.size->a.heap[q]?=X.heap[q]?):L3 P a d lo b N:=
 ⟨Aa.same h.bG (e _ g h.le),k _ _ _ _ _ h.oG f (fun q i j=>e q (by omega) (by have:=h.l1;have:=h.le;omega)),h.l1,Zr h.le f⟩
theorem L3.aj{P:Nat->Nat->Zh->Zj->Prop}(k:∀(lo N:Nat) (X a:Zh) (b:Zj),P lo N X b->X.heap.size<=a.heap.size->(∀q,lo<=q->q<N->a.heap[q]?=X.heap[q]?)->P lo N a b){X a:Zh}{c:Zj}{lo e N:Nat}(h:L3 P X c lo e N)(d:Zz X a):L3 P a c lo e N:=
 h.stays (B:=0) k (Nat.zero_le _) (Nat.zero_le _) d.size (fun q _ f=>d.block q f)
theorem boxed{X:Zh}{cs z:Zj}{T:TypeId}(b:cs.length=z.length):Aa ((X.alloc (.cells z.toArray T)).setCells X.heap.size 0 cs) X.heap.size cs/\Zz X ((X.alloc (.cells z.toArray T)).setCells X.heap.size 0 cs)/\((X.alloc (.cells z.toArray T)).setCells X.heap.size 0 cs).heap.size=X.heap.size+1:=by have a:=Aa.new X z T;have c:=AP X.heap.size cs 0 (X.alloc (.cells z.toArray T));refine⟨a.ba cs b,(Zy).trans (c.below (by simp) (by simp)),?_⟩;rw[Gb];simp
theorem GZ{P:Program}{c:Array Oper}{rest:List Oper}{f:Oper}{a:Act}{w:Zh}{Q:Exit->Act->Zh->Prop}(p:Region.wanted f (yielded c a.tmps)=true)(g:TypeId)(x:Operand)(m:f.op=.load g x)
 (b o:Nat) (q:a.eval x=Yy b o) (e:Zj) (d:TypeDesc) (j:w.rangeAt b o e)
 (n:P.underlying g=some d) (k:d.isRow=true) (l:(P.info? g).map (·.size)=some e.length)
 (h:wpList P c Q rest (a.put f.dst (.agg e.toArray)) w):wpList P c Q (f::rest) a w:=
 wpList_step fun _ i=>by rw[if_pos p];exact wp_load_mid g x m b o q e d j n k l (i _ _ h)
def Ao(w:Zh)(base:Nat)(v:Value)(ss:Zl):Prop:=
 (v=Zc/\ss=[])∨∃g off cap,v=.slice (some ⟨g,off,none⟩) ss.length cap/\base<=g/\g<w.heap.size/\ss.length<=cap/\cap<=maxLen/\
   (∀j,j<cap->(w.cell? (Ze g (off+j))).isSome=true/\w.frozen? ⟨g,off+j,none⟩=false)/\
   ∀i s,ss[i]?=some s->w.cell? (Ze g (off+i))=some (.string s)
theorem Ao.nil(w:Zh)(base:Nat):Ao w base Zc []:=.inl ⟨rfl,rfl⟩
theorem Ao.own{w:Zh}{base:Nat}{v:Value}{b:Zl}(h:w.ownsRow base 9 1 v b.length (b.map Value.string)):Ao w base v b:=by
 rcases h.2 with⟨rfl,p⟩|⟨g,k,c,rfl,l,d,m,o,e,q⟩
 ·exact .inl ⟨rfl,List.eq_nil_of_length_eq_zero p⟩
 ·have n:=(Array.getElem?_eq_some_iff.1 d).1;have a:∀j,w.cell? (Ze g (0+j))=c[j]?:=fun j=>by rw[Nat.zero_add];simp[World.cell?,d]
  refine .inr ⟨g,0,k,rfl,l,n,m,o,fun j t=>⟨?_,?_⟩,fun i s e=> ?_⟩
  ·rw[a,Array.getElem?_eq_getElem (by omega)];rfl
  ·simp[World.frozen?,d]
  ·have r:=(Zw e).1;rw[a];have f:(c.toList.take (b.length *1))[i]?=some (.string s):=by rw[q];simp[e]
   rw[List.getElem?_take_of_lt (by omega)]at f;simpa using f
theorem Ao.row{w:Zh}{base:Nat}{v:Value}{c:Zl}(h:Ao w base v c):∃a b,v=.slice a c.length b/\Ad w w.heap.size a c:=by
 rcases h with⟨rfl,rfl⟩|⟨g,d,b,rfl,i,e,_,_,_,f⟩
 ·exact⟨none,0,rfl,.inl rfl⟩
 ·exact⟨_,b,rfl,.inr ⟨g,d,rfl,e,f⟩⟩
theorem Ao.stays{w b:Zh}{base:Nat}{v:Value}{e:Zl}(h:Ao w base v e)(r:w.heap.size<=b.heap.size)(a:∀g,Ak v=some g->b.heap[g]?=w.heap[g]?):Ao b base v e:=by
 rcases h with h|⟨g,k,f,rfl,l,q,m,n,c,o⟩
 ·exact .inl h
 ·exact .inr ⟨g,k,f,rfl,l,by omega,m,n,fun j d=>⟨by rw[World.cell?_of_block (a g rfl)];exact(c j d).1,by rw[World.frozen?_of_block (a g rfl)];exact(c j d).2⟩,fun i s p=>(World.cell?_of_block (a g rfl)).trans (o i s p)⟩
theorem Ao.bj{w:Zh}{base:Nat}{v:Value}{d:Zl}(h:Ao w base v d){g:Nat}(a:Ak v=some g):base<=g/\g<w.heap.size:=by
 rcases h with⟨rfl,_⟩|⟨i,f,e,rfl,b,c,_⟩
 ·cases a
 ·cases a;exact⟨b,c⟩
theorem Ao.below{w c:Zh}{base:Nat}{v:Value}{b:Zl}(h:Ao w base v b)(a:Zz w c):Ao c base v b:=
 h.stays a.size (fun g e=>a.block g (h.bj e).2)
theorem Ao.an{w c:Zh}{V:List Nat}{base:Nat}{v:Value}{b:Zl}(h:Ao w base v b)(a:Tn V w c)(d:∀g,Ak v=some g->g∉V):Ao c base v b:=
 h.stays a.size (fun g e=>a.block g (h.bj e).2 (d g e))
theorem Ao.mono{w:Zh}{base base':Nat}{v:Value}{a:Zl}(h:Ao w base v a)(e:base'<=base):Ao w base' v a:=by
 rcases h with h|⟨g,c,b,rfl,d,rest⟩
 ·exact .inl h
 ·exact .inr ⟨g,c,b,rfl,by omega,rest⟩
theorem Ao.tail{w:Zh}{base g a n b:Nat}{s:Zi}{c:Zl}(h:Ao w base (.slice (some ⟨g,a,none⟩) n b) (s::c)):Ao w base (.slice (some ⟨g,a+1,none⟩) c.length (b -1)) c/\n=c.length+1/\n<=b/\w.cell? (Ze g a)=some (.string s):=by
 rcases h with⟨h,_⟩|⟨r,l,k,d,m,p,e,t,o,f⟩
 ·cases h
 ·simp only[List.length_cons]at d e;cases d;refine⟨.inr ⟨g,a+1,b -1,rfl,m,p,by omega,by omega,fun j u=> ?_,fun i s q=> ?_⟩,rfl,e,by simpa using f 0 s rfl⟩
  ·have:=o (j+1) (by omega);rw[show a+(j+1)=a+1+j by omega]at this;exact this
  ·have:=f (i+1) s (by simpa using q);rw[show a+(i+1)=a+1+i by omega]at this;exact this
theorem Ao.fresh(w:Zh)(base:Nat)(b:Zl)(c:Nat)(z:Array Value)(g:base<=w.heap.size)(e:b.length<=c)(f:c<=maxLen)(k:z.size=c -b.length):
 Ao (w.drew.alloc (.cells ((b.map Value.string).toArray++z) 9)) base (Za w.heap.size b.length c) b:=by
 have a:∀j,(w.drew.alloc (.cells ((b.map Value.string).toArray++z) 9)).cell? (Ze (w.heap.size) (0+j))=((b.map Value.string).toArray++z)[j]?:=fun j=>by rw[Nat.zero_add];show(w.drew.alloc (.cells ((b.map Value.string).toArray++z) 9)).cell? (Ze (w.drew.heap.size) j)=_;rw[World.cell?_alloc_at _ _ _ _ rfl]
 refine .inr ⟨w.heap.size,0,c,rfl,g,by simp,e,f,fun j l=>⟨?_,?_⟩,fun i s d=> ?_⟩
 ·rw[a,Array.getElem?_eq_getElem (by simp[k];omega)];rfl
 ·simp[go_sem]
 ·have h:=(Zw d).1;rw[a,Array.getElem?_append_left (by simpa using h)];simp[d]
theorem WQ(w:Zh)(base:Nat)(v:Value)(a:Zl)(V:Ao w base v a)(p:Addr)(A:Nat)(t:Zi)(B:w.cell? p=some (.string t))(X:a.length<=100000000)(r:base<=w.heap.size)(C:TypeId):
 ∃c d,(Builtin.append_ #[22,22] C #[v,.slice (some p) 1 A]).run prog w=.ok c d/\Ao d base c (a++[t])/\w.grownBy d (Ak v)/\(Ak c=Ak v∨Ak c=some w.heap.size):=by
 obtain⟨i,K,Q,n,R⟩:=info_parts CK;have o:Src prog i.size 22 (.slice (some p) 1 A) 1 [.string t] w:=by
  rw[n];exact Src.ofSlice w underlying22 p 1 A [.string t] rfl (fun j u l=>by
   match j,l with
   |0,l=>cases l;rw[show p.add 0=p from by cases p;simp[Addr.add]];exact B) (by simp[Value.oneCell'])
 have grow:∀(z:Zk) (b:Nat),b<a.length+1->(Builtin.firstCells i.size a.length (.slice z a.length b)).run prog w.drew=.ok (a.map Value.string).toArray w.drew->
  ∃c d,(Builtin.append_ #[22,22] C #[.slice z a.length b,.slice (some p) 1 A]).run prog w=.ok c d/\Ao d base c (a++[t])/\(∀row,w.grownBy d row)/\Ak c=some w.heap.size:=by
  intro z b E hold;have h:=run_append_grow_src w _ _ C _ i _ underlying22 K Q z a.length b (a.map Value.string) hold _ 1 [.string t] o E (by omega) (by
   have:=nextslicecap_le E;rw[R];omega)
  rw[show a.map Value.string++[.string t]=(a++[t]).map Value.string by simp]at h;have L:=grownCap_ge w (a.length+1) b 9;have O:=grownCap_le_maxLen w (a.length+1) b 9 (by unfold maxLen;omega)
  have D:=Ao.fresh w base (a++[t]) (grownCap w (a.length+1) b 9) (Builtin.zeroCells (Value.string ⟨#[]⟩).cells (grownCap w (a.length+1) b 9 -(a.length+1))) r (by simpa using L) O (by rw[size_zeroCells,List.length_append];simp[Value.cells]);rw[List.length_append]at D;exact⟨_,_,h,D,fun row=>⟨rfl,rfl,rfl,by simp,fun k J _=>heap_alloc_old w.drew _ J⟩,rfl⟩
 rcases V with⟨rfl,rfl⟩|⟨g,q,b,rfl,S,U,W,T,x,B⟩
 ·obtain⟨c,d,h,G,H,I⟩:=grow none 0 (by simp) (run_firstCells_none w.drew _ _ _ _);exact⟨c,d,h,G,H _,.inr I⟩
 ·by_cases hroom:a.length+1<=b
  ·have y:∀j,j<[Value.string t].length->(a.length *1+j)<b:=fun j f=>by simp at f;omega
   have h:=run_append_room_src w _ _ C _ i underlying22 K g q a.length b _ 1 [.string t] o hroom (fun j f=>by rw[n,Nat.add_assoc];exact(x _ (y j f)).1) (fun j f=>by rw[n,Nat.add_assoc];exact(x _ (y j f)).2);rw[n]at h
   refine⟨_,_,h,.inr ⟨g,q,b,by rw[List.length_append];rfl,S,by rw[Gb];exact U,by rw[List.length_append];exact hroom,T,fun j f=>⟨?_,?_⟩,fun k s m=> ?_⟩,⟨World.os_setCells _ _ _ _,IS _ _ _ _,World.output_setCells _ _ _ _,by rw[Gb];exact Zx,fun k J P=>World.heap_setCells_other _ _ _ _ J (fun e=>P (by rw[e];rfl))⟩,.inl rfl⟩
   ·exact Hx _ _ _ _ _ (x j f).1
   ·rw[World.frozen?_setCells];exact(x j f).2
   ·rcases Nat.lt_or_ge k a.length with F|F
    ·rw[List.getElem?_append_left F]at m;rw[World.cell?_setCells_out _ _ _ _ _ (fun _ _=> .inl (by simp;omega))];exact B k s m
    ·rw[List.getElem?_append_right F]at m;have N:k=a.length:=by have:=(Zw m).1;simp at this;omega
     subst N;simp at m;subst m;have M:=World.cell?_setCells_in g [.string t] (q+a.length *1) w (fun j f=>by rw[Nat.add_assoc];exact(x _ (y j f)).1) 0 (by simp);simpa using M
  ·obtain⟨c,d,h,G,H,I⟩:=grow (some ⟨g,q,none⟩) b (by omega) (run_firstCells_some w.drew _ _ _ _ _ _ (by rw[n];simp) (by
    intro j u l;obtain⟨s,m,rfl⟩:∃s,a[j]?=some s/\u=.string s:=by
     rw[List.getElem?_map]at l;cases e:a[j]? with
     |none=>rw[e]at l;cases l
     |some s=>rw[e]at l;cases l;exact⟨s,rfl,rfl⟩
    rw[Go.WideShapes.add_plain];exact B j s m))
   exact⟨c,d,h,G,H _,.inr I⟩
theorem MZ(o ag h q:Int)(a b:Zk)(n m c d k:Nat)(w:Zh)(u:Ad w w.heap.size a (marks k n))(v:Ad w w.heap.size b (marks (k+n) m))(x:1<=k)(z:k+n+m<=100000000):
 Calls prog 58 #[.agg (Yk o a n c b m d ag h q),Zg k] w fun e y=>e=.returned (Zg (k+n+m))/\Zz w y:=by
 have l:Below w.heap.size w (w.alloc (.cells (Yk o a n c b m d ag h q) 41)):=Zy;have A:¬((k:Int)+n<0):=by omega
 have t:¬((k:Int)+n+m<0):=by omega
 go_enter func58,ntmps58;go_wp2_with fail;refine(FZ a n c k w.heap.size _ (u.below l) (by simp) x (by omega)).mono ?_;rintro e r ⟨rfl,i⟩;have g:=l.trans (i.mono (by simp));have j:r.cell? (Ze (w.heap.size) 2)=some (.slice b m d):=by rw[i.cell (p:=⟨w.heap.size,2,none⟩) (by simp)];simp
 have f:=FZ b m d (k+n) w.heap.size r (v.below g) g.size (by omega) (by omega);rw[show((k+n:Nat):Int)=(k:Int)+n from by omega]at f;go_wp2_with fail;refine f.mono ?_;rintro e B ⟨rfl,s⟩;go_wp2;go_ret;exact⟨rfl,g.trans (s.mono g.size)⟩
theorem Ao.set{w:Zh}{base g a n b:Nat}{k:Zl}(h:Ao w base (.slice (some ⟨g,a,none⟩) n b) k){j:Nat}(v:j<k.length)(t:Zi):Ao (w.setCell (Ze g (a+j)) (.string t)) base (.slice (some ⟨g,a,none⟩) n b) (k.set j t):=by
 rcases h with⟨e,_⟩|⟨x,m,l,e,o,p,q,r,c,u⟩
 ·cases e
 ·cases e;refine .inr ⟨g,a,b,by rw[List.length_set],o,by simpa using p,by rw[List.length_set];exact q,r,fun i f=>⟨?_,?_⟩,fun i s d=> ?_⟩
  ·exact(BL.setCell w g (a+j) (.string t) g (a+i) (c i f).1).1
  ·exact(BL.setCell w g (a+j) (.string t) g (a+i) (c i f).1).2 (c i f).2
  ·by_cases hij:i=j
   ·subst hij;rw[List.getElem?_set_self v]at d;cases d;exact World.cell?_setCell_same' _ _ _ (c i (by omega)).1
   ·rw[List.getElem?_set_ne (fun e=>hij e.symm)]at d;exact(World.cell?_setCell_other w _ _ _ (by simp<;>omega)).trans (u i s d)
theorem Rx(k i:Nat)(a:Zl)(h:i<a.length):(marks k i++a.drop i).set i (BO (k+i))=marks k (i+1)++a.drop (i+1):=by have b:=BG k i;rw[List.set_append_right _ _ (by omega),b,Nat.sub_self,List.drop_eq_getElem_cons h,Zp];simp[marks,List.range_succ]
theorem Ht(base k:Nat)(V:Value)(d:Zl)(w:Zh)(h:Ao w base V d)(T:1<=k)(H:k+d.length<=100000000):
 Calls prog 52 #[V,Zg k] w fun e G=>e=.returned (Zg (k+d.length:Nat))/\Ao G base V (marks k d.length)/\w.grownBy G (Ak V):=by
 obtain⟨a,o,rfl,_⟩:=h.row;have D:Hid (Ao w base (.slice a d.length o) d):=h;obtain⟨n,A⟩:∃n,n=d.length:=⟨_,rfl⟩;rw[←A]at D H ⊢;have x:=Yx A;clear h A;go_enter func52,ntmps52;go_wp2
 go_loopw [1,5] (fun v i wr=>∃(j:Nat),j<=n/\i=Zg j/\v=Zg (k+j)/\Hid (Ao wr base (.slice a n o) (marks k j++d.drop j)/\w.grownBy wr (Ak (.slice a n o)))) (fun _ i _=>n -(intOf i).toNat)
 case atStart=>exact⟨0,Nat.zero_le _,rfl,by simp,by simpa [marks]using D.o,DI _ _⟩
 case round=>
  obtain⟨j,S,rfl,rfl,l⟩:=hrel;by_cases hlt:j<n
  ·have q:(marks k j++d.drop j).length=n:=by rw[List.length_append,BG,List.length_drop];have:=x.o;omega
   obtain⟨g,b,rfl,f,s⟩:∃g b,a=some ⟨g,b,none⟩/\(∀X,Zz wr X->(X.cell? (Ze g (b+j))).isSome=true)/\(∀X,Zz wr X->X.frozen? ⟨g,b+j,none⟩=false):=by
    rcases l.o.1 with⟨e,L⟩|⟨g,b,I,e,O,E,P,Q,F,R⟩
    ·rw[L]at q;simp at q;omega
    ·cases e;refine⟨g,b,rfl,fun X z=> ?_,fun X z=> ?_⟩
     ·rw[z.cell (p:=⟨g,b+j,none⟩) E];exact(F j (by omega)).1
     ·rw[z.frozen (p:=⟨g,b+j,none⟩) E];exact(F j (by omega)).2
   have c:=Fl (k+j) wr (by omega) (by omega);rw[show((k+j:Nat):Int)=(k:Int)+j from by omega]at c;have J:(j:Int)<n:=by omega
   have u:=Yx (Zn f s);clear f s;go_wp2_with fail;refine c.mono ?_;rintro e B ⟨rfl,m⟩;obtain⟨v0,M⟩:=Option.isSome_iff_exists.1 (u.o.1 B m);have N:=u.o.2 B m;have r:=(l.o.1.below m).set (j:=j) (by rw[q];exact hlt) (BO (k+j));rw[Rx k j d (by have:=x.o;omega)]at r;have t:=Av l.o.2 (Av (Au _ m) (Je B g (b+j) (.string (BO (k+j)))));have C:=Yx (Zn r t);clear r t l c u;go_wp2
   exact⟨⟨j+1,by omega,by go_num,by go_num,C.o.1,C.o.2⟩,by simp[intOf];omega⟩
  ·obtain rfl:j=n:=by omega
   have y:=l.o.1;rw[List.drop_of_length_le (by have:=x.o;omega),List.append_nil]at y;have K:=Yx y;clear y;go_wp2;go_ret;exact⟨by go_num,K.o,l.o.2⟩
theorem Rz(p ag m q:Int)(base k:Nat)(Q M:Value)(a c:Zl)(w:Zh)(u:Ao w base Q a)(v:Ao w base M c)(z:∀g,Ak Q=some g->Ak M≠some g)(S:1<=k)(V:k+a.length+c.length<=100000000):
 Calls prog 27 #[.agg #[Zg p,Q,M,Zg ag,Zg m,Zg q],Zg k] w fun e F=>e=.returned (Zg (k+a.length+c.length:Nat))/\Ao F base Q (marks k a.length)/\Ao F base M (marks (k+a.length) c.length)/\Tn ((Ak Q).toList++(Ak M).toList) w F:=by
 obtain⟨i,j,rfl,_⟩:=u.row;obtain⟨d,f,rfl,_⟩:=v.row;have s:Below w.heap.size w (w.alloc (.cells (Yk p i a.length j d c.length f ag m q) 41)):=Zy;have E:Aa (w.alloc (.cells (Yk p i a.length j d c.length f ag m q) 41)) w.heap.size (Yg p i a.length j d c.length f ag m q):=Aa.new w _ _;obtain⟨W,x⟩:∃W,W=w.alloc (.cells (Yk p i a.length j d c.length f ag m q) 41):=⟨_,rfl⟩;rw[←x]at s E
 have I:Hid (Aa W _ _):=(AG x).2.2;obtain⟨U,_⟩:=E 1 _ rfl;have D:Hid (Ao W base (.slice i a.length j) a/\Ao W base (.slice d c.length f) c):=⟨u.below s,v.below s⟩;have N:Hid ((∀g,Ak (.slice i a.length j)=some g->g<w.heap.size)/\(∀g,Ak (.slice d c.length f)=some g->g<w.heap.size)):=⟨fun g l=>(u.bj l).2,fun g l=>(v.bj l).2⟩;have HN:=Yx z;have H:=Yx x;have P:Hid (Zz w W):=s;clear u v z x E s
 go_enter func27,ntmps27;go_upto_region 1 with fail;rw[←H.o];clear H;go_wp2_with fail;refine(Ht base k _ a W D.o.1 S (by omega)).mono ?_;rintro e r ⟨rfl,A,n⟩;have O:w.heap.size<W.heap.size:=Aa.lt I.o;have C:Aa r w.heap.size (Yg p i a.length j d c.length f ag m q):=Aa.same I.o (n.block _ O (fun e=>by have:=N.o.1 _ e.symm;omega))
 have y:Ao r base (.slice d c.length f) c:=D.o.2.stays n.size (fun g l=>n.block g (D.o.2.bj l).2 (fun e=>HN.o g e.symm l));obtain⟨T,_⟩:=C 2 _ rfl;have J:Hid (Ao r base (.slice d c.length f) c):=y;have t:=Yx (Zb A n);clear U C y A n;go_wp2_with fail;refine(Ht base (k+a.length) _ c r J.o (by omega) (by omega)).mono ?_;rintro e G ⟨rfl,B,o⟩
 have L:Hid (Ao G base (.slice i a.length j) (marks k a.length)):=t.o.1.stays o.size (fun g l=>o.block g (t.o.1.bj l).2 (fun e=>HN.o g l e.symm));have R:Hid (Tn ((Ak (.slice i a.length j)).toList++(Ak (.slice d c.length f)).toList) w G):=((Tn.of P.o).trans ((Ct t.o.2).mono (by simp;exact fun b h=> .inl h))).trans ((Ct o).mono (by simp;exact fun b h=> .inr h));have K:=Yx B;clear T B o;go_wp2;go_ret
 exact⟨rfl,L.o,K.o,R.o⟩
theorem Pz(a b:Zk)(n m c d k:Nat)(w:Zh)(r:Ad w w.heap.size a (marks k n))(s:Ad w w.heap.size b (marks (k+n) m))(t:1<=k)(v:k+n+m<=100000000):
 Calls prog 56 #[.agg #[.slice a n c,.slice b m d],Zg k] w fun e u=>e=.returned (Zg (k+n+m))/\Zz w u:=by
 have j:Below w.heap.size w (w.alloc (.cells #[.slice a n c,.slice b m d] 35)):=Zy;have x:¬((k:Int)+n<0):=by omega
 have q:¬((k:Int)+n+m<0):=by omega
 go_enter func56,ntmps56;go_wp2_with fail;refine(FZ a n c k w.heap.size _ (r.below j) (by simp) t (by omega)).mono ?_;rintro e l ⟨rfl,h⟩;have g:=j.trans (h.mono (by simp));have i:l.cell? (Ze (w.heap.size) 1)=some (.slice b m d):=by rw[h.cell (p:=⟨w.heap.size,1,none⟩) (by simp)];simp
 have f:=FZ b m d (k+n) w.heap.size l (s.below g) g.size (by omega) (by omega);rw[show((k+n:Nat):Int)=(k:Int)+n from by omega]at f;go_wp2_with fail;refine f.mono ?_;rintro e y ⟨rfl,o⟩;go_wp2;go_ret;exact⟨rfl,g.trans (o.mono g.size)⟩
def Jq(w:Zh)(b:Nat)(u v:Value):Prop:=w.cell? (Ze b 0)=some u/\w.cell? (Ze b 1)=some v/\b<w.heap.size
theorem Jq.new(w:Zh)(u v:Value)(t:TypeId):Jq (w.alloc (.cells #[u,v] t)) w.heap.size u v:=⟨by simp,by simp,by simp⟩
theorem Jq.below{w c:Zh}{b:Nat}{u v:Value}(h:Jq w b u v)(a:Zz w c):Jq c b u v:=
 ⟨(a.cell (p:=⟨b,0,none⟩) h.2.2).trans h.1,(a.cell (p:=⟨b,1,none⟩) h.2.2).trans h.2.1,Zr h.2.2 a.size⟩
theorem Jq.alloc{w:Zh}{b:Nat}{u v:Value}(h:Jq w b u v)(o:Obj):Jq (w.alloc o) b u v:=h.below (Zy)
theorem AO.an{w d:Zh}{base:Nat}{T P L:Value}{o:Zj}{j:List Kd}{m:List Pd}{l:List Ld}(h:AO w base T P L o j m l){V:List Nat}(t:Tn V w d)(p:∀b∈V,b<base):AO d base T P L o j m l:=by have a:∀{e:TypeId} {size:Nat} {v:Value} {n:Nat} {xs:Zj},w.ownsRow base e size v n xs->d.ownsRow base e size v n xs:=fun c=>Ai c (fun g f=>t.block g (Ac c f).2 (fun e=>by have:=p g e;have:=(Ac c f).1;omega));exact⟨h.len,a h.ai,fun i k r q s=>a (h.refs i k r q s),a h.pins,a h.aq,h.nd⟩
theorem AO.mono{w:Zh}{base base':Nat}{T P L:Value}{rs:Zj}{b:List Kd}{d:List Pd}{c:List Ld}(h:AO w base T P L rs b d c)(a:base'<=base):AO w base' T P L rs b d c:=
 ⟨h.len,h.ai.mono a,fun i k r e f=>(h.refs i k r e f).mono a,h.pins.mono a,h.aq.mono a,h.nd⟩
theorem AO.lo{w:Zh}{base:Nat}{T P L:Value}{d:Zj}{f:List Kd}{k:List Pd}{j:List Ld}(h:AO w base T P L d f k j):∀g∈Bb T P L d,base<=g:=by
 intro g a;unfold Bb at a;simp only[List.mem_append,Option.mem_toList,List.mem_filterMap]at a;rcases a with a|a|a|⟨r,e,a⟩
 ·exact(Ac h.ai a).1
 ·exact(Ac h.pins a).1
 ·exact(Ac h.aq a).1
 ·obtain⟨i,b⟩:=List.getElem?_of_mem e;have c:=(Zw b).1;rw[h.len]at c;exact(Ac (h.refs i _ r (Zv c) b) a).1
theorem AO.cg{w:Zh}{base:Nat}{T P L:Value}{d:Zj}{f:List Kd}{k:List Pd}{j:List Ld}(h:AO w base T P L d f k j):∀g∈Bb T P L d,g<w.heap.size:=by
 intro g a;unfold Bb at a;simp only[List.mem_append,Option.mem_toList,List.mem_filterMap]at a;rcases a with a|a|a|⟨r,e,a⟩
 ·exact(Ac h.ai a).2
 ·exact(Ac h.pins a).2
 ·exact(Ac h.aq a).2
 ·obtain⟨i,b⟩:=List.getElem?_of_mem e;have c:=(Zw b).1;rw[h.len]at c;exact(Ac (h.refs i _ r (Zv c) b) a).2
theorem AO.apart{w j:Zh}{base:Nat}{T P L:Value}{d:Zj}{m:List Kd}{o:List Pd}{n:List Ld}(h:AO w base T P L d m o n){V:List Nat}(s:Tn V w j)(p:∀b∈V,b∉Bb T P L d):AO j base T P L d m o n:=by
 have c:∀g,g∈Bb T P L d->g<w.heap.size->j.heap[g]?=w.heap[g]?:=fun g a q=>s.block g q (fun e=>p g e a)
 refine⟨h.len,Ai h.ai (fun g a=>c g (by unfold Bb;simp[a]) (Ac h.ai a).2),fun i k r l f=>Ai (h.refs i k r l f) (fun g a=>c g (by unfold Bb;simp only[List.mem_append,List.mem_filterMap];exact .inr (.inr (.inr ⟨r,Zs f,a⟩))) (Ac (h.refs i k r l f) a).2),Ai h.pins (fun g a=>c g (by unfold Bb;simp[a]) (Ac h.pins a).2),Ai h.aq (fun g a=>c g (by unfold Bb;simp[a]) (Ac h.aq a).2),h.nd⟩
theorem AO.rows{w:Zh}{base:Nat}{T P L:Value}{a:Zj}{b:List Kd}{t:List Pd}{r:List Ld}(h:AO w base T P L a b t r):∃m u l s f q,T=.slice m b.length u/\P=.slice l t.length s/\L=.slice f r.length q/\Bv w w.heap.size m l f b t r:=by
 obtain⟨m,u,rfl⟩:=As h.ai;obtain⟨l,s,rfl⟩:=As h.pins;obtain⟨f,q,rfl⟩:=As h.aq;refine⟨m,u,l,s,f,q,rfl,rfl,rfl,⟨?_,AS.own h.pins,AU.own h.aq⟩⟩;rcases h.ai.2 with⟨_,p⟩|⟨g,F,G,e,J,A,_⟩
 ·exact .inl (List.length_eq_zero_iff.1 p)
 ·cases e;refine .inr ⟨g,0,rfl,(Array.getElem?_eq_some_iff.1 A).1,fun i k o=> ?_⟩;have K:=(Zw o).1;have hlen:=h.len;have v:a[i]?=some a[i]:=Zv (by omega);have C:(b.zip a)[i]?=some (k,a[i]):=List.getElem?_zip_eq_some.2 ⟨o,v⟩;have H:(b.zip a).length=b.length:=by rw[List.length_zip];omega
  have c:∀j,j<4->w.cell? (Ze g (i *4+j))=(kC (k,a[i]))[j]?:=fun j B=>(h.ai.cellAt (i *4+j) (by omega)).trans (Bp DX C B);have d:=h.refs i k _ o v;obtain⟨D,E,n⟩:=As d;rw[Nat.zero_add];refine⟨by simpa [kC]using c 0 (by decide),by simpa [kC]using c 1 (by decide),by simpa [kC]using c 2 (by decide),D,E,?_,?_⟩
  ·have:=c 3 (by decide);rw[←n];simpa [kC]using this
  ·rw[n]at d;rcases d.2 with⟨_,p⟩|⟨I,x,y,z,_⟩
   ·exact .inl (List.eq_nil_of_length_eq_zero p)
   ·cases z;exact Ad.own d
theorem Ov{a:List Kd}(h:∀k∈a,k.refs.length<=30):AF a<=30 *a.length:=by
 induction a with
 |nil=>simp[AF]
 |cons x xs ih=>rw[KJ];have c:=h x (by simp);have d:=ih (fun k b=>h k (by simp[b]));simp only[List.length_cons];omega
theorem GH.gb{w:Zh}{lo g p l:Nat}{b:List Kd}{j:List Pd}{f:List Ld}(h:GH w lo g p l b j f):Eg w ⟨g,0,none⟩ b:=by obtain⟨m,e,d,_⟩:=h.k;intro i x a;have k:=(Zw a).1;obtain⟨_,_,_,q,c,_⟩:=d i x a;refine⟨⟨q,0,none⟩,x.refs.length,?_⟩;rw[←c,Nat.zero_add];exact e.cellAt (i *4+3) (by omega)
theorem AO.same{w c:Zh}{base:Nat}{T P L:Value}{m:Zj}{f:List Kd}{l:List Pd}{j:List Ld}(h:AO w base T P L m f l j)(q:∀b,base<=b->b<w.heap.size->c.heap[b]?=w.heap[b]?):AO c base T P L m f l j:=by have a:∀{e:TypeId} {size:Nat} {v:Value} {n:Nat} {xs:Zj},w.ownsRow base e size v n xs->c.ownsRow base e size v n xs:=fun h=>Ai h (fun g d=>q g (Ac h d).1 (Ac h d).2);exact⟨h.len,a h.ai,fun i k r o p=>a (h.refs i k r o p),a h.pins,a h.aq,h.nd⟩
theorem Eg.below{w c:Zh}{g:Nat}{b:List Kd}(h:Eg w ⟨g,0,none⟩ b)(e:Zz w c):Eg c ⟨g,0,none⟩ b:=by intro i k f;obtain⟨d,j,a⟩:=h i k f;exact⟨d,j,(e.cell (p:=⟨g,0+i *4+3,none⟩) (World.block_lt_of_cell? w _ a)).trans a⟩
end Go.Proofs.YtdgblkklkaklhaaGreatDoor
