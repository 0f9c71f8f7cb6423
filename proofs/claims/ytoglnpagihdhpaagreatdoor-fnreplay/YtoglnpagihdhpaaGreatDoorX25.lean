import Derived.Test.YtoglnpagihdhpaaGreatDoorX24
set_option maxRecDepth 100000
set_option maxHeartbeats 16000000
namespace Go.Proofs.YtoglnpagihdhpaaGreatDoor
open ChangeShapes WideShapes ChangeAt RowKit _root_.Go.Proofs.Tryz
variable{w e l a X V:Zh}{lo b d c n i f N B m:Nat}{g:Zj}{L O P:Value}{T:TypeId}{t:List Pd}{now u:Int}{s:List Ld}{row:Option Nat}{r:List Kd}
theorem Jw.ag{g p l:Nat}{b:List Kd}{d:List Pd}{c:List Ld}(h:Jw w lo g p l b d c)(a:Zz w e):Jw e lo g p l b d c:=⟨h.k.ag a,h.p.ag a,h.l.ag a⟩
def VK(w:Zh)(lo:Nat)(a:Va)(v:Vd):Prop:=
 ∃(g k g3 q3 r3 g5 k5 lo1 lo2:Nat) (w2:Zh),a=⟨some ⟨g,0,none⟩,v.ss.length,some ⟨k,0,none⟩,v.D.length,some ⟨g3,0,none⟩,v.A.length,some ⟨q3,0,none⟩,v.ps.length,some ⟨r3,0,none⟩,v.ls.length,some ⟨g5,0,none⟩,v.G.length,some ⟨k5,0,none⟩,v.ms.length⟩/\
  g<k/\k<lo1/\lo<=lo1/\lo1<=lo2/\lo2<=w.heap.size/\g5<k5/\
  w.ownsRow lo 9 1 (.slice (some ⟨g,0,none⟩) v.ss.length v.ss.length) v.ss.length (v.ss.map Value.string)/\w.ownsRow lo 9 1 (.slice (some ⟨k,0,none⟩) v.D.length v.D.length) v.D.length (v.D.map Value.string)/\
  Jw w2 lo1 g3 q3 r3 v.A v.ps v.ls/\w2.heap.size<=lo2/\(∀b,lo1<=b->b<w2.heap.size->w.heap[b]?=w2.heap[b]?)/\
  w.ownsRow lo2 9 1 (.slice (some ⟨g5,0,none⟩) v.G.length v.G.length) v.G.length (v.G.map Value.string)/\w.ownsRow lo2 9 1 (.slice (some ⟨k5,0,none⟩) v.ms.length v.ms.length) v.ms.length (v.ms.map Value.string)
theorem VK.ag{a:Va}{v:Vd}(h:VK w lo a v)(G:w.heap.size<=l.heap.size)(d:∀b,lo<=b->b<w.heap.size->l.heap[b]?=w.heap[b]?):VK l lo a v:=by obtain⟨g,k,t,I,J,u,H,r,s,K,x,y,z,A,B,C,D,i,j,E,m,n,e,f⟩:=h;refine⟨g,k,t,I,J,u,H,r,s,K,x,y,z,A,B,Zm C G,D,Ak i (fun q c=>d q (Ac i c).1 (Ac i c).2),Ak j (fun q c=>d q (Ac j c).1 (Ac j c).2),E,m,fun b F o=>(d b Yv Yv).trans (n b F o),Ak e (fun q c=>d q (by have:=(Ac e c).1;omega) (Ac e c).2),Ak f (fun q c=>d q (by have:=(Ac f c).1;omega) (Ac f c).2)⟩
structure Knd (n kmax feq fmark:Nat) (R:Nat->Zh->Zj->Prop) (O:Nat->Nat->Zh->Zj->Prop) (M:Nat->Nat->Zh->Zj->Nat->Prop):Prop where
 eq:∀(X:Zh) (cs ds:Zj),R X.heap.size X cs->R X.heap.size X ds->Calls prog feq #[.agg cs.toArray,.agg ds.toArray] X fun e X'=>e=.returned (.bool true)/\Zz X X'
 mark:∀(lo N:Nat) (X:Zh) (cs:Zj) (k:Nat),O lo N X cs->1<=k->k<=kmax->Calls prog fmark #[.agg cs.toArray,Zg k] X fun e X'=>(∃K:Nat,e=.returned (Zg K)/\1<=K/\K<=90000000/\M lo N X' cs K)/\Below lo X X'/\∀q,N<=q->q<X.heap.size->X'.heap[q]?=X.heap[q]?
 keepR:∀(L:Nat) (X X':Zh) (cs:Zj),R L X cs->Below L X X'->R L X' cs
 monoR:∀(L L':Nat) (X:Zh) (cs:Zj),R L X cs->L<=L'->R L' X cs
 keepO:∀(lo N:Nat) (X X':Zh) (cs:Zj),O lo N X cs->X.heap.size<=X'.heap.size->(∀q,lo<=q->q<N->X'.heap[q]?=X.heap[q]?)->O lo N X' cs
 keepM:∀(lo N:Nat) (X X':Zh) (cs:Zj) (K:Nat),M lo N X cs K->X.heap.size<=X'.heap.size->(∀q,lo<=q->q<N->X'.heap[q]?=X.heap[q]?)->M lo N X' cs K
 ofO:∀(lo N:Nat) (X:Zh) (cs:Zj),O lo N X cs->N<=X.heap.size/\R X.heap.size X cs
 lenR:∀(L:Nat) (X:Zh) (cs:Zj),R L X cs->cs.length=n/\∀u∈cs,u.oneCell'=true
structure L1 (RA:Nat->Zh->Zj->Prop) (w X:Zh) (A sc:Zj) (pS L:Nat):Prop where
 cu:Below w.heap.size w X
 bA:Aa X w.heap.size A
 bS:Aa X pS sc
 rS:RA L X sc
 l0:w.heap.size<L
 l1:pS<L
 le:L<=X.heap.size
theorem L1.ag{a:Nat}{d:Nat->Zh->Zj->Prop}{l:Nat->Nat->Zh->Zj->Prop}{j:Nat->Nat->Zh->Zj->Nat->Prop}(k:Knd n c i a d l j){A:Zj}{L:Nat}(h:L1 d w X A g f L)(b:Below L X e):L1 d w e A g f L:=
 ⟨h.cu.trans (b.mono (by have:=h.l0;omega)),Aa.same h.bA (b.block _ h.l0),Aa.same h.bS (b.block _ h.l1),k.keepR _ _ _ _ h.rS b,h.l0,h.l1,Zm h.le b.size⟩
structure L2 (OX:Nat->Nat->Zh->Zj->Prop) (X:Zh) (xc:Zj) (L pX N:Nat):Prop where
 bX:Aa X pX xc
 oX:OX L N X xc
 l1:N<=pX
 le:pX<X.heap.size
theorem L2.ag{a:Nat}{RX:Nat->Zh->Zj->Prop}{d:Nat->Nat->Zh->Zj->Prop}{j:Nat->Nat->Zh->Zj->Nat->Prop}(k:Knd n c i a RX d j){L:Nat}(h:L2 d X g L f N)(b:Zz X e):L2 d e g L f N:=
 ⟨Aa.same h.bX (b.block _ h.le),k.keepO _ _ _ _ _ h.oX b.size (fun q _ l=>b.block q (by have:=h.l1;have:=h.le;omega)),h.l1,Zr h.le b.size⟩
structure L3 (P:Nat->Nat->Zh->Zj->Prop) (X:Zh) (gc:Zj) (lo pG N:Nat):Prop where
 bG:Aa X pG gc
 oG:P lo N X gc
 l1:N<=pG
 le:pG<X.heap.size
theorem L3.stays{P:Nat->Nat->Zh->Zj->Prop}(k:∀(lo N:Nat) (X a:Zh) (c:Zj),P lo N X c->X.heap.size<=a.heap.size->(∀q,lo<=q->q<N->a.heap[q]?=X.heap[q]?)->P lo N a c){d:Zj}(h:L3 P X d lo b N)(l:B<=lo)(g:B<=b)(f:X.heap.size<=a.heap.size)(e:∀q,B<=q->q<X.heap.size->a.heap[q]?=X.heap[q]?):L3 P a d lo b N:=
 ⟨Aa.same h.bG (e _ g h.le),k _ _ _ _ _ h.oG f (fun q i j=>e q Yv (by have:=h.l1;have:=h.le;omega)),h.l1,Zr h.le f⟩
theorem L3.ag{P:Nat->Nat->Zh->Zj->Prop}(k:∀(lo N:Nat) (X a:Zh) (b:Zj),P lo N X b->X.heap.size<=a.heap.size->(∀q,lo<=q->q<N->a.heap[q]?=X.heap[q]?)->P lo N a b){c:Zj}{e:Nat}(h:L3 P X c lo e N)(d:Zz X a):L3 P a c lo e N:=
 h.stays (B:=0) k (Nat.zero_le _) (Nat.zero_le _) d.size (fun q _ f=>d.block q f)
theorem boxed{cs z:Zj}(b:cs.length=z.length):Aa ((X.alloc (.cells z.toArray T)).setCells X.heap.size 0 cs) X.heap.size cs/\Zz X ((X.alloc (.cells z.toArray T)).setCells X.heap.size 0 cs)/\((X.alloc (.cells z.toArray T)).setCells X.heap.size 0 cs).heap.size=X.heap.size+1:=by have a:=Aa.new X z T;have c:=AI X.heap.size cs 0 (X.alloc (.cells z.toArray T));refine⟨a.au cs b,(Zy).trans (c.below Yu Yu),?_⟩;rw[Gn];simp
theorem Qy(j:Nat)(a:Zk)(cap:Nat)(c:Zl)(g:Nat)(w:Zh)(o:w.cell? (Zd j 0)=some (.slice a c.length cap))(K:j<g)(f:Ad w g a c)(A:g<=w.heap.size)(F:c.length<=maxLen):
 Iv prog 39 (fun l=> #[.func (.yield l) #[] #[],Yy j]) c g w:=by
 intro l J M W u P G v B m;unfold maxLen at F;have d:=f.below (u.mono A);have H:=(u.cell (p:=⟨j,0,none⟩) (by show j<_;omega)).trans o;refine callsIn_of_wp func39 rfl trivial ?_ rfl;simp only[ntmps39,List.size_toArray,List.length_cons,List.length_nil,Nat.reduceAdd,Nat.reduceSub,Array.replicate_succ,Array.replicate_zero,List.push_toArray,List.append_toArray,List.nil_append,List.cons_append]
 gi_wp2
 gi_loopw [7] (fun i wr=>∃k:Nat,k<=c.length/\i=Zg k/\J k wr/\Below g W wr/\W.heap.size<=wr.heap.size)
  (fun i _=>c.length -(intOf i).toNat)
 case atStart=>exact⟨0,Nat.zero_le _,rfl,B,Ae,Zx⟩
 case round=>
  obtain⟨k,R,rfl,q,r,t⟩:=hrel;by_cases hlt:k<c.length
  .obtain⟨b,L,E,Q,x⟩:=(d.below r).at hlt;subst E;have I:=x k c[k] (Zv hlt);obtain⟨O,tmps,assign,body,S,D⟩:=v k wr c[k] (Zv hlt) q t (m -1);clear x f d v;generalize c[k]=s at *
   gi_wp2
   refine⟨fun h=>by simp[Fence.wide]at h,D.mono ?_⟩;rintro e N ⟨C,(⟨rfl,y,z⟩|⟨rfl,n⟩)⟩
   .gi_wp2
    go_roundw
    case rel=>exact⟨k+1,Yv,Yu,y,r.trans z,Zm t C.size⟩
    case measure=>simp[intOf];omega
   .gi_wp2
    refine bodyPost_ret (results_none rfl _ _ _) rfl ?_;exact⟨⟨_,rfl⟩,.inr ⟨_,n⟩⟩
  .obtain rfl:k=c.length:=Yv
   gi_wp2
   go_end0
   exact⟨⟨_,rfl⟩,.inl q⟩
theorem Dr.fp{t b a:Int}{n:List Kd}{s:List Pd}{q:List Ld}(h:Dr V f d m O P L t now b a n s q)(A:d<B)(C:m<B)(z:f<=B)(v:V.grownBy l row)(w:∀r,row=some r->B<=r/\∃o,V.heap[r]?=some o/\Bs o=true):Dr l f d m O P L t now b a n s q:=by
 refine(DU.K ⟨h⟩ (Di v) (fun r u=> ?_)).I;obtain⟨y,o,i,j⟩:=w r (by simpa using u);refine⟨Yv,fun k=> ?_,fun x fz e=> ?_⟩
 .unfold vB at k;simp only[List.mem_cons,List.mem_append,Option.mem_toList]at k;rcases k with e|e|e|e|e
  .omega
  .omega
  .obtain⟨c,g⟩:=BZ h.ord e;rw[i]at g;cases g;simp[Bs]at j
  .obtain⟨c,g⟩:=BZ h.ci e;rw[i]at g;cases g;simp[Bs]at j
  .obtain⟨c,g⟩:=BZ h.ck e;rw[i]at g;cases g;simp[Bs]at j
 .rw[i]at e;cases e;simp[Bs]at j
theorem Dr.bz{k:Nat}{g f:Int}(h:Dr V k d m O P L u now g f r t s){o:Obj}(j:V.heap[b]?=some o)(i:Bs o=true)(n:b≠d)(q:b≠m):b∉vB d m O P L/\NS V b:=by
 refine⟨fun l=> ?_,fun v fz e=> ?_⟩
 .unfold vB at l;simp only[List.mem_cons,List.mem_append,Option.mem_toList]at l;rcases l with e|e|e|e|e
  .exact n e
  .exact q e
  .obtain⟨c,a⟩:=BZ h.ord e;rw[j]at a;cases a;simp[Bs]at i
  .obtain⟨c,a⟩:=BZ h.ci e;rw[j]at a;cases a;simp[Bs]at i
  .obtain⟨c,a⟩:=BZ h.ck e;rw[j]at a;cases a;simp[Bs]at i
 .rw[j]at e;cases e;simp[Bs]at i
theorem Dr.rebase{e:Nat}{k c a:Int}{j:List Pd}{i:List Ld}(h:Dr V e d m O P L k now c a [] j i)(g:b<=e):Dr V b d m O P L k now c a [] j i:=by
 obtain⟨n,f,l,o,q⟩:=h.map;refine⟨h.box,⟨n,f,l,o,fun s r=> ?_⟩,h.ord.mono g,h.ci.mono g,h.ck.mono g,Zm g h.bd,Zm g h.bm,h.ap⟩;rcases q s r with h|⟨u,_,_,t,_⟩
 .exact .inl h
 .simp at t
theorem Dr.gj{n:Zh}{j:Nat}{g f:Int}(h:Dr V j d m O P L u now g f r t s)(w:d<B)(x:m<B)(q:Tn (vB d m O P L) V n):BK B V n:=by
 refine⟨q.size,fun b o v i k=>(q.block b (Array.getElem?_eq_some_iff.1 i).1 (fun l=> ?_)).trans i⟩;unfold vB at l;simp only[List.mem_cons,List.mem_append,Option.mem_toList]at l;rcases l with e|e|e|e|e
 .omega
 .omega
 .obtain⟨c,a⟩:=BZ h.ord e;rw[i]at a;cases a;simp[Bs]at k
 .obtain⟨c,a⟩:=BZ h.ci e;rw[i]at a;cases a;simp[Bs]at k
 .obtain⟨c,a⟩:=BZ h.ck e;rw[i]at a;cases a;simp[Bs]at k
theorem BK.jm{W c:Zh}(d:W.grownBy c row)(a:∀j,row=some j->j<B):BK B W c:=
 ⟨d.size,fun b _ f h _=>(d.block b (Array.getElem?_eq_some_iff.1 h).1 (fun e=>by have:=a b e.symm;omega)).trans h⟩
theorem BK.below(h:Zz V a):BK B V a:=⟨h.size,fun b _ _ c _=>(h.block b (Array.getElem?_eq_some_iff.1 c).1).trans c⟩
section
attribute [local go_sem] Oper.semAt_some
theorem QZ{z:Nat}{U:TypeId}{v:Value}(g:Boxed V (z+1) T (.pointer none))(d:Boxed V (z+1+1) U v)(h:z+1+1<B)(u:Value):BK B V ((V.setCell (Zd (z+1) 0) (.pointer none)).setCell (Zd (z+1+1) 0) u)/\Below z V ((V.setCell (Zd (z+1) 0) (.pointer none)).setCell (Zd (z+1+1) 0) u)/\Boxed ((V.setCell (Zd (z+1) 0) (.pointer none)).setCell (Zd (z+1+1) 0) u) (z+1) T (.pointer none)/\Boxed ((V.setCell (Zd (z+1) 0) (.pointer none)).setCell (Zd (z+1+1) 0) u) (z+1+1) U u:=by
 have b:=grownBy_setCell' V (z+1) (.pointer none);have c:=grownBy_setCell' (V.setCell (Zd (z+1) 0) (.pointer none)) (z+1+1) u;have a:=g.set (.pointer none);have f:Boxed (V.setCell (Zd (z+1) 0) (.pointer none)) (z+1+1) U v:=(b.block _ (Array.getElem?_eq_some_iff.1 d).1 (fun e=>by have:=Option.some.inj e;omega)).trans d
 refine⟨(BK.jm b (fun j e=>by cases e;omega)).trans (BK.jm c (fun j e=>by cases e;omega)),(Below.setCell (Below.setCell Ae (show z<=z+1 by omega) _) (show z<=z+1+1 by omega) _),(c.block _ (Array.getElem?_eq_some_iff.1 a).1 (fun e=>by have:=Option.some.inj e;omega)).trans a,f.set u⟩
theorem Sw(f:Int)(gf:Nat)(pre lb:Array Value)(xs:Zl)(w:Zh)(h1:1<=f)(h8:f<=8)(hx:xs.length<=100000)(hs:∀s∈xs,s.size<=1048576)(hE:Env w)(eg:∀args w,(callFunc gf args).run prog w=.ok (.enter gf args) w)(yK:∀W,Zz w W->Iv prog gf (fun l=>pre++ #[.func (.yield l) #[] #[]]++lb) xs w.heap.size W):
 Calls prog 17 #[Zg f,.func (.func gf) pre lb] w fun e w'=>Zz w w'/\((∃n:Nat,Ec f xs n/\e=.returned (.tuple #[.pointer none,Zg n]))\/(∃r d m O P L zJ,BS f r0 xs r/\e=.returned (.tuple #[Yy d,Ze])/\Dr w' zJ d m O P L f r.E r.F r.C r.A r.ps r.ls/\(w.heap.size<=zJ/\zJ+4<=m))):=by
 refine(callsIn_wide (n:=3)).1 ?_;refine callsIn_of_wp_marks func17 rfl trivial ?_ rfl;simp only[ntmps17,List.size_toArray,List.length_cons,List.length_nil,Nat.reduceAdd,Nat.reduceSub,Array.replicate_succ,Array.replicate_zero,List.push_toArray,List.append_toArray,List.nil_append,List.cons_append]
 obtain⟨W0,Q⟩:=Af (((w.alloc (.cells #[Zg f] 3)).alloc (.cells #[.pointer none] 57)).alloc (.cells #[Ze] 3));have b0:=(Bo Q).1;have z0:=(Bo Q).2.1;have HD:=Yw (JN f 0 0 0 none none none 0 0 0 [] [] [] W0 ⟨.inl rfl,.inl rfl,.inl rfl⟩ Yu Yu Yu Yu h8);have yM:=Yw Q
 gi_wp2_with fail
 refine⟨trivial,?_⟩;rw[<-yM.o];refine(callsIn_wide.2 HD.o).mono ?_;rintro e o ⟨d,m,O,P,L,rfl,zC,_,_,zG⟩;have yD:=b0.trans (zG.mono b0.size);obtain⟨u,zF⟩:=Af ((o.alloc (.cells #[Yy d] 57)).alloc (.cells #[Ze] 3));have yN:=Yw zF;have z:=(Bb zF).1;have zN:Below w.heap.size w u:=yD.trans (z.mono yD.size);have z2:=(Bb zF).2.1;have xH:w.heap.size+3<=o.heap.size:=by have:=zG.size;omega
 have x2:Boxed u w.heap.size 3 (Zg f):=by show u.heap[w.heap.size]?=_;rw[z.block _ Yv,zG.block _ Yv,Q,Below.heap_alloc _ _ _ Yt,Below.heap_alloc _ _ _ Yu];exact heap_alloc_new w _
 have x4:Boxed u (w.heap.size+1) 57 (.pointer none):=by show u.heap[w.heap.size+1]?=_;rw[z.block _ Yv,zG.block _ Yv,Q,Below.heap_alloc _ _ _ Yu];have:=heap_alloc_new (w.alloc (.cells #[Zg f] 3)) (.cells #[.pointer none] 57);rw[World.size_alloc]at this;exact this
 have x5:Boxed u (w.heap.size+1+1) 3 Ze:=by show u.heap[w.heap.size+1+1]?=_;rw[z.block _ Yv,zG.block _ Yv,Q];have:=heap_alloc_new ((w.alloc (.cells #[Zg f] 3)).alloc (.cells #[.pointer none] 57)) (.cells #[Ze] 3);rw[World.size_alloc,World.size_alloc]at this;exact this
 have x6:Boxed u o.heap.size 57 (Yy d):=by show u.heap[o.heap.size]?=_;rw[zF,Below.heap_alloc _ _ _ Yu];exact heap_alloc_new o _
 have x7:Boxed u (o.heap.size+1) 3 Ze:=by show u.heap[o.heap.size+1]?=_;rw[zF];have:=heap_alloc_new (o.alloc (.cells #[Yy d] 57)) (.cells #[Ze] 3);rw[World.size_alloc]at this;exact this
 have yF:d<o.heap.size:=zC.cz d (by simp[vB]);have yG:m<o.heap.size:=zC.cz m (by simp[vB]);have xC:=zC.bd;have xE:=zC.bm;have yW:Dr u w.heap.size d m O P L f 0 0 0 [] [] []:=(zC.below z).rebase Yv;have HE:Hid (∀V,Zz w V->Env V):=fun V hV=>hE.below hV;clear HD yM Q zF zC zG z yD b0 hE
 gi_wp2_with fail
 rw[<-yN.o];clear yN;have S:∀(b:Nat) (T:TypeId) (v:Value),b<u.heap.size->CE u.heap.size (fun _ V=>Boxed V b T v):=fun b T v C=>OI (.cells #[v] T) C;refine UO (gf:=gf) (pre:=pre) (lb:=lb) rfl eg (xs:=xs) (n0:=w.heap.size) (yK u zN) zN.size rfl
  (fun k V=>Zz w V/\Boxed V w.heap.size 3 (Zg f)/\Boxed V (w.heap.size+1) 57 (.pointer none)/\Boxed V (w.heap.size+1+1) 3 Ze/\Boxed V o.heap.size 57 (Yy d)/\Boxed V (o.heap.size+1) 3 (Zg k)/\∃r O P L,BS f r0 (xs.take k) r/\Dr V w.heap.size d m O P L f r.E r.F r.C r.A r.ps r.ls)
  (fun _ V=>Zz w V/\∃n:Nat,Ec f xs n/\Boxed V (w.heap.size+1) 57 (.pointer none)/\Boxed V (w.heap.size+1+1) 3 (Zg n))
  ?stI ?stX ⟨zN,x2,x4,x5,x6,x7,r0,O,P,L,rfl,yW⟩
  (fun s=>{tmps:= #[Zg f,.func (.func gf) pre lb,Yy w.heap.size,undef,Yy (w.heap.size+1),Yy (w.heap.size+1+1),Yy o.heap.size,Yy (o.heap.size+1),.string s,undef,undef,Zg f,.agg #[Zg f,Ze,Ze,Ze,Zb,Zb,Zb],Yy d,.func (.func gf) pre lb,.string s,undef,undef,undef,undef,undef,undef,undef,undef,undef,undef,undef,undef,undef,undef,undef,undef,undef,undef,undef],defers:=[]}) ?assign ?body ?done ?stop
 case stI=>
  refine fun k V Y row hJ E N=> ?_;obtain⟨q1,q2,q3,q4,q5,q6,r,O,P,L,q7,q8⟩:=hJ;exact⟨JD w (Zx) zN.size k V Y row q1 E N,S _ _ _ Yv k V Y row q2 E N,S _ _ _ Yv k V Y row q3 E N,S _ _ _ Yv k V Y row q4 E N,S _ _ _ Yv k V Y row q5 E N,S _ _ _ Yv k V Y row q6 E N,r,O,P,L,q7,q8.fp (B:=u.heap.size) Yv Yv Yv E N⟩
 case stX=>
  refine fun k V Y row hJ E N=> ?_;obtain⟨q1,n,q2,q3,q4⟩:=hJ;exact⟨JD w (Zx) zN.size k V Y row q1 E N,n,q2,S _ _ _ Yv k V Y row q3 E N,S _ _ _ Yv k V Y row q4 E N⟩
 case assign=>
  intro l2 m2 s V K hK
  gi_wp2
  exact hK
 case body=>
  rintro l2 m2 k s V zT ⟨zI,y2,y4,y5,y6,y7,r,O,P,L,y,Ck⟩ yT;have xA:k<xs.length:=(Zw zT).1;obtain⟨F,zE⟩:=Af (V.setCell (Zd (o.heap.size+1) 0) (Zg ((k:Int)+1)));have A:V.grownBy F (some (o.heap.size+1)):=by rw[zE];exact grownBy_setCell' V _ _
  have xM:F.heap.size=V.heap.size:=by rw[zE];simp
  have zY:Below w.heap.size w F:=by rw[zE];exact zI.setCell (p:=⟨o.heap.size+1,0,none⟩) (by show w.heap.size<=o.heap.size+1;omega) _
  have u7:Boxed F (o.heap.size+1) 3 (Zg ((k:Int)+1)):=by rw[zE];exact y7.set _
  have ou:∀{b:Nat} {T:TypeId} {v:Value},Boxed V b T v->b≠o.heap.size+1->Boxed F b T v:=fun {b T v} C hne=>(A.block b (Array.getElem?_eq_some_iff.1 C).1 (fun e=>hne (Option.some.inj e))).trans C;have u2:=ou y2 Yv;have u4:=ou y4 Yv;have u5:=ou y5 Yv;have u6:=ou y6 Yv
  have zW:=Ck.fp (B:=o.heap.size) yF yG Yv A (fun q e=>by cases e;exact⟨Yv,_,y7,by simp[Bs]⟩);have HR:=Yw (LX s f F (hs s (Zs zT)) (HE.o F zY));have c7:=y7.cell;have f7:=y7.frozen;have c2:=y2.cell;have xG:¬w.heap.size=o.heap.size+1:=Yv
  have yL:=Yw zE;clear zE
  gi_wp2_with fail
  rw[<-yL.o];clear yL;refine⟨trivial,fun h=>by simp[Fence.wide]at h,?_⟩;refine(callsIn_wide.2 HR.o).mono ?_;rintro e V2 ⟨v,rfl,yB,z⟩;obtain⟨ra,rc,rfl⟩:=As yB;obtain⟨M,yA⟩:=Af (V2.alloc (.cells (Xz ((Av s f).k) ((Av s f).sum) ((Av s f).name) ((Av s f).n) ((Av s f).t) ra ((Av s f).ss.length) rc) 38));have zV:=(AB yA).1;have zH:Below F.heap.size F M:=z.trans (zV.mono z.size)
  have zM:Below w.heap.size w M:=zY.trans (zH.mono zY.size);have o3:∀{b:Nat} {T:TypeId} {v:Value},Boxed F b T v->Boxed M b T v:=fun {b T v} C=>(zH.block b (Array.getElem?_eq_some_iff.1 C).1).trans C;have t2:=o3 u2;have t4:=o3 u4;have t5:=o3 u5;have t6:=o3 u6;have t7:=o3 u7;have t:=zW.below zH;have e3:=(AB yA).2.2
  have yI:BK u.heap.size V M:=(BK.jm A (fun j e=>by cases e;omega)).trans (BK.below zH);have yJ:Below w.heap.size V M:=(show Below w.heap.size V F from⟨A.os,A.tape,A.output,A.size,fun b C=>A.block b (by have:=zI.size;omega) (fun e=>by have:=Option.some.inj e;omega)⟩).trans (zH.mono zY.size);have yC:=Yw yA;have xL:w.heap.size+3<=V2.heap.size:=by have h1:=z.size;have h2:=yT;omega
  have xK:o.heap.size+1<V2.heap.size:=by have h1:=z.size;have h2:=yT;omega
  clear yA;cases hok:(Av s f).ok with
  |false=>
   have zK:Ec f xs (k+1):=⟨k,r,s,rfl,zT,y,.inl hok⟩;have yV:=t7.cell;have f5:=t5.frozen;have f4:=t4.frozen;have d4:=t4.cell;have d5:=t5.cell;clear c7 c2 f7 e3 HR yB;have J:=Yw (QZ (B:=u.heap.size) t4 t5 Yv (Zg ((k:Int)+1)))
   gi_wp2_with fail
   rw[<-yC.o];refine⟨trivial,?_⟩
   gi_wp2_with fail
   gi_region
   all_goals gi_wp2_with fail
   all_goals exact⟨yI.trans ⟨J.o.1.size,J.o.1.same⟩,zM.trans J.o.2.1.drew,k+1,zK,J.o.2.2.1,J.o.2.2.2⟩
  |true=>
   have yR:=(DQ hok).1;have zU:GC f r.E r.F r.C r.A r.ps r.ls (Av s f).k (Av s f).n (Av s f).t (Av s f).ss:=FN.jk (y.ok (Du h1 h8)) yR (by have:=PD yR;unfold maxLen;omega);have yH:=Ag yB zV;have zA:=zW.cz;have zX:Dn M w.heap.size (vB d m O P L) ra (Av s f).ss:=by
    rcases yH.2 with⟨_,h0⟩|⟨g,cap,yO,hv,xD,E,_⟩
    .exact .inl (List.eq_nil_of_length_eq_zero h0)
    .cases hv;refine .inr ⟨g,0,rfl,(Array.getElem?_eq_some_iff.1 E).1,fun G=>by have:=zA g G;omega,.inr ⟨Yv,yO,E⟩,fun i x hx=> ?_⟩;rcases Ad.own yH with h|⟨b',xB,e',_,hc⟩
     .rw[h]at hx;simp at hx
     .cases e';exact hc i x hx
   have HA:Hid _:=KO d (vB d m O P L) (Av s f).k (Av s f).sum (Av s f).name (Av s f).t (Av s f).n ra (Av s f).ss.length rc (fun c a b=>Fh f r.E r.F r.C r.A r.ps r.ls (Av s f).k (Av s f).sum (Av s f).name (Av s f).n (Av s f).t (Av s f).ss c a b) (fun sm le X=>∃r',CN f r.E r.F r.C r.A r.ps r.ls (Av s f).k (Av s f).sum (Av s f).name (Av s f).n (Av s f).t (Av s f).ss r'/\r'.y=sm/\r'.le=le/\Ka w.heap.size d m f r' X) M t.cz (fun sm le X X' R yO q1 q2 q3 q4=>by
    obtain⟨r',A,g2,g3,g4⟩:=q1;have xI:=zH.size;exact⟨r',A,g2,g3,g4.stays q2 Yv Yv q4⟩) (fun X hX=>Mo w.heap.size d m O P L f r.E r.F r.C r.A r.ps r.ls (Av s f).k (Av s f).sum (Av s f).name (Av s f).n (Av s f).t (Av s f).ss ra rc X (DU.below ⟨t⟩ hX) zU (zX.move (U:=[]) (Tn.of hX) Yu (fun b C=> .inl C)))
   have d6:V2.cell? (Zd (o.heap.size) 0)=some (Yy d):=(z.cell (p:=⟨o.heap.size,0,none⟩) (by show o.heap.size<_;omega)).trans u6.cell;have xJ:o.heap.size<V2.heap.size:=Yv
   have yU:Hid (xs.take (k+1)=xs.take k++[s]):=by have hq:=Zu xA;rw[(Zw zT).2]at hq;exact hq
   clear c7 c2 f7 HR yB yH zX zU zA e3
   gi_wp2_with fail
   rw[<-yC.o];clear yC;refine⟨trivial,fun h=>by simp[Fence.wide]at h,?_⟩;refine(callsIn_wide.2 HA.o).mono ?_;intro e Z yX;obtain⟨c,a',b',zS,rfl,H⟩|⟨sm,le,rfl,⟨r',hy,_,_,⟨O',P',L',yP⟩⟩,H⟩:=yX
   .have xF:(c !=0)=true:=by have:=zS.code;simp;omega
    have zK:Ec f xs (k+1):=⟨k,r,s,rfl,zT,y,.inr ⟨c,a',b',zS⟩⟩;have I:=t.gj (B:=o.heap.size) yF yG H;have zR:Below w.heap.size M Z:=H.below zM.size (fun b G=>by
     have:=t;unfold vB at G;simp only[List.mem_cons,List.mem_append,Option.mem_toList]at G;rcases G with h|h|h|h|h
     .rw[h];exact this.bd
     .rw[h];exact this.bm
     .exact(Ac this.ord h).1
     .exact(Ac this.ci h).1
     .exact(Ac this.ck h).1)
    have s7:Boxed Z (o.heap.size+1) 3 (Zg ((k:Int)+1)):=I.same _ _ Yv t7 (by simp[Bs]);have s4:Boxed Z (w.heap.size+1) 57 (.pointer none):=(H.block _ (Array.getElem?_eq_some_iff.1 t4).1 (t.bz t4 (by simp[Bs]) Yv Yv).1).trans t4;have s5:Boxed Z (w.heap.size+1+1) 3 Ze:=(H.block _ (Array.getElem?_eq_some_iff.1 t5).1 (t.bz t5 (by simp[Bs]) Yv Yv).1).trans t5
    have J:=Yw (QZ (B:=u.heap.size) s4 s5 Yv (Zg ((k:Int)+1)));have yV:=s7.cell;have f5:=s5.frozen;have f4:=s4.frozen;have d4:=s4.cell;have d5:=s5.cell;have K4:=Yw (Zn (I.mono (B':=u.heap.size) Yv) zR);clear I zR H zS d6 HA;have yZ:∀X:Zh,(Instr.field 32 (.agg #[Zg c,Ze,Ze,Ze,Ze,Zb,Zb,Zb,Zc,Ze,.string a',.string b']) 0).run prog X=.ok (Zg c) X:=fun _=>by kernel_rfl
    have yS:(BB c a' b').toArray= #[Zg c,Ze,Ze,Ze,Ze,Zb,Zb,Zb,Zc,Ze,.string a',.string b']:=rfl;rw[yS];clear yS
    gi_wp2_with fail
    gi_region
    all_goals gi_wp2_with fail
    all_goals exact⟨(yI.trans K4.o.1).trans ⟨J.o.1.size,J.o.1.same⟩,(zM.trans K4.o.2).trans J.o.2.1.drew,k+1,zK,J.o.2.2.1,J.o.2.2.2⟩
   .have I:=t.gj (B:=o.heap.size) yF yG H;have zR:Below w.heap.size M Z:=H.below zM.size (fun b G=>by
     have:=t;unfold vB at G;simp only[List.mem_cons,List.mem_append,Option.mem_toList]at G;rcases G with h|h|h|h|h
     .rw[h];exact this.bd
     .rw[h];exact this.bm
     .exact(Ac this.ord h).1
     .exact(Ac this.ci h).1
     .exact(Ac this.ck h).1)
    have s7:Boxed Z (o.heap.size+1) 3 (Zg ((k:Int)+1)):=I.same _ _ Yv t7 (by simp[Bs]);have s6:Boxed Z o.heap.size 57 (Yy d):=I.same _ _ Yv t6 (by simp[Bs]);have s2:Boxed Z w.heap.size 3 (Zg f):=(H.block _ (Array.getElem?_eq_some_iff.1 t2).1 (t.bz t2 (by simp[Bs]) Yv Yv).1).trans t2
    have s4:Boxed Z (w.heap.size+1) 57 (.pointer none):=(H.block _ (Array.getElem?_eq_some_iff.1 t4).1 (t.bz t4 (by simp[Bs]) Yv Yv).1).trans t4;have s5:Boxed Z (w.heap.size+1+1) 3 Ze:=(H.block _ (Array.getElem?_eq_some_iff.1 t5).1 (t.bz t5 (by simp[Bs]) Yv Yv).1).trans t5;have zB:BS f r0 (xs.take (k+1)) r':=by rw[yU.o];exact y.snoc ⟨hok,hy⟩
    have K4:=Yw (Zn (I.mono (B':=u.heap.size) Yv) zR);have HF:=Yw (Zn s7 (Zn s6 (Zn s2 (Zn s4 (Zn s5 (Zn zB yP))))));clear I zR H d6 HA s7 s6 s2 s4 s5 zB yP hy;have yZ:∀X:Zh,(Instr.field 32 (.agg #[Ze,Ze,Ze,Ze,Ze,Zb,Zb,Zb,.string sm,Zg le,Zc,Zc]) 0).run prog X=.ok Ze X:=fun _=>by kernel_rfl
    gi_wp2_with fail
    exact⟨yI.trans K4.o.1,⟨zM.trans K4.o.2,HF.o.2.2.1,HF.o.2.2.2.1,HF.o.2.2.2.2.1,HF.o.2.1,HF.o.1,r',O',P',L',HF.o.2.2.2.2.2.1,HF.o.2.2.2.2.2.2⟩,yJ.trans K4.o.2⟩
 case done=>
  rintro D V hD ⟨zI,y2,y4,y5,y6,y7,r,O,P,L,y,Ck⟩ hK;rw[Zt (Zx)]at y;have c6:=y6.cell;have f4:=y4.frozen;have d4:=y4.cell;have f5:=y5.frozen;have d5:=y5.cell;have A:=grownBy_setCell' V (w.heap.size+1) (Yy d);have g2:=grownBy_setCell' (V.setCell (Zd (w.heap.size+1) 0) (Yy d)) (w.heap.size+1+1) Ze;obtain⟨R1,zO⟩:=Af (V.setCell (Zd (w.heap.size+1) 0) (Yy d))
  obtain⟨R2,zP⟩:=Af (R1.setCell (Zd (w.heap.size+1+1) 0) Ze);rw[<-zO]at A g2;rw[<-zP]at g2;have p4:Boxed R1 (w.heap.size+1) 57 (Yy d):=by rw[zO];exact y4.set _
  have p5:Boxed R1 (w.heap.size+1+1) 3 Ze:=(A.block _ (Array.getElem?_eq_some_iff.1 y5).1 (fun e=>by have:=Option.some.inj e;omega)).trans y5;have q5:Boxed R2 (w.heap.size+1+1) 3 Ze:=by rw[zP];exact p5.set _
  have q4:Boxed R2 (w.heap.size+1) 57 (Yy d):=(g2.block _ (Array.getElem?_eq_some_iff.1 p4).1 (fun e=>by have:=Option.some.inj e;omega)).trans p4
  have zZ:R2.heap[D]?=some (.deferred (some [])):=(g2.block _ (by have:=A.size;have:=(Array.getElem?_eq_some_iff.1 hK).1;omega) (fun e=>by have:=Option.some.inj e;omega)).trans ((A.block _ (Array.getElem?_eq_some_iff.1 hK).1 (fun e=>by have:=Option.some.inj e;omega)).trans hK);have yE:=DU.K ⟨Ck⟩ (Di A) (fun b C=>by
   obtain rfl:b=w.heap.size+1:=by simpa using C
   exact⟨Yv,Ck.bz y4 (by simp[Bs]) Yv Yv⟩)
  have yQ:=DU.K yE (Di g2) (fun b C=>by
   obtain rfl:b=w.heap.size+1+1:=by simpa using C
   exact⟨Yv,yE.I.bz p5 (by simp[Bs]) Yv Yv⟩)
  have yY:=yQ.I.fp (B:=u.heap.size) Yv Yv Yv (grownBy_putObj' R2 D (.deferred none)) (fun r e=>by cases e;exact⟨hD,_,zZ,rfl⟩);have e4:=cell_kept q4.cell (grownBy_putObj' _ D (.deferred none)) (fun r e=>by cases e;exact⟨_,zZ,rfl⟩);have e5:=cell_kept q5.cell (grownBy_putObj' _ D (.deferred none)) (fun r e=>by cases e;exact⟨_,zZ,rfl⟩)
  have bR:Below w.heap.size w R2:=by rw[zP,zO];exact(zI.setCell (p:=⟨w.heap.size+1,0,none⟩) (by show _<=_+1;omega) _).setCell (p:=⟨w.heap.size+1+1,0,none⟩) (by show _<=_+1+1;omega) _
  have HR:=Yw (Zn zO zP);clear A g2 zO zP p4 p5 q4 q5 yE yQ Ck
  gi_wp2_with fail
  rw[<-HR.o.1,<-HR.o.2];refine⟨Yu,.inl ⟨_,_,rfl,run_takeDeferred zZ,?_⟩⟩;refine⟨.tuple #[Yy d,Ze],by simp[results,results17,go_sem,e4,e5],?_,.inr ⟨r,d,m,O,P,L,w.heap.size,y,rfl,yY,Zx,Yv⟩⟩;exact bR.trans ⟨rfl,rfl,rfl,Yu,fun i hi=>World.putObj_heap_other Yv⟩
 case stop=>
  rintro D k V hD ⟨zI,n,zS,y4,y5⟩ hK;have d4:=cell_kept y4.cell (grownBy_putObj' _ D (.deferred none)) (fun r e=>by cases e;exact⟨_,hK,rfl⟩);have d5:=cell_kept y5.cell (grownBy_putObj' _ D (.deferred none)) (fun r e=>by cases e;exact⟨_,hK,rfl⟩)
  gi_wp2
  refine⟨Yu,.inl ⟨_,_,rfl,run_takeDeferred hK,?_⟩⟩;refine⟨.tuple #[.pointer none,Zg n],by simp[results,results17,go_sem,d4,d5],?_,.inl ⟨n,zS,rfl⟩⟩;exact zI.trans ⟨rfl,rfl,rfl,Yu,fun i hi=>World.putObj_heap_other Yv⟩
end
def ZU(wd:Int)(xs:Zl)(w:Zh)(e:Ending)(w':Zh):Prop:=
 ∃(x:An) (T P L:Value) (rs:Zj),FT wd xs x/\e=.returned (.agg #[Zg x.code,Zg x.wd,Zg x.E,Zg x.F,Zg x.C,T,P,L,.string x.y,Zg x.le,.string x.a,.string x.b])/\AY w' w.heap.size T P L rs x.A x.ps x.ls/\Zz w w'
theorem Sx(a:Zk)(n c:Nat)(w:Zh):
 Calls prog 18 #[.slice a n c] w fun e b=>e=.returned (.func (.func 39) #[] #[Yy w.heap.size])/\b=w.alloc (.cells #[.slice a n c] 23):=by
 have d:∀(fn:Fn) (first cap:Array Value) (w:Zh),(Instr.makeFunc fn first cap).run prog w=.ok (.func fn first cap) w:=fun _ _ _ _=>rfl;go_enter func18,ntmps18;go_wp2;go_ret;exact⟨rfl,rfl⟩
theorem Qz(o:Int)(a:Zk)(cap:Nat)(c:Zl)(w:Zh)(zC:Ad w w.heap.size a c)(hl:c.length<=1048576)(hs:∀s∈c,s.size<=1048576)(hE:Env w):
 Calls prog 5 #[Zg o,.slice a c.length cap] w (ZU o c w):=by
 obtain⟨W,S⟩:=Af (w.alloc (.cells Xy 32));have J:=(AB S).1;have zW:=(AB S).2.1;have xW:=(AB S).2.2;have HW:=Yw S;have zG:=Yw xW;have u:=LC o W;obtain⟨⟨x,q0⟩,⟨y,q1⟩,⟨z,q2⟩,⟨A,q3⟩,⟨B,q4⟩,⟨C,q5⟩,⟨D,q6⟩,⟨E,q7⟩,⟨F,q8⟩,⟨G,q9⟩,⟨g,M⟩,i,N⟩:=AS xW;clear S;by_cases hwd:1<=o/\o<=8
 .rw[decide_eq_true hwd]at u;by_cases hlen:c.length<=4000
  .have zI:decide ((4000:Int)<c.length)=false:=Yt
   have f:=Yw u;clear u;go_enter func5,ntmps5;go_wp2_with fail;rw[<-HW.o];refine f.Ah ?_;rintro e w1 ⟨rfl,b⟩;replace b:=b.symm;subst b;clear f;go_wp2_with fail;refine(Sx a c.length cap W).mono ?_;rintro e U ⟨rfl,K⟩;have Q:Below W.heap.size W U:=by rw[K];exact Zy
   have z2:U.heap.size=W.heap.size+1:=by rw[K];simp
   have c2:U.cell? (Zd (w.heap.size+1) 0)=some (.slice a c.length cap):=by rw[K,<-zW];simp
   have j:=J.trans (Q.mono J.size);have HR:Hid _:=Sw o 39 #[] #[Yy (w.heap.size+1)] c U hwd.1 hwd.2 Yv hs (hE.below j) (enters_of func39 Yr rfl) (fun V hV=>by
    have h1:=Qy (w.heap.size+1) a cap c U.heap.size V ((hV.cell (p:=⟨w.heap.size+1,0,none⟩) (by show w.heap.size+1<_;omega)).trans c2) Yv (Ad.below (Ad.mono (Ad.below zC j) j.size) hV) hV.size Yo;simpa using h1)
   clear c2 K;go_wp2_with fail;refine HR.Ah ?_;rintro e w3 ⟨q,⟨n,zA,rfl⟩|⟨r,d,m,O,P,L,zB,t,rfl,Ck,zH⟩⟩
   .have H:=j.trans (q.mono j.size);have X:=Aa.below (v:=Ze) zG.o (Q.trans (q.mono Q.size));have zM:0<(n:Int):=by obtain⟨k,_,_,rfl,_⟩:=zA;omega
    have I:=Yw H;have HN:=Yw zA;have Y:=Sd X (Zg 7) Ze Ze Ze Ze Zb Zb Zb Zc (Zg n) Zc Zc;have zK:=Yw Y;clear x y z A B C D E F G g i q0 q1 q2 q3 q4 q5 q6 q7 q8 q9 M N Y q H zA HR;obtain⟨⟨x,q0⟩,⟨y,q1⟩,⟨z,q2⟩,⟨A,q3⟩,⟨B,q4⟩,⟨C,q5⟩,⟨D,q6⟩,⟨E,q7⟩,⟨F,q8⟩,⟨G,q9⟩,⟨g,M⟩,i,N⟩:=AS X;go_wp2
    refine bodyPost_ret (v:=.agg #[Zg 7,Ze,Ze,Ze,Ze,Zb,Zb,Zb,Zc,Zg n,Zc,Zc]) (by simp[results,results5,go_sem,x,y,z,A,B,C,D,E,F,G,g,i]) rfl ?_;exact⟨⟨7,0,0,0,0,n,⟨#[]⟩,⟨#[]⟩,⟨#[]⟩,[],[],[]⟩,_,_,_,[],.inr ⟨⟨hwd,hlen⟩,.inl ⟨n,HN.o,rfl⟩⟩,rfl,Ln _ _,I.o.trans ((Ba w3 w.heap.size _ _ _ _ _ _ _ _ _ _ _ _).below I.o.size Yu)⟩
   .have H:=j.trans (q.mono j.size);have X:=Aa.below (v:=Ze) zG.o (Q.trans (q.mono Q.size));have l:=t.ok (Du hwd.1 hwd.2);have zE:=Yw (Nk zB d m O P L o r.E r.F r.C r.A r.ps r.ls w3 Ck l.bn.nd l.bn.sz l.bn.len l.np l.nl l.dv);have I:=Yw H;have HN:=Yw t;have zF:Hid (Aa w3 w.heap.size z12):=X;clear x y z A B C D E F G g i q0 q1 q2 q3 q4 q5 q6 q7 q8 q9 M N X q H t Ck l HR;go_wp2_with fail
    refine zE.Ah ?_;rintro e w4 ⟨T,P',L',rs,rfl,R,Z⟩;obtain⟨ta,tc,rfl⟩:=As R.ak;obtain⟨pa,pc,rfl⟩:=As R.pins;obtain⟨la,lc,rfl⟩:=As R.aq;have Y:Aa w4 w.heap.size z12:=Aa.below (v:=Ze) zF.o Z;have zJ:w.heap.size<w3.heap.size:=zF.o.lt;have HF:=Yw (Zn R Z);obtain⟨⟨x,q0⟩,⟨y,q1⟩,⟨z,q2⟩,⟨A,q3⟩,⟨B,q4⟩,⟨C,q5⟩,⟨D,q6⟩,⟨E,q7⟩,⟨F,q8⟩,⟨G,q9⟩,⟨g,M⟩,i,N⟩:=AS Y;clear R Z zE Y;go_wp2
    refine bodyPost_ret (v:=.agg #[Ze,Zg o,Zg r.E,Zg r.F,Zg r.C,.slice ta r.A.length tc,.slice pa r.ps.length pc,.slice la r.ls.length lc,Zc,Ze,Zc,Zc]) (by simp[results,results5,go_sem,x,y,z,A,B,C,D,E,F,G,g,i]) rfl ?_
    refine⟨⟨0,o,r.E,r.F,r.C,0,⟨#[]⟩,⟨#[]⟩,⟨#[]⟩,r.A,r.ps,r.ls⟩,_,_,_,rs,.inr ⟨⟨hwd,hlen⟩,.inr ⟨r,HN.o,rfl⟩⟩,rfl,(HF.o.1.K (Ba w4 w.heap.size _ _ _ _ _ _ _ _ _ _ _ _) (by simp;exact zJ)).mono I.o.size,?_⟩;exact(I.o.trans (HF.o.2.mono I.o.size)).trans ((Ba w4 w.heap.size _ _ _ _ _ _ _ _ _ _ _ _).below (Zm I.o.size HF.o.2.size) Yu)
  .have zI:decide ((4000:Int)<c.length)=true:=Yt
   have f:=Yw u;clear u;go_enter func5,ntmps5;go_wp2_with fail;rw[<-HW.o];refine f.Ah ?_;rintro e w1 ⟨rfl,b⟩;replace b:=b.symm;subst b;clear f;go_wp2;refine bodyPost_ret (v:=.agg (Xx 1)) (by simp[results,results5,go_sem,x,y,z,A,B,C,D,E,F,G,g,i]) rfl ?_
   exact⟨⟨1,0,0,0,0,0,⟨#[]⟩,⟨#[]⟩,⟨#[]⟩,[],[],[]⟩,_,_,_,[],.inl ⟨fun h=>hlen h.2,rfl⟩,rfl,Ln _ _,J.trans ((Ba W w.heap.size _ _ _ _ _ _ _ _ _ _ _ _).below J.size Yu)⟩
 .rw[decide_eq_false hwd]at u;have f:=Yw u;clear u;go_enter func5,ntmps5;go_wp2_with fail;rw[<-HW.o];refine f.Ah ?_;rintro e w1 ⟨rfl,b⟩;replace b:=b.symm;subst b;clear f;go_wp2;refine bodyPost_ret (v:=.agg (Xx 1)) (by simp[results,results5,go_sem,x,y,z,A,B,C,D,E,F,G,g,i]) rfl ?_
  exact⟨⟨1,0,0,0,0,0,⟨#[]⟩,⟨#[]⟩,⟨#[]⟩,[],[],[]⟩,_,_,_,[],.inl ⟨fun h=>hwd h.1,rfl⟩,rfl,Ln _ _,J.trans ((Ba W w.heap.size _ _ _ _ _ _ _ _ _ _ _ _).below J.size Yu)⟩
def ZV(wd now given births:Int)(ks:List Kd)(ps:List Pd)(ls:List Ld)(kd:Int)(s nm:Zi)(num:Int)(text:Zi)(refs:Zl)(w:Zh)(e:Ending)(w':Zh):Prop:=
 Below w.heap.size w w'/\(
  (¬(CF wd now given births ks ps ls/\Bw kd s nm num text refs wd=true)/\e=.returned (.agg (BB 1 ⟨#[]⟩ ⟨#[]⟩).toArray))\/
  ((CF wd now given births ks ps ls/\Bw kd s nm num text refs wd=true)/\(
    (∃c a b,Fh wd now given births ks ps ls kd s nm num text refs c a b/\e=.returned (.agg (BB c a b).toArray))\/
    (∃r T P L rs,CN wd now given births ks ps ls kd s nm num text refs r/\e=.returned (.agg #[Ze,Zg wd,Zg r.E,Zg r.F,Zg r.C,T,P,L,.string r.y,Zg r.le,Zc,Zc])/\AY w' w.heap.size T P L rs r.A r.ps r.ls))))
theorem Kc(c:Int)(a b:Zi):(BB c a b).toArray= #[Zg c,Ze,Ze,Ze,Ze,Zb,Zb,Zb,Zc,Ze,.string a,.string b]:=rfl
theorem Sy(q now g f:Int)(a p l:Zk)(ac pc lc:Nat)(x:List Kd)(z:List Pd)(y:List Ld)(B:Int)(s C:Zi)(t:Int)(n:Zi)(i:Zl)(N:Zk)(rc:Nat)(w:Zh)(zF:Bt w w.heap.size a p l x z y)(hk:Rk x)(hp:Rl z)(hl:Rm y)(hf:Ro x z y)(yV:∀k∈x,(Lit.int .i64 k.born).wf=true)(hT:It w)(hr:Ad w w.heap.size N i)(xP:i.length<=1048576)(xC:n.size<=maxLen)(xO:C.size<=maxLen):
 Calls prog 9 #[.agg #[.int .i64 q,.int .i64 now,.int .i64 g,.int .i64 f,.slice a x.length ac,.slice p z.length pc,.slice l y.length lc],.agg #[.int .i64 B,.string s,.string C,.int .i64 t,.string n,.slice N i.length rc]] w (ZV q now g f x z y B s C t n i w):=by
 obtain⟨W,hW⟩:∃W,W=((w.alloc (.cells #[.int .i64 q,.int .i64 now,.int .i64 g,.int .i64 f,.slice a x.length ac,.slice p z.length pc,.slice l y.length lc] 30)).alloc (.cells #[.int .i64 B,.string s,.string C,.int .i64 t,.string n,.slice N i.length rc] 38)).alloc (.cells #[.int .i64 0,.int .i64 0,.int .i64 0,.int .i64 0,.int .i64 0,.slice none 0 0,.slice none 0 0,.slice none 0 0,.string ⟨#[]⟩,.int .i64 0,.string ⟨#[]⟩,.string ⟨#[]⟩] 32):=⟨_,rfl⟩
 have bW:Below w.heap.size w W:=by rw[hW];exact((Zy).alloc (by simp) _).alloc (by simp;omega) _
 have vA:W.heap.size=w.heap.size+3:=by rw[hW];simp
 have u:Aa W w.heap.size [.int .i64 q,.int .i64 now,.int .i64 g,.int .i64 f,.slice a x.length ac,.slice p z.length pc,.slice l y.length lc]:=by rw[hW];exact Aa.below (Aa.new w _ 30) ((Zy).alloc (by simp) _)
 have A:Aa W (w.heap.size+1) [.int .i64 B,.string s,.string C,.int .i64 t,.string n,.slice N i.length rc]:=by have h1:=Aa.new (w.alloc (.cells #[.int .i64 q,.int .i64 now,.int .i64 g,.int .i64 f,.slice a x.length ac,.slice p z.length pc,.slice l y.length lc] 30)) [.int .i64 B,.string s,.string C,.int .i64 t,.string n,.slice N i.length rc] 38;rw[World.size_alloc]at h1;rw[hW];exact Aa.below h1 (Zy)
 have I:Aa W (w.heap.size+2) z12:=by have h1:=Aa.new ((w.alloc (.cells #[.int .i64 q,.int .i64 now,.int .i64 g,.int .i64 f,.slice a x.length ac,.slice p z.length pc,.slice l y.length lc] 30)).alloc (.cells #[.int .i64 B,.string s,.string C,.int .i64 t,.string n,.slice N i.length rc] 38)) z12 32;rw[World.size_alloc,World.size_alloc]at h1;rw[hW];exact h1
 have HX:Hid (∀X,Zz W X->Aa X w.heap.size [.int .i64 q,.int .i64 now,.int .i64 g,.int .i64 f,.slice a x.length ac,.slice p z.length pc,.slice l y.length lc]/\Aa X (w.heap.size+1) [.int .i64 B,.string s,.string C,.int .i64 t,.string n,.slice N i.length rc]/\Aa X (w.heap.size+2) z12/\Zz w X/\Bt X X.heap.size a p l x z y/\Ad X w.heap.size N i):=fun X V=>by have G:Below w.heap.size w X:=bW.trans (V.mono bW.size);exact⟨Aa.below u V,Aa.below A V,Aa.below (v:=.int .i64 0) I V,G,zF.N G,Ad.below hr G⟩
 have HV:Hid _:=LM q now g f a p l ac pc lc x z y W (zF.N bW) hk hp hl hf yV;have yM:Hid (∀X,Zz W X->It X):=fun X V=>hT.below (bW.trans (V.mono bW.size));have HW:Hid _:=hW;clear hW zF hk hp hl hf yV hT hr bW;obtain⟨v0,_⟩:=u 0 _ rfl;obtain⟨v1,_⟩:=u 1 _ rfl;obtain⟨v2,_⟩:=u 2 _ rfl;obtain⟨v3,_⟩:=u 3 _ rfl;obtain⟨v4,_⟩:=u 4 _ rfl;obtain⟨v5,_⟩:=u 5 _ rfl;obtain⟨v6,_⟩:=u 6 _ rfl;clear u A I
 go_enter func9,ntmps9;go_upto_region 1 with fail;rw[<-HW.o];clear HW;go_wp2_with fail;refine Calls.mono HV.o ?_;rintro e w1 ⟨b1,rfl,xA,yA⟩;obtain⟨u,A,I,K,yQ,yD⟩:=HX.o w1 yA;have yK:Hid _:=xA;have zW:Hid (Zz W w1):=yA;have zJ:Hid (Zz w w1):=K;clear HV v0 v1 v2 v3 v4 v5 v6 xA yA;cases b1 with
 |false=>
  have zG:Hid (¬(CF q now g f x z y/\Bw B s C t n i q=true)):=fun h=>by have:=yK.o.2 h.1;cases this
  obtain⟨⟨y0,q0⟩,⟨y1,q1⟩,⟨y2,q2⟩,⟨y3,q3⟩,⟨y4,q4⟩,⟨y5,q5⟩,⟨y6,q6⟩,⟨y7,q7⟩,⟨y8,q8⟩,⟨y9,q9⟩,⟨Q,yE⟩,S,yF⟩:=AS I;clear u A I K yQ yD;go_wp2;refine bodyPost_ret (v:=.agg (BB 1 ⟨#[]⟩ ⟨#[]⟩).toArray) (by simp[results,results9,go_sem,y0,y1,y2,y3,y4,y5,y6,y7,y8,y9,Q,S,BB]) rfl ?_
  exact⟨zJ.o.trans (Tn.below (Ba w1 (w.heap.size+2) _ _ _ _ _ _ _ _ _ _ _ _) zJ.o.size (by intro v hv;simp at hv;omega)),.inl ⟨zG.o,rfl⟩⟩
 |true=>
  have yS:=yK.o.1 rfl;have J:Hid (CF q now g f x z y):=yS;have HE:Hid _:=UF B s C t n N rc i q w1 (yM.o _ zW.o) (Ad.mono yD K.size) xP xC xO;obtain⟨e0,_⟩:=A 0 _ rfl;obtain⟨e1,_⟩:=A 1 _ rfl;obtain⟨e2,_⟩:=A 2 _ rfl;obtain⟨e3,_⟩:=A 3 _ rfl;obtain⟨e4,_⟩:=A 4 _ rfl;obtain⟨e5,_⟩:=A 5 _ rfl;obtain⟨v0,_⟩:=u 0 _ rfl;clear u A I K yQ yD yS;go_wp2_with fail;refine Calls.mono HE.o ?_;rintro e H ⟨rfl,yT⟩
  have zP:Hid (Zz W H):=zW.o.trans (yT.mono zW.o.size);obtain⟨u,A,I,zC,zZ,yY⟩:=HX.o H zP.o;have zK:Hid (Zz w H):=zC;clear e0 e1 e2 e3 e4 e5 v0 HE yT yM;cases hoe:Bw B s C t n i q with
  |false=>
   have zG:Hid (¬(CF q now g f x z y/\Bw B s C t n i q=true)):=fun h=>by rw[hoe]at h;cases h.2
   obtain⟨⟨y0,q0⟩,⟨y1,q1⟩,⟨y2,q2⟩,⟨y3,q3⟩,⟨y4,q4⟩,⟨y5,q5⟩,⟨y6,q6⟩,⟨y7,q7⟩,⟨y8,q8⟩,⟨y9,q9⟩,⟨Q,yE⟩,S,yF⟩:=AS I;clear u A I zC zZ yY hoe;go_wp2;refine bodyPost_ret (v:=.agg (BB 1 ⟨#[]⟩ ⟨#[]⟩).toArray) (by simp[results,results9,go_sem,y0,y1,y2,y3,y4,y5,y6,y7,y8,y9,Q,S,BB]) rfl ?_
   exact⟨zK.o.trans (Tn.below (Ba H (w.heap.size+2) _ _ _ _ _ _ _ _ _ _ _ _) zK.o.size (by intro v hv;simp at hv;omega)),.inl ⟨zG.o,rfl⟩⟩
  |true=>
   have zS:Hid (Bw B s C t n i q=true):=hoe;have zE:=J.o.bn;have yJ:Hid _:=JN q now g f a p l ac pc lc x z y H zZ J.o.nth J.o.np J.o.nl zE.sz zE.w8;obtain⟨v0,_⟩:=u 0 _ rfl;obtain⟨v1,_⟩:=u 1 _ rfl;obtain⟨v2,_⟩:=u 2 _ rfl;obtain⟨v3,_⟩:=u 3 _ rfl;obtain⟨v4,_⟩:=u 4 _ rfl;obtain⟨v5,_⟩:=u 5 _ rfl;obtain⟨v6,_⟩:=u 6 _ rfl;clear u A I zC zZ yY hoe zE;go_wp2_with fail;refine Calls.mono yJ.o ?_
   rintro e w3 ⟨d,m,O,P,L,rfl,zB,xH,yP,yU⟩;have zX:Hid (Zz W w3):=zP.o.trans (yU.mono zP.o.size);obtain⟨u,A,I,zN,xK,yZ⟩:=HX.o w3 zX.o;have xZ:w.heap.size+3<=H.heap.size:=by have:=zP.o.size;omega
   have yI:Hid (DU w3 (H.heap.size+1) d m O P L q now g f x z y):=⟨zB⟩;have xX:H.heap.size+1<=d:=zB.bd;have zO:=zB.cz;have xY:d<w3.heap.size:=zB.box.lt;have zM:GC q now g f x z y B t n i:=GC.of J.o zS.o xC
   have HA:Hid _:=KO d (vB d m O P L) B s C n t N i.length rc (fun c a b=>Fh q now g f x z y B s C t n i c a b) (fun sm le X=>∃r,CN q now g f x z y B s C t n i r/\r.y=sm/\r.le=le/\Ka (H.heap.size+1) d m q r X) w3 zO (fun sm le X X' R xV h1 h2 h3 h4=>by
    obtain⟨r,g1,g2,g3,g4⟩:=h1;exact⟨r,g1,g2,g3,g4.stays h2 (by omega) (by omega) h4⟩) (fun X V=>Mo (H.heap.size+1) d m O P L q now g f x z y B s C t n i N rc X (yI.o.below V) zM ((Dn.low (Ad.mono yZ (by omega)) (fun b G=>by
     have:=zB;unfold vB at G;simp only[List.mem_cons,List.mem_append,Option.mem_toList]at G;rcases G with h|h|h|h|h
     .omega
     .have:=this.bm;omega
     .exact(Ac this.ord h).1
     .exact(Ac this.ci h).1
     .exact(Ac this.ck h).1) (by omega) ⟨m,rfl,by have:=yP.2;omega⟩).move (U:=[]) (Tn.of V) (by simp) (fun b G=> .inl G)))
   have zT:Hid _:=Zn u (Zn A I);have F:Hid (Zz w w3):=zN;obtain⟨e0,_⟩:=A 0 _ rfl;obtain⟨e1,_⟩:=A 1 _ rfl;obtain⟨e2,_⟩:=A 2 _ rfl;obtain⟨e3,_⟩:=A 3 _ rfl;obtain⟨e4,_⟩:=A 4 _ rfl;obtain⟨e5,_⟩:=A 5 _ rfl;have yX:∀j,j<H.heap.size->j∉vB d m O P L:=fun j hj yB=>by
    have:=yI.o.I;unfold vB at yB;simp only[List.mem_cons,List.mem_append,Option.mem_toList]at yB;rcases yB with h|h|h|h|h
    .omega
    .have:=this.bm;omega
    .have:=(Ac this.ord h).1;omega
    .have:=(Ac this.ci h).1;omega
    .have:=(Ac this.ck h).1;omega
   have zR:Hid (∀j,j<H.heap.size->j∉vB d m O P L):=yX;clear v0 v1 v2 v3 v4 v5 v6 yJ yU zB xH yP u A I zN xK yZ zO zM yX;go_wp2_with fail;refine Calls.mono HA.o ?_;intro e E xM;obtain⟨c,a',b',yC,rfl,M⟩|⟨sm,le,rfl,⟨r,hy,xB,yW,xN⟩,M⟩:=xM
   .have xW:(c==0)=false:=by have:=yC.code;simp;omega
    have zG:Hid _:=yC;have zI:Aa E (w.heap.size+2) z12:=Aa.same zT.o.2.2 (M.block _ zT.o.2.2.lt (zR.o _ (by omega)));obtain⟨Y,Z⟩:∃Y,Y=E.alloc (.cells #[.int .i64 c,.int .i64 0,.int .i64 0,.int .i64 0,.int .i64 0,.slice none 0 0,.slice none 0 0,.slice none 0 0,.string ⟨#[]⟩,.int .i64 0,.string a',.string b'] 32):=⟨_,rfl⟩;have bY:Below E.heap.size E Y:=by rw[Z];exact Zy
    have o:Aa Y E.heap.size [.int .i64 c,.int .i64 0,.int .i64 0,.int .i64 0,.int .i64 0,.slice none 0 0,.slice none 0 0,.slice none 0 0,.string ⟨#[]⟩,.int .i64 0,.string a',.string b']:=by rw[Z];exact Aa.new E _ _
    have yR:=Aa.below (v:=.int .i64 0) zI bY;have HY:Hid _:=Z;have zA:Hid (Zz w Y):=(F.o.trans (M.below F.o.size (by intro b G;exact Classical.byContradiction fun e=>zR.o b (by omega) G))).trans (bY.mono (Zm F.o.size M.size));have xQ:w.heap.size+3<=E.heap.size:=by have:=M.size;have:=zX.o.size;omega
    obtain⟨⟨y0,q0⟩,⟨y1,q1⟩,⟨y2,q2⟩,⟨y3,q3⟩,⟨y4,q4⟩,⟨y5,q5⟩,⟨y6,q6⟩,⟨y7,q7⟩,⟨y8,q8⟩,⟨y9,q9⟩,⟨Q,yE⟩,S,yF⟩:=AS yR;obtain⟨u0,vR⟩:=o 0 _ rfl;obtain⟨u1,vS⟩:=o 1 _ rfl;obtain⟨u2,vT⟩:=o 2 _ rfl;obtain⟨u3,vU⟩:=o 3 _ rfl;obtain⟨u4,vV⟩:=o 4 _ rfl;obtain⟨u5,vW⟩:=o 5 _ rfl;obtain⟨u6,vX⟩:=o 6 _ rfl;obtain⟨u7,vY⟩:=o 7 _ rfl;obtain⟨u8,vZ⟩:=o 8 _ rfl;obtain⟨u9,tA⟩:=o 9 _ rfl;obtain⟨vP,xT⟩:=o 10 _ rfl
    obtain⟨vQ,xU⟩:=o 11 _ rfl;rw[Kc];clear e0 e1 e2 e3 e4 e5 HA zI bY o yR Z yC M;go_upto_region 5 with fail;rw[<-HY.o];clear HY;go_wp2;refine bodyPost_ret (v:=.agg (BB c a' b').toArray) (by simp[results,results9,go_sem,y0,y1,y2,y3,y4,y5,y6,y7,y8,y9,Q,S,BB]) rfl ?_
    exact⟨zA.o.trans (Tn.below (Ba Y (w.heap.size+2) _ _ _ _ _ _ _ _ _ _ _ _) zA.o.size (by intro v hv;simp at hv;omega)),.inr ⟨⟨J.o,zS.o⟩,.inl ⟨c,a',b',zG.o,rfl⟩⟩⟩
   .have zI:Aa E (w.heap.size+2) z12:=Aa.same zT.o.2.2 (M.block _ zT.o.2.2.lt (zR.o _ (by omega)));obtain⟨Y,Z⟩:∃Y,Y=E.alloc (.cells #[.int .i64 0,.int .i64 0,.int .i64 0,.int .i64 0,.int .i64 0,.slice none 0 0,.slice none 0 0,.slice none 0 0,.string sm,.int .i64 le,.string ⟨#[]⟩,.string ⟨#[]⟩] 32):=⟨_,rfl⟩;have bY:Below E.heap.size E Y:=by rw[Z];exact Zy
    have o:Aa Y E.heap.size [.int .i64 0,.int .i64 0,.int .i64 0,.int .i64 0,.int .i64 0,.slice none 0 0,.slice none 0 0,.slice none 0 0,.string sm,.int .i64 le,.string ⟨#[]⟩,.string ⟨#[]⟩]:=by rw[Z];exact Aa.new E _ _
    have yR:=Aa.below (v:=.int .i64 0) zI bY;have HY:Hid _:=Z;have xQ:w.heap.size+3<=E.heap.size:=by have:=M.size;have:=zX.o.size;omega
    have zA:Hid (Zz w Y):=(F.o.trans (M.below F.o.size (by intro b G;exact Classical.byContradiction fun e=>zR.o b (by omega) G))).trans (bY.mono (Zm F.o.size M.size));have D:=hy.fits J.o zS.o;obtain⟨O',P',L',yO⟩:=xN;have yL:Hid _:=Nk (H.heap.size+1) d m O' P' L' q r.E r.F r.C r.A r.ps r.ls Y (yO.below bY) D.nd D.sz D.nk D.np D.nl D.B
    have zY:Hid (CN q now g f x z y B s C t n i r/\r.y=sm/\r.le=le):=⟨hy,xB,yW⟩;have zU:Hid (Aa Y E.heap.size [.int .i64 0,.int .i64 0,.int .i64 0,.int .i64 0,.int .i64 0,.slice none 0 0,.slice none 0 0,.slice none 0 0,.string sm,.int .i64 le,.string ⟨#[]⟩,.string ⟨#[]⟩]/\Aa Y (w.heap.size+2) z12):=⟨o,yR⟩;obtain⟨u0,_⟩:=o 0 _ rfl;clear e0 e1 e2 e3 e4 e5 HA zI bY o yR Z hy xB yW yO D M
    go_upto_region 5 with fail;rw[<-HY.o];clear HY;go_wp2_with fail;refine Calls.mono yL.o ?_;rintro e w5 ⟨T,PP,LL,rs,rfl,zH,zV⟩;obtain⟨ta,tc,xL⟩:=As zH.ak;obtain⟨pa,xF,xJ⟩:=As zH.pins;obtain⟨la,xE,xI⟩:=As zH.aq;subst xL xJ xI;have o:=Aa.below zU.o.1 zV;have yR:=Aa.below (v:=.int .i64 0) zU.o.2 zV;have xG:Hid _:=zH;have yH:Hid (Zz w w5):=zA.o.trans (zV.mono zA.o.size)
    have vC:E.heap.size<Y.heap.size:=zU.o.1.lt;obtain⟨⟨y0,q0⟩,⟨y1,q1⟩,⟨y2,q2⟩,⟨y3,q3⟩,⟨y4,q4⟩,⟨y5,q5⟩,⟨y6,q6⟩,⟨y7,q7⟩,⟨y8,q8⟩,⟨y9,q9⟩,⟨Q,yE⟩,S,yF⟩:=AS yR;obtain⟨p0,vF⟩:=o 0 _ rfl;obtain⟨p1,vG⟩:=o 1 _ rfl;obtain⟨p2,vH⟩:=o 2 _ rfl;obtain⟨p3,vI⟩:=o 3 _ rfl;obtain⟨p4,vJ⟩:=o 4 _ rfl;obtain⟨p5,vK⟩:=o 5 _ rfl;obtain⟨p6,vL⟩:=o 6 _ rfl;obtain⟨p7,vM⟩:=o 7 _ rfl;obtain⟨p8,vN⟩:=o 8 _ rfl
    obtain⟨p9,vO⟩:=o 9 _ rfl;obtain⟨vD,xR⟩:=o 10 _ rfl;obtain⟨vE,xS⟩:=o 11 _ rfl;clear u0 yL zH zV o yR zU
    have xD:∀X,Tn [E.heap.size,w.heap.size+2] w5 X->ZV q now g f x z y B s C t n i w (.returned (.agg #[.int .i64 0,.int .i64 q,.int .i64 r.E,.int .i64 r.F,.int .i64 r.C,.slice ta r.A.length tc,.slice pa r.ps.length xF,.slice la r.ls.length xE,.string sm,.int .i64 le,.string ⟨#[]⟩,.string ⟨#[]⟩])) X:=fun X hT=>by refine⟨yH.o.trans (hT.below yH.o.size (by intro v hv;simp at hv;omega)),.inr ⟨⟨J.o,zS.o⟩,.inr ⟨r,_,_,_,rs,zY.o.1,by rw[zY.o.2.1,zY.o.2.2],(xG.o.K hT (by intro v hv;simp at hv;omega)).mono zA.o.size⟩⟩⟩
    have yG:Hid _:=xD;clear xD;go_wp2;refine bodyPost_ret (v:=.agg #[.int .i64 0,.int .i64 q,.int .i64 r.E,.int .i64 r.F,.int .i64 r.C,.slice ta r.A.length tc,.slice pa r.ps.length xF,.slice la r.ls.length xE,.string sm,.int .i64 le,.string ⟨#[]⟩,.string ⟨#[]⟩]) (by simp[results,results9,go_sem,y0,y1,y2,y3,y4,y5,y6,y7,y8,y9,Q,S]) rfl ?_;refine yG.o _ ?_
    repeat refine Tn.trans ?_ (Tn.set _ _ _ _ (by simp))
    exact Tn.of (Below.refl _ _)
end Go.Proofs.YtoglnpagihdhpaaGreatDoor
