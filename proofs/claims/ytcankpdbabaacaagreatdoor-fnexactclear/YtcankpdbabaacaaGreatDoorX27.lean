import Derived.Test.YtcankpdbabaacaaGreatDoorX26
set_option maxRecDepth 100000
set_option maxHeartbeats 16000000
namespace Go.Proofs.YtcankpdbabaacaaGreatDoor
open Go.ChangeShapes Go.WideShapes Go.ChangeAt Go.RowKit _root_.Go.Proofs.Tryz
variable{n lo g c base N:Nat}{a:Zk}{b e:Zj}{w X:Zh}{f d:Zl}{v:Vd}
theorem Mx{A:Type}{c:A->Zj}(h:∀x,(c x).length=n)(m:0<n){a:List A}(o:b.length=a.length *n)(l:∀i x j,a[i]?=some x->j<n->b[i *n+j]?=(c x)[j]?):b=Ab c a:=by
 apply List.ext_getElem?;intro k;have p:=Bu h a;by_cases hlt:k<a.length *n
 .have g:k/n<a.length:=Nat.div_lt_of_lt_mul (by rw[Nat.mul_comm];exact hlt);have d:k%n<n:=Nat.mod_lt _ m;have e:k=k/n *n+k%n:=by rw[Nat.mul_comm];exact(Nat.div_add_mod k n).symm
  have f:=Zv g;rw[e,l _ _ _ f d,Br h f d]
 .rw[List.getElem?_eq_none Yw,List.getElem?_eq_none Yw]
theorem Fl.ik{a:List Pd}(h:Fl w lo g a):w.ownsRow lo 163 2 (Za g a.length a.length) a.length (Ab pC a):=by
 obtain⟨m,b,k⟩:=h;have e:m=Ab pC a:=Mx BM Yw b.1 (fun i x j l f=>by
  obtain⟨c,d⟩:=k i x l
  match j,f with
  |0,_=>exact c
  |1,_=>exact d)
 exact e▸b
theorem Fm.ik{a:List Ld}(h:Fm w lo g a):w.ownsRow lo 164 3 (Za g a.length a.length) a.length (Ab lC a):=by
 obtain⟨n,b,l⟩:=h;have e:n=Ab lC a:=Mx Cy Yw b.1 (fun i x j m k=>by
  obtain⟨c,d,f⟩:=l i x m
  match j,k with
  |0,_=>exact c
  |1,_=>exact d
  |2,_=>exact f)
 exact e▸b
structure Ir (w:Zh) (lo g:Nat) (rs:Zj) (ks:List Kd):Prop where
 len:rs.length=ks.length
 aj:w.ownsRow lo 99 4 (.slice (some ⟨g,0,none⟩) ks.length ks.length) ks.length (Ab kC (ks.zip rs))
 B:∀(i:Nat) (k:Kd) (r:Value),ks[i]?=some k->rs[i]?=some r->w.ownsRow (g+1) 9 1 r k.B.length (k.B.map Value.string)
 sm:∀r∈rs,∃q n c,r=.slice (some ⟨q,0,none⟩) n c
 inc:(rs.filterMap Value.ownBlock).Pairwise (·<·)
theorem EY.to{m:List Kd}(h:EY w lo g m):∃l,Ir w lo g l m:=by
 obtain⟨t,C,A,N⟩:=h;have d:∀i,i<m.length->∃q n,t[i *4+3]?=some (Za q n n):=fun i D=>by obtain⟨_,_,_,q,o,_⟩:=A i _ (Zv D);exact⟨q,_,o⟩
 obtain⟨l,p⟩:∃l,l=(List.range m.length).map (fun i=>t[i *4+3]?.getD undef):=⟨_,rfl⟩;have B:l.length=m.length:=by rw[p];simp
 have u:∀i,i<m.length->l[i]?=some (t[i *4+3]?.getD undef):=fun i h=>by rw[p,List.getElem?_map,List.getElem?_range h];rfl
 refine⟨l,B,?_,?_,?_,?_⟩
 .have e:t=Ab kC (m.zip l):=Mx Et Yw (by rw[C.1,List.length_zip,B,Nat.min_self]) (fun i x j P O=>by
   obtain⟨z,G⟩:=List.getElem?_zip_eq_some.1 P;obtain⟨H,I,J,q,o,_⟩:=A i _ z;have f:=u i (Zw z).1;rw[G,o]at f
   match j,O with
   |0,_=>exact H
   |1,_=>exact I
   |2,_=>exact J
   |3,_=>exact o.trans f.symm)
  exact e▸C
 .intro i k r a F;obtain⟨_,_,_,q,o,K⟩:=A i k a;have f:=u i (Zw a).1;rw[o,F]at f;cases f;exact K
 .intro r f;rw[p]at f;obtain⟨i,a,rfl⟩:=List.mem_map.1 f;obtain⟨q,n,s⟩:=d i (List.mem_range.1 a);exact⟨q,_,_,by rw[s];rfl⟩
 .rw[p,List.filterMap_map,List.pairwise_filterMap];refine List.Pairwise.imp_of_mem (R:=(·<·)) ?_ List.pairwise_lt_range;intro i j a v E b L c M;obtain⟨q,n,s⟩:=d i (List.mem_range.1 a);obtain⟨Q,S,y⟩:=d j (List.mem_range.1 v);have:=N i j q Q _ _ _ _ E (List.mem_range.1 v) s y;simp[s,Value.ownBlock]at L;simp[y,Value.ownBlock]at M;omega
theorem Ir.tn{V:List Nat}{l:Zh}{j:Zj}{f:List Kd}(h:Ir w lo g j f)(e:Tn V w l)(d:∀b∈V,b<lo):Ir l lo g j f:=
 ⟨h.len,Dh h.aj e d,fun i k r a c=>Dh (h.B i k r a c) e (fun b m=>by have a:=d b m;have c:=(Ac h.aj (g:=g) rfl).1;omega),h.sm,h.inc⟩
theorem Ir.below{d:Zh}{c:Zj}{b:List Kd}(h:Ir w lo g c b)(a:Zz w d):Ir d lo g c b:=
 ⟨h.len,Ae h.aj a,fun i k r e f=>Ae (h.B i k r e f) a,h.sm,h.inc⟩
theorem Ir.ik{q r n1:Nat}{f:Zj}{e:List Kd}{c:List Pd}{a:List Ld}(h:Ir w lo g f e)(y:g<n1)(m:∀b∈f.filterMap Value.ownBlock,b<n1)(z:n1<=q)(A:q<r)(u:w.ownsRow lo 163 2 (Za q c.length c.length) c.length (Ab pC c))(t:w.ownsRow lo 164 3 (Za r a.length a.length) a.length (Ab lC a)):
 Bf w lo (Za g e.length e.length) (Za q c.length c.length) (Za r a.length a.length) f e c a:=by
 have dj:=(Ac h.aj (g:=g) rfl).1;refine⟨h.len,h.aj,fun i k x p s=>(h.B i k x p s).mono Yw,u,t,?_⟩;have j:∀b∈f.filterMap Value.ownBlock,g<b:=fun b j=>by
  obtain⟨x,v,o⟩:=List.mem_filterMap.1 j;obtain⟨i,l⟩:=List.getElem?_of_mem v;have n:i<e.length:=by rw[<-h.len];exact(Zw l).1
  exact(Ac (h.B i _ x (Zv n) l) o).1
 show(g::q::r::f.filterMap Value.ownBlock).Nodup;refine List.nodup_cons.2 ⟨?_,List.nodup_cons.2 ⟨?_,List.nodup_cons.2 ⟨fun d=> ?_,h.inc.imp (fun h=>Nat.ne_of_lt h)⟩⟩⟩
 .simp only[List.mem_cons,not_or];exact⟨Yw,Yw,fun d=>by have:=j g d;omega⟩
 .simp only[List.mem_cons,not_or];exact⟨Yw,fun d=>by have:=m q d;omega⟩
 .have:=m r d;omega
theorem Ir.cf{d:Zj}{c:List Kd}(h:Ir w lo g d c):∀b∈d.filterMap Value.ownBlock,b<w.heap.size:=fun b j=>by
 obtain⟨x,k,f⟩:=List.mem_filterMap.1 j;obtain⟨i,a⟩:=List.getElem?_of_mem k;have e:i<c.length:=by rw[<-h.len];exact(Zw a).1
 exact(Ac (h.B i _ x (Zv e) a) f).2
theorem QI(s o f d:Int)(a p l:Zk)(M O N:Nat)(i:List Kd)(h:List Pd)(j:List Ld)(w:Zh)(S:BI w w.heap.size a p l i h j)(hf:Rw i h j):
 Calls prog 22 #[.agg (Yi s o f d a i.length M p h.length O l j.length N)] w fun e w'=>∃g q r E,e=.returned (.agg (Yi s o f d (some ⟨g,0,none⟩) i.length i.length (some ⟨q,0,none⟩) h.length h.length (some ⟨r,0,none⟩) j.length j.length))/\Bf w' w.heap.size (Za g i.length i.length) (Za q h.length h.length) (Za r j.length j.length) E i h j/\(∀x∈E,∃q n c,x=Za q n c)/\Zz w w':=by
 obtain⟨u,B⟩:∃W,W=((w.alloc (.cells (Yi s o f d a i.length M p h.length O l j.length N) 29)).alloc (.cells Yk 40)).alloc (.cells #[Zg s,Zg o,Zg f,Zg d,Zc,Zc,Zc] 40):=⟨_,rfl⟩;have G:Hid (Zz w u):=(Bq B).1;have yE:=(Bq B).2.1;have zH:Hid (Aa u w.heap.size (Yj s o f d a i.length M p h.length O l j.length N)):=(Bq B).2.2.1;have zI:Hid (Aa u (w.heap.size+1) Xn):=(Bq (k:=Xn) B).2.2.2.1
 have zC:Hid (Aa u (w.heap.size+1+1) [Zg s,Zg o,Zg f,Zg d,Zc,Zc,Zc]):=(Bq (m:=[Zg s,Zg o,Zg f,Zg d,Zc,Zc,Zc]) B).2.2.2.2;have HR:Hid (∀X,Zz w X->BI X X.heap.size a p l i h j):=fun X hX=>S.j hX;have zS:=Yx B;clear B S;go_enter func22,ntmps22;go_wp2_with fail;rw[<-zS.o];clear zS;refine(PU a M i u (HR.o u G.o).k hf.k hf.r).mono ?_;rintro e V ⟨g,rfl,hg,F,C⟩;have z1:=C.size
 obtain⟨D,J⟩:∃X,X=V.setCell (Ze (w.heap.size+1+1) 4) (Za g i.length i.length):=⟨_,rfl⟩;have Z:Tn [w.heap.size+1+1] V D:=by rw[J];exact Tn.set _ _ _ _ Yv
 have yF:D.heap.size=V.heap.size:=by rw[J];simp
 have zA:=Yx (Aa.same (Aa.below zH.o C) (Z.block _ Yw Yo));have zJ:Hid (Aa D (w.heap.size+1) Xn):=Aa.same (Aa.below (v:=Zf) zI.o C) (Z.block _ Yw Yo);have zE:Hid (Aa D (w.heap.size+1+1) (Yj s o f d (some ⟨g,0,none⟩) i.length i.length none 0 0 none 0 0)):=by have Y:=Aa.below zC.o C;show Aa D (w.heap.size+1+1) (Yj s o f d (some ⟨g,0,none⟩) i.length i.length none 0 0 none 0 0);rw[J];exact Y.set 4 _
 have H:Hid (Zz w D):=(G.o.trans (C.mono G.o.size)).trans (Z.below Yw Yo);obtain⟨E,F⟩:=F.to;have zN:Hid (Ir D u.heap.size g E i):=F.tn Z Yu;have HN:Hid (g<V.heap.size/\∀b∈E.filterMap Value.ownBlock,b<V.heap.size):=⟨(Ac F.aj (g:=g) rfl).2,F.cf⟩;clear F;obtain⟨e1,f1⟩:=Aa.below zC.o C 4 _ rfl;have zT:=Yx J;clear J;go_upto_region 7 with fail;rw[<-zT.o]
 clear zT e1 f1 C Z zH zI zC;obtain⟨y5,_⟩:=zA.o 5 _ rfl;go_wp2_with fail;refine(Rz p O h D (HR.o D H.o).p hf.p).mono ?_;rintro e w2 ⟨q,rfl,hq,zG,z⟩;have z2:=z.size;obtain⟨A,K⟩:∃X,X=w2.setCell (Ze (w.heap.size+1+1) 5) (Za q h.length h.length):=⟨_,rfl⟩;have U:Tn [w.heap.size+1+1] w2 A:=by rw[K];exact Tn.set _ _ _ _ Yv
 have yG:A.heap.size=w2.heap.size:=by rw[K];simp
 have zB:=Yx (Aa.same (Aa.below zA.o z) (U.block _ Yw Yo));have zK:Hid (Aa A (w.heap.size+1) Xn):=Aa.same (Aa.below (v:=Zf) zJ.o z) (U.block _ Yw Yo);have zF:Hid (Aa A (w.heap.size+1+1) (Yj s o f d (some ⟨g,0,none⟩) i.length i.length (some ⟨q,0,none⟩) h.length h.length none 0 0)):=by have Y:=Aa.below zE.o z;show Aa A (w.heap.size+1+1) (Yj s o f d (some ⟨g,0,none⟩) i.length i.length (some ⟨q,0,none⟩) h.length h.length none 0 0);rw[K];exact Y.set 5 _
 have I:Hid (Zz w A):=(H.o.trans (z.mono H.o.size)).trans (U.below Yw Yo);have zO:Hid (Ir A u.heap.size g E i):=(zN.o.below z).tn U Yu;have zR:Hid (A.ownsRow u.heap.size 163 2 (Za q h.length h.length) h.length (Ab pC h)):=Dh (zG.ik.mono Yw) U Yu;have HQ:Hid (q<w2.heap.size):=(Ac zG.ik (g:=q) rfl).2;clear zG zN y5
 obtain⟨e2,f2⟩:=Aa.below zE.o z 5 _ rfl;have zU:=Yx K;clear K;go_upto_region 8 with fail;rw[<-zU.o];clear zU e2 f2 z U zA zJ zE;obtain⟨y6,_⟩:=zB.o 6 _ rfl;go_wp2_with fail;refine(Oz l N j A (HR.o A I.o).l hf.l).mono ?_;rintro e w3 ⟨r,rfl,hr,zW,t⟩;have z3:=t.size;obtain⟨y,L⟩:∃X,X=w3.setCell (Ze (w.heap.size+1+1) 6) (Za r j.length j.length):=⟨_,rfl⟩
 have P:Tn [w.heap.size+1+1] w3 y:=by rw[L];exact Tn.set _ _ _ _ Yv
 have yH:y.heap.size=w3.heap.size:=by rw[L];simp
 have yD:=Yx (Aa.same (Aa.below zB.o t) (P.block _ Yw Yo));have zM:Hid (Aa y (w.heap.size+1) Xn):=Aa.same (Aa.below (v:=Zf) zK.o t) (P.block _ Yw Yo);have zY:Hid (Aa y (w.heap.size+1+1) (Yj s o f d (some ⟨g,0,none⟩) i.length i.length (some ⟨q,0,none⟩) h.length h.length (some ⟨r,0,none⟩) j.length j.length)):=by have Y:=Aa.below zF.o t;show Aa y (w.heap.size+1+1) (Yj s o f d (some ⟨g,0,none⟩) i.length i.length (some ⟨q,0,none⟩) h.length h.length (some ⟨r,0,none⟩) j.length j.length);rw[L];exact Y.set 6 _
 have Q:Hid (Zz w y):=(I.o.trans (t.mono I.o.size)).trans (P.below Yw Yo);have zP:Hid (Ir y u.heap.size g E i):=(zO.o.below t).tn P Yu;have yA:Hid (y.ownsRow u.heap.size 163 2 (Za q h.length h.length) h.length (Ab pC h)):=Dh (Ae zR.o t) P Yu
 have zZ:Hid (y.ownsRow u.heap.size 164 3 (Za r j.length j.length) j.length (Ab lC j)):=Dh (zW.ik.mono Yw) P Yu;clear zW zO zR y6;obtain⟨e3,f3⟩:=Aa.below zF.o t 6 _ rfl;have zV:=Yx L;clear L;go_upto_region 9 with fail;rw[<-zV.o];clear zV e3 f3 t P zB zK zF
 obtain⟨W4,T⟩:∃X,X=y.setCells (w.heap.size+1) 0 (Yj s o f d (some ⟨g,0,none⟩) i.length i.length (some ⟨q,0,none⟩) h.length h.length (some ⟨r,0,none⟩) j.length j.length):=⟨_,rfl⟩;have t4:Tn [w.heap.size+1] y W4:=by rw[T];exact Df _ _ _ _
 have x4:Aa W4 (w.heap.size+1) (Yj s o f d (some ⟨g,0,none⟩) i.length i.length (some ⟨q,0,none⟩) h.length h.length (some ⟨r,0,none⟩) j.length j.length):=by rw[T];exact zM.o.ck _ rfl
 have HS:Hid (Bf W4 w.heap.size (Za g i.length i.length) (Za q h.length h.length) (Za r j.length j.length) E i h j):=(((zP.o.tn t4 Yu).ik (n1:=V.heap.size) HN.o.1 HN.o.2 Yw (by have:=HQ.o;omega) (Dh yA.o t4 Yu) (Dh zZ.o t4 Yu)).mono Yw);have zX:Hid (Zz w W4):=Q.o.trans (t4.below Q.o.size Yv)
 have R:((Yi s o f d (some ⟨g,0,none⟩) i.length i.length (some ⟨q,0,none⟩) h.length h.length (some ⟨r,0,none⟩) j.length j.length):Array Value).all (·.oneCell')=true:=by simp[Value.oneCell']
 have HI:=Yx (Zn R zM.o.there);have yC:=Yx x4;have yB:=Yx T;clear R x4 T t4;go_wp2_with (first
  |refine wpList_load_mid rfl 40 _ rfl (w.heap.size+1+1) 0 rfl (Yj s o f d (some ⟨g,0,none⟩) i.length i.length (some ⟨q,0,none⟩) h.length h.length (some ⟨r,0,none⟩) j.length j.length) _ zY.o.range underlying40 rfl Yt ?_
  |refine wpList_store_mid rfl 40 _ _ rfl (w.heap.size+1) 0 (Yi s o f d (some ⟨g,0,none⟩) i.length i.length (some ⟨q,0,none⟩) h.length h.length (some ⟨r,0,none⟩) j.length j.length) rfl rfl HI.o.2 Yt HI.o.1 ?_)
 rw[<-yB.o];refine bodyPost_ret (Ce results22 _ _ (w.heap.size+1) (Yj s o f d (some ⟨g,0,none⟩) i.length i.length (some ⟨q,0,none⟩) h.length h.length (some ⟨r,0,none⟩) j.length j.length) _ rfl (Aa.range yC.o) underlying40 rfl Yt) rfl ?_;exact⟨g,q,r,E,rfl,HS.o,zP.o.sm,zX.o⟩
def vN:Vd:=⟨0,0,[],[],0,0,0,0,[],[],[],0,[],[],0,0,0⟩
def vZ(v:Vd):Vd:={vN with wd:=v.wd,U:=v.U}
def vY(v:Vd):Vd:={v with H:=0,K:=0,J:=0,ro:=0}
theorem QJ(v:Vd)(a:Va)(w:Zh)(hr:Ca w w.heap.size a v)(hf:Dl v):
 Calls prog 6 #[.agg (Xz v a)] w fun e w'=>∃g k h i j o p H,e=.returned (.agg (Bx v (Za g v.ss.length v.ss.length) (Za k v.C.length v.C.length) (Za h v.A.length v.A.length) (Za i v.ps.length v.ps.length) (Za j v.ls.length v.ls.length) (Za o v.D.length v.D.length) (Za p v.ms.length v.ms.length)).toArray)/\AU w' w.heap.size (Za g v.ss.length v.ss.length) (Za k v.C.length v.C.length) (Za h v.A.length v.A.length) (Za i v.ps.length v.ps.length) (Za j v.ls.length v.ls.length) (Za o v.D.length v.D.length) (Za p v.ms.length v.ms.length) H v/\(∀x∈H,∃q n c,x=Za q n c)/\Zz w w':=by
 obtain⟨z,I⟩:∃W,W=((w.alloc (.cells (Xz v a) 33)).alloc (.cells Xv 43)).alloc (.cells #[Zg v.wd,Zg v.U,Zc,Zc,Zf,Zf,Zf,Zf,Zc,Zc,Zc,Zf,Zc,Zc,Zf,Zf,Zf] 43):=⟨_,rfl⟩;have E:Hid (Zz w z):=(Bq I).1;have xE:=(Bq I).2.1
 have zE:Hid (Aa z w.heap.size (Bx v (.slice a.R v.ss.length a.Z) (.slice a.N v.C.length a.O) (.slice a.x v.A.length a.kc) (.slice a.Q v.ps.length a.W) (.slice a.P v.ls.length a.X) (.slice a.i v.D.length a.qc) (.slice a.g v.ms.length a.y))):=(Bq (l:=(Bx v (.slice a.R v.ss.length a.Z) (.slice a.N v.C.length a.O) (.slice a.x v.A.length a.kc) (.slice a.Q v.ps.length a.W) (.slice a.P v.ls.length a.X) (.slice a.i v.D.length a.qc) (.slice a.g v.ms.length a.y))) I).2.2.1
 have zF:Hid (Aa z (w.heap.size+1) (Bx vN Zc Zc Zc Zc Zc Zc Zc)):=(Bq (l:=(Bx v (.slice a.R v.ss.length a.Z) (.slice a.N v.C.length a.O) (.slice a.x v.A.length a.kc) (.slice a.Q v.ps.length a.W) (.slice a.P v.ls.length a.X) (.slice a.i v.D.length a.qc) (.slice a.g v.ms.length a.y))) (k:=(Bx vN Zc Zc Zc Zc Zc Zc Zc)) I).2.2.2.1
 have Z:Hid (Aa z (w.heap.size+1+1) (Bx (vZ v) Zc Zc Zc Zc Zc Zc Zc)):=(Bq (l:=(Bx v (.slice a.R v.ss.length a.Z) (.slice a.N v.C.length a.O) (.slice a.x v.A.length a.kc) (.slice a.Q v.ps.length a.W) (.slice a.P v.ls.length a.X) (.slice a.i v.D.length a.qc) (.slice a.g v.ms.length a.y))) (k:=(Bx vN Zc Zc Zc Zc Zc Zc Zc)) (m:=(Bx (vZ v) Zc Zc Zc Zc Zc Zc Zc)) I).2.2.2.2
 have HR:Hid (∀X,Zz w X->Ca X X.heap.size a v):=fun X hX=>hr.j hX;have zR:=Yx I;clear I hr;go_enter func6,ntmps6;go_wp2_with fail;rw[<-zR.o];clear zR;refine(UH a.R a.N a.Z a.O v.ss v.C z (HR.o z E.o).s (HR.o z E.o).t hf.s hf.t).mono ?_;rintro e w1 ⟨g,k,rfl,_,zV,zY,O,D⟩;have z1:=D.size
 obtain⟨A,Q⟩:∃X,X=((w1.setCell (Ze (w.heap.size+1+1) 2) (Za g v.ss.length v.ss.length)).setCell (Ze (w.heap.size+1+1) 3) (Za k v.C.length v.C.length)):=⟨_,rfl⟩;have t1:Tn [w.heap.size+1+1] w1 A:=by rw[Q];exact(Tn.set _ _ _ _ Yv).trans (Tn.set _ _ _ _ Yv)
 have xD:A.heap.size=w1.heap.size:=by rw[Q];simp
 have r:=Yx (Aa.same (Aa.below zE.o D) (t1.block _ Yw Yo));have zG:=Yx (Aa.same (Aa.below zF.o D) (t1.block _ Yw Yo));have s:Hid (Aa A (w.heap.size+1+1) (Bx (vZ v) (Za g v.ss.length v.ss.length) (Za k v.C.length v.C.length) Zc Zc Zc Zc Zc)):=by have K:=Aa.below Z.o D;show Aa A (w.heap.size+1+1) (Bx (vZ v) (Za g v.ss.length v.ss.length) (Za k v.C.length v.C.length) Zc Zc Zc Zc Zc);rw[Q];exact((K.set 2 _).set 3 _)
 have N:Hid (Zz w A):=(E.o.trans (D.mono E.o.size)).trans (t1.below Yw Yo);have zJ:Hid (A.ownsRow z.heap.size 9 1 (Za g v.ss.length v.ss.length) v.ss.length (v.ss.map Value.string)):=Dh zY t1 Yu;have zN:Hid (A.ownsRow z.heap.size 9 1 (Za k v.C.length v.C.length) v.C.length (v.C.map Value.string)):=Dh O t1 Yu
 have HN:Hid (g<k/\k<w1.heap.size):=⟨zV,(Ac O (g:=k) rfl).2⟩;clear zY O zV;obtain⟨e2,f2⟩:=Aa.below Z.o D 2 _ rfl;obtain⟨e3,f3⟩:=Aa.below Z.o D 3 _ rfl;have zS:=Yx Q;clear Q;go_upto_region 5 with fail;rw[<-zS.o];clear zS e2 f2 e3 f3 D t1 zE zF Z;obtain⟨y4,_⟩:=r.o 4 _ rfl;obtain⟨y5,_⟩:=r.o 5 _ rfl;obtain⟨y6,_⟩:=r.o 6 _ rfl;obtain⟨y7,_⟩:=r.o 7 _ rfl;obtain⟨y8,_⟩:=r.o 8 _ rfl;obtain⟨y9,_⟩:=r.o 9 _ rfl
 obtain⟨yW,_⟩:=r.o 10 _ rfl;go_wp2_with fail;refine(QI v.T v.F v.G v.E a.x a.Q a.P a.kc a.W a.X v.A v.ps v.ls A (HR.o A N.o).st hf.st).mono ?_;rintro e V ⟨h,i,j,H,rfl,zB,zZ,d⟩;have z2:=d.size
 obtain⟨t,R⟩:∃X,X=(((((((V.setCell (Ze (w.heap.size+1+1) 4) (Zg v.T)).setCell (Ze (w.heap.size+1+1) 5) (Zg v.F)).setCell (Ze (w.heap.size+1+1) 6) (Zg v.G)).setCell (Ze (w.heap.size+1+1) 7) (Zg v.E)).setCell (Ze (w.heap.size+1+1) 8) (Za h v.A.length v.A.length)).setCell (Ze (w.heap.size+1+1) 9) (Za i v.ps.length v.ps.length)).setCell (Ze (w.heap.size+1+1) 10) (Za j v.ls.length v.ls.length)):=⟨_,rfl⟩
 have U:Tn [w.heap.size+1+1] V t:=by rw[R];exact((((((Tn.set _ _ _ _ Yv).trans (Tn.set _ _ _ _ Yv)).trans (Tn.set _ _ _ _ Yv)).trans (Tn.set _ _ _ _ Yv)).trans (Tn.set _ _ _ _ Yv)).trans (Tn.set _ _ _ _ Yv)).trans (Tn.set _ _ _ _ Yv)
 have xF:t.heap.size=V.heap.size:=by rw[R];simp
 have B:=Yx (Aa.same (Aa.below r.o d) (U.block _ Yw Yo));have zH:=Yx (Aa.same (Aa.below zG.o d) (U.block _ Yw Yo));have C:Hid (Aa t (w.heap.size+1+1) (Bx (vY v) (Za g v.ss.length v.ss.length) (Za k v.C.length v.C.length) (Za h v.A.length v.A.length) (Za i v.ps.length v.ps.length) (Za j v.ls.length v.ls.length) Zc Zc)):=by
  have K:=Aa.below s.o d;show Aa t (w.heap.size+1+1) (Bx (vY v) (Za g v.ss.length v.ss.length) (Za k v.C.length v.C.length) (Za h v.A.length v.A.length) (Za i v.ps.length v.ps.length) (Za j v.ls.length v.ls.length) Zc Zc);rw[R];exact(((((((K.set 4 _).set 5 _).set 6 _).set 7 _).set 8 _).set 9 _).set 10 _)
 have F:Hid (Zz w t):=(N.o.trans (d.mono N.o.size)).trans (U.below Yw Yo);have zK:Hid (t.ownsRow z.heap.size 9 1 (Za g v.ss.length v.ss.length) v.ss.length (v.ss.map Value.string)):=Dh (Ae zJ.o d) U Yu;have zO:Hid (t.ownsRow z.heap.size 9 1 (Za k v.C.length v.C.length) v.C.length (v.C.map Value.string)):=Dh (Ae zN.o d) U Yu
 have zM:Hid (Bf t A.heap.size (Za h v.A.length v.A.length) (Za i v.ps.length v.ps.length) (Za j v.ls.length v.ls.length) H v.A v.ps v.ls):=zB.Y U Yu;have yC:Hid (∀b∈Bj (Za h v.A.length v.A.length) (Za i v.ps.length v.ps.length) (Za j v.ls.length v.ls.length) H,b<V.heap.size):=zB.cf;have yE:=Yx zZ;clear zB zZ zJ zN y4 y5 y6 y7 y8 y9 yW;obtain⟨e4,f4⟩:=Aa.below s.o d 4 _ rfl
 obtain⟨e5,f5⟩:=Aa.below s.o d 5 _ rfl;obtain⟨e6,f6⟩:=Aa.below s.o d 6 _ rfl;obtain⟨e7,f7⟩:=Aa.below s.o d 7 _ rfl;obtain⟨e8,f8⟩:=Aa.below s.o d 8 _ rfl;obtain⟨e9,f9⟩:=Aa.below s.o d 9 _ rfl;obtain⟨yH,yO⟩:=Aa.below s.o d 10 _ rfl;have zT:=Yx R;clear R;go_upto_region 6 with fail;rw[<-zT.o];clear zT e4 f4 e5 f5 e6 f6 e7 f7 e8 f8 e9 f9 yH yO d U r zG s;obtain⟨yX,_⟩:=B.o 11 _ rfl
 obtain⟨yY,_⟩:=B.o 12 _ rfl;obtain⟨yZ,_⟩:=B.o 13 _ rfl;obtain⟨xA,_⟩:=B.o 14 _ rfl;obtain⟨xB,_⟩:=B.o 15 _ rfl;obtain⟨xC,_⟩:=B.o 16 _ rfl;go_wp2_with fail;refine(Qy v.H v.K v.J v.ro a.i a.g a.qc a.y v.D v.ms t (HR.o t F.o).q (HR.o t F.o).m hf.r).mono ?_;rintro e w3 ⟨o,p,rfl,_,zW,zC,P,f⟩;have z3:=f.size
 obtain⟨u,S⟩:∃X,X=((((((w3.setCell (Ze (w.heap.size+1+1) 11) (Zg v.H)).setCell (Ze (w.heap.size+1+1) 12) (Za o v.D.length v.D.length)).setCell (Ze (w.heap.size+1+1) 13) (Za p v.ms.length v.ms.length)).setCell (Ze (w.heap.size+1+1) 14) (Zg v.K)).setCell (Ze (w.heap.size+1+1) 15) (Zg v.J)).setCell (Ze (w.heap.size+1+1) 16) (Zg v.ro)):=⟨_,rfl⟩
 have L:Tn [w.heap.size+1+1] w3 u:=by rw[S];exact(((((Tn.set _ _ _ _ Yv).trans (Tn.set _ _ _ _ Yv)).trans (Tn.set _ _ _ _ Yv)).trans (Tn.set _ _ _ _ Yv)).trans (Tn.set _ _ _ _ Yv)).trans (Tn.set _ _ _ _ Yv)
 have xG:u.heap.size=w3.heap.size:=by rw[S];simp
 have yA:=Yx (Aa.same (Aa.below B.o f) (L.block _ Yw Yo));have zA:=Yx (Aa.same (Aa.below zH.o f) (L.block _ Yw Yo))
 have zI:Hid (Aa u (w.heap.size+1+1) (Bx v (Za g v.ss.length v.ss.length) (Za k v.C.length v.C.length) (Za h v.A.length v.A.length) (Za i v.ps.length v.ps.length) (Za j v.ls.length v.ls.length) (Za o v.D.length v.D.length) (Za p v.ms.length v.ms.length))):=by
  have K:=Aa.below C.o f;show Aa u (w.heap.size+1+1) (Bx v (Za g v.ss.length v.ss.length) (Za k v.C.length v.C.length) (Za h v.A.length v.A.length) (Za i v.ps.length v.ps.length) (Za j v.ls.length v.ls.length) (Za o v.D.length v.D.length) (Za p v.ms.length v.ms.length));rw[S];exact((((((K.set 11 _).set 12 _).set 13 _).set 14 _).set 15 _).set 16 _)
 have Y:Hid (Zz w u):=(F.o.trans (f.mono F.o.size)).trans (L.below Yw Yo);have M:AU u z.heap.size (Za g v.ss.length v.ss.length) (Za k v.C.length v.C.length) (Za h v.A.length v.A.length) (Za i v.ps.length v.ps.length) (Za j v.ls.length v.ls.length) (Za o v.D.length v.D.length) (Za p v.ms.length v.ms.length) H v:=
  (AU.of (n1:=w1.heap.size) (n2:=V.heap.size) (Aj.own (Dh (Ae zK.o f) L Yu)) (Aj.own (Dh (Ae zO.o f) L Yu)) (fun b K h2=>by cases K;cases h2;exact absurd HN.o.1 (Nat.lt_irrefl _)) (fun b y=>by have hN:=HN.o;rcases y with y|y<;>cases y;exact Nat.lt_trans hN.1 hN.2;exact hN.2) (xD▸(zM.o.below f).Y L Yu) Yw yC.o (Aj.own ((Dh zC L Yu).mono Yw)) (Aj.own ((Dh P L Yu).mono Yw)) (fun b y=>by have q1:=(Ac zC (g:=o) rfl).1;have q2:=(Ac P (g:=p) rfl).1;rcases y with y|y<;>cases y;(show V.heap.size<=o;omega);(show V.heap.size<=p;omega)) Yw (fun b K h2=>by cases K;cases h2;exact absurd zW (Nat.lt_irrefl _)))
 have zP:Hid (AU u w.heap.size (Za g v.ss.length v.ss.length) (Za k v.C.length v.C.length) (Za h v.A.length v.A.length) (Za i v.ps.length v.ps.length) (Za j v.ls.length v.ls.length) (Za o v.D.length v.D.length) (Za p v.ms.length v.ms.length) H v):=M.mono Yw
 have yD:Hid (∀b∈CC (Za g v.ss.length v.ss.length) (Za k v.C.length v.C.length) (Za h v.A.length v.A.length) (Za i v.ps.length v.ps.length) (Za j v.ls.length v.ls.length) (Za o v.D.length v.D.length) (Za p v.ms.length v.ms.length) H,w.heap.size+1<b):=fun b y=>by have:=M.lo b y;omega
 clear M zC P zW zK zO zM yX yY yZ xA xB xC;obtain⟨yI,yP⟩:=Aa.below C.o f 11 _ rfl;obtain⟨yJ,yQ⟩:=Aa.below C.o f 12 _ rfl;obtain⟨yK,yR⟩:=Aa.below C.o f 13 _ rfl;obtain⟨yL,yS⟩:=Aa.below C.o f 14 _ rfl;obtain⟨yM,yT⟩:=Aa.below C.o f 15 _ rfl;obtain⟨yN,yU⟩:=Aa.below C.o f 16 _ rfl;have zU:=Yx S;clear S;go_upto_region 7 with fail;rw[<-zU.o];clear zU yI yP yJ yQ yK yR yL yS yM yT yN yU f L B zH C
 obtain⟨W4,T⟩:∃X,X=u.setCells (w.heap.size+1) 0 (Bx v (Za g v.ss.length v.ss.length) (Za k v.C.length v.C.length) (Za h v.A.length v.A.length) (Za i v.ps.length v.ps.length) (Za j v.ls.length v.ls.length) (Za o v.D.length v.D.length) (Za p v.ms.length v.ms.length)).toArray.toList:=⟨_,rfl⟩;have t4:Tn [w.heap.size+1] u W4:=by rw[T];exact Df _ _ _ _
 have x4:Aa W4 (w.heap.size+1) (Bx v (Za g v.ss.length v.ss.length) (Za k v.C.length v.C.length) (Za h v.A.length v.A.length) (Za i v.ps.length v.ps.length) (Za j v.ls.length v.ls.length) (Za o v.D.length v.D.length) (Za p v.ms.length v.ms.length)):=by rw[T];exact zA.o.ck _ rfl
 have HV:Hid (AU W4 w.heap.size (Za g v.ss.length v.ss.length) (Za k v.C.length v.C.length) (Za h v.A.length v.A.length) (Za i v.ps.length v.ps.length) (Za j v.ls.length v.ls.length) (Za o v.D.length v.D.length) (Za p v.ms.length v.ms.length) H v):=zP.o.stays t4 (fun b y yV=>by have:=yD.o b yV;simp at y;omega);have yB:Hid (Zz w W4):=Y.o.trans (t4.below Y.o.size Yv)
 obtain⟨G,J⟩:∃G,G=(Bx v (Za g v.ss.length v.ss.length) (Za k v.C.length v.C.length) (Za h v.A.length v.A.length) (Za i v.ps.length v.ps.length) (Za j v.ls.length v.ls.length) (Za o v.D.length v.D.length) (Za p v.ms.length v.ms.length)):=⟨_,rfl⟩;have zX:G.toArray.size=17:=by rw[J];rfl
 have HI:Hid (u.there (w.heap.size+1) 0 G.toArray.size/\∀x∈G,x.oneCell'=true):=⟨by rw[zX];exact zA.o.there,by rw[J];simp[Bx,Value.oneCell']⟩;have HL:Hid (G.length=17):=by show G.length=17;rw[J];rfl
 have HC:Hid (Aa u (w.heap.size+1+1) G):=J▸zI.o;rw[<-J]at x4 T;have yG:=Yx x4;have yF:=Yx T;have HE:=Yx J;clear zX J x4 T t4 zI zA yA zP;go_wp2_with (first
  |refine wpList_load_mid rfl 43 _ rfl (w.heap.size+1+1) 0 rfl G _ HC.o.range underlying43 rfl (by rw[HL.o];kernel_rfl) ?_
  |refine wpList_store_mid rfl 43 _ _ rfl (w.heap.size+1) 0 G.toArray rfl rfl HI.o.1 (by rw[List.size_toArray,HL.o];kernel_rfl) (all_oneCell_toArray HI.o.2) ?_)
 rw[<-yF.o];refine bodyPost_ret (Ce results6 _ _ (w.heap.size+1) G _ rfl (Aa.range yG.o) underlying43 rfl (by rw[HL.o];kernel_rfl)) rfl ?_;exact⟨g,k,h,i,j,o,p,by rw[HE.o],H,HV.o,yE.o,yB.o⟩
def Fu(w:Zh)(base:Nat)(a:Zk)(ss:Zl):Prop:=
 ss=[]\/∃b off,a=some ⟨b,off,none⟩/\base<=b/\b<w.heap.size/\∀i s,ss[i]?=some s->w.cell? (Ze b (off+i))=some (.string s)/\w.frozen? ⟨b,off+i,none⟩=false
def Abg(a:Zk):Option Nat:=a.map (·.block)
theorem Fu.row(h:Fu w c a d):Ad w w.heap.size a d:=by
 rcases h with h|⟨b,e,rfl,k,f,g⟩
 .exact .inl h
 .exact .inr ⟨b,e,rfl,f,fun i s j=>(g i s j).1⟩
theorem Fu.stays{g:Zh}{l:Zl}(h:Fu w c a l)(n:w.heap.size<=g.heap.size)(f:∀b,Abg a=some b->c<=b->b<w.heap.size->g.heap[b]?=w.heap[b]?):Fu g c a l:=by
 rcases h with h|⟨b,d,rfl,j,m,k⟩
 .exact .inl h
 .have e:=f b rfl j m;exact .inr ⟨b,d,rfl,j,Yw,fun i s f=>⟨(World.cell?_of_block (a:=⟨b,d+i,none⟩) e).trans (k i s f).1,(World.frozen?_of_block (a:=⟨b,d+i,none⟩) e).trans (k i s f).2⟩⟩
theorem Fu.below{e:Zh}(h:Fu w base a d)(c:Zz w e):Fu e base a d:=
 h.stays c.size (fun b _ _ f=>c.block b f)
theorem Fu.mono(h:Fu w base a d)(j:c<=base):Fu w c a d:=by
 rcases h with h|⟨b,e,rfl,i,f,g⟩
 .exact .inl h
 .exact .inr ⟨b,e,rfl,Yw,f,g⟩
theorem Fu.set{a:Nat}(h:Fu w a (some ⟨g,c,none⟩) f){j:Nat}(k:j<f.length)(t:Zi):Fu (w.setCell (Ze g (c+j)) (.string t)) a (some ⟨g,c,none⟩) (f.set j t):=by
 rcases h with h|⟨b,n,e,o,p,l⟩
 .rw[h]at k;simp at k
 .cases e;refine .inr ⟨g,c,rfl,o,by simpa using p,fun i s d=> ?_⟩;have q:i<f.length:=by have:=(Zw d).1;rw[List.length_set]at this;exact this
  have m:=l i _ (Zv q);refine⟨?_,by simpa using m.2⟩;by_cases hij:i=j
  .subst hij;rw[List.getElem?_set_self k]at d;cases d;exact World.cell?_setCell_same' _ _ _ (by rw[m.1];rfl)
  .rw[List.getElem?_set_ne (fun e=>hij e.symm)]at d;exact(World.cell?_setCell_other w _ _ _ Yo).trans (l i s d).1
def GL(g k g3 q3 r3 g5 k5:Nat)(v:Vd):Va:=⟨some ⟨g,0,none⟩,v.ss.length,some ⟨k,0,none⟩,v.C.length,some ⟨g3,0,none⟩,v.A.length,some ⟨q3,0,none⟩,v.ps.length,some ⟨r3,0,none⟩,v.ls.length,some ⟨g5,0,none⟩,v.D.length,some ⟨k5,0,none⟩,v.ms.length⟩
def XL(v:Vd)(L:Nat)(X:Zh)(cs:Zj):Prop:=
 ∃g k g3 q3 r3 g5 k5,cs=[Zg v.wd,Zg v.U,.slice (some ⟨g,0,none⟩) v.ss.length v.ss.length,.slice (some ⟨k,0,none⟩) v.C.length v.C.length,Zg v.T,Zg v.F,Zg v.G,Zg v.E,.slice (some ⟨g3,0,none⟩) v.A.length v.A.length,.slice (some ⟨q3,0,none⟩) v.ps.length v.ps.length,.slice (some ⟨r3,0,none⟩) v.ls.length v.ls.length,Zg v.H,.slice (some ⟨g5,0,none⟩) v.D.length v.D.length,.slice (some ⟨k5,0,none⟩) v.ms.length v.ms.length,Zg v.K,Zg v.J,Zg v.ro]/\Ca X L (GL g k g3 q3 r3 g5 k5 v) v/\Fk X ⟨g3,0,none⟩ v.A
def Rj(v:Vd)(lo N:Nat)(X:Zh)(cs:Zj):Prop:=
 (N<=X.heap.size/\lo<=X.heap.size)/\∃g k g3 q3 r3 g5 k5 rs,cs=Bx v (.slice (some ⟨g,0,none⟩) v.ss.length v.ss.length) (.slice (some ⟨k,0,none⟩) v.C.length v.C.length) (.slice (some ⟨g3,0,none⟩) v.A.length v.A.length) (.slice (some ⟨q3,0,none⟩) v.ps.length v.ps.length) (.slice (some ⟨r3,0,none⟩) v.ls.length v.ls.length) (.slice (some ⟨g5,0,none⟩) v.D.length v.D.length) (.slice (some ⟨k5,0,none⟩) v.ms.length v.ms.length)/\AU X lo (.slice (some ⟨g,0,none⟩) v.ss.length v.ss.length) (.slice (some ⟨k,0,none⟩) v.C.length v.C.length) (.slice (some ⟨g3,0,none⟩) v.A.length v.A.length) (.slice (some ⟨q3,0,none⟩) v.ps.length v.ps.length) (.slice (some ⟨r3,0,none⟩) v.ls.length v.ls.length) (.slice (some ⟨g5,0,none⟩) v.D.length v.D.length) (.slice (some ⟨k5,0,none⟩) v.ms.length v.ms.length) rs v/\(∀b∈CC (.slice (some ⟨g,0,none⟩) v.ss.length v.ss.length) (.slice (some ⟨k,0,none⟩) v.C.length v.C.length) (.slice (some ⟨g3,0,none⟩) v.A.length v.A.length) (.slice (some ⟨q3,0,none⟩) v.ps.length v.ps.length) (.slice (some ⟨r3,0,none⟩) v.ls.length v.ls.length) (.slice (some ⟨g5,0,none⟩) v.D.length v.D.length) (.slice (some ⟨k5,0,none⟩) v.ms.length v.ms.length) rs,b<N)/\∀x∈rs,∃q n c,x=.slice (some ⟨q,0,none⟩) n c
theorem Bf.ksome{X:Zh}{lo g c:Nat}{P L:Value}{b:Zj}{f:List Kd}{z:List Pd}{y:List Ld}(h:Bf X lo (.slice (some ⟨g,0,none⟩) f.length c) P L b f z y)(u:∀x∈b,∃q n c,x=.slice (some ⟨q,0,none⟩) n c):Fk X ⟨g,0,none⟩ f:=fun i k j=>by
 have t:=(Zw j).1;have m:i<b.length:=by rw[h.len];exact t
 have o:=Zv m;obtain⟨q,n,d,e⟩:=u _ (List.getElem_mem m);have p:=(h.B i k _ j o);obtain⟨a,A,l⟩:=As p;have v:(f.zip b)[i]?=some (k,b[i]):=List.getElem?_zip_eq_some.2 ⟨j,o⟩;have r:=Br Et v (show 3<4 by decide);have s:=h.aj.cellAt (i *4+3) Yw;rw[e]at l;injection l with e1 e2 e3;refine⟨⟨q,0,none⟩,d,?_⟩;rw[Nat.zero_add,s,r,<-e2,<-e];rfl
theorem Rj.ig(h:Rj v lo N X e):XL v X.heap.size X e:=by obtain⟨_,g,k,f,n,o,i,m,t,rfl,a,_,j⟩:=h;obtain⟨u,x,r,s,p,q,b,c,d,l⟩:=a.st.rows;injection b with b;injection c with c;injection d with d;subst b c d;exact⟨g,k,f,n,o,i,m,rfl,⟨a.s.ig,a.u.ig,l,a.q.ig,a.m.ig⟩,a.st.ksome j⟩
theorem Acr(v:Vd)(u:Dl v):JT 17 1000 9 10 (XL v) (Rj v) (fun _ _ _ _ _=>True):=by
 refine⟨?_,?_,?_,?_,?_,?_,?_,?_⟩
 .rintro X l O ⟨g,k,c,i,j,d,f,rfl,a,_⟩ ⟨E,I,x,C,D,y,B,rfl,b,_⟩;have h:=KC v (GL g k c i j d f v) (GL E I x C D y B v) X a b u;simp only[GL]at h;exact h
 .rintro lo N X l n ⟨m,g,k,c,i,j,d,f,r,rfl,a,b,_⟩ z J;have P:=u.gq;refine(Jh v lo n _ _ _ _ _ _ _ r X a z Yw).mono ?_;rintro e o ⟨rfl,_,s⟩;exact⟨⟨n+Ct v,rfl,Yw,Yw,trivial⟩,s.below m.2 a.lo,fun q Q A=>s.block q A (fun e=>by have:=b q e;omega)⟩
 .rintro L X o l ⟨g,k,c,i,j,d,f,rfl,a,b⟩ t;exact⟨g,k,c,i,j,d,f,rfl,a.ah t,b.ah a.st.k t⟩
 .rintro L M X l ⟨g,k,c,i,j,d,f,rfl,a,b⟩ G;exact⟨g,k,c,i,j,d,f,rfl,a.mono G,b⟩
 .rintro lo N X o l ⟨m,g,k,c,i,j,d,f,r,rfl,a,b,F⟩ p H;exact⟨⟨Zm m.1 p,Zm m.2 p⟩,g,k,c,i,j,d,f,r,rfl,a.ah b p H,b,F⟩
 .rintro lo N X o l K _ _ _;trivial
 .exact fun lo N X l h=>⟨h.1.1,h.ig⟩
 .rintro L X l ⟨g,k,c,i,j,d,f,rfl,_,_⟩;exact⟨rfl,by simp[Value.oneCell']⟩
theorem UU(v:Vd)(a:Va)(w X:Zh)(o:Ca w w.heap.size a v)(n:Dl v)(m:Zz w X):
 Calls prog 6 #[.agg (Xz v a)] X fun e b=>∃c:Zj,e=.returned (.agg c.toArray)/\XL v b.heap.size b c/\Rj v X.heap.size b.heap.size b c/\Zz X b:=by
 refine(QJ v a X (o.j m) n).mono ?_;rintro e b ⟨g,k,i,q,r,j,p,s,rfl,d,l,f⟩;have h:Rj v X.heap.size b.heap.size b _:=⟨⟨Zx,f.size⟩,g,k,i,q,r,j,p,s,rfl,d,d.cf,l⟩;exact⟨_,rfl,h.ig,h,f⟩
def TOa(t:Zi)(refs ss:Zl)(lo N:Nat)(X:Zh)(cs:Zj):Prop:=
 (N<=X.heap.size/\lo<=X.heap.size)/\ss.length=refs.length/\∃ra rc,cs=[.string t,.slice ra refs.length rc]/\Fu X lo ra ss/\(refs≠[]->∀b,Abg ra=some b->b<N)
theorem TOa.ah{t:Zi}{a j:Zl}{c:Zh}(h:TOa t a j lo N X e)(d:X.heap.size<=c.heap.size)(m:∀q,lo<=q->q<N->c.heap[q]?=X.heap[q]?):TOa t a j lo N c e:=by
 obtain⟨g,i,ra,o,rfl,k,f⟩:=h;refine⟨⟨Zm g.1 d,Zm g.2 d⟩,i,ra,o,rfl,?_,f⟩;by_cases hne:a=[]
 .exact .inl (List.eq_nil_of_length_eq_zero (by rw[i,hne];rfl))
 .exact k.stays d (fun b l n _=>m b n (f hne b l))
structure Sd where
 c:Int
 v:Vd
 n:Int
 L:Zl
structure Mb (d:Sd):Prop where
 v:Dl d.v
 L:d.L.length<=600
def Rk(d:Sd)(L:Nat)(X:Zh)(cs:Zj):Prop:=∃vs a cap,cs=DL d.c vs d.n (.slice a d.L.length cap)/\XJ d.v L X vs/\Ad X L a d.L
def JZ(d:Sd)(u:Vd)(dd:Zl)(lo N:Nat)(X:Zh)(cs:Zj):Prop:=
 (N<=X.heap.size/\lo<=X.heap.size)/\∃S U T P L Q M rs D,cs=DL d.c (Bx d.v S U T P L Q M) d.n D/\AU X lo S U T P L Q M rs u/\Aj X lo D dd/\(∀g∈CC S U T P L Q M rs,g<N)/\∀g,Af D=some g->g<N/\g∉CC S U T P L Q M rs
def UW(d:Sd)(lo N:Nat)(X:Zh)(cs:Zj)(K:Nat):Prop:=K=1+Ct d.v+d.L.length/\JZ d (EV 1 d.v) (marks (1+Ct d.v) d.L.length) lo N X cs
theorem JZ.ah{d:Sd}{u:Vd}{b:Zh}{c:Zj}(h:JZ d u f lo N X c)(a:X.heap.size<=b.heap.size)(m:∀q,lo<=q->q<N->b.heap[q]?=X.heap[q]?):JZ d u f lo N b c:=by obtain⟨l,S,U,T,P,L,Q,M,o,D,rfl,n,i,j,k⟩:=h;exact⟨⟨Zm l.1 a,Zm l.2 a⟩,S,U,T,P,L,Q,M,o,D,rfl,n.ah j a m,i.stays a (fun g e=>m g (i.S e).1 (k g e).1),j,k⟩
theorem JZ.ra{d:Sd}(h:JZ d d.v d.L lo N X b):Rk d X.heap.size X b:=by obtain⟨j,S,U,T,P,L,Q,M,k,D,rfl,c,e,g,i⟩:=h;obtain⟨a,cap,rfl,f⟩:=e.row;exact⟨_,a,cap,rfl,c.io,f⟩
theorem GC{b:Nat}{c n:Int}{D:Value}{a:Zj}(h:Aa X b (DL c a n D))(d:a.length=17):X.cell? (Ze b 0)=some (Zg c)/\X.cell? (Ze b 18)=some (Zg n)/\X.cell? (Ze b 19)=some D/\X.rangeAt b 1 a:=by
 have e:∀j u,[Value.int .i64 n,D][j]?=some u->X.cell? (Ze b (18+j))=some u:=fun j u hu=>(h (18+j) u (by
  unfold DL;rw[show 18+j=(17+j)+1 by omega,List.getElem?_cons_succ,List.getElem?_append_right Yw,d,show 17+j -17=j by omega];exact hu)).1
 exact⟨(h 0 _ rfl).1,e 0 _ rfl,e 1 _ rfl,Aa.gy [Zg c] a _ h⟩
theorem Adk(d:Sd)(J:Mb d)(X:Zh)(H I:Zj)(k:Rk d X.heap.size X H)(l:Rk d X.heap.size X I):Calls prog 8 #[.agg H.toArray,.agg I.toArray] X fun e O=>e=.returned (.bool true)/\Zz X O:=by
 obtain⟨g,a,i,rfl,k,K⟩:=k;obtain⟨f,b,j,rfl,l,L⟩:=l;have h:=Ack d.v J.v;have s:=(h.gd _ _ _ k).1;have t:=(h.gd _ _ _ l).1;obtain⟨W,m⟩:∃W,W=(X.alloc (.cells (DL d.c g d.n (.slice a d.L.length i)).toArray 45)).alloc (.cells (DL d.c f d.n (.slice b d.L.length j)).toArray 45):=⟨_,rfl⟩;have c:=(Bo m).1;have y:=(Bo m).2.2.1;have z:=(Bo m).2.2.2;obtain⟨U,_,_,E⟩:=GC y s;obtain⟨b0,_,_,F⟩:=GC z t
 have u:Hid (g.length=17/\f.length=17):=⟨s,t⟩;have C:Hid (∀Y,Zz W Y->(Y.cell? (Ze (X.heap.size) 18)=some (Zg d.n)/\Y.cell? (Ze (X.heap.size) 19)=some (.slice a d.L.length i))/\(Y.cell? (Ze (X.heap.size+1) 18)=some (Zg d.n)/\Y.cell? (Ze (X.heap.size+1) 19)=some (.slice b d.L.length j))):=fun Y r=>by obtain⟨_,P,Q,_⟩:=GC (Aa.below (v:=Zg d.c) y r) s;obtain⟨_,R,S,_⟩:=GC (Aa.below (v:=Zg d.c) z r) t;exact⟨⟨P,Q⟩,R,S⟩
 have x:=Yx (Zb E F);have B:=Yx (h.eq W g f (h.dt _ _ _ _ (h.dz _ _ _ _ k c) c.size) (h.dt _ _ _ _ (h.dz _ _ _ _ l c) c.size));have A:=Yx c;have HS:Hid (∀Y,Zz W Y->Calls prog 26 #[.slice a d.L.length i,.slice b d.L.length j] Y fun e T=>e=.returned (.bool true)/\∃n,T=Y.drewN n):=fun Y r=>by have G:Below X.heap.size X Y:=c.trans (r.mono c.size);exact GX a b i j d.L Y _ _ (K.below G) (L.below G) (by have:=J.L;omega)
 have D:=Yx m;generalize DL d.c g d.n (.slice a d.L.length i)=p at *
 generalize DL d.c f d.n (.slice b d.L.length j)=q at *
 clear m y z k l h s t c E F K L;go_enter func8,ntmps8;go_upto_region 1 with fail;rw[<-D.o];clear D;go_wp2_with (first
  |refine wpList_load_mid rfl 43 _ rfl X.heap.size 1 rfl g _ x.o.1 underlying43 rfl (by rw[u.o.1];kernel_rfl) ?_
  |refine wpList_load_mid rfl 43 _ rfl (X.heap.size+1) 1 rfl f _ x.o.2 underlying43 rfl (by rw[u.o.2];kernel_rfl) ?_)
 refine Calls.mono B.o ?_;rintro e M ⟨rfl,o⟩;obtain⟨⟨V,Z⟩,b1,b2⟩:=C.o M o;have N:=HS.o M o;clear C B x u HS;go_wp2_with fail;refine Calls.mono N ?_;rintro e w2 ⟨rfl,n,rfl⟩;go_wp2;go_ret;exact⟨rfl,(A.o.trans (o.mono A.o.size)).trans ⟨rfl,rfl,rfl,Zx,fun _ _=>rfl⟩⟩
theorem Abi(d:Sd)(hf:Mb d)(lo N:Nat)(X:Zh)(C:Zj)(h:JZ d d.v d.L lo N X C):Calls prog 11 #[.agg C.toArray,Zg 1] X fun e B=>(∃K:Nat,e=.returned (Zg K)/\1<=K/\K<=90000000/\UW d lo N B C K)/\Below lo X B/\∀q,N<=q->q<X.heap.size->B.heap[q]?=X.heap[q]?:=by
 obtain⟨hN,S,U,T,P,L,Q,M,f,D,rfl,E,F,r,l⟩:=h;have hc:=hf.v.gq;have hd:=hf.L;obtain⟨a,i⟩:∃a,a=Bx d.v S U T P L Q M:=⟨_,rfl⟩;have u:a.length=17:=by rw[i];rfl
 rw[<-i];obtain⟨W,m⟩:∃W,W=X.alloc (.cells (DL d.c a d.n D).toArray 45):=⟨_,rfl⟩;have k:=(AA m).1;have zW:=(AA m).2.1;have H:=(AA m).2.2;have hE:Calls prog 10 #[.agg a.toArray,Zg (1:Nat)] W fun e w'=>e=.returned (Zg (1+Ct d.v:Nat))/\AU w' lo S U T P L Q M f (EV 1 d.v)/\Tn (CC S U T P L Q M f) W w':=by rw[i];exact Jh d.v lo 1 S U T P L Q M f W (E.below k) Yw Yw
 have y:=Yx hE;have A:Hid (W.rangeAt X.heap.size 1 a/\a.length=17):=⟨(GC H u).2.2.2,u⟩;have R:Hid (∀Y,Tn (CC S U T P L Q M f) W Y->Y.cell? (Ze (X.heap.size) 19)=some D/\Aj Y lo D d.L):=fun Y hY=>by have n:Y.heap[X.heap.size]?=W.heap[X.heap.size]?:=hY.block _ Yw (fun e=>by have:=r _ e;omega);exact⟨(GC (Aa.same H n) u).2.2.1,(F.below k).Y hY (fun g e zB=>(l g e).2 zB)⟩
 have z:Hid (∀Z j,AU Z lo S U T P L Q M f (EV 1 d.v)/\Tn (CC S U T P L Q M f) W Z->Aj j lo D (marks (1+Ct d.v) d.L.length)/\Z.grownBy j (Af D)->(∃K:Nat,Ending.returned (Zg ((1+Ct d.v+d.L.length:Nat):Int))=.returned (Zg K)/\1<=K/\K<=90000000/\UW d lo N j (DL d.c a d.n D) K)/\Below lo X j/\∀q,N<=q->q<X.heap.size->j.heap[q]?=X.heap[q]?):=fun Z j t x=>by
  have s:=BV x.2;have z1:=t.2.size;have z2:=s.size;have zA:∀b∈(Af D).toList,b∉CC S U T P L Q M f:=fun b n=>(l b (by simpa using n)).2;refine⟨⟨_,rfl,Yw,Yw,rfl,⟨Yw,Yw⟩,S,U,T,P,L,Q,M,f,D,by rw[i],t.1.stays s zA,x.1,r,l⟩,?_,fun q hq zC=> ?_⟩
  .exact((k.mono hN.2).trans (t.2.below Yw E.lo)).trans (s.below Yw (fun b n=>(F.S (by simpa using n)).1))
  .refine(s.block q Yw (fun e=> ?_)).trans ((t.2.block q Yw (fun e=> ?_)).trans (k.block q zC))
   .have:=(l q (by simpa using e)).1;omega
   .have:=r q e;omega
 have V:=Yx m;have O:=Yx hc;have HD:=Yx hd;obtain⟨c,v⟩:∃c,c=Ct d.v:=⟨_,rfl⟩;rw[<-v]at y z O;clear hE m H E F r l u k zW i hc hd v;generalize DL d.c a d.n D=p at *
 go_enter func11,ntmps11;go_upto_region 1 with fail;rw[<-V.o];clear V;go_wp2_with (refine wpList_load_mid rfl 43 _ rfl X.heap.size 1 rfl a _ A.o.1 underlying43 rfl (by rw[A.o.2];kernel_rfl) ?_);refine Calls.mono y.o ?_;rintro e G ⟨rfl,hA,o⟩;obtain⟨q1,q2⟩:=R.o G o;have J:=Yx (GA lo (1+c) D d.L G q2 Yw (by have:=O.o;have:=HD.o;omega));have I:=Yx (Zn hA o);clear R y A hA o q2;go_wp2_with fail
 refine Calls.mono J.o ?_;rintro e w2 ⟨rfl,k1,k2⟩;have HK:=Yx (z.o G w2 I.o ⟨k1,k2⟩);clear z I k1 k2 J;go_wp2;go_ret;exact HK.o
theorem Abj(d:Sd)(F:Mb d)(lo N:Nat)(X:Zh)(x:Zj)(K:Nat)(h:UW d lo N X x K):Calls prog 12 #[.agg x.toArray,Zg 1] X fun e R=>e=.returned (Zg K)/\Zz X R:=by
 obtain⟨rfl,hN,S,U,T,P,L,Q,M,rs,D,rfl,y,z,V,Z⟩:=h;have C:=F.v.gq;have E:=F.L;obtain⟨a,cap,rfl,G⟩:=z.row;rw[BC];obtain⟨b,f⟩:∃b,b=Bx d.v S U T P L Q M:=⟨_,rfl⟩;have k:b.length=17:=by rw[f];rfl
 rw[<-f];obtain⟨W,j⟩:∃W,W=X.alloc (.cells (DL d.c b d.n (.slice a d.L.length cap)).toArray 45):=⟨_,rfl⟩;have g:=(AA j).1;have s:=(AA j).2.2;have A:Calls prog 34 #[.agg b.toArray,Zg (1:Nat)] W fun e r=>e=.returned (Zg (1+Ct d.v:Nat))/\Zz W r:=by rw[f];exact SI d.v lo 1 S U T P L Q M rs W (y.below g) Yw Yw
 have n:=Yx A;have q:Hid (W.rangeAt X.heap.size 1 b/\b.length=17):=⟨(GC s k).2.2.2,k⟩;have o:Hid (∀Y,Zz W Y->Y.cell? (Ze (X.heap.size) 19)=some (.slice a d.L.length cap)/\Calls prog 35 #[.slice a d.L.length cap,Zg ((1+Ct d.v:Nat):Int)] Y fun e r=>e=.returned (Zg (((1+Ct d.v:Nat):Int)+(d.L.length:Nat)))/\Zz Y r):=fun Y B=>by have u:Below X.heap.size X Y:=g.trans (B.mono g.size);exact⟨(GC (Aa.below (v:=Zg d.c) s B) k).2.2.1,Fv a d.L.length cap (1+Ct d.v) X.heap.size Y (G.below u) u.size Yw Yw⟩
 have t:=Yx j;have m:=Yx g;have O:=Yx C;have HD:=Yx E;obtain⟨c,l⟩:∃c,c=Ct d.v:=⟨_,rfl⟩;rw[<-l]at n o O |-;clear A j s y z V Z k g f C E l G;generalize DL d.c b d.n (.slice a d.L.length cap)=p at *
 go_enter func12,ntmps12;go_upto_region 1 with fail;rw[<-t.o];clear t;go_wp2_with (refine wpList_load_mid rfl 43 _ rfl X.heap.size 1 rfl b _ q.o.1 underlying43 rfl (by rw[q.o.2];kernel_rfl) ?_);refine Calls.mono n.o ?_;rintro e w1 ⟨rfl,i⟩;obtain⟨q1,J⟩:=o.o w1 i;have zA:¬((1:Int)+c<0):=Yw
 clear o n q;go_wp2_with fail;refine Calls.mono J ?_;rintro e w2 ⟨rfl,H⟩;have I:¬((1:Int)+c+d.L.length<0):=Yw
 go_wp2;go_ret;exact⟨Yp,(m.o.trans (i.mono m.o.size)).trans (H.mono (Zm m.o.size i.size))⟩
theorem Acs(d:Sd)(m:Mb d):JT 20 1 8 11 (Rk d) (JZ d d.v d.L) (UW d):=by
 refine⟨fun X b p c e=>Adk d m X b p c e,?_,?_,?_,?_,?_,?_,?_⟩
 .intro lo N X b k h q r;obtain rfl:k=1:=Yw
  exact Abi d m lo N X b h
 .rintro L X j b ⟨o,a,cap,rfl,⟨f,rfl,c⟩,e⟩ l;exact⟨_,a,cap,rfl,⟨f,rfl,c.ah l⟩,e.below l⟩
 .rintro L s X b ⟨o,a,cap,rfl,⟨f,rfl,c⟩,e⟩ n;exact⟨_,a,cap,rfl,⟨f,rfl,c.mono n⟩,e.mono n⟩
 .intro lo N X j b h i g;exact h.ah i g
 .rintro lo N X j b K ⟨rfl,h⟩ i g;exact⟨rfl,h.ah i g⟩
 .intro lo N X b h;exact⟨h.1.1,h.ra⟩
 .rintro L X b ⟨o,a,cap,rfl,⟨f,rfl,c⟩,e⟩;exact⟨rfl,by simp[DL,Bx,Value.oneCell']⟩
def IQ(v:Vd):Option (UR×Nat)->Sd
 |none=>⟨1,v0,0,[]⟩
 |some (u,n)=>⟨0,Bb v u,n,u.L⟩
theorem IP.oa{o:Option (UR×Nat)}{a:Zj}(h:IP v o lo w a)(d:lo<=w.heap.size):JZ (IQ v o) (IQ v o).v (IQ v o).L lo w.heap.size w a:=by
 rcases o with _|⟨u,n⟩
 .exact⟨⟨Zx,d⟩,_,_,_,_,_,_,_,_,Zc,h,AU.nil w lo,Aj.nil w lo,(AU.nil w lo).cf,fun g e=>by cases e⟩
 .obtain⟨S,U,T,P,L,Q,M,i,D,rfl,b,c,f⟩:=h;exact⟨⟨Zx,d⟩,S,U,T,P,L,Q,M,i,D,rfl,b,c,b.cf,fun g e=>⟨(c.S e).2,f g e⟩⟩
theorem ClTo.civ{g a:Int}{f:List Pd}{e:List Ld}{free d:Nat}{u:UR}{o:Option (UR×Nat)}(h:ClTo a f e free d n u o):GK g a f e free u->∀p∈o,GK g a f e free p.1:=by
 induction h with
 |fin n u h=>intro b p c;cases c;exact b
 |old n u h hr=>intro b p c;cases c
 |full n u r h hr ht hd hf=>intro b p c;cases c;exact b
 |long n u r h hr ht hl=>intro b p c;cases c
 |step n u r o h hr ht hq hm hf hs ih=>exact fun b=>ih (b.step ht hr hq hm hf)
theorem WI(a:Int)(s:Zi):(DD a s).size<=5000:=by
 unfold DD;by_cases h:Cn 7 s ⟨#[]⟩ 0 ⟨#[]⟩ [] a=true
 .exact Ed.txt_size (e:=⟨7,s,⟨#[]⟩,0,⟨#[]⟩,[]⟩) h
 .unfold Cr;rw[if_neg h];exact Nat.zero_le _
theorem Ft.fit{b:Int}{o:Option (UR×Nat)}(h:Ft v b o)(c:Dl v):Mb (IQ v o):=by
 rcases o with _|⟨u,n⟩
 .exact⟨Abb,Nat.zero_le _⟩
 .rcases h with⟨_,h⟩|⟨r,e,_,h⟩
  .cases h
  have a:=h.civ (JY e) _ rfl;have i:=a.dl;have g:=a.df;have j:=Wt (fun k f=>(a.ok.B k f).1);have l:=Hz e.log;have m:=a.ql;have p:=a.ml;rw[List.length_append]at l g;simp only at i g j m p
  refine⟨⟨c.s,?_,c.ss,?_,⟨by show u.A.length<=_;omega,fun k f=>by have:=(a.ok.B k f).1;omega,c.st.p,c.st.l⟩,⟨by show u.D.length<=_;omega,by show u.ms.length<=_;omega⟩,by show AF u.A<=_;omega⟩,by show u.L.length<=_;omega⟩
  .show(v.C++u.L.map (DD v.wd)).length<=_;rw[List.length_append,List.length_map];omega
  .intro s d;rcases List.mem_append.1 d with d|d
   .exact c.C s d
   .obtain⟨x,_,rfl⟩:=List.mem_map.1 d;have:=WI v.wd x;omega
theorem Acu{k h i d f:Nat}(l:Ca X X.heap.size (GL g k c h i d f v) v)(m:Fk X ⟨c,0,none⟩ v.A)(a:Dl v)(o:FY v):KH X (GL g k c h i d f v) v:=by
 obtain⟨r,j⟩:=o;have b:=JY j;have p:v.A.length<=600:=by have:=b.dl;unfold CR at this;simp at this;omega
 exact⟨l,by simp[GL],by simp[GL],by simp[GL,FT],by simp[GL,FT],fun A e=>by cases e;exact m,by simp[GL],by simp[GL],a.s,a.t,by have:=a.r.q;omega,by have:=a.r.m;omega,p,b.ok.pl,b.ok.ll,fun k n=>(b.ok.B k n).1⟩
theorem Mc(t u:Zi)(a b:Zk)(c d:Nat)(f g:Zl)(w:Zh)(r:Ad w w.heap.size a f)(q:Ad w w.heap.size b g)(hl:f.length<=100000)(zB:g.length<=1048576):
 Calls prog 92 #[.agg #[.string t,.slice a f.length c],.agg #[.string u,.slice b g.length d]] w fun e w'=>Ap (t=u/\f=g) w w' e:=by
 obtain⟨W,s⟩:∃W,W=(w.alloc (.cells #[.string t,.slice a f.length c] 64)).alloc (.cells #[.string u,.slice b g.length d] 64):=⟨_,rfl⟩;have B:=(Bo s).1;have m:=(Bo s).2.2.1;have n:Aa W (w.heap.size+1) [.string u,.slice b g.length d]:=by have C:=Aa.new (w.alloc (.cells #[.string t,.slice a f.length c] 64)) [.string u,.slice b g.length d] 64;rw[World.size_alloc]at C;rw[s];exact C
 have HX:Hid (∀X,Zz W X->Aa X w.heap.size [.string t,.slice a f.length c]/\Aa X (w.heap.size+1) [.string u,.slice b g.length d]/\Ad X w.heap.size a f/\Ad X w.heap.size b g/\Zz w X):=fun X H=>by have v:=B.trans (H.mono B.size);exact⟨Aa.below m H,Aa.below n H,r.below v,q.below v,v⟩
 obtain⟨y0,J⟩:=Aa.c2 m 0 1;obtain⟨z0,K⟩:=Aa.c2 n 0 1;have A:=Yx s;clear s r q m n;by_cases ht:t=u
 .subst ht;have F:(t.toList !=t.toList)=false:=Yv
  by_cases hlen:f.length=g.length
  .have Q:((f.length:Int) !=(g.length:Int))=false:=Yu
   have o:=Yx hlen;clear hlen;go_enter func92,ntmps92;go_upto_region 1 with fail;rw[<-A.o];clear A;go_wp2
   go_loopw [5] (fun i wr=>∃k:Nat,k<=f.length/\i=Zg k/\Hid (f.take k=g.take k/\Zz W wr)) (fun i _=>f.length -(intOf i).toNat)
   case atStart=>exact⟨0,Nat.zero_le _,rfl,⟨Yv,Below.refl _ _⟩⟩
   case round=>
    clear y0 J z0 K;obtain⟨k,hk,rfl,z⟩:=hrel;obtain⟨m,n,r,q,l⟩:=HX.o wr z.o.2;obtain⟨J,_⟩:=m 1 _ rfl;obtain⟨K,_⟩:=n 1 _ rfl;by_cases hlt:k<f.length
    .have j:k<g.length:=by have:=o.o;omega
     obtain⟨rb,ro,ha,T,E⟩:=r.at hlt;obtain⟨qb,qo,v,S,D⟩:=q.at j;subst ha v;have c0:=E k _ (Zv hlt);have d0:=D k _ (Zv j);have zE:=Zr T l.size;have zC:=Zr S l.size;have O:=Yx (Zu hlt);have P:=Yx (Zu j);have HN:Hid (∀x y,f[k]?=some x->g[k]?=some y->x≠y->f≠g):=fun x y C I R e=>by subst e;rw[C]at I;exact R (Option.some.inj I)
     have M:=Yx (Zv hlt);have N:=Yx (Zv j);have zA:(k:Int)<g.length:=Yw
     clear E D;generalize f[k]=x at *
     generalize g[k]=y at *
     have Z:=Yx z.o.2;have L:=Yx l;clear m n r q l;by_cases hxy:x=y
     .subst hxy;have G:(x.toList !=x.toList)=false:=Yv
      go_wp2
      go_region
      all_goals go_wp2
      all_goals exact⟨⟨k+1,Yw,Yp,⟨by rw[O.o,P.o,z.o.1],Z.o.drew⟩⟩,by simp[intOf];omega⟩
     .have G:=Cd hxy;have Y:(x.toList !=y.toList)=true:=by simp[bne,G]
      go_wp2
      go_region
      all_goals go_wp2
      all_goals go_ret
      all_goals exact Ap.no (fun h=>HN.o x y M.o N.o hxy h.2) L.o.drew
    .obtain rfl:k=f.length:=Yw
     have p:=z.o.1;rw[Zt (Zx),Zt (by have:=o.o;omega)]at p;clear m n r q;go_wp2;go_ret;exact Ap.yes ⟨by trivial,p⟩ l
  .have Q:((f.length:Int)==(g.length:Int))=false:=Yu
   have U:((f.length:Int) !=(g.length:Int))=true:=Yu
   go_enter func92,ntmps92;go_upto_region 1 with fail;rw[<-A.o];go_wp2;go_ret;exact Ap.no (fun h=>hlen (by rw[h.2])) B
 .have F:=Cd ht;have V:(t.toList !=u.toList)=true:=by simp[bne,F]
  go_enter func92,ntmps92;go_upto_region 1 with fail;rw[<-A.o];go_wp2;go_ret;exact Ap.no (fun h=>ht h.1) B
end Go.Proofs.YtcankpdbabaacaaGreatDoor
