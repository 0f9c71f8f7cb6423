import Derived.Test.YtfehblndlffcmaaGreatDoorX28
import Derived.Test.YtfehblndlffcmaaGreatDoorX10
import Derived.Test.YtfehblndlffcmaaGreatDoorX15
set_option maxRecDepth 100000
set_option maxHeartbeats 16000000
open Option renaming some->an,none->ba
open Bool renaming false->bq
open Go.RowKit renaming Below->bs
open Go.Obj renaming cells->ca
open Go.Value renaming slice->cr,agg->ct
open Or renaming inl->dp,inr->eb
open List renaming length->eh
open Go.World renaming cell?->ek,frozen?->el,ownsRow->eo
namespace Go.Proofs.YtfehblndlffcmaaGreatDoor
open ChangeShapes WideShapes ChangeAt RowKit _root_.Go.Proofs.Tryz List World Value
variable{e d m g:Int}{c i f l o:Zl}{a x y H:Zk}{b n:Nat}{r:UR}{w:Zh}{k:Da}{P L:Value}{s:Zi}{V:List Nat}
structure Gg (ks:List Kd) (ps:List Pd) (ls:List Ld) (ro:Int) (qs ms:Zl) (r:UR):Prop where
 sub:r.B.Sublist ks
 rr:ro<=r.ro/\r.ro<=ro+1
 dl:eh r.ds+eh r.B<=eh ks
 d1:eh r.ds<=1
 nq:eh ps<=100->eh ls<=200->eh r.H<=eh qs+330
 nm:eh r.ms<=eh ms+1
theorem Gg.begin{e:C9}{d:Db}{c:Da}{a b:Int}:Gg e d c b i f ⟨e,1,a,a+1,b,Dx d c,f,[]⟩:=
 ⟨List.Sublist.refl _,⟨Int.le_refl _,by show b<=b+1;omega⟩,Yu,Yu,λh g=>by have:=Ti h g;show eh (Dx d c)<=_;omega,Yu⟩
theorem Gg.mark{d:C9}{n:Db}{l:Da}{i h b:Int}{g e:Zl}(s:Zi)(f a c:Zl)(k:g=s::f)(o:eh a<=eh f+30)(j:eh c<=eh e+1):Gg d n l b g e ⟨d,m,i,h,b,a,c,[]⟩:=
 ⟨List.Sublist.refl _,⟨Int.le_refl _,by show b<=b+1;omega⟩,Yu,Yu,λ_ _=>by show eh a<=_;rw[k,length_cons];omega,j⟩
theorem Gg.rest{b:C9}{e:Db}{c:Da}{a:Int}{d:Zl}:Gg b e c a f d ⟨b,0,0,0,a+1,[],[],[]⟩:=
 ⟨List.Sublist.refl _,⟨by show a<=a+1;omega,Int.le_refl _⟩,Yu,Yu,λ_ _=>Yu,Yu⟩
theorem Gg.ah{b:C9}{g:Db}{f:Da}{a:Int}{h:Zl}:Gg b g f a h c ⟨b,2,e,d,a,[],c,[]⟩:=
 ⟨List.Sublist.refl _,⟨Int.le_refl _,by show a<=a+1;omega⟩,Yu,Yu,λ_ _=>Yu,Yu⟩
theorem Gg.drop{a:C9}{h:Db}{g:Da}{b:Int}(u:Kd)(f:u∈a):Gg a h g b i c ⟨Dk a u.sum,2,e,d,b,[],c,[u.sum]⟩:=
 ⟨filter_sublist,⟨Int.le_refl _,by show b<=b+1;omega⟩,by
  have:eh (Dk a u.sum)<eh a:=length_filter_lt_length_iff_exists.2 ⟨u,f,Yu⟩;show 1+eh (Dk a u.sum)<=_;omega,Yu,λ_ _=>Yu,Yu⟩
theorem Gg.few{i:Int}{g:C9}{c:Db}{a:Da}{d b:Zl}(h:Gg g c a i d b r)(f:eh c<=100)(e:eh a<=200)(k:eh d<=23200)(j:eh b<=600):eh r.H<=60000/\eh r.ms<=60000:=by have:=h.nq f e;have:=h.nm;omega
structure UWk (births:Int) (ks:List Kd) (ps:List Pd) (ls:List Ld) (ro:Int) (qs:Zl):Prop where
 len:eh ks<=600
 cz:∀k∈ks,eh k.D<=30
 pl:eh ps<=100
 ll:eh ls<=200
 b0:0<=births
 b1:births<=1000000000
 r0:0<=ro
 r1:ro<=1000000000
 ql:eh qs<=1048576
def UR.and(u r:UR):UR:=⟨r.B,r.I,r.N,r.M,r.ro,r.H,r.ms,u.ds++r.ds⟩
structure Mq (births:Int) (ks0:List Kd) (ps:List Pd) (ls:List Ld) (free:Nat) (u:UR):Prop where
 w:UWk births u.B ps ls u.ro u.H
 sub:u.B.Sublist ks0
 ql:eh u.H<=23200
 ml:eh u.ms<=600
 dl:eh u.ds+eh u.B<=600
 df:eh u.ds<=free
theorem Mq.step{a:Int}{d:C9}{f:Db}{e:Da}{free:Nat}{u:UR}(h:Mq a d f e free u)(b:Gg u.B f e u.ro u.H u.ms r)(l:u.ro≠1000000000)(j:eh r.H<=23200)(i:eh r.ms<=600)(c:r.ds=[]\/eh u.ds<free):Mq a d f e free (u.and r):=by
 have hlen:=b.sub.length_le;have:=h.w.r0;have:=h.w.r1;have:=b.rr;have:=h.w.len;have:=b.dl;have:=h.dl;have:=b.d1;have:=h.df;refine⟨⟨by show eh r.B<=_;omega,λk g=>h.w.cz k (b.sub.subset g),h.w.pl,h.w.ll,h.w.b0,h.w.b1,by show 0<=r.ro;omega,by show r.ro<=_;omega,by show eh r.H<=_;omega⟩,b.sub.ag h.sub,j,i,?_,?_⟩
 .show eh (u.ds++r.ds)+eh r.B<=600;rw[Am];omega
 show eh (u.ds++r.ds)<=free;rw[Am];rcases c with c|c
 .rw[c,length_nil];omega
 omega
theorem Gg.some{c:C9}{ps:Db}{d:Da}{e:Zl}(h:Gg c ps d g f e r)(b:r.ds≠[]):∃s,r.ds=[s]:=by
 have a:=h.d1
 match hds:r.ds with
 |[]=>exact absurd hds b
 |[s]=>exact⟨s,rfl⟩
 |_::_::_=>rw[hds]at a;simp at a
theorem r6{a c d e f g:D4}(h:Aa w b [a,c,d,e,f,g]):(ek w (Zd b 0)=an a/\el w ⟨b,0,ba⟩=bq)/\(ek w (Zd b 1)=an c/\el w ⟨b,1,ba⟩=bq)/\(ek w (Zd b 2)=an d/\el w ⟨b,2,ba⟩=bq)/\(ek w (Zd b 3)=an e/\el w ⟨b,3,ba⟩=bq)/\(ek w (Zd b 4)=an f/\el w ⟨b,4,ba⟩=bq)/\(ek w (Zd b 5)=an g/\el w ⟨b,5,ba⟩=bq):=
 ⟨h 0 _ rfl,h 1 _ rfl,h 2 _ rfl,h 3 _ rfl,h 4 _ rfl,h 5 _ rfl⟩
def Dy(a:Zk)(n c:Nat):Prop:=n<=c/\(a=ba->n=0/\c=0)
theorem Ak.cap{base:Nat}{c:Nat}{ss:Zl}(h:Ak w base (C3 a n c) ss):Dy a (eh ss) c:=by
 rcases h with⟨e,rfl⟩|⟨g,d,b,e,_,_,h,_⟩
 .cases e;exact⟨Zx,λ_=>⟨rfl,rfl⟩⟩
 cases e;exact⟨h,λe=>by cases e⟩
def Lt(w:Zh)(a:Zk):Prop:=∀p,a=an p->p.block<w.1.size
theorem Lt.mono{b:Zh}(h:Lt w a)(c:w.1.size<=b.1.size):Lt b a:=λp e=>Zr (h p e) c
abbrev Lt.ai:=@Lt.mono
theorem Lt.no:Lt w ba:=λ_ e=>by cases e
theorem Ak.ji{c:Nat}{d:Zl}(h:Ak w b (C3 a n c) d):Lt w a:=λp e=>(h.bh (g:=p.block) I4).2
def Dn(b:Nat)(x y:Zk)(n:Nat)(a:Zk):Prop:=∀p,a=an p->p.block=b\/(∃q,x=an q/\p.block=q.block)\/(∃q,y=an q/\p.block=q.block)\/n<=p.block
theorem Dn.no:Dn b x y n ba:=λ_ e=>by cases e
theorem Dn.new{g o:Nat}(h:n<=g):Dn b x y n (an ⟨g,o,ba⟩):=λp e=>by cases e;exact eb (eb (eb h))
theorem Dn.own{d:Nat}{k c:Nat}(h:Ak w d (C3 a k c) i)(f:n<=d):Dn b x y n a:=by intro p e;subst e;exact eb (eb (eb (Zm f (h.bh (g:=p.block) rfl).1)))
structure LU (w w':Zh) (e:Ending) (wd now given births:Int) (P L:Value) (ks:List Kd) (ps:List Pd) (ls:List Ld) (ph top at_ ro:Int) (qs ms:Zl) (b0:Nat) (x0 y0:Zk) (zs0:List (Kd×Value)):Prop where
 o:∃(r:UR) (b c:Nat) (zs:List (Kd×Value)) (qa ma da:Zk) (qc mc dc:Nat),e=.returned (ct #[Ze,Zg wd,Zg now,Zg given,Zg births,cr (an ⟨b,0,ba⟩) (eh zs) c,P,L,Zg r.I,cr qa (eh r.H) qc,cr ma (eh r.ms) mc,Zg r.N,Zg r.M,Zg r.ro,cr da (eh r.ds) dc])/\Gg ks ps ls ro qs ms r/\zs.map (·.1)=r.B/\Bs w' b 0 zs/\b<w'.1.size/\Ab w' w'.1.size qa r.H/\Ab w' w'.1.size ma r.ms/\Ab w' w'.1.size da r.ds/\(Dn b0 x0 y0 w.1.size (an ⟨b,0,ba⟩)/\Dn b0 x0 y0 w.1.size qa/\Dn b0 x0 y0 w.1.size ma/\Dn b0 x0 y0 w.1.size da)/\(∀z∈zs,z∈zs0)/\Dy qa (eh r.H) qc/\Dy ma (eh r.ms) mc/\Lt w' qa/\Lt w' ma
 low:bs w.1.size w w'
theorem LU.from{X c:Zh}{e:Ending}{q f b a:Int}{j:C9}{n:Db}{p:Int}{i:Nat}{r s:Zk}{h:List (Kd×Value)}(V:List Nat)(H:∀c,Tn V X c->LU w c e q f b a P L j n k m g d p o l i r s h)(hT:Tn V X c):LU w c e q f b a P L j n k m g d p o l i r s h:=H c hT
theorem PZ{W:Zh}(g:Nat){b:Zl}(h:Ab W W.1.size a b)(B:a=ba->eh b=0/\g=0)(F:eh b<=100000000)(n:TypeId):
 ∃x i d,(Builtin.append_ #[23,23] n #[Yz W.1.size 0 0,C3 a (eh b) g]).run prog (W.alloc (ca #[] 9))=.ok (Yz x (eh b) i) d/\eo d W.1.size 9 1 (Yz x (eh b) i) (eh b) (b.map string)/\Zz W d:=by
 have⟨p,o,r,t,v⟩:=info_parts Ck;have c:eo (W.alloc (ca #[] 9)) W.1.size 9 1 (Yz W.1.size 0 0) 0 (([]:Zl).map string):=ownsRow_lit (base:=W.1.size) (e:=9) (size:=1) W #[] 0 (Zx) Yo rfl;have l:bs W.1.size W (W.alloc (ca #[] 9)):=gB;cases a with
 |none=>obtain⟨y,rfl⟩:=B rfl;have z:=B8 y;subst z;exact⟨_,_,_,run_append_owned_none (P:=prog) (W.alloc (ca #[] 9)) W.1.size 23 n 9 p 1 underlying23 o _ 0 _ c,c,l⟩
 |some A=>
 obtain⟨G,d,E,m,q,D⟩:=run_append_own (P:=prog) (w:=W.alloc (ca #[] 9)) W.1.size 23 n 9 p Zc 1 16 underlying23 o r t v rfl Yq _ 0 _ c A (eh b) g (b.map string) Yu (λj u f=>by
  rw[getElem?_map]at f;cases hs:b[j]? with
  |none=>rw[hs]at f;cases f
  |some s=>
   rw[hs]at f;cases f;exact(h.A l).bi A rfl j s hs) (Abh b) Yo Yv Yu
 simp only[Ay,map_nil,nil_append]at m;obtain⟨x,i,rfl⟩:=VN m (λe=>by have:=D.1 e;cases this.1);have f:(W.alloc (ca #[] 9)).grownBy d (an W.1.size):=by simpa [ownBlock]using q
 exact⟨x,i,d,E,m,l.grown f Yu (λk C=>by cases C;exact Zx)⟩
theorem Vk(W:Zh)(a:Zk)(d:Nat)(b:Zl)(h:Ab W W.1.size a b)(k:a=ba->eh b=0/\d=0)(l:eh b<=100000000)(f:TypeId):
 ∃x e c,(Builtin.append_ #[23,23] f #[Yz W.1.size 0 0,C3 a (eh b) d]).run prog (W.alloc (ca #[] 9))=.ok (Yz x (eh b) e) c/\Ak c W.1.size (Yz x (eh b) e) b/\Zz W c:=by
 have⟨x,e,c,g,i,j⟩:=PZ d h k l f;exact⟨x,e,c,g,Ak.own i,j⟩
theorem Qa(q i f d:Int)(r:Nat)(P L:D4){j:List (Kd×Value)}{o:Db}{n:Da}{I:Zk}(R Q:Nat)(hP:P=C3 I (eh o) R)(hL:L=C3 H (eh n) Q)(y u s:Int)(B:Zk){m:Zk}(C:Nat){t:Nat}(A:Zl)(M:Bs w b 0 j)(O:b<w.1.size)(g:AS w w.1.size I o)(a:AR w w.1.size H n)(c:Ab w w.1.size m l)(zA:Dy m (eh l) t)(zE:Lt w m)(zC:eh o<=100)(zB:eh n<=200)(zJ:0<=d)(zK:d<=1000000000):
 D8 101 #[ct #[Zg q,Zg i,Zg f,Zg d,Yz b (eh j) r,P,L],ct (Xy 0 B (eh A) C m (eh l) t y u s)] w λe h=>LU w h e q i f d P L (j.map (·.1)) o n 0 y u s A l b B m j:=by
 have⟨W,h⟩:=Ag (((w.alloc (ca #[Zg q,Zg i,Zg f,Zg d,C6 b j r,P,L] 30)).alloc (ca (Xy 0 B (eh A) C m (eh l) t y u s) 32)).alloc (ca Xv 128));have J:bs w.1.size w W:=by rw[h];exact((Zy).alloc Yu _).alloc Yt _
 have k:W.1.size=w.1.size+3:=by rw[h];simp
 have x2:Aa W (w.1.size+2) Dj:=by have F:=Aa.new ((w.alloc (ca #[Zg q,Zg i,Zg f,Zg d,C6 b j r,P,L] 30)).alloc (ca (Xy 0 B (eh A) C m (eh l) t y u s) 32)) Dj 128;rw[h];simpa [Dj]using F
 have S:Aa W (w.1.size+1) (Xu 0 B (eh A) C m (eh l) t y u s):=by have F:=Aa.new (w.alloc (ca #[Zg q,Zg i,Zg f,Zg d,C6 b j r,P,L] 30)) (Xu 0 B (eh A) C m (eh l) t y u s) 32;rw[Ao]at F;rw[h];exact Aa.A F (Zy)
 have N:Aa W w.1.size [Zg q,Zg i,Zg f,Zg d,C6 b j r,P,L]:=by have F:=Aa.new w [Zg q,Zg i,Zg f,Zg d,C6 b j r,P,L] 30;rw[h];exact Aa.A (Aa.A F (Zy)) (Zy)
 have T:=Yw h;have zI:w.1.size+3<=W.1.size:=Yv;clear h k;have⟨k,G⟩:=Ag (((W.setCell (Zd (w.1.size+1) 0) (Zg 1)).setCell (Zd (w.1.size+1) 3) (Zg d)).setCell (Zd (w.1.size+1) 4) (Zg (d+1)));have x:Tn [w.1.size+1] W k:=by rw[G];exact((AX _ _ _ _).ag (AX _ _ _ _)).ag (AX _ _ _ _)
 have zM:W.1.size<=k.1.size:=x.size;have h:bs w.1.size w k:=J.ag (x.A J.size Yu);have p:Aa k w.1.size [Zg q,Zg i,Zg f,Zg d,C6 b j r,P,L]:=Aa.same N (x.block _ Yv Yu);have u2:Aa k (w.1.size+2) Dj:=Aa.same x2 (x.block _ Yv Yu);have z:Aa k (w.1.size+1) (Xu 1 B (eh A) C m (eh l) t d (d+1) s):=by rw[G];exact((S.set 0 _).set 3 _).set 4 _
 obtain⟨K,E,D,⟨⟨r0,U⟩,⟨r1,V⟩,⟨r2,Y⟩,⟨r3,Z⟩,⟨r4,f4⟩,⟨r5,f5⟩⟩,s3,_⟩:=Yw G,Yw (Za p (Za z u2)),Yw (Za M (Za g (Za a c))),r6 S,N 3 _ rfl;subst hP hL;clear G p z u2 M g a c N S x2 x J;delta D8;go_in;go_upto_region 1 with fail;rw[<-T.o];clear T;go_upto_region 5 with fail;rw[<-K.o];clear K r0 r1 r2 r3 r4 r5 U V Y Z f4 f5 s3;have⟨a,p,z,t3,t4,t5,t6⟩:=Gm (Bi E.1);go_wp2_with fail;refine(SO q i f d _ R Q (AS.ai (AS.A D.2.1 h) h.size) (AR.ai (AR.A D.2.2.1 h) h.size) zC zB).ai ?_;rintro e J ⟨g,c,rfl,K,x⟩;obtain⟨k0,k1,k2⟩:=Gm (Bi (Aa.A E.1 x)),r6 (Aa.A E.2.1 x),GO (Aa.A E.2.2 x);obtain⟨i0,i1,i2,i3,i4,i5,i6⟩:=k0;obtain⟨⟨r0,U⟩,⟨r1,V⟩,⟨r2,Y⟩,⟨r3,Z⟩,⟨r4,f4⟩,⟨r5,f5⟩⟩:=k1;obtain⟨⟨y0,q0⟩,⟨y1,q1⟩,⟨y2,q2⟩,⟨y3,q3⟩,⟨y4,q4⟩,⟨y5,q5⟩,⟨y6,q6⟩,⟨y7,q7⟩,⟨y8,q8⟩,⟨y9,q9⟩,⟨S,zO⟩,⟨T,zP⟩,⟨zF,zS⟩,⟨zG,zT⟩,zH,zU⟩:=k2;have N:bs w.1.size w J:=h.ag (x.ai h.size);have zN:w.1.size+3<=J.1.size:=Dl x.size;have G:Hid (Ak J (k.1.size+1) (C6 g (Dx o n) c) (Dx o n)):=Ak.own K;clear K a p z t3 t4 t5 t6 x;go_wp2;refine C1 (ct #[Ze,Zg q,Zg i,Zg f,Zg d,C6 b j r,C2 I o R,C2 H n Q,Zg 1,C6 g (Dx o n) c,C2 m l t,Zg d,Zg (d+1),Zg s,Zb]) (by simp[results,results101,go_sem,y0,y1,y2,y3,y4,y5,y6,y7,y8,y9,S,T,zF,zG,zH]) ?_;have hT:=(AX J (w.1.size+1) 1 (C6 g (Dx o n) c)).ai (V':=[w.1.size+1,w.1.size+2]) Yu;refine LU.from (X:=J) [w.1.size+1,w.1.size+2] ?_ (hT.ag ((Jy _ (w.1.size+2) _ _ _ _ _ _ _ _ _ _ _ _ _ _ _).ai Yu));intro wf K;have x:=N.ag (K.A N.size Yu);obtain⟨a,cc,e1,hS⟩:=(G.S K (λg p e=>by have:=(G.bh p).1;simp at e;omega)).row;cases e1;exact⟨⟨⟨j.map (·.1),1,d,d+1,s,Dx o n,l,[]⟩,b,r,j,_,_,ba,_,_,0,rfl,.begin,rfl,D.1.A x O,Zr O x.size,hS,D.2.2.2.X x,dp rfl,⟨(λp e=>by cases e;exact dp rfl),Dn.own G Yv,(λp e=> eb (eb (dp ⟨p,e,rfl⟩))),Dn.no⟩,λz M=>M,G.cap,zA,G.ji.ai K.size,zE.ai x.size⟩,x⟩
theorem GH(l f d m:Int){j h:Zk}(k i:Nat){a:Zl}(I:Ab w w.1.size j a)(H:Ab w w.1.size h c)(Q:j=ba->eh a=0/\k=0)(P:h=ba->eh c=0/\i=0)(S:eh a<=100000000)(R:eh c<=100000000):
 D8 73 #[ct (Xy l j (eh a) k h (eh c) i f d m)] w λe n=>∃x p y q,e=C5 (ct (Xy l (an ⟨x,0,ba⟩) (eh a) p (an ⟨y,0,ba⟩) (eh c) q f d m))/\
  eo n w.1.size 9 1 (Yz x (eh a) p) (eh a) (a.map string)/\eo n w.1.size 9 1 (Yz y (eh c) q) (eh c) (c.map string)/\x≠y/\Zz w n:=by
 have⟨W,s⟩:=Ag (((w.alloc (ca (Xy l j (eh a) k h (eh c) i f d m) 32)).alloc (ca Xt 32)).alloc (ca (Xy l j (eh a) k h (eh c) i f d m) 32));have O:bs w.1.size w W:=gB;have X:w.1.size+3<=W.1.size:=gB;have F:Aa W (w.1.size+1+1) (Xu l j (eh a) k h (eh c) i f d m):=by rw[s];simpa using Aa.new ((w.alloc (ca (Xy l j (eh a) k h (eh c) i f d m) 32)).alloc (ca Xt 32)) (Xu l j (eh a) k h (eh c) i f d m) 32
 have J:Aa W (w.1.size+1) Xs:=by have G:=Aa.new (w.alloc (ca (Xy l j (eh a) k h (eh c) i f d m) 32)) Xs 32;rw[Ao]at G;rw[s];exact Aa.A G (Zy)
 have E:Aa W w.1.size (Xu l j (eh a) k h (eh c) i f d m):=by rw[s];exact Aa.A (Aa.A (Aa.new w _ _) (Zy)) (Zy)
 have⟨x,p,C,T,t,n⟩:=PZ k (I.X O) Q S 23;have rA:ek (W.alloc (ca #[] 9)) (Zd (w.1.size) 1)=an (C2 j a k):=((Aa.A E (Zy)) 1 _ rfl).1;have⟨V,A⟩:=D7 C (w.1.size+1+1) 1 (C6 x a p);have zA:=n.size;have hT:Tn [w.1.size+1+1] C V:=by rw[A];exact AX _ _ _ _
 have zC:=hT.size;have N:bs w.1.size w C:=gB;have r:bs w.1.size w V:=gC;have K:Aa V w.1.size (Xu l j (eh a) k h (eh c) i f d m):=Aa.same (Aa.A E n) (hT.block _ Yv Yt);have L:Aa V (w.1.size+1) Xs:=Aa.same (Aa.A J n) (hT.block _ Yv Yu);have M:Aa V (w.1.size+1+1) (Xu l (an ⟨x,0,ba⟩) (eh a) p h (eh c) i f d m):=by rw[A];exact(Aa.A F n).set 1 _
 have lx:=Ac t (g:=x) rfl;obtain⟨B,y,q,D,U,u,o⟩:=Dw t hT (λb o=>by simp at o;omega),PZ i (H.X r) P R 23;have rB:ek (V.alloc (ca #[] 9)) (Zd (w.1.size) 2)=an (C2 h c i):=((Aa.A K (Zy)) 2 _ rfl).1;obtain⟨ly,⟨⟨b,g0⟩,⟨e,g1⟩,⟨k2,g2⟩,⟨k3,g3⟩,⟨k4,g4⟩,⟨k5,g5⟩⟩,⟨n0,m0⟩,⟨n1,m1⟩,⟨n2,m2⟩,⟨n3,m3⟩,⟨n4,m4⟩,⟨n5,m5⟩⟩:=Ac u (g:=y) rfl,r6 (Aa.A L o),r6 (Aa.A M o);have⟨_,⟨p1,q1⟩,_⟩:=r6 (Aa.A F n);have zB:=o.size;have z:Hid (eo D (w.1.size+3) 9 1 (C6 x a p) (eh a) (a.map string)/\eo D (w.1.size+3) 9 1 (C6 y c q) (eh c) (c.map string)/\x≠y/\Zz w D):=⟨(Ah B o).ai X,u.ai Yv,Yv,r.ag (o.ai r.size)⟩;have Z:=Yw s;have Y:=Yw A;clear s A E J F K L M B t u n o hT r N I H;delta D8;go_in
 go_upto_region 2 with fail;rw[<-Z.o];go_upto_region 3 with(at_builtin;refine wpList_append_run rfl _ _ 23 23 rfl rfl rfl T ?_);rw[<-Y.o];go_wp2_with (first
  |(at_builtin;refine wpList_append_run rfl _ _ 23 23 rfl rfl rfl U ?_)
  |go_in)
 refine C1 (ct (Xy l (an ⟨x,0,ba⟩) (eh a) p (an ⟨y,0,ba⟩) (eh c) q f d m)) (by simp[results,results73,go_sem,b,e,k2,k3,k4,k5]) ⟨x,p,y,q,rfl,?_,?_,z.2.2.1,?_⟩
 .refine ownsRow.ai ?_ (show w.1.size<=w.1.size+3 by omega)
  iterate 7 (refine ownsRow_setCell_below ?_ Yu _)
  exact z.1
 .refine ownsRow.ai ?_ (show w.1.size<=w.1.size+3 by omega)
  iterate 7 (refine ownsRow_setCell_below ?_ Yu _)
  exact z.2.1
 iterate 7 (refine Below.setCell ?_ Ym _)
 exact z.2.2.2
theorem Cu.grown{g:Zh}{q:Nat}{c f:Int}{Q M:D4}(h:Cu w b e Q M d c f)(a:w.grownBy g (an q))(o:b≠q):Cu g b e Q M d c f:=by obtain⟨i,j,k,l,m,n,r⟩:=h;have p:=a.size;exact⟨a.cell i Yt,a.cell j Yt,a.cell k Yt,a.cell l Yt,a.cell m Yt,a.cell n Yt,Yv⟩
theorem Lj(f d c i:Int)(g h k l:Nat){b a:Zl}(q:Ab w w.1.size (an ⟨g,0,ba⟩) b)(p:Ab w w.1.size (an ⟨h,0,ba⟩) a)(o:IL b a):
 D8 73 #[ct (Xy f (an ⟨g,0,ba⟩) (eh b) k (an ⟨h,0,ba⟩) (eh a) l d c i)] w λe j=>∃x m y n,e=C5 (ct (Xy f (an ⟨x,0,ba⟩) (eh b) m (an ⟨y,0,ba⟩) (eh a) n d c i))/\
  eo j w.1.size 9 1 (Yz x (eh b) m) (eh b) (b.map string)/\eo j w.1.size 9 1 (Yz y (eh a) n) (eh a) (a.map string)/\x≠y/\Zz w j:=
 GH f d c i k l q p (λe=>by cases e) (λe=>by cases e) (Dl o.q) (Dl o.m)
open Classical in
theorem Aal{b:C9}{a:Zl}(e:¬d=0)(f:AA b s)(g:¬s∈c)(h:¬eh a=23200):shQ d b a c s=a++[s]:=if_pos ⟨e,f,g,h⟩
theorem Ku{b:C9}{a:Zl}(h:d=0\/¬AA b s\/s∈c\/eh a=23200):shQ d b a c s=a:=if_neg (λ⟨h1,h2,h3,h4⟩=>by rcases h with h|h|h|h;exact h1 h;exact h h2;exact h3 h;exact h4 h)
open Classical in
theorem Ra(wd Q n f:Int)(sc:Nat)(P L:D4){m:C9}(s:Zi)(d t r B:Int)(g h T N:Nat){b:Zl}(l:Br w w.1.size a m)(zO:eh m<=1048576)(C:Ab w w.1.size (an ⟨g,0,ba⟩) b)(A:Ab w w.1.size (an ⟨h,0,ba⟩) c)(hf:IL b c)(yL:eh b<=23200):
 D8 177 #[ct #[Zg wd,Zg Q,Zg n,Zg f,C3 a (eh m) sc,P,L],ct (Xy d (an ⟨g,0,ba⟩) (eh b) T (an ⟨h,0,ba⟩) (eh c) N t r B),C4 s] w λe i=>∃x D y z,e=C5 (ct (Xy d (an ⟨x,0,ba⟩) (eh (shQ d m b c s)) D (an ⟨y,0,ba⟩) (eh c) z t r B))/\
  eo i w.1.size 9 1 (Yz x (eh (shQ d m b c s)) D) (eh (shQ d m b c s)) ((shQ d m b c s).map string)/\eo i w.1.size 9 1 (Yz y (eh c) z) (eh c) (c.map string)/\x≠y/\Zz w i:=by
 obtain⟨⟨i0,hi,zV,zW,zX⟩,yJ,zK,W,q⟩:=info_parts Ck,hf.q,hf.m,Ag (((w.alloc (ca #[Zg wd,Zg Q,Zg n,Zg f,C2 a m sc,P,L] 30)).alloc (ca (Xy d (an ⟨g,0,ba⟩) (eh b) T (an ⟨h,0,ba⟩) (eh c) N t r B) 32)).alloc (ca Xt 32));have X:bs w.1.size w W:=gB;have F:Cu W (w.1.size+1+1) 0 Zb Zb 0 0 0:=by rw[q];exact⟨by simp[go_sem],by simp[go_sem],by simp[go_sem],by simp[go_sem],by simp[go_sem],by simp[go_sem],Yu⟩
 have E:Cu W (w.1.size+1) d (C6 g b T) (C6 h c N) t r B:=by rw[q];exact⟨by simp[go_sem],by simp[go_sem],by simp[go_sem],by simp[go_sem],by simp[go_sem],by simp[go_sem],Ym⟩
 have x0:AW W w.1.size wd Q n f (C2 a m sc) P L:=by rw[q];exact⟨by simp[go_sem],by simp[go_sem],by simp[go_sem],by simp[go_sem],by simp[go_sem],by simp[go_sem],by simp[go_sem],Ym⟩
 have G:∀o,el W ⟨w.1.size+1+1,o,ba⟩=bq:=λo=>by rw[q];simp[go_sem]
 have yN:W.1.size=w.1.size+3:=gB;obtain⟨HW,M,j,zF,J,i⟩:=Yw q,Yw (Zn C A),Yw l,Yw E,Yw F,Yw X;clear q C A l E F;have⟨a0,a1,a2,a3,a4,a5,k⟩:=zF.o;obtain⟨l,q,A,C,E,F,H,I⟩:=x0;have yG:bs W.1.size W W:=gB;delta D8;go_in;go_upto_region 1 with fail;rw[<-HW.o];by_cases p0:d=0
 case' pos=>
  have HN:Hid (shQ d m b c s=b):=Ku (dp p0);have zZ:(d==0)=true:=Yt;clear l q A C E F H I p0;obtain⟨E,rfl⟩:=Ag W
 case' neg=>
  have zZ:(d==0)=bq:=Yt;go_wp2_with fail;refine(Dt wd Q n f a sc P L m s W w.1.size (Br.A j X) X.size zO).ai ?_;rintro e E ⟨rfl,K⟩;obtain⟨zB,H,zC⟩:=Yw (i.ag (K.ai i.size)),Yw (Cu.A zF K),Yw (Cu.A J K);have zG:∀o,el E ⟨w.1.size+1+1,o,ba⟩=bq:=λo=>(K.frozen (p:=⟨w.1.size+1+1,o,ba⟩) Ym).ag (G o);obtain⟨yM,i,J⟩:=K.size,Yw zB.o,Yw zC.o;have G:=zG;have⟨a0,a1,a2,a3,a4,a5,k⟩:=H.o;rcases CU m s with⟨Y,zS⟩|⟨fi,fu,Y,zN,zM⟩
  case' inl=>
   have HN:Hid (shQ d m b c s=b):=Ku (eb (dp zS));rw[Y]
  case' inr=>
   have l:AA m s:=⟨fu,Zs zN,zM⟩;rw[Y];have yD:decide ((fi:Int)<0)=bq:=Yu;have HC:=Yw (FJ N s (Ab.X (w:=w) M.2 i) zK);go_wp2_with fail;refine HC.Aj ?_;rintro e w9 ⟨rfl,zU⟩;rw[zU];by_cases hin:s∈c
   case' pos=>
    have HN:Hid (shQ d m b c s=b):=Ku (eb (eb (dp hin)));have I:c.any (λx=>decide (x=s))=true:=Yt;rw[I]
   case' neg=>
    have I:c.any (λx=>decide (x=s))=bq:=gG;rw[I];by_cases p1:eh b=23200
    case' pos=>
     have HN:Hid (shQ d m b c s=b):=Ku (eb (eb (eb p1)));have yA:decide ((23200:Int)<=(eh b:Int))=true:=Yt;clear p1
    case' neg=>
     have yA:decide ((23200:Int)<=(eh b:Int))=bq:=Yt;have HN:Hid (shQ d m b c s=b++[s]):=Aal p0 l hin p1;clear l hin;go_wp2_with fail;refine(Lj d t r B g h T N (Ab.X M.1 i) (Ab.X M.2 i) hf).ai ?_;rintro e F ⟨x,D,y,z,rfl,R,S,zA,A⟩;obtain⟨lx,ly,zE,q,U⟩:=R.lt x rfl,S.lt y rfl,A.size,D6 F (Xy d (an ⟨x,0,ba⟩) (eh b) D (an ⟨y,0,ba⟩) (eh c) z t r B) 32;have O:bs F.1.size F q:=gB;have l:=A.ag (O.ai zE);have C:Hid (eo q (w.1.size+3) 9 1 (C6 x b D) (eh b) (b.map string)/\eo q (w.1.size+3) 9 1 (C6 y c z) (eh c) (c.map string)/\x≠y/\Zz w q):=⟨(Jg R O).ai Yv,(Jg S O).ai Yv,zA,i.ag (l.ai i.size)⟩;have H8:Hid (Cu q F.1.size d (C6 x b D) (C6 y c z) t r B):=(by show Cu q F.1.size d (C6 x b D) (C6 y c z) t r B;rw[U];exact Cu.new _ _ _ _ _ _ _ _);have H2:=Yw (Cu.A J l);have Z:∀o,el q ⟨w.1.size+1+1,o,ba⟩=bq:=λo=>(l.frozen (p:=⟨w.1.size+1+1,o,ba⟩) Ym).ag (G o);have f8:∀o,el q ⟨F.1.size,o,ba⟩=bq:=λo=>by rw[U];simp[go_sem]
     have u:q.1.size=F.1.size+1:=gB;go_upto_region 4 with fail;rw[<-U];clear U O R S A l G H J i M j a0 a1 a2 a3 a4 a5 k;have G:=Z;clear Z;generalize F.1.size=b7 at *
     have yH:w.1.size+3<=b7:=Yv;have yI:b7<q.1.size:=Yv
     clear u;have⟨c0,c1,c2,c3,c4,c5,c6⟩:=H8.o;have⟨d0,d1,d2,d3,d4,d5,d6⟩:=H2.o;go_wp2_with (first
      |(at_builtin;refine wpList_append_lies _ rfl _ _ 23 rfl (w.1.size+3) 9 i0 Zc 1 16 underlying23 hi zV zW zX rfl Yq _ (eh b) (b.map string) rfl ?d0 ⟨q.1.size,0,ba⟩ 1 1 [C4 s] rfl rfl ?d1 ?d2 Yq ?d3 ?d4 ?d5 _ rfl ?_)
      |go_in)
     case d0=>exact C.1.alloc _
     case d1=>exact cell_one_new q (C4 s) 9
     case d2=>intro u hu;simp at hu;subst hu;rfl
     case d3=>unfold maxLen;omega
     case d4=>omega
     case d5=>simp;omega
     intro k U O zT Z V yC;have H:bs q.1.size q (q.alloc (ca #[C4 s] 9)):=gB;have zY:=Z.size;simp[ownBlock]at zY V;have l:(q.alloc (ca #[C4 s] 9)).grownBy O (an x):=(by simpa [ownBlock]using Z);have r7:=(Cu.A H8 H).grown l Yv;have r2:=(Cu.A H2 H).grown l Yv;have yE:∀o,el O ⟨b7,o,ba⟩=bq:=λo=>(l.frozen_far ⟨b7,o,ba⟩ Ym Ym).ag ((H.frozen (p:=⟨b7,o,ba⟩) Ym).ag (f8 o));have zG:∀o,el O ⟨w.1.size+1+1,o,ba⟩=bq:=λo=>(l.frozen_far ⟨w.1.size+1+1,o,ba⟩ Ym Ym).ag ((H.frozen (p:=⟨w.1.size+1+1,o,ba⟩) Ym).ag (G o));have zJ:eo O (w.1.size+3) 9 1 (C6 y c z) (eh c) (c.map string):=(C.2.1.alloc _).kept l (eb Fo);have zH:bs w.1.size w O:=(C.2.2.2.ag (H.ai C.2.2.2.size)).grown l Yt (λj j=>by cases j;omega);have zP:k≠y:=Yv;have yK:¬k=b7:=Yv;have yF:¬b7=w.1.size+1+1:=Yv;have yB:¬w.1.size+1+1=b7:=Yv;have zI:eo O (w.1.size+3) 9 1 (Yz k (eh b+1) U) (eh b+1) ((b++[s]).map string):=gB;have j:=Yw (Zn zI (Zn zJ (Zn zP zH)));obtain⟨c0,c1,c2,c3,c4,c5,c6⟩:=r7;obtain⟨d0,d1,d2,d3,d4,d5,d6⟩:=r2;clear zT zI zJ Z l zH H f8 G H8 H2 C;go_wp2;refine C1 (ct (Xy d (an ⟨k,0,ba⟩) (eh b+1) U (an ⟨y,0,ba⟩) (eh c) z t r B)) (by simp[results,results177,go_sem,d0,d1,d2,d3,d4,d5]) ?_;rw[HN.o];refine⟨k,U,y,z,Yu,?_,?_,j.2.2.1,?_⟩
     .rw[show eh (b++[s])=eh b+1 by simp];refine ownsRow.ai ?_ (show w.1.size<=w.1.size+3 by omega)
      iterate 6 (refine ownsRow_setCell_below ?_ Yu _)
      refine ownsRow_setCell_other ?_ Fo _;exact j.1
     .refine ownsRow.ai ?_ (show w.1.size<=w.1.size+3 by omega)
      iterate 6 (refine ownsRow_setCell_below ?_ Yu _)
      refine ownsRow_setCell_other ?_ Fo _;exact j.2.1
     iterate 7 (refine Below.setCell ?_ Ym _)
     exact j.2.2.2
 all_goals
  go_wp2_with fail;refine(Lj d t r B g h T N (Ab.X M.1 i) (Ab.X M.2 i) hf).ai ?_;rintro e F ⟨x,D,y,z,rfl,R,S,zA,A⟩;obtain⟨C,d0,d1,d2,d3,d4,d5,d6⟩:=Yw (Zn (R.ai (show w.1.size+3<=E.1.size by omega)) (Zn (S.ai (show w.1.size+3<=E.1.size by omega)) (Zn zA (i.ag (A.ai i.size))))),Cu.A J A;have l:∀o,el F ⟨w.1.size+1+1,o,ba⟩=bq:=λo=>(A.frozen (p:=⟨w.1.size+1+1,o,ba⟩) Ym).ag (G o);clear R S A a0 a1 a2 a3 a4 a5 G;go_wp2;refine C1 (ct (Xy d (an ⟨x,0,ba⟩) (eh b) D (an ⟨y,0,ba⟩) (eh c) z t r B)) (by simp[results,results177,go_sem,d0,d1,d2,d3,d4,d5]) ?_;rw[HN.o];refine⟨x,D,y,z,rfl,?_,?_,C.2.2.1,?_⟩
  .refine ownsRow.ai ?_ (show w.1.size<=w.1.size+3 by omega)
   iterate 6 (refine ownsRow_setCell_below ?_ Yu _)
   exact C.1
  .refine ownsRow.ai ?_ (show w.1.size<=w.1.size+3 by omega)
   iterate 6 (refine ownsRow_setCell_below ?_ Yu _)
   exact C.2.1
  iterate 6 (refine Below.setCell ?_ Ym _)
  exact C.2.2.2
theorem Rb(Q A d c:Int)(G:Nat){l:List (Kd×Value)}(K:Db)(J:Da)(O M:Zk)(P N:Nat)(E y r L:Int){xa:Zk}(U:Nat){cy:Nat}(s:Zi)(j:Zl)(xH:E≠0)(hz:Bs w b 0 l)(zB:b<w.1.size)(Y:Ab w w.1.size xa (s::j))(hm:Ab w w.1.size H f)(yI:Dy H (eh f) cy)(yV:Lt w H)(xQ:eh j+1<=U)(xX:eh l<=600)(C:∀z∈l,eh z.1.D<=30)(xV:eh j<=1048576)(xU:eh f<=100000):
 D8 101 #[ct (Yg Q A d c (an ⟨b,0,ba⟩) (eh l) G O (eh K) P M (eh J) N),ct (Xy E xa (eh j+1) U H (eh f) cy y r L)] w λe w'=>LU w w' e Q A d c (C3 O (eh K) P) (C3 M (eh J) N) (l.map (·.1)) K J E y r L (s::j) f b xa H l:=by
 have xN:(E==0)=bq:=D2 xH;obtain⟨x,F,rfl,yJ,R⟩:=Y.at (k:=0) E7;have⟨o1,xF,q⟩:∃o1,((if U=1 then an ⟨x,F,ba⟩else an ⟨x,F+1,ba⟩:Zk)=an ⟨x,o1,ba⟩)/\∀i t,j[i]?=an t->ek w (Zd x (o1+i))=an (C4 t):=by
  by_cases h1c:U=1
  .have:j=[]:=B8 D9;subst this;exact⟨F,if_pos h1c,λi t h=>by simp at h⟩
  refine⟨F+1,if_neg h1c,λi t h=> ?_⟩;have:=R (i+1) t (D2 h);rw[show F+(i+1)=F+1+i by omega]at this;exact this
 have⟨W,n⟩:=Ag (((w.alloc (ca (C8 Q A d c (an ⟨b,0,ba⟩) l G O K P M J N) 30)).alloc (ca (Xy E (an ⟨x,F,ba⟩) (eh j+1) U H (eh f) cy y r L) 32)).alloc (ca Xv 128));have m:bs w.1.size w W:=by rw[n];exact((Zy).alloc E7 _).alloc E8 _
 have o:W.1.size=w.1.size+3:=by rw[n];simp
 have x2:Aa W (w.1.size+2) Dj:=by have h1:=Aa.new ((w.alloc (ca (C8 Q A d c (an ⟨b,0,ba⟩) l G O K P M J N) 30)).alloc (ca (Xy E (an ⟨x,F,ba⟩) (eh j+1) U H (eh f) cy y r L) 32)) Dj 128;rw[n];simpa [Dj]using h1
 have x1:Aa W (w.1.size+1) (Xu E (an ⟨x,F,ba⟩) (eh j+1) U H (eh f) cy y r L):=by have h1:=Aa.new (w.alloc (ca (C8 Q A d c (an ⟨b,0,ba⟩) l G O K P M J N) 30)) (Xu E (an ⟨x,F,ba⟩) (eh j+1) U H (eh f) cy y r L) 32;rw[Ao]at h1;rw[n];exact Aa.A h1 (Zy)
 have x0:Aa W w.1.size (C7 Q A d c (an ⟨b,0,ba⟩) l G O K P M J N):=by have h1:=Aa.new w (C7 Q A d c (an ⟨b,0,ba⟩) l G O K P M J N) 30;rw[n];exact Aa.A (Aa.A h1 (Zy)) (Zy)
 have HW:=Yw n;have zN:w.1.size+3<=W.1.size:=D9;clear n o;have T:Hid (∀X,bs (w.1.size+3) W X->Aa X w.1.size (C7 Q A d c (an ⟨b,0,ba⟩) l G O K P M J N)/\Aa X (w.1.size+1) (Xu E (an ⟨x,F,ba⟩) (eh j+1) U H (eh f) cy y r L)/\Aa X (w.1.size+2) Dj):=λX hX=>⟨Aa.same x0 (hX.block _ D9),Aa.same x1 (hX.block _ D9),Aa.same x2 (hX.block _ D9)⟩;have c0:ek W (Zd x F)=an (C4 s):=(m.cell (p:=⟨x,F,ba⟩) yJ).ag (D2 (R 0 s rfl));obtain⟨xn,I,w1,v,g,u⟩:=Vk W (an ⟨x,o1,ba⟩) (U -1) j (eb ⟨x,o1,rfl,Zr yJ m.size,λi t h=>(m.cell (p:=⟨x,o1+i,ba⟩) yJ).ag (q i t h)⟩) (λe=>by cases e) D9 23;have rA:ek (W.alloc (ca #[] 9)) (Zd (w.1.size+1) 1)=an (C3 (an ⟨x,F,ba⟩) (eh j+1) U):=((Aa.A x1 (Zy)) 1 _ rfl).1;have B:=Dt Q A d c (an ⟨b,0,ba⟩) G (C2 O K P) (C2 M J N) (l.map (·.1)) s w1 w.1.size (Br.A (hz.dt zB) (m.ag (u.ai m.size))) (Zm m.size u.size) N8;rw[B0]at B;have HF:=Yw B;have S:=Yw (Za hz (Za Y hm));have n:Hid (bs (w.1.size+3) W w1):=u.ai zN;have yZ:Hid (Zz w W):=m;have o:Hid (Ak w1 (w.1.size+3) (C6 xn j I) j):=g.ai zN;have zT:Hid (∀z∈l,eh z.1.D<=30):=C;have a:w.1.size+3<=w1.1.size:=Zm zN u.size;have D:bs (w.1.size+3) W W:=Below.refl _ _;obtain⟨i0,i1,i2,i3,i4,i5,i6⟩:=Gm (Bi (T _ D).1);obtain⟨⟨⟨r0,f0⟩,⟨r1,f1⟩,⟨r2,f2⟩,⟨r3,f3⟩,⟨r4,f4⟩,⟨r5,f5⟩⟩,⟨u0,j0⟩,⟨u1,j1⟩,⟨u2,j2⟩,⟨u3,j3⟩,⟨u4,j4⟩,⟨u5,j5⟩,⟨u6,j6⟩,⟨u7,j7⟩,⟨u8,j8⟩,⟨u9,j9⟩,⟨V,zF⟩,⟨Z,zG⟩,⟨h,zH⟩,⟨t,zI⟩,zA,zJ⟩:=r6 (T _ D).2.1,GO (T _ D).2.2;clear hz Y hm x0 x1 x2 m g u R q C B;delta D8;go_in;go_upto_region 1 with fail;rw[<-HW.o];clear HW;go_upto_region 10 with(at_builtin;refine wpList_append_run rfl _ _ 23 23 rfl rfl rfl v ?_);clear i0 i1 i2 i3 i4 i5 i6 r0 r1 r2 r3 r4 r5 f0 f1 f2 f3 f4 f5 u0 j0 u1 j1 u2 j2 u3 j3 u4 j4 u5 j5 u6 j6 u7 j7 u8 j8 u9 j9 V zF Z zG h zH t zI zA zJ v D c0 xF rA;obtain⟨⟨i0,i1,i2,i3,i4,i5,i6⟩,⟨r0,f0⟩,⟨r1,f1⟩,⟨r2,f2⟩,⟨r3,f3⟩,⟨r4,f4⟩,⟨r5,f5⟩⟩:=Gm (Bi (T _ n).1),r6 (T _ n).2.1;obtain⟨⟨u0,j0⟩,⟨u1,j1⟩,⟨u2,j2⟩,⟨u3,j3⟩,⟨u4,j4⟩,⟨u5,j5⟩,⟨u6,j6⟩,⟨u7,j7⟩,⟨u8,j8⟩,⟨u9,j9⟩,⟨V,zF⟩,⟨Z,zG⟩,⟨h,zH⟩,⟨t,zI⟩,zA,zJ⟩:=GO (T _ n).2.2;go_wp2_with fail;refine HF.Aj ?_;rintro e D ⟨rfl,m⟩;have q:Hid (bs (w.1.size+3) W D):=n.ag (m.ai a);have u:Hid (Ak D (w.1.size+3) (C6 xn j I) j):=o.A m;have yK:w.1.size+3<=D.1.size:=Zm a m.size;have R:Hid (Zz w D):=yZ.ag (q.ai D9);clear i0 i1 i2 i3 i4 i5 i6 r0 r1 r2 r3 r4 r5 f0 f1 f2 f3 f4 f5 u0 j0 u1 j1 u2 j2 u3 j3 u4 j4 u5 j5 u6 j6 u7 j7 u8 j8 u9 j9 V zF Z zG h zH t zI zA zJ o n m HF a;have o:=Yw u.o;clear u;obtain⟨⟨i0,i1,i2,i3,i4,i5,i6⟩,⟨r0,f0⟩,⟨r1,f1⟩,⟨r2,f2⟩,⟨r3,f3⟩,⟨r4,f4⟩,⟨r5,f5⟩⟩:=Gm (Bi (T _ q).1),r6 (T _ q).2.1;obtain⟨⟨u0,j0⟩,⟨u1,j1⟩,⟨u2,j2⟩,⟨u3,j3⟩,⟨u4,j4⟩,⟨u5,j5⟩,⟨u6,j6⟩,⟨u7,j7⟩,⟨u8,j8⟩,⟨u9,j9⟩,⟨V,zF⟩,⟨Z,zG⟩,⟨h,zH⟩,⟨t,zI⟩,zA,zJ⟩:=GO (T _ q).2.2;rcases CU (l.map (·.1)) s with⟨m,n⟩|⟨fi,fu,m,Y,B⟩
 .rw[m];clear n m;go_wp2;refine C1 (ct #[Ze,Zg Q,Zg A,Zg d,Zg c,C6 b l G,C2 O K P,C2 M J N,Zg E,C6 xn j I,C2 H f cy,Zg y,Zg r,Zg L,Zb]) Gl ?_;have hT:=(AX D (w.1.size+1) 1 (C6 xn j I)).ai (V':=[w.1.size+1,w.1.size+2]) E7;refine LU.from (X:=D) [w.1.size+1,w.1.size+2] ?_ (hT.ag ((Jy _ (w.1.size+2) _ _ _ _ _ _ _ _ _ _ _ _ _ _ _).ai E7));intro wf C;have u:=R.ag (C.A R.size E7);obtain⟨a,cc,e1,hS⟩:=(o.S C (λg n e=>by have:=(o.bh n).1;simp at e;omega)).row;cases e1;have zP:=Ab.X S.2.2 u;exact⟨⟨⟨l.map (·.1),E,y,r,L,j,f,[]⟩,b,G,l,_,_,ba,_,_,0,rfl,.mark s j _ _ rfl (Nat.le_add_right _ _) (Nat.le_succ _),rfl,S.1.A u zB,Zr zB u.size,hS,zP,dp rfl,⟨(λp e=>by cases e;exact dp rfl),Dn.own o D9,(λp e=> eb (eb (dp ⟨p,e,rfl⟩))),Dn.no⟩,λz hz=>hz,o.cap,yI,o.ji.ai C.size,yV.ai u.size⟩,u⟩
 rw[m];have yL:decide ((fi:Int)<0)=bq:=E7;have xE:decide ((0:Int)<=fi)=true:=E7;have yO:Hid ((l.map (·.1))[fi]?=an fu):=Y;have HC:=Yw (FJ cy s (Ab.X S.2.2 R) D9);clear m Y B;go_wp2_with fail;refine HC.Aj ?_;rintro e B ⟨rfl,m⟩;rw[m];clear m HC B;by_cases hin:s∈f
 .have m:f.any (λx=>decide (x=s))=true:=any_eq_true.2 ⟨s,hin,by simp⟩;rw[m];clear m;go_wp2;refine C1 (ct #[Ze,Zg Q,Zg A,Zg d,Zg c,C6 b l G,C2 O K P,C2 M J N,Zg E,C6 xn j I,C2 H f cy,Zg y,Zg r,Zg L,Zb]) Gl ?_;have hT:=(AX D (w.1.size+1) 1 (C6 xn j I)).ai (V':=[w.1.size+1,w.1.size+2]) E7;refine LU.from (X:=D) [w.1.size+1,w.1.size+2] ?_ (hT.ag ((Jy _ (w.1.size+2) _ _ _ _ _ _ _ _ _ _ _ _ _ _ _).ai E7));intro wf C;have u:=R.ag (C.A R.size E7);obtain⟨a,cc,e1,hS⟩:=(o.S C (λg n e=>by have:=(o.bh n).1;simp at e;omega)).row;cases e1;have zP:=Ab.X S.2.2 u;exact⟨⟨⟨l.map (·.1),E,y,r,L,j,f,[]⟩,b,G,l,_,_,ba,_,_,0,rfl,.mark s j _ _ rfl (Nat.le_add_right _ _) (Nat.le_succ _),rfl,S.1.A u zB,Zr zB u.size,hS,zP,dp rfl,⟨(λp e=>by cases e;exact dp rfl),Dn.own o D9,(λp e=> eb (eb (dp ⟨p,e,rfl⟩))),Dn.no⟩,λz hz=>hz,o.cap,yI,o.ji.ai C.size,yV.ai u.size⟩,u⟩
 have m:f.any (λx=>decide (x=s))=bq:=by simp;exact λx B e=>hin (e▸B)
 rw[m];clear m hin;obtain⟨y2,xP,w3,yT,yH,zS⟩:=Vk D H cy f (Ab.X S.2.2 R) yI.2 D9 23;have bA:bs w3.1.size w3 (w3.alloc (ca #[C4 s] 9)):=Zy;obtain⟨M',w4,yU,zZ,yS,xG⟩:=KK (yH.A bA) ⟨w3.1.size,0,ba⟩ 1 s N9 D9 (by have:=zS.size;simp;omega) 23;have⟨B,m,yR,_⟩:=zZ.row;rw[Am,length_cons,length_nil,Ay]at yR;subst yR;have zC:bs D.1.size D w4:=(zS.ag (bA.ai zS.size)).grown yS (by have:=zS.size;simp;omega) (λk hk=>((yH.A bA).bh hk).1);have yG:Hid (bs (w.1.size+3) W w4):=q.ag (zC.ai yK);have yF:Hid (Ak w4 (w.1.size+3) (C6 xn j I) j):=o.A zC;have zX:∀g,Al (C6 xn j I)=an g->g<D.1.size:=λg n=>(o.bh n).2;have zM:∀g,Al (C3 B (eh f+1) m)=an g->D.1.size<=g:=λg n=>(zZ.bh n).1;have⟨X,hX⟩:=D7 w4 (w.1.size+1) 2 (C3 B (eh f+1) m);have zE:Tn [w.1.size+1] w4 X:=by rw[hX];exact AX _ _ _ _
 have yB:Hid (Ak X (w.1.size+3) (C6 xn j I) j/\Ak X (w.1.size+3) (C3 B (eh f+1) m) (f++[s])/\(∀g,Al (C6 xn j I)=an g->Al (C3 B (eh f+1) m)≠an g)):=
  ⟨yF.S zE (λg n e=>by have:=(yF.bh n).1;simp at e;omega),(zZ.S zE (λg n e=>by have:=zM g n;simp at e;omega)).ai yK,λg n yA=>by have:=zX g n;have:=zM g yA;omega⟩
 have zO:Hid (∀Y,bs (w.1.size+3) X Y->Aa Y w.1.size (C7 Q A d c (an ⟨b,0,ba⟩) l G O K P M J N)/\Aa Y (w.1.size+1) (Xu E (an ⟨x,F,ba⟩) (eh j+1) U B (eh f+1) m y r L)/\Aa Y (w.1.size+2) Dj):=λY hY=>by
  have h4:=T _ yG;have xT:w.1.size+3<=w4.1.size:=Zm yK zC.size;have e0:Aa X w.1.size (C7 Q A d c (an ⟨b,0,ba⟩) l G O K P M J N):=Aa.same h4.1 (zE.block _ D9 E7);have e2:Aa X (w.1.size+2) Dj:=Aa.same h4.2.2 (zE.block _ D9 E7);have e1:Aa X (w.1.size+1) (Xu E (an ⟨x,F,ba⟩) (eh j+1) U B (eh f+1) m y r L):=by rw[hX];exact h4.2.1.set 2 _
  exact⟨Aa.same e0 (hY.block _ D9),Aa.same e1 (hY.block _ D9),Aa.same e2 (hY.block _ D9)⟩
 have yE:Hid (Zz w X):=(R.ag (zC.ai R.size)).ag (zE.A (Zm R.size zC.size) E7);obtain⟨⟨n0,m0⟩,⟨n1,m1⟩,⟨n2,m2⟩,⟨n3,m3⟩,⟨n4,m4⟩,⟨n5,m5⟩⟩:=r6 (T _ yG).2.1;have yP:=Yw hX;have yW:w.1.size+3<=X.1.size:=by have:=zE.size;have:=zC.size;omega
 have rB:ek (D.alloc (ca #[] 9)) (Zd (w.1.size+1) 2)=an (C2 H f cy):=((Aa.A (T _ q).2.1 (Zy)) 2 _ rfl).1;clear hX zE yF zX zM zC bA yH zZ yS xG zS;go_upto_region 13 with(first
  |(at_builtin;refine wpList_append_run rfl _ _ 23 23 rfl rfl rfl yT ?_)
  |(at_builtin;refine wpList_append_run rfl _ _ 23 23 rfl rfl rfl yU ?_))
 clear rB yT yU i0 i1 i2 i3 i4 i5 i6 r0 r1 r2 r3 r4 r5 f0 f1 f2 f3 f4 f5 u0 j0 u1 j1 u2 j2 u3 j3 u4 j4 u5 j5 u6 j6 u7 j7 u8 j8 u9 j9 V zF Z zG h zH t zI zA zJ;rw[<-yP.o];clear yP n0 n1 n2 n3 n4 n5 m0 m1 m2 m3 m4 m5 yG T q o R;have⟨z,o,xL⟩:∃z,l[fi]?=an z/\z.1=fu:=by have:=yO.o;rw[getElem?_map]at this;have⟨z,h1,h2⟩:=Option.map_eq_some_iff.1 this;exact⟨z,h1,h2⟩
 have xM:fi<eh l:=(Zw o).1;have xW:eh z.1.D<=30:=zT z (Zs o);have⟨⟨_,_,_,q⟩,ad,rc,T,xK⟩:=(S.1.A yE zB) fi z o;rw[T,Ay]at q;have xC:Hid (∀Y,bs (w.1.size+3) X Y->Ab Y Y.1.size (an ad) z.1.D):=λY hY=>Ab.X (w:=w) (by
  have⟨_,xO,xY,zY,yN⟩:=S.1 fi z o;rw[T]at zY;cases zY;exact yN) (yE.ag (hY.ai D9))
 have zV:bs (w.1.size+3) X X:=Below.refl _ _;obtain⟨i0,i1,i2,i3,i4,i5,i6⟩:=Gm (Bi (zO _ zV).1);clear T xK o xL yO zT xE yL;have xB:Hid (∀Y v,Ak Y (w.1.size+3) (C3 B (eh f+1) m) (f++[s])->D8 48 #[C3 B (eh f+1) m,C4 v] Y λe w'=>e=C5 (.bool ((f++[s]).any (λx=>decide (x=v))))/\w'=Y):=λY v hY=>by
  have⟨a2,c2,e2,xI⟩:=hY.row;rw[Am,length_cons,length_nil,Ay]at e2;cases e2;have:=FJ m v xI (by rw[Am];simp;omega);rw[Am,length_cons,length_nil,Ay]at this;exact this
 go_wp2;go_loopw [6,9] (λv i wr=>∃(k:Nat) (Qk:D4) (qk:Zl),k<=eh z.1.D/\i=Zg k/\v=Qk/\eh qk<=eh j+k/\Hid (Ak wr (w.1.size+3) Qk qk/\Ak wr (w.1.size+3) (C3 B (eh f+1) m) (f++[s])/\(∀g,Al Qk=an g->Al (C3 B (eh f+1) m)≠an g)/\bs (w.1.size+3) X wr)) (λ_ i _=>eh z.1.D -(intOf i).toNat)
 case atStart=>exact⟨0,_,j,Aq _,rfl,rfl,Zx,yB.1,yB.2.1,yB.2.2,zV⟩
 clear yB i0 i1 i2 i3 i4 i5 i6 q;obtain⟨k,Qk,qk,hk,rfl,T,xR,o⟩:=hrel;have xJ:=T.symm;subst xJ;clear T;by_cases hlt:k<eh z.1.D
 .obtain⟨rb,yY,ha,hb,T⟩:=(xC _ o.2.2.2).at hlt;cases ha;have HG:Hid (z.1.D[k]?=an z.1.D[k]):=Zv hlt;have c0:=T k _ HG;clear T;generalize z.1.D[k]=v at *
  obtain⟨⟨_,_⟩,⟨_,_⟩,⟨r2,_⟩,_⟩:=r6 (zO _ o.2.2.2).2.1;have S0:ek wr.drew (Zd (w.1.size+1) 2)=an (C3 B (eh f+1) m)/\ek wr.drew (Zd rb (yY+k))=an (C4 v):=⟨r2,c0⟩;have HD:Hid (Ak wr.drew (w.1.size+3) (C3 B (eh f+1) m) (f++[s])):=o.2.1.A (Ae.drew);have xS:(k:Int)<eh z.1.D:=D9;obtain⟨bb,q⟩:∃bb,(f++[s]).any (λx=>decide (x=v))=bb:=⟨_,rfl⟩;have T:=xB wr.drew v HD;rw[q]at T;have i:=Yw T;clear r2 c0 q T;go_upto_region 17 with fail;go_region_held3 (λY=>ek Y (Zd (w.1.size+1) 2)=an (C3 B (eh f+1) m)/\ek Y (Zd rb (yY+k))=an (C4 v))
   (first|with_reducible exact S0)
   (first
     |(go_at_call 48;refine i.Aj ?_;rintro e T ⟨rfl,yM⟩;subst yM))
  have q:bs wr.1.size wr wr.drew:=Ae.drew;have zK:Hid (Ak wr.drew (w.1.size+3) Qk qk):=o.1.A q;have Y:Hid (bs (w.1.size+3) X wr.drew):=o.2.2.2.drew;have yD:=Yw o.2.2.1;have yX:w.1.size+3<=wr.drew.1.size:=Zm yW Y.size;obtain⟨_,c0⟩:=S0;clear o q i;generalize wr.drew=T at *
  cases bb with
  |true=>clear c0;go_wp2;exact⟨⟨k+1,Qk,qk,by omega,by go_num,rfl,by omega,⟨zK,HD,yD,Y⟩⟩,by simp[intOf];omega⟩
  |false=>
   have bA:bs T.1.size T (T.alloc (ca #[C4 v] 9)):=Zy;obtain⟨Q',yC,hr,zU,i,zW⟩:=KK (zK.A bA) ⟨T.1.size,0,ba⟩ 1 v N9 D9 E8 23;have yQ:bs (w.1.size+3) T yC:=(bA.ai yX).grown i E8 (λq e=>(zK.bh e).1);have q:∀g,Al (C3 B (eh f+1) m)=an g->g<T.1.size:=λg n=>(HD.bh n).2;have xA:Hid (Ak yC (w.1.size+3) Q' (qk++[v])/\Ak yC (w.1.size+3) (C3 B (eh f+1) m) (f++[s])/\(∀g,Al Q'=an g->Al (C3 B (eh f+1) m)≠an g)/\bs (w.1.size+3) X yC):=by
    refine⟨zU,(HD.A bA).stays i.size (λg n=>i.block g (by have:=q g n;simp;omega) (λe=>yD g e.symm n)),λg n yA=> ?_,Y.ag yQ⟩;rcases zW with e|e
    .exact yD g (e▸n) yA
    rw[e]at n;cases n;have:=q _ yA;simp only[Ao]at this;omega
   clear zU i zW yQ bA;go_wp2_with (at_builtin;refine wpList_append_run rfl _ _ 23 23 rfl rfl rfl hr ?_);clear hr;go_wp2;exact⟨⟨k+1,Q',qk++[v],by omega,by go_num,rfl,by simp;omega,xA⟩,by simp[intOf];omega⟩
 obtain rfl:k=eh z.1.D:=D9;have hE:=o.1;have i:Hid (Ak wr (w.1.size+3) Qk qk):=hE;have⟨qa,qc,xD,_⟩:=hE.row;subst xD;have R:Hid (Zz w wr):=yE.ag (o.2.2.2.ai D9);obtain⟨⟨i0,i1,i2,i3,i4,i5,i6⟩,⟨r0,f0⟩,⟨r1,f1⟩,⟨r2,f2⟩,⟨r3,f3⟩,⟨r4,f4⟩,⟨r5,f5⟩⟩:=Gm (Bi (zO _ o.2.2.2).1),r6 (zO _ o.2.2.2).2.1;obtain⟨⟨u0,j0⟩,⟨u1,j1⟩,⟨u2,j2⟩,⟨u3,j3⟩,⟨u4,j4⟩,⟨u5,j5⟩,⟨u6,j6⟩,⟨u7,j7⟩,⟨u8,j8⟩,⟨u9,j9⟩,⟨V,zF⟩,⟨Z,zG⟩,⟨h,zH⟩,⟨t,zI⟩,zA,zJ⟩:=GO (zO _ o.2.2.2).2.2;have yX:w.1.size+3<=wr.1.size:=Zm yW o.2.2.2.size;clear hE;go_wp2;refine C1 (ct #[Ze,Zg Q,Zg A,Zg d,Zg c,C6 b l G,C2 O K P,C2 M J N,Zg E,C2 qa qk qc,C3 B (eh f+1) m,Zg y,Zg r,Zg L,Zb]) Gl ?_;have hT:=(AX wr (w.1.size+1) 1 (C2 qa qk qc)).ai (V':=[w.1.size+1,w.1.size+2]) E7;refine LU.from (X:=wr) [w.1.size+1,w.1.size+2] ?_ (hT.ag ((Jy _ (w.1.size+2) _ _ _ _ _ _ _ _ _ _ _ _ _ _ _).ai E7));intro wf C;have u:=R.ag (C.A R.size E7);obtain⟨a,cc,e1,hS⟩:=(i.S C (λg n e=>by have:=(i.bh n).1;simp at e;omega)).row;cases e1;obtain⟨v,mc,e2,zP⟩:=(o.2.1.S C (λg n e=>by have:=(o.2.1.bh n).1;simp at e;omega)).row;rw[Am,length_cons,length_nil,Ay]at e2;cases e2;exact⟨⟨⟨l.map (·.1),E,y,r,L,qk,(f++[s]),[]⟩,b,G,l,_,_,ba,qc,m,0,E7,.mark s j _ _ rfl D9 E7,rfl,S.1.A u zB,Zr zB u.size,hS,zP,dp rfl,⟨(λp e=>by cases e;exact dp rfl),Dn.own i D9,Dn.own o.2.1 D9,Dn.no⟩,λz hz=>hz,i.cap,o.2.1.cap,i.ji.ai C.size,o.2.1.ji.ai C.size⟩,u⟩
theorem Ll{c:Zh}{d:Nat}{e:List (Kd×Value)}(h:Bs w b d e)(a:c.1[b]?=w.1[b]?)(m:∀z∈e,∃f g,z.2=C3 (an f) (eh z.1.D) g/\Ab c c.1.size (an f) z.1.D):Bs c b d e:=by intro i z f;have⟨⟨g,j,k,l⟩,_⟩:=h i z f;exact⟨⟨(cell?_of_block a).ag g,(cell?_of_block a).ag j,(cell?_of_block a).ag k,(cell?_of_block a).ag l⟩,m z (Zs f)⟩
theorem Qb(E m d a:Int)(F:Nat){f:List (Kd×Value)}{u:Db}{t:Da}{A:Zk}(D C:Nat)(ph q O B:Int){G:Zk}{K J:Nat}(yK:ph≠0)(hz:Bs w b 0 f)(P:b<w.1.size)(zP:Dy H 0 K)(zS:Lt w H)(h:AS w w.1.size A u)(c:AR w w.1.size y t)(g:Ab w w.1.size G o)(zO:Dy G (eh o) J)(zT:Lt w G)(yO:eh f<=600)(yL:eh u<=100)(yI:eh t<=200)(l:∀z∈f,eh z.1.D<=30)(yW:eh o<=100000)(yR:0<=B)(yS:B<=1000000000):
 D8 101 #[ct (Yg E m d a (an ⟨b,0,ba⟩) (eh f) F A (eh u) D y (eh t) C),ct (Xy ph H 0 K G (eh o) J q O B)] w λe k=>LU w k e E m d a (C3 A (eh u) D) (C3 y (eh t) C) (f.map (·.1)) u t ph q O B [] o b H G f:=by
 have yQ:(ph==0)=bq:=D2 yK;have⟨W,k⟩:=Ag (((w.alloc (ca (C8 E m d a (an ⟨b,0,ba⟩) f F A u D y t C) 30)).alloc (ca (Xy ph H 0 K G (eh o) J q O B) 32)).alloc (ca Xv 128));have M:bs w.1.size w W:=by rw[k];exact((Zy).alloc E7 _).alloc E8 _
 have I:W.1.size=w.1.size+3:=by rw[k];simp
 have S:Aa W (w.1.size+2) Dj:=by have h1:=Aa.new ((w.alloc (ca (C8 E m d a (an ⟨b,0,ba⟩) f F A u D y t C) 30)).alloc (ca (Xy ph H 0 K G (eh o) J q O B) 32)) Dj 128;rw[k];simpa [Dj]using h1
 have R:Aa W (w.1.size+1) (Xu ph H 0 K G (eh o) J q O B):=by have h1:=Aa.new (w.alloc (ca (C8 E m d a (an ⟨b,0,ba⟩) f F A u D y t C) 30)) (Xu ph H 0 K G (eh o) J q O B) 32;rw[Ao]at h1;rw[k];exact Aa.A h1 (Zy)
 have Q:Aa W w.1.size (C7 E m d a (an ⟨b,0,ba⟩) f F A u D y t C):=by have h1:=Aa.new w (C7 E m d a (an ⟨b,0,ba⟩) f F A u D y t C) 30;rw[k];exact Aa.A (Aa.A h1 (Zy)) (Zy)
 have HW:=Yw k;have yT:w.1.size+3<=W.1.size:=D9;clear k I;have⟨W1,L⟩:=D7 W (w.1.size+1) 0 (Zg 2);have k:Tn [w.1.size+1] W W1:=by rw[L];exact AX _ _ _ _
 have yX:W.1.size<=W1.1.size:=k.size;have zM:bs w.1.size w W1:=M.ag (k.A M.size E7);have H1:Hid (Aa W1 w.1.size (C7 E m d a (an ⟨b,0,ba⟩) f F A u D y t C)/\Aa W1 (w.1.size+1) (Xu 2 H 0 K G (eh o) J q O B)/\Aa W1 (w.1.size+2) Dj):=⟨Aa.same Q (k.block _ D9 E7),(by rw[L];exact R.set 0 _),Aa.same S (k.block _ D9 E7)⟩;have yB:=Yw L;have I:=Yw (Za hz (Za h (Za c (Za l g))));have zN:Hid (Ab w w.1.size H []):=dp rfl;have HN:=Wb E m d a O F (C2 A u D) (C2 y t C) (Br.ai (Br.A (hz.dt P) zM) zM.size) N8;rw[B0]at HN;have yA:=Yw HN;have N:(Aa W w.1.size (C7 E m d a (an ⟨b,0,ba⟩) f F A u D y t C)/\Aa W (w.1.size+1) (Xu ph H 0 K G (eh o) J q O B)/\Aa W (w.1.size+2) Dj):=⟨Q,R,S⟩;obtain⟨⟨i0,i1,i2,i3,i4,i5,i6⟩,⟨⟨r0,f0⟩,⟨r1,f1⟩,⟨r2,f2⟩,⟨r3,f3⟩,⟨r4,f4⟩,⟨r5,f5⟩⟩,⟨y0,q0⟩,⟨y1,q1⟩,⟨y2,q2⟩,⟨y3,q3⟩,⟨y4,q4⟩,⟨y5,q5⟩,⟨y6,q6⟩,⟨y7,q7⟩,⟨y8,q8⟩,⟨y9,q9⟩,⟨T,zG⟩,⟨U,zH⟩,⟨V,zI⟩,⟨Y,zJ⟩,Z,zK⟩:=Gm (Bi N.1),r6 N.2.1,GO N.2.2;clear L hz h c g Q R S k M l HN N;delta D8;go_in;go_upto_region 1 with fail;rw[<-HW.o];go_upto_region 22 with fail;rw[<-yB.o];obtain⟨⟨i0,i1,i2,i3,i4,i5,i6⟩,⟨⟨r0,f0⟩,⟨r1,f1⟩,⟨r2,f2⟩,⟨r3,f3⟩,⟨r4,f4⟩,⟨r5,f5⟩⟩,⟨y0,q0⟩,⟨y1,q1⟩,⟨y2,q2⟩,⟨y3,q3⟩,⟨y4,q4⟩,⟨y5,q5⟩,⟨y6,q6⟩,⟨y7,q7⟩,⟨y8,q8⟩,⟨y9,q9⟩,⟨T,zG⟩,⟨U,zH⟩,⟨V,zI⟩,⟨Y,zJ⟩,Z,zK⟩:=Gm (Bi H1.1),r6 H1.2.1,GO H1.2.2;go_wp2_with fail;refine yA.Aj ?_;rintro e w2 ⟨r,rfl,yJ,zF⟩;have H2:Hid (Aa w2 w.1.size (C7 E m d a (an ⟨b,0,ba⟩) f F A u D y t C)/\Aa w2 (w.1.size+1) (Xu 2 H 0 K G (eh o) J q O B)/\Aa w2 (w.1.size+2) Dj):=⟨Aa.A H1.1 zF,Aa.A H1.2.1 zF,Aa.A H1.2.2 zF⟩;have zA:Hid (Zz w w2):=zM.ag (zF.ai zM.size);have yY:w.1.size+3<=w2.1.size:=Dl zF.size;have R:Hid (Iz (eh f) r):=yJ;obtain⟨⟨i0,i1,i2,i3,i4,i5,i6⟩,⟨⟨r0,f0⟩,⟨r1,f1⟩,⟨r2,f2⟩,⟨r3,f3⟩,⟨r4,f4⟩,⟨r5,f5⟩⟩,⟨y0,q0⟩,⟨y1,q1⟩,⟨y2,q2⟩,⟨y3,q3⟩,⟨y4,q4⟩,⟨y5,q5⟩,⟨y6,q6⟩,⟨y7,q7⟩,⟨y8,q8⟩,⟨y9,q9⟩,⟨T,zG⟩,⟨U,zH⟩,⟨V,zI⟩,⟨Y,zJ⟩,Z,zK⟩:=Gm (Bi H2.1),r6 H2.2.1,GO H2.2.2;rcases R.o with rfl|⟨i,rfl,S⟩
 .clear R;go_wp2;refine C1 (ct #[Ze,Zg E,Zg m,Zg d,Zg a,C6 b f F,C2 A u D,C2 y t C,Ze,Zb,Zb,Ze,Ze,Zg (B+1),Zb]) F2 ?_;refine LU.from (X:=w2) [w.1.size+2] ?_ (Jy w2 (w.1.size+2) _ _ _ _ _ _ _ _ _ _ _ _ _ _ _);intro wf L;have k:=zA.ag (L.A zA.size E7);exact⟨⟨⟨f.map (·.1),0,0,0,B+1,[],[],[]⟩,b,F,f,_,_,ba,_,_,0,rfl,.rest,rfl,I.1.A k P,Zr P k.size,dp rfl,dp rfl,dp rfl,⟨(λp e=>by cases e;exact dp rfl),Dn.no,Dn.no,Dn.no⟩,λz hz=>hz,⟨Zx,λ_=>⟨rfl,rfl⟩⟩,⟨Zx,λ_=>⟨rfl,rfl⟩⟩,Lt.no,Lt.no⟩,k⟩
 obtain⟨z,Q⟩:∃z,f[i]?=an z:=⟨f[i],Zv S⟩;have HY:Hid (z.1∈f.map (·.1)):=mem_map.2 ⟨z,Zs Q,rfl⟩;have yV:i<eh f:=(Zw Q).1;have yP:¬((i:Int)<0):=D9;have⟨⟨d0,d1,_,_⟩,_⟩:=(I.1.A zA P) i z Q;rw[Ay]at d0 d1;have⟨M,N⟩:=D7 w2 (w.1.size+1) 4 (Zg z.1.born);have l:Tn [w.1.size+1] w2 M:=by rw[N];exact AX _ _ _ _
 have zW:bs w.1.size w M:=zA.ag (l.A zA.size E7);have H3:Hid (Aa M w.1.size (C7 E m d a (an ⟨b,0,ba⟩) f F A u D y t C)/\Aa M (w.1.size+1) (Xu 2 H 0 K G (eh o) J q z.1.born B)/\Aa M (w.1.size+2) Dj):=⟨Aa.same H2.1 (l.block _ D9 E7),(by rw[N];exact H2.2.1.set 4 _),Aa.same H2.2.2 (l.block _ D9 E7)⟩;have e0:ek M (Zd b (i *4))=an (C4 z.1.sum):=(cell?_of_block (l.block b (Dl zA.size) E8)).ag d0;have yC:=Yw N;have zY:w.1.size+3<=M.1.size:=Dl l.size;clear N l S R Q;go_upto_region 26 with fail;rw[<-yC.o];obtain⟨⟨i0,i1,i2,i3,i4,i5,i6⟩,⟨⟨r0,f0⟩,⟨r1,f1⟩,⟨r2,f2⟩,⟨r3,f3⟩,⟨r4,f4⟩,⟨r5,f5⟩⟩,⟨y0,q0⟩,⟨y1,q1⟩,⟨y2,q2⟩,⟨y3,q3⟩,⟨y4,q4⟩,⟨y5,q5⟩,⟨y6,q6⟩,⟨y7,q7⟩,⟨y8,q8⟩,⟨y9,q9⟩,⟨T,zG⟩,⟨U,zH⟩,⟨V,zI⟩,⟨Y,zJ⟩,Z,zK⟩:=Gm (Bi H3.1),r6 H3.2.1,GO H3.2.2;have HC:=Yw (FJ J z.1.sum (Ab.X I.2.2.2.2 zW) D9);have N:Hid (Zz w M):=zW;go_wp2_with fail;refine HC.Aj ?_;rintro e w9 ⟨rfl,yM⟩;rw[yM];by_cases hin:z.1.sum∈o
 .have zB:o.any (λx=>decide (x=z.1.sum))=true:=any_eq_true.2 ⟨z.1.sum,hin,by simp⟩;rw[zB];go_wp2;refine C1 (ct #[Ze,Zg E,Zg m,Zg d,Zg a,C6 b f F,C2 A u D,C2 y t C,Zg 2,C3 H 0 K,C2 G o J,Zg q,Zg z.1.born,Zg B,Zb]) F2 ?_;refine LU.from (X:=M) [w.1.size+2] ?_ (Jy M (w.1.size+2) _ _ _ _ _ _ _ _ _ _ _ _ _ _ _);intro wf L;have k:=N.ag (L.A N.size E7);exact⟨⟨⟨f.map (·.1),2,q,z.1.born,B,[],o,[]⟩,b,F,f,_,_,ba,_,_,0,rfl,.ah,rfl,I.1.A k P,Zr P k.size,zN.X k,I.2.2.2.2.X k,dp rfl,⟨(λp e=>by cases e;exact dp rfl),(λp e=> eb (dp ⟨p,e,rfl⟩)),(λp e=> eb (eb (dp ⟨p,e,rfl⟩))),Dn.no⟩,λz hz=>hz,zP,zO,zS.ai k.size,zT.ai k.size⟩,k⟩
 have zB:o.any (λx=>decide (x=z.1.sum))=bq:=by simp;exact λx l e=>hin (e▸l)
 rw[zB];have HD:=Mf E m d a F D C z.1.sum (I.1.A N P) (Zr P N.size) (AS.ai (AS.A I.2.1 N) N.size) (AR.ai (AR.A I.2.2.1 N) N.size) yO yL yI (λz hz=>Zm (I.2.2.2.1 z hz) D9) ⟨z.1,HY,rfl⟩;have zZ:=Yw HD;go_wp2_with fail;refine zZ.Aj ?_;rintro e R ⟨h,zU⟩;have j:bs w.1.size w R:=N.ag (h.ai N.size);have x:Hid (Aa R w.1.size (C7 E m d a (an ⟨b,0,ba⟩) f F A u D y t C)/\Aa R (w.1.size+1) (Xu 2 H 0 K G (eh o) J q z.1.born B)/\Aa R (w.1.size+2) Dj):=⟨Aa.A H3.1 h,Aa.A H3.2.1 h,Aa.A H3.2.2 h⟩;have yN:w.1.size+3<=R.1.size:=Zm zY h.size;rcases zU with⟨s,rfl⟩|⟨s,g,c,rfl,zV,yF,zX⟩
 .obtain⟨l,S⟩:=D6 R (Yc 6) 42;have Q:bs R.1.size R l:=by rw[S];exact Zy
  have H5:(Aa l w.1.size (C7 E m d a (an ⟨b,0,ba⟩) f F A u D y t C)/\Aa l (w.1.size+1) (Xu 2 H 0 K G (eh o) J q z.1.born B)/\Aa l (w.1.size+2) Dj):=⟨Aa.A x.1 Q,Aa.A x.2.1 Q,Aa.A x.2.2 Q⟩;have n0:ek l (Zd (R.1.size) 0)=an (Zg 6):=by rw[S];simp[go_sem]
  have zC:Hid (Zz w l):=j.ag (Q.ai j.size);have zE:=Yw S;clear S s j h Q;go_upto_region 30 with fail;rw[<-zE.o];clear zE x;obtain⟨⟨i0,i1,i2,i3,i4,i5,i6⟩,⟨⟨r0,f0⟩,⟨r1,f1⟩,⟨r2,f2⟩,⟨r3,f3⟩,⟨r4,f4⟩,⟨r5,f5⟩⟩,⟨y0,q0⟩,⟨y1,q1⟩,⟨y2,q2⟩,⟨y3,q3⟩,⟨y4,q4⟩,⟨y5,q5⟩,⟨y6,q6⟩,⟨y7,q7⟩,⟨y8,q8⟩,⟨y9,q9⟩,⟨T,zG⟩,⟨U,zH⟩,⟨V,zI⟩,⟨Y,zJ⟩,Z,zK⟩:=Gm (Bi H5.1),r6 H5.2.1,GO H5.2.2;go_wp2;refine C1 (ct #[Ze,Zg E,Zg m,Zg d,Zg a,C6 b f F,C2 A u D,C2 y t C,Zg 2,C3 H 0 K,C2 G o J,Zg q,Zg z.1.born,Zg B,Zb]) F2 ?_;refine LU.from (X:=l) [w.1.size+2] ?_ (Jy l (w.1.size+2) _ _ _ _ _ _ _ _ _ _ _ _ _ _ _);intro wf L;have k:=zC.ag (L.A zC.size E7);exact⟨⟨⟨f.map (·.1),2,q,z.1.born,B,[],o,[]⟩,b,F,f,_,_,ba,_,_,0,rfl,.ah,rfl,I.1.A k P,Zr P k.size,zN.X k,I.2.2.2.2.X k,dp rfl,⟨(λp e=>by cases e;exact dp rfl),(λp e=> eb (dp ⟨p,e,rfl⟩)),(λp e=> eb (eb (dp ⟨p,e,rfl⟩))),Dn.no⟩,λz hz=>hz,zP,zO,zS.ai k.size,zT.ai k.size⟩,k⟩
 obtain⟨l,S⟩:=D6 R #[Ze,Zg E,Zg m,Zg d,Zg a,C6 g (BN f z.1.sum) c,C2 A u D,C2 y t C,Zc,Ze,Zc,Zc] 42;have Q:bs R.1.size R l:=by rw[S];exact Zy
 have H5:Hid (Aa l w.1.size (C7 E m d a (an ⟨b,0,ba⟩) f F A u D y t C)/\Aa l (w.1.size+1) (Xu 2 H 0 K G (eh o) J q z.1.born B)/\Aa l (w.1.size+2) Dj):=⟨Aa.A x.1 Q,Aa.A x.2.1 Q,Aa.A x.2.2 Q⟩;have n:Aa l R.1.size [Ze,Zg E,Zg m,Zg d,Zg a,C6 g (BN f z.1.sum) c,C2 A u D,C2 y t C,Zc,Ze,Zc,Zc]:=by rw[S];exact Aa.new R _ _
 obtain⟨⟨n0,_⟩,⟨n1,_⟩,⟨n2,_⟩,⟨n3,_⟩,⟨n4,_⟩,⟨n5,_⟩,⟨n6,_⟩,n7,_⟩:=n 0 _ rfl,n 1 _ rfl,n 2 _ rfl,n 3 _ rfl,n 4 _ rfl,n 5 _ rfl,n 6 _ rfl,n 7 _ rfl;have zC:Hid (Zz w l):=j.ag (Q.ai j.size);have yE:Hid (Bs l g 0 (BN f z.1.sum)):=zV.A Q zX;have yU:w.1.size+3<=g:=Zm zY yF;have yG:g<l.1.size:=Zr zX Q.size;have yZ:w.1.size+3<=l.1.size:=Zm yN Q.size;have zE:=Yw S;clear S s j h Q n zV;go_upto_region 30 with fail;rw[<-zE.o];clear zE x;obtain⟨⟨i0,i1,i2,i3,i4,i5,i6⟩,⟨⟨r0,f0⟩,⟨r1,f1⟩,⟨r2,f2⟩,⟨r3,f3⟩,⟨r4,f4⟩,⟨r5,f5⟩⟩,Q,S⟩:=Gm (Bi H5.1),r6 H5.2.1,D6 l #[C4 z.1.sum] 9;have h:bs l.1.size l Q:=by rw[S];exact Zy
 have j:ek Q (Zd (l.1.size) 0)=an (C4 z.1.sum):=by rw[S];simp[go_sem]
 have yH:l.1.size<Q.1.size:=by rw[S];simp
 have H6:Aa (l.alloc (ca #[C4 z.1.sum] 9)) (w.1.size+1+1) Dj:=by rw[<-S];exact Aa.A (v:=Ze) H5.2.2 h
 obtain⟨yD,⟨⟨y0,q0⟩,⟨y1,q1⟩,⟨y2,q2⟩,⟨y3,q3⟩,⟨y4,q4⟩,⟨y5,q5⟩,⟨y6,q6⟩,⟨y7,q7⟩,⟨y8,q8⟩,⟨y9,q9⟩,⟨T,zG⟩,⟨U,zH⟩,⟨V,zI⟩,⟨Y,zJ⟩,Z,zK⟩,n⟩:=Yw S,GO H6,Yw (Za h j);clear S h j;go_wp2;refine C1 (ct #[Ze,Zg E,Zg m,Zg d,Zg a,C6 g (BN f z.1.sum) c,C2 A u D,C2 y t C,Zg 2,C3 H 0 K,C2 G o J,Zg q,Zg z.1.born,Zg B,Yz l.1.size 1 1]) F2 ?_;rw[<-yD.o];refine LU.from (X:=Q) [w.1.size+2] ?_ (Jy Q (w.1.size+2) _ _ _ _ _ _ _ _ _ _ _ _ _ _ _);intro wf L;have S:=zC.ag (n.1.ai zC.size);have k:=S.ag (L.A S.size E7);refine⟨⟨⟨Dk (f.map (·.1)) z.1.sum,2,q,z.1.born,B,[],o,[z.1.sum]⟩,g,c,BN f z.1.sum,_,_,_,_,_,1,rfl,.drop z.1 HY,Ki _ _,Ll (yE.A n.1 yG) (L.block _ D9 E8) (λv x=> ?_),Dl L.size,zN.X k,I.2.2.2.2.X k,eb ⟨_,0,rfl,Dl L.size,λi s h=> ?_⟩,⟨Dn.new D9,(λp e=> eb (dp ⟨p,e,rfl⟩)),(λp e=> eb (eb (dp ⟨p,e,rfl⟩))),Dn.new D9⟩,λv x=>(B6.1 x).1,zP,zO,zS.ai k.size,zT.ai k.size⟩,k⟩
 .obtain⟨j,hj⟩:=A9 ((B6.1 x).1);have⟨_,p,x,h1,s⟩:=I.1 j v hj;exact⟨p,x,h1,s.X k⟩
 .match i,h with
  |0,h=>cases h;exact(cell?_of_block (L.block _ yH E8)).ag n.2
structure LV (w w':Zh) (e:Ending) (wd now given births:Int) (P L:Value) (ks:List Kd) (ps:List Pd) (ls:List Ld) (ph top at_ ro:Int) (qs ms:Zl) (b0:Nat) (x0 y0:Zk) (zs0:List (Kd×Value)) (r:UR) (b c:Nat) (zs:List (Kd×Value)) (qa ma da:Zk) (qc mc dc:Nat):Prop where
 e:e=.returned (ct #[Ze,Zg wd,Zg now,Zg given,Zg births,cr (an ⟨b,0,ba⟩) (eh r.B) c,P,L,Zg r.I,cr qa (eh r.H) qc,cr ma (eh r.ms) mc,Zg r.N,Zg r.M,Zg r.ro,cr da (eh r.ds) dc])
 jx:Gg ks ps ls ro qs ms r
 zk:zs.map (·.1)=r.B
 z:Bs w' b 0 zs
 lt:b<w'.1.size
 q:Ab w' w'.1.size qa r.H
 m:Ab w' w'.1.size ma r.ms
 d:Ab w' w'.1.size da r.ds
 fb:Dn b0 x0 y0 w.1.size (an ⟨b,0,ba⟩)
 fq:Dn b0 x0 y0 w.1.size qa
 fm:Dn b0 x0 y0 w.1.size ma
 fd:Dn b0 x0 y0 w.1.size da
 sub:∀z∈zs,z∈zs0
 cq:Dy qa (eh r.H) qc
 cm:Dy ma (eh r.ms) mc
 lq:Lt w' qa
 lm:Lt w' ma
 low:bs w.1.size w w'
theorem LU.lv{C:Zh}{e:Ending}{D a:Int}{u:C9}{z:Db}{v:Da}{y i f B:Int}{A x:Zl}{s:Nat}{E F:Zk}{j:List (Kd×Value)}(h:LU w C e D g d a P L u z v y i f B A x s E F j):∃r b c q o m k p n l,LV w C e D g d a P L u z v y i f B A x s E F j r b c q o m k p n l:=by obtain⟨⟨r,b,c,q,o,m,k,p,n,l,Q,R,t,S,T,U,V,W,⟨X,Y,G,H⟩,I,K,M,N,O⟩,J⟩:=h;refine⟨r,b,c,q,o,m,k,p,n,l,?_,R,t,S,T,U,V,W,X,Y,G,H,I,K,M,N,O,J⟩;rw[Q,<-t,B0]
theorem Mr(C o d a:Int)(b K:Nat)(m:List (Kd×Value))(G:C9)(i:Db)(g:Da)(u t:Zk)(A y:Nat)(B p n v:Int)(k l:Zk)(D E:Nat)(q j:Zl)(w:Zh)(T:m.map (·.1)=G)(F:Bs w b 0 m)(H:b<w.1.size)(Q:AS w w.1.size u i)(P:AR w w.1.size t g)(X:Ab w w.1.size k q)(O:Ab w w.1.size l j)(L:Dy k (eh q) D)(I:Dy l (eh j) E)(S:Lt w k)(J:Lt w l)(f:UWk a G i g v q)(M:eh j<=100000):
 D8 101 #[ct (Yg C o d a (an ⟨b,0,ba⟩) (eh G) K u (eh i) A t (eh g) y),ct (Xy B k (eh q) D l (eh j) E p n v)] w λe x=>∃r U c N h Y V z Z W,LV w x e C o d a (C3 u (eh i) A) (C3 t (eh g) y) G i g B p n v q j b k l m r U c N h Y V z Z W:=by
 refine Calls.mono (R:=λe x=>LU w x e C o d a (C2 u i A) (C2 t g y) G i g B p n v q j b k l m) ?_ (λe x h=>h.lv);subst T;have N:eh m<=600:=by have:=f.len;rw[B0]at this;exact this
 have x:∀z∈m,eh z.1.D<=30:=λz F=>f.cz z.1 (mem_map.2 ⟨z,F,rfl⟩);rw[B0];by_cases h0:B=0
 .subst h0;exact Qa C o d a K _ _ A y rfl rfl p n v k D q F H Q P O I J f.pl f.ll f.b0 f.b1
 cases q with
 |nil=>exact Qb C o d a K A y B p n v h0 F H L S Q P O I J N f.pl f.ll x M f.r0 f.r1
 |cons s q0=>exact Rb C o d a K i g u t A y B p n v D s q0 h0 F H X O I J L.1 N x (by have:=f.ql;simp at this;omega) M
theorem Ab.S{d:Zh}(h:Ab w w.1.size a f)(e:Tn V w d)(j:∀p,a=an p->p.block<w.1.size->p.block∉V):Ab d d.1.size a f:=by
 rcases h with h|⟨b,g,rfl,c,k⟩
 .exact dp h
 exact eb ⟨b,g,rfl,Zr c e.size,λi s l=>(cell?_of_block (e.block b c (j _ rfl c))).ag (k i s l)⟩
theorem AS.S{d:Zh}{k:Db}(h:AS w w.1.size a k)(j:Tn V w d)(m:∀p,a=an p->p.block<w.1.size->p.block∉V):AS d d.1.size a k:=by
 rcases h with h|⟨b,l,rfl,c,e⟩
 .exact dp h
 have f:=j.block b c (m _ rfl c);exact eb ⟨b,l,rfl,Zr c j.size,λi s g=>⟨(cell?_of_block f).ag (e i s g).1,(cell?_of_block f).ag (e i s g).2⟩⟩
theorem AR.S{g:Zh}(h:AR w w.1.size a k)(j:Tn V w g)(m:∀p,a=an p->p.block<w.1.size->p.block∉V):AR g g.1.size a k:=by
 rcases h with h|⟨b,l,rfl,c,d⟩
 .exact dp h
 have e:=j.block b c (m _ rfl c);exact eb ⟨b,l,rfl,Zr c j.size,λi s f=>⟨(cell?_of_block e).ag (d i s f).1,(cell?_of_block e).ag (d i s f).2.1,(cell?_of_block e).ag (d i s f).2.2⟩⟩
