import Derived.Test.YtdofmfnmackjhaaGreatDoorX38
set_option maxRecDepth 100000
set_option maxHeartbeats 16000000
namespace Go.Proofs.YtdofmfnmackjhaaGreatDoor
open ChangeShapes WideShapes ChangeAt RowKit _root_.Go.Proofs.Tryz List World Value
variable{w X Y:Zh}{i g n c u r b l m o q j e f d p:Nat}{a:Zk}{P:Int}
section
def e6:Zj:=[Ze,Zc,Zc,Ze,Zc,Zb]
structure DA (w w2:Zh) (bb q5 q6 q7:Nat) (a:Zk) (n c:Nat) (st ac:Zj) (P:Int) (SM TX RF:Nat) (X:Zh):Prop where
 o:w.1.size+1<bb/\bb<w2.1.size/\w2.1.size<=q5/\q5<q6/\q6<q7/\q7<X.1.size
 rd:∃p,AD X bb a n c p/\0<=p/\p<=P
 c5:Aa X q5 st
 c6:Aa X q6 ac
 c2:Aa X w.1.size z7
 c3:Aa X (w.1.size+1) e6
 tn:Tn [bb] w2 X
 ex:∃(k:Int) (s nm:Zi) (num:Int) (t:Zi) (ra:Zk) (rc:Nat) (rs:Zl),Aa X q7 [Zg k,.string s,.string nm,Zg num,.string t,.slice ra rs.length rc]/\Gq s nm t rs SM 41 TX RF/\X.ownsRow (q7+1) 9 1 (.slice ra rs.length rc) rs.length (rs.map Value.string)
theorem DA.K{I:Zh}{D E:Nat}{H z:Zj}{y:Int}{L M K x:Nat}(h:DA w I i D E g a n c H z P L M K X){V:List Nat}(d:Tn V X Y)(A:∀v∈V,v=i\/v=g)(Q:∃p,AD Y i a n c p/\0<=p/\p<=y)(N:∃(k:Int) (s C:Zi) (J:Int) (t:Zi) (F:Zk) (G:Nat) (m:Zl),Aa Y g (Yc k s C J t F m.length G)/\Gq s C t m u 41 x r/\Y.ownsRow (g+1) 9 1 (C3 F m.length G) m.length (m.map string)):DA w I i D E g a n c H z y u x r Y:=by
 have j:=h.o;have R:=d.size;have f:∀{q:Nat} {l:Zj},Aa X q l->q<g->q≠i->Aa Y q l:=λ{q l} hc h1 h2=>hc.same (d.block q Yv (λo=>by rcases A q o with e|e<;>omega))
 refine⟨⟨j.1,j.2.1,j.2.2.1,j.2.2.2.1,j.2.2.2.2.1,Yv⟩,Q,f h.c5 Yv Yv,f h.c6 Yv Yv,f h.c2 Yv Yv,f h.c3 Yv Yv,⟨d.os.ah h.tn.os,d.tape.ah h.tn.tape,d.output.ah h.tn.output,Zm h.tn.size R,λb B o=>(d.block b (Zr B h.tn.size) (λO=>by rcases A b O with e|e;exact o (by simp[e]);omega)).ah (h.tn.block b B o)⟩,N⟩
theorem DA.go{r:Zh}{q j:Zj}{e:Int}(h:DA w r b l m o a n c q j P g i f X)(z:X.grownBy Y (some b))(B:∃p,AD Y b a n c p/\0<=p/\p<=e):DA w r b l m o a n c q j e g i f Y:=by have⟨k,s,C,u,t,D,E,F,v,x,y⟩:=h.ex;have A:=h.o;have d:Tn [b] X Y:=Tn.grown z Yu;exact h.K d Yu B ⟨k,s,C,u,t,D,E,F,v.same (d.block _ A.2.2.2.2.2 Yt),x,Gr y d Yt⟩
theorem DA.low{o:Zh}{k:Nat}{m f:Zj}(h:DA w o g j k l a n c m f P d e b X)(i:Zz X Y):DA w o g j k l a n c m f P d e b Y:=
 h.go (Ag _ i) (h.rd.imp λ_ h=>⟨h.1.A i,h.2⟩)
theorem DA.set{y:Zh}{x p:Zj}{A B z:Nat}(h:DA w y q r u b a n c x p P A B z X)(j:Nat)(v:D4)(F:∃(k:Int) (s f:Zi) (e:Int) (t:Zi) (g:Zk) (rc:Nat) (d:Zl),Aa (X.setCell (Zd b j) v) b (Yc k s f e t g d.length rc)/\Gq s f t d l 41 m i/\X.ownsRow (b+1) 9 1 (C3 g d.length rc) d.length (d.map string)):DA w y q r u b a n c x p P l m i (X.setCell (Zd b j) v):=by
 have G:=h.o;obtain⟨k,s,f,e,t,g,rc,d,C,D,E⟩:=F;have o:=AP X b j v;exact h.K o Yu (h.rd.imp λ_ h=>⟨h.1.K o Yt Yt,h.2⟩) ⟨k,s,f,e,t,g,rc,d,C,D,Gr E o Yu⟩
theorem DA.fz{r:Zh}{q g:Zj}(h:DA w r i o p b a n c q g P e f d X)(j:Nat)(m:j<6):∃v,X.cell? (Zd b j)=some v/\X.frozen? ⟨b,j,none⟩=false:=by have⟨k,s,x,u,t,y,z,A,l,_⟩:=h.ex;exact⟨_,l j _ (Zv m)⟩
theorem DA.sum{p:Zh}{o i:Zj}(h:DA w p j l m e a n c o i P d g f X)(s:Zi)(v:s.size<=d):DA w p j l m e a n c o i P d g f (X.setCell (Zd e 1) (C4 s)):=by have⟨k,_,x,q,t,y,z,A,r,b,u⟩:=h.ex;exact h.set 1 _ ⟨k,s,x,q,t,y,z,A,r.set 1 _,⟨v,b.du,b.dw,b.lss,b.dt⟩,u⟩
theorem DA.nam{q:Zh}{p j:Zj}(h:DA w q l m o e a n c p j P g i f X)(d:Zi)(x:d.size<=41):DA w q l m o e a n c p j P g i f (X.setCell (Zd e 2) (C4 d)):=by have⟨k,s,_,r,t,y,z,A,u,b,v⟩:=h.ex;exact h.set 2 _ ⟨k,s,d,r,t,y,z,A,u.set 2 _,⟨b.fh,x,b.dw,b.lss,b.dt⟩,v⟩
theorem DA.G{o:Zh}{m g:Zj}(h:DA w o i j l b a n c m g P e f d X)(x:Int):DA w o i j l b a n c m g P e f d (X.setCell (Zd b 3) (Zg x)):=by have⟨k,s,u,_,t,v,y,z,p,q,r⟩:=h.ex;exact h.set 3 _ ⟨k,s,u,x,t,v,y,z,p.set 3 _,q,r⟩
theorem DA.ref{p:Zh}{o i:Zj}(h:DA w p j l m b a n c o i P f g d X){ra:Zk}{rc:Nat}{rs:Zl}(x:X.ownsRow (b+1) 9 1 (C3 ra rs.length rc) rs.length (rs.map string))(r:rs.length<=d)(v:∀s∈rs,s.size<=8):DA w p j l m b a n c o i P f g d (X.setCell (Zd b 5) (C3 ra rs.length rc)):=by have⟨k,s,y,q,t,_,_,_,u,e,_⟩:=h.ex;exact h.set 5 _ ⟨k,s,y,q,t,ra,rc,rs,u.set 5 _,⟨e.fh,e.du,e.dw,r,v⟩,x⟩
theorem DA.cz{p:Zh}{o i:Zj}(h:DA w p j l m e a n c o i P g d f X)(t:Zi)(v:t.size<=d):DA w p j l m e a n c o i P g d f (X.setCell (Zd e 4) (C4 t)):=by have⟨k,s,x,q,_,y,z,A,r,b,u⟩:=h.ex;exact h.set 4 _ ⟨k,s,x,q,t,y,z,A,r.set 4 _,⟨b.fh,b.du,v,b.lss,b.dt⟩,u⟩
theorem DA.more{v:Zh}{u m:Zj}{g:Int}(h:DA w v o p q r a n c u m P j l i X)(H:P<=g)(y:j<=e)(z:l<=f)(A:i<=d):DA w v o p q r a n c u m g e f d X:=by have⟨k,s,D,x,t,E,F,G,B,b,C⟩:=h.ex;exact⟨h.o,h.rd.imp λ_ h=>⟨h.1,h.2.1,Yv⟩,h.c5,h.c6,h.c2,h.c3,h.tn,k,s,D,x,t,E,F,G,B,⟨Zm b.fh y,b.du,Zm b.dw z,Zm b.lss A,b.dt⟩,C⟩
theorem Qg.rows{u n b a:Int}{m r l:Zk}{t s:Nat}(h:Qg X (Yh u n b a m g t r q s l i p)):∃(c:Dj) (d:Dv),(g=c.length/\i=d.length)/\(AW X X.1.size m c/\g<=1048576/\∀k∈c,k.sum.size<=8)/\AS X X.1.size l d/\i<=1048576:=by have⟨_,_,_,_,_,_,_,_,_,_,c,v,d,e,j,f,_⟩:=h.ex;simp only[List.cons.injEq,slice.injEq]at e;obtain⟨_,_,_,_,⟨rfl,rfl,rfl⟩,_,⟨rfl,rfl,rfl⟩,_⟩:=e;exact⟨c,d,⟨rfl,rfl⟩,⟨j.k,f.kn,λk o=>(f.k k o).s⟩,j.l,f.ln⟩
theorem OJ(a:Zk)(n c:Nat)(w:Zh)(hn:n<=maxLen)(y:Rq w a n)(hc:n<=c):
 D8 4 #[C3 a n c] w λe b=>∃(cs:Zj) (k:Int) (s z:Zi) (zB:Int) (t:Zi) (ra:Zk) (rc:Nat) (rs:Zl),e=C5 (.tuple #[.agg cs.toArray,.agg (Yd k s z zB t ra rs.length rc)])/\Qg b cs/\Gq s z t rs 9 41 2001 31/\(Af b b.1.size ra rs/\(ra=none->rs.length=0/\rc=0))/\Zz w b:=by
 have⟨W,f⟩:=Ae ((w.alloc (.cells Yi 27)).alloc (.cells Ye 32));obtain⟨d,o,c2,c3⟩:=Bi (l:=z7) (k:=e6) f;have h:=Yw (Sj a n c W hn (y.A d) hc);have b:=Yw (Za c2 (Za c3 (Za d o)));have i:=Yw f;clear f d o c2 c3 y;go_enter func4,ntmps4;go_upto_region 1 with fail;rw[<-i.o];clear i;go_wp2_with fail;refine h.Ai ?_;clear h;rintro e w1 ⟨J,I,rfl,u,d⟩;have⟨o,h⟩:=Ae W.1.size
 rw[<-h]at u |-;have yC:w.1.size+1<o:=Dz b.2.2.2
 have f:Hid ((Aa w1 w.1.size z7/\Aa w1 (w.1.size+1) e6)/\Zz w w1):=⟨⟨Aa.A (v:=Ze) b.1 d,Aa.A (v:=Ze) b.2.1 d⟩,b.2.2.1.ah (d.aj b.2.2.1.size)⟩;have K:=u.lt;clear d h b;go_wp2_with fail;refine(ZO o a J I 0 w1 u Yv Yv).aj ?_;rintro e q ⟨⟨cs,rfl,G⟩,Cm⟩;obtain⟨i,h,d,b,E,F,C,D,A,B,L,O,M,e7, -⟩:=(G [] q Yu (Tn.of Ad)).ex
 generalize L.length=nk at e7;generalize O.length=np at e7;generalize M.length=nl at e7;subst e7;have HS:Hid (∀Y,Tn [o,w.1.size,w.1.size+1] q Y->Qg Y (Yh i h d b E nk F C np D A nl B)):=λY hY=>G _ Y Yt hY;have N:Hid ((Aa q w.1.size z7/\Aa q (w.1.size+1) e6)/\Zz w q):=⟨⟨f.1.1.aw (v:=Ze) Cm.gr Yv,f.1.2.aw (v:=Ze) Cm.gr Yv⟩,QJ f.2 Cm.gr Yv⟩
 have⟨p2,H,V⟩:=Cm.R;have zS:=H.lt;clear G Cm f u K L O M;have⟨W5,f⟩:=D6 q (Yg i h d b E nk F C np D A nl B) 27;obtain⟨U,z5,c5⟩:=AE (l:=(Yh i h d b E nk F C np D A nl B)) f;have u:=Yw (RH o a J I p2 W5 (H.A U) Yv Yv);go_upto_region 3 with fail;rw[<-f];clear f H;go_wp2_with fail;refine u.Ai ?_;rintro e w3 ⟨G,H,M,z,L,K,rfl,yB,zT,yF,yG,zC,yE,Cm⟩
 have⟨W6,f⟩:=D6 w3 #[Zg G,C4 H,Zg M,C4 z,Zg L,Zg K] 51;obtain⟨Q,z6,c6⟩:=AE (l:=[Zg G,C4 H,Zg M,C4 z,Zg L,Zg K]) f;have⟨p3,R,Z⟩:=Cm.R;have g:=Cm.gr.size;have j:=Yw (AK o a J I p3 7 W6 (R.A Q) Yv Yv Yv Yv);clear u;go_upto_region 4 with fail;rw[<-f];clear f;go_wp2_with fail;refine j.Ai ?_
 rintro e w4 ⟨r,rfl,r0,r1,T,u⟩;obtain⟨k,rfl⟩:∃k:Nat,r=k:=⟨r.toNat,Yv⟩;have p:=u.size;have⟨m,hm⟩:∃m:Nat,(1+(k:Int))=m:=⟨1+k,Yu⟩;have⟨W7,P⟩:=D6 w4 #[Zg (m:Int),Zc,Zc,Ze,Zc,Zb] 32;obtain⟨O,yD,S⟩:=AE (l:=[Zg (m:Int),Zc,Zc,Ze,Zc,Zb]) P;clear j;go_upto_region 5 with fail;rw[<-P]
 have f:Hid (DA w q o q.1.size w3.1.size w4.1.size a J I (Yh i h d b E nk F C np D A nl B) [Zg G,C4 H,Zg M,C4 z,Zg L,Zg K] 50301 8 16 3 W7):=by
  have zM:=Aj (Aj (Aj (Aj (Ag (some o) U) Cm.gr) (Ag _ Q)) u) (Ag _ O);have zY:=Aj (Aj (Ag (some o) Q) u) (Ag _ O)
  refine⟨⟨yC,zS,Zx,Yv,Yv,Yv⟩,⟨_,T.A O,Yv,Yv⟩,(c5.aw (v:=Zg i) Cm.gr Yv).aw (v:=Zg i) zY Yv,(c6.aw (v:=Zg G) u Yv).A (v:=Zg G) O,N.1.1.aw (v:=Ze) zM Yv,N.1.2.aw (v:=Ze) zM Yv,Tn.grown zM Yu,⟨_,_,_,_,_,none,0,[],S,⟨Yq,Yq,Yq,Yu,Yu⟩,ownsRow_nil _ _ _ _⟩⟩
 have HU:=Yw (Pa m W7 Yv Yv);have yH:q.1.size<w3.1.size:=Yv
 have yI:w3.1.size<w4.1.size:=Yv
 have zG:w4.1.size<W7.1.size:=Yv
 obtain⟨y0,_⟩:=S 0 _ rfl;have zK:Hid (Zz w q):=N.2;clear P U z5 c5 Q z6 c6 Cm R T u O yD S N Z V r0 r1 hm g p;go_wp2_with fail;refine HU.Ai ?_;rintro e X ⟨rfl,rfl⟩;clear HU y0;generalize DF m=u1;generalize Db m=u2;generalize IS m=u3;generalize CK m=u4;generalize q.1.size=q5 at *
 generalize w3.1.size=q6 at *
 generalize w4.1.size=q7 at *
 go_upto_if 30 with fail
 go_cut [30] (λ_ P=>Hid (DA w q o q5 q6 q7 a J I (Yh i h d b E nk F C np D A nl B) [Zg G,C4 H,Zg M,C4 z,Zg L,Zg K] 50301 8 16 3 P))
 case first=>
  cases u1
  .go_wp2;go_meet;exact f
  obtain⟨V,T,a2,a3,a4,a5⟩:=Aa.c6 f.c6 0 1 2 3 4 5;obtain⟨ks,ls,⟨rfl,rfl⟩,⟨U,zF,R⟩,hl,zN⟩:=(HS X (f.tn.aj Yu)).rows;obtain⟨s0,s1,s2,s3,s4,s5,s6⟩:=Aa.c7 f.c5 0 1 2 3 4 5 6;have O:=Yw (Jf G M L K H z i h d b E C A F np D ls.length B ks X U zC Yv zF);go_wp2_with fail;refine O.Ai ?_;rintro e Y ⟨s,rfl,hs,y⟩;have u:=Yw ((f.low y).sum s (hs R))
  have⟨v,y1,f1⟩:=(f.low y).fz 1 Yv;have hY:=y.size;clear O f y U hl R hs V T a2 a3 a4 a5 s0 s1 s2 s3 s4 s5 s6;go_wp2;go_meet;exact u
 case rest=>
 revert wc;intro X f;have zG:=f.o.o.2.2.2.2.2
 go_upto_if 35 with fail
 go_cut [35] (λ_ P=>Hid (DA w q o q5 q6 q7 a J I (Yh i h d b E nk F C np D A nl B) [Zg G,C4 H,Zg M,C4 z,Zg L,Zg K] 50301 8 16 3 P))
 case first=>
  cases u2
  .go_wp2;go_meet;exact f
  obtain⟨V,T,a2,a3,a4,a5⟩:=Aa.c6 f.c6 0 1 2 3 4 5;have u:=Yw (f.nam z Yv);have⟨v,y1,f1⟩:=f.fz 2 Yv;have hX:=f.o.o.2.2.2.2.2;clear f;go_wp2;go_meet;exact u
 case rest=>
 revert wc;intro X f;have zG:=f.o.o.2.2.2.2.2
 go_upto_if 40 with fail
 go_cut [40] (λ_ P=>Hid (DA w q o q5 q6 q7 a J I (Yh i h d b E nk F C np D A nl B) [Zg G,C4 H,Zg M,C4 z,Zg L,Zg K] 50301 8 16 3 P))
 case first=>
  by_cases hu:u3=1
  case' neg=>
   have zR:(u3==1)=false:=D2 hu
   go_wp2;go_meet;exact f
  have zR:(u3==1)=true:=D2 hu
  obtain⟨V,T,a2,a3,a4,a5⟩:=Aa.c6 f.c6 0 1 2 3 4 5;have u:=Yw (f.G K);have⟨v,y1,f1⟩:=f.fz 3 Yv;have hX:=f.o.o.2.2.2.2.2;clear f hu;go_wp2;go_meet;exact u
 case rest=>
 revert wc;intro X f;have zG:=f.o.o.2.2.2.2.2
 go_upto_if 45 with fail
 go_cut [45] (λ_ P=>Hid (DA w q o q5 q6 q7 a J I (Yh i h d b E nk F C np D A nl B) [Zg G,C4 H,Zg M,C4 z,Zg L,Zg K] 50301 8 16 3 P))
 case first=>
  by_cases hu:u3=2
  case' neg=>
   have zR:(u3==2)=false:=D2 hu
   go_wp2;go_meet;exact f
  have zR:(u3==2)=true:=D2 hu
  obtain⟨V,T,a2,a3,a4,a5⟩:=Aa.c6 f.c6 0 1 2 3 4 5;obtain⟨ks,ls,⟨rfl,rfl⟩,⟨U,zF,R⟩,hl,zN⟩:=(HS X (f.tn.aj Yu)).rows;obtain⟨s0,s1,s2,s3,s4,s5,s6⟩:=Aa.c7 f.c5 0 1 2 3 4 5 6;have O:=Yw (Kn G M L K H z i h d b E C A ks.length F np D B ls X hl zC Yv zN);clear hu;go_wp2_with fail;refine O.Ai ?_;rintro e Y ⟨x,rfl,y⟩;have u:=Yw ((f.low y).G x)
  have⟨v,y1,f1⟩:=(f.low y).fz 3 Yv;have hY:=y.size;clear O f y U hl R V T a2 a3 a4 a5 s0 s1 s2 s3 s4 s5 s6;go_wp2;go_meet;exact u
 case rest=>
 revert wc;intro X f;have zG:=f.o.o.2.2.2.2.2
 go_upto_if 50 with fail
 go_cut [50] (λ_ P=>Hid (DA w q o q5 q6 q7 a J I (Yh i h d b E nk F C np D A nl B) [Zg G,C4 H,Zg M,C4 z,Zg L,Zg K] 50302 8 16 3 P))
 case first=>
  cases u4
  .have u:Hid (DA w q o q5 q6 q7 a J I (Yh i h d b E nk F C np D A nl B) [Zg G,C4 H,Zg M,C4 z,Zg L,Zg K] 50302 8 16 3 X):=f.more Yv (Zx) (Zx) (Zx);go_wp2;go_meet;exact u
  obtain⟨V,T,a2,a3,a4,a5⟩:=Aa.c6 f.c6 0 1 2 3 4 5;obtain⟨ks,ls,⟨rfl,rfl⟩,⟨U,zF,R⟩,hl,zN⟩:=(HS X (f.tn.aj Yu)).rows;obtain⟨s0,s1,s2,s3,s4,s5,s6⟩:=Aa.c7 f.c5 0 1 2 3 4 5 6;have O:=Yw (Ko G M L K H z i h d b E C A F np D ls.length B ks X U zC Yv zT Yv zF);go_wp2_with fail;refine O.Ai ?_;rintro e Y ⟨g,c9,rs,rfl,ho,_,⟨yK,zE⟩,y⟩
  have⟨v,y4,f4⟩:=(f.low y).fz 4 Yv;have⟨v',y5,f5⟩:=(f.low y).fz 5 Yv;have⟨Y1,Q⟩:=Ae ((Y.setCell (Zd q7 4) (C4 H)).setCell (Zd q7 5) (C7 g rs c9));have hY:=y.size;have hd:=(((f.low y).cz H yB).ref (Gr (ho.aj (show q7+1<=X.1.size by omega)) (AP Y q7 4 _) Yu) Yv (λs hs=>by obtain⟨k,U,rfl⟩:=zE s hs;exact R k U));rw[<-Q]at hd
  have⟨p,N,zA,zO⟩:=hd.rd;have j:=Yw (AK o a J I p 5 Y1 N zA Yv Yv Yv);have zU:=Yw hd;clear O f y U hl R ho zE hd N V T a2 a3 a4 a5 s0 s1 s2 s3 s4 s5 s6;go_upto_region 16 with fail;rw[<-Q];clear Q y4 f4 y5 f5 hY;go_wp2_with fail;refine j.Ai ?_;rintro e Z ⟨r,rfl,r0,r1,N,V⟩
  have u:Hid (DA w q o q5 q6 q7 a J I (Yh i h d b E ks.length F C np D A ls.length B) [Zg G,C4 H,Zg M,C4 z,Zg L,Zg K] 50302 8 16 3 Z):=zU.go V ⟨p+1,N,Yv,Yv⟩;clear zU j N V;by_cases hr0:r=0
  case' neg=>
   have zP:(r==0)=false:=D2 hr0
   clear hr0
  case' pos=>
   have zP:(r==0)=true:=D2 hr0
   obtain⟨s0,_⟩:=u.c5 0 _ rfl;have R:=Yw (Fy i Z);clear hr0;go_wp2_with fail;refine R.Ai ?_;rintro e Z' ⟨rfl,rfl⟩;clear R;by_cases hw:1<=i/\i<=8
   case' pos=>
    rw[decide_eq_true hw];obtain⟨T,_⟩:=u.c6 1 _ rfl;have hm:(100000:Nat)<=maxLen:=Yo
    clear hw;go_wp2_with fail;refine(Km _ i _ ?_).aj ?_
    .have h4:(⟨#[110,111,110,101]⟩:Zi).size=4:=rfl;simp;omega
    rintro e Z' ⟨t,rfl,ht,y⟩;have U:Below Z'.1.size Z' (Z'.alloc (.cells #[C4 t] 9)):=Zy;have R:=(u.low y).low U;have hq:=u.o.o.2.2.2.2.2;have hZ:=y.size;have zX:=Yw (R.ref (ra:=some ⟨Z'.1.size,0,none⟩) (rc:=1) (rs:=[t]) (ownsRow_lit Z' #[C4 t] 1 Yv Yv rfl) Yu (D2 ht));have⟨v,y5,f5⟩:=R.fz 5 Yv;have zZ:=U.size
    simp only[Al]at zZ;clear u R U y ht T s0;go_wp2;go_meet;exact zX
   rw[decide_eq_false hw];clear s0 hw
  all_goals
   go_wp2;go_meet;exact u
 case rest=>
 revert wc;intro X f;have⟨p,N,zA,zO⟩:=f.rd;have j:=Yw (AK o a J I p 8 X N zA Yv Yv Yv);clear N;go_wp2_with fail;refine j.Ai ?_;rintro e Z ⟨r,rfl,r0,r1,N,V⟩;have U:Hid (DA w q o q5 q6 q7 a J I (Yh i h d b E nk F C np D A nl B) [Zg G,C4 H,Zg M,C4 z,Zg L,Zg K] 50303 8 16 3 Z):=f.go V ⟨p+1,N,Yv,Yv⟩;clear f j N V zA zO
 go_upto_if 74 with fail
 go_cut [74] (λ_ P=>Hid (DA w q o q5 q6 q7 a J I (Yh i h d b E nk F C np D A nl B) [Zg G,C4 H,Zg M,C4 z,Zg L,Zg K] 50310 9 2001 31 P))
 case first=>
  by_cases hr0:r=0
  case' neg=>
   have zP:(r==0)=false:=D2 hr0
   have u:Hid (DA w q o q5 q6 q7 a J I (Yh i h d b E nk F C np D A nl B) [Zg G,C4 H,Zg M,C4 z,Zg L,Zg K] 50310 9 2001 31 Z):=U.more Yv Yv Yv Yv;clear hr0 U;go_wp2;go_meet;exact u
  have zP:(r==0)=true:=D2 hr0
  have⟨k,s,nn,zB,t,ra,rc,rs,S,T,ho⟩:=U.ex;have⟨p,N,zA,zO⟩:=U.rd;have yA:=U.o.o;have O:=Yw (QS o (q7+1) a J I p k s nn zB t ra rc rs Z N zA Yv ho (λj y=>Dz (Ac ho y).1) Yv T);obtain⟨e0,e1,e2,e3,e4,e5⟩:=Aa.c6 S 0 1 2 3 4 5;clear hr0;go_wp2_with fail;refine O.Ai ?_;rintro e Y ⟨⟨k',s',n9,P,t',zH,zI,zJ,rfl,j,zV,_⟩,Cm⟩
  have y:=S.aw (v:=Zg k) Cm.gr Yv;have tY:Tn [o] Z Y:=Tn.grown Cm.gr Yu;have⟨Y1,Q⟩:=Ae ((((((Y.setCell (Zd q7 0) (Zg k')).setCell (Zd q7 1) (C4 s')).setCell (Zd q7 2) (C4 n9)).setCell (Zd q7 3) (Zg P)).setCell (Zd q7 4) (C4 t')).setCell (Zd q7 5) (C1 zH zJ zI));have t1:Tn [q7] Y Y1:=by
   rw[Q]
   repeat refine Tn.ah ?_ (Tn.set _ _ _ _ Yu)
   exact Tn.of Ad
  have c8:Aa Y1 q7 (Yc k' s' n9 P t' zH zJ.length zI):=by rw[Q];exact(((((y.set 0 (Zg k')).set 1 (C4 s')).set 2 (C4 n9)).set 3 (Zg P)).set 4 (C4 t')).set 5 (C1 zH zJ zI)
  have u:Hid (DA w q o q5 q6 q7 a J I (Yh i h d b E nk F C np D A nl B) [Zg G,C4 H,Zg M,C4 z,Zg L,Zg K] 50310 9 2001 31 Y1):=U.K (V:=[o,q7]) ((tY.aj Yu).ah (t1.aj Yu)) Yu (by
   have⟨p',R,h2,h3⟩:=Cm.R;exact⟨p',R.K t1 Yt Yt,Yv,Yv⟩) ⟨k',s',n9,P,t',zH,zI,zJ,c8,j,Gr zV t1 Yu⟩
  obtain⟨y0,f0⟩:=y 0 _ rfl;obtain⟨y1,f1⟩:=y 1 _ rfl;obtain⟨y2,f2⟩:=y 2 _ rfl;obtain⟨y3,f3⟩:=y 3 _ rfl;obtain⟨y4,f4⟩:=y 4 _ rfl;obtain⟨y5,f5⟩:=y 5 _ rfl;have yJ:=y.lt;clear c8 t1 tY y S T ho N O U Cm zV j e0 e1 e2 e3 e4 e5;subst Q;go_wp2;go_meet;exact u
 case rest=>
 revert wc;intro X f;have⟨k,s,nn,zB,t,ra,rc,rs,S,T,ho⟩:=f.ex;have yA:=f.o.o;have u:Hid (∀Y,Tn [w.1.size,w.1.size+1] X Y->Qg Y (Yh i h d b E nk F C np D A nl B)/\Gq s nn t rs 9 41 2001 31/\(Af Y Y.1.size ra rs/\(ra=none->rs.length=0/\rc=0))/\Zz w Y):=λY hY=>by have R:Tn [o,w.1.size,w.1.size+1] q Y:=(f.tn.aj Yu).ah (hY.aj Yu);exact⟨HS Y R,T,Ls (Gr ho hY Yt),zK.ah (R.A zK.size Yt)⟩
 obtain⟨s0,s1,s2,s3,s4,s5,s6⟩:=Aa.c7 f.c5 0 1 2 3 4 5 6;obtain⟨e0,e1,e2,e3,e4,e5⟩:=Aa.c6 S 0 1 2 3 4 5;obtain⟨⟨y0,f0⟩,⟨y1,f1⟩,⟨y2,f2⟩,⟨y3,f3⟩,⟨y4,f4⟩,⟨y5,f5⟩,j,f6⟩:=Hb f.c2;obtain⟨v0,g0⟩:=f.c3 0 _ rfl;obtain⟨y,g1⟩:=f.c3 1 _ rfl;obtain⟨N,g2⟩:=f.c3 2 _ rfl;obtain⟨O,g3⟩:=f.c3 3 _ rfl;obtain⟨Q,g4⟩:=f.c3 4 _ rfl;obtain⟨U,g5⟩:=f.c3 5 _ rfl;clear f HS zK ho T S;go_wp2
 go_region
 go_wp2;refine C0 (.tuple #[.agg (Yg i h d b E nk F C np D A nl B),.agg (Yd k s nn zB t ra rs.length rc)]) (by simp[results,results4,go_sem,y0,y1,y2,y3,y4,y5,j,v0,y,N,O,Q,U]) ⟨[_,_,_,_,_,_,_],k,s,nn,zB,t,ra,rc,rs,rfl,u.o _ ?_⟩;refine Tn.ah ?_ (Tn.of (V:=[w.1.size,w.1.size+1]) Ad.drew)
 repeat refine Tn.ah ?_ (Tn.set _ _ _ _ Yu)
 exact Tn.of Ad
