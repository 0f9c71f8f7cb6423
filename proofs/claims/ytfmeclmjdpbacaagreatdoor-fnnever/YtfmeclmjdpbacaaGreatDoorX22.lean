import Derived.Test.YtfmeclmjdpbacaaGreatDoorX18
import Derived.Test.YtfmeclmjdpbacaaGreatDoorX15
set_option maxRecDepth 100000
set_option maxHeartbeats 16000000
open Option renaming some->ai,none->an
open Go.Obj renaming cells->bs
open Go.Value renaming slice->bx,agg->ca,ownBlock->ef
open Or renaming inl->cr,inr->ct
open List renaming length->ed,toArray->ee
open Go.World renaming cell?->eh,ownsRow->ej
namespace Go.Proofs.YtfmeclmjdpbacaaGreatDoor
open ChangeShapes WideShapes ChangeAt RowKit _root_.Go.Proofs.Tryz List World Value
variable{w:Zh}{k f d i l y:Int}{b g a t n D size q p B:Nat}{j c u C v x H:Zk}{e:TypeId}{r m:C7}{o:C6}
theorem DX(g:Int)(z:Nat)(args:Array Value)(t f c a:Int)(p m j:Zk)(r q o n l k:Nat)(s u d:Zi)(i:Int)(B:Zk)(D C:Nat)(w:Zh)(V:List Nat)(Q:Zh->Ending->Zh->Prop)(S:Ending->Zh->Prop)(hk:(g=1/\z=122/\args= #[ca (Yg t f c a p r q m o n j l k),ca (Ye g s u i d B D C)])\/(g=2/\z=123/\args= #[ca (Yg t f c a p r q m o n j l k),ca (Ye g s u i d B D C)])\/(g=3/\z=124/\args= #[ca (Yg t f c a p r q m o n j l k),C0 u])\/(g=5/\z=127/\args= #[ca (Yg t f c a p r q m o n j l k),Zg i])\/(g=6/\z=128/\args= #[ca (Yg t f c a p r q m o n j l k),Zg i])\/(g=7/\z=129/\args= #[ca (Yg t f c a p r q m o n j l k),C0 s]))(h:∀b∈V,b<w.1.size)(hc:∀X,Zz w X->w.1.size+3<=X.1.size->D4 z args X (Q X))(hf:∀X e x,Q X e x->Tn V X x/\∃(Y Z c2 c3 c4:Int) (N:Zk) (P O:Nat) (J:Zk) (L K:Nat) (F:Zk) (I G:Nat) (M:Zi) (H:Int) (T U:Zi),e=C1 (ca #[Zg Y,Zg Z,Zg c2,Zg c3,Zg c4,Cx N P O,Cx J L K,Cx F I G,C0 M,Zg H,C0 T,C0 U]))(hq:∀X e x y,Zz w X->w.1.size+3<=X.1.size->Q X e x->Tn [w.1.size+2] x y->S e y):
 D4 80 #[ca (Yg t f c a p r q m o n j l k),ca (Ye g s u i d B D C)] w S:=by
 have⟨W,A⟩:=Ag (((w.alloc (bs (Yg t f c a p r q m o n j l k) 30)).alloc (bs (Ye g s u i d B D C) 117)).alloc (bs Yd 81));obtain⟨R,zC,x0⟩:=(Bq A).1,(Bq A).2.1,(Bq A).2.2.1;have xe:Aa W (w.1.size+1) (Xw g s u i d B D C):=by have E:=Aa.new (w.alloc (bs (Yg t f c a p r q m o n j l k) 30)) (Xw g s u i d B D C) 117;rw[Aq]at E;rw[A];exact Aa.A E (Zy)
 have x1:Aa W (w.1.size+2) z12:=by have E:=Aa.new ((w.alloc (bs (Yg t f c a p r q m o n j l k) 30)).alloc (bs (Ye g s u i d B D C) 117)) z12 81;rw[Aq,Aq]at E;rw[A];exact E
 have X:=Yw (hc W R Yv);have HQ:Hid (∀e x y,Q W e x->Tn [w.1.size+2] x y->S e y):=gD;have HF:=Yw (hf W);have y:Hid (Aa W (w.1.size+2) z12):=x1;have HV:Hid (∀b∈V,b<w.1.size):=h;have x:=Yw A;obtain⟨v0,v1,v2,v3,v4,v5,v6⟩:=Aa.c7 x0 0 1 2 3 4 5 6;obtain⟨e0,e1,e2,e3,e4,e5⟩:=Aa.c6 xe 0 1 2 3 4 5;clear A x0 xe x1 hc hq hf h R;rcases hk with⟨rfl,rfl,rfl⟩|⟨rfl,rfl,rfl⟩|⟨rfl,rfl,rfl⟩|⟨rfl,rfl,rfl⟩|⟨rfl,rfl,rfl⟩|⟨rfl,rfl,rfl⟩
 all_goals
  delta D4;go_in;go_upto_region 1 with fail;rw[<-x.o];clear x;go_wp2_with fail;refine X.Ak ?_;intro e b x;obtain⟨A,Y,Z,c2,c3,c4,N,P,O,J,L,K,F,I,G,M,H,T,U,rfl⟩:=HF e b x;have R:Aa b (w.1.size+2) z12:=Aa.same y (A.block _ y.lt (λh=>C8 (HV _ h)));have⟨⟨y0,q0⟩,⟨y1,q1⟩,⟨y2,q2⟩,⟨y3,q3⟩,⟨y4,q4⟩,⟨y5,q5⟩,⟨y6,q6⟩,⟨y7,q7⟩,⟨y8,q8⟩,⟨y9,q9⟩,⟨zA,zE⟩,zB,zF⟩:=Br R;have h:=Yw x;clear x R A v0 v1 v2 v3 v4 v5 v6 e0 e1 e2 e3 e4 e5 X HF;go_wp2;refine Co (ca #[Zg Y,Zg Z,Zg c2,Zg c3,Zg c4,Cx N P O,Cx J L K,Cx F I G,C0 M,Zg H,C0 T,C0 U]) (by simp[results,results80,go_sem,y0,y1,y2,y3,y4,y5,y6,y7,y8,y9,zA,zB]) ?_;exact HQ _ _ _ h (Bw b (w.1.size+2) _ _ _ _ _ _ _ _ _ _ _ _)
theorem Pg(h c b a:Int)(o l i:Zk)(q p n m k j:Nat)(s H d:Zi)(g:Int)(I:Zk)(K J:Nat)(w:Zh)(G:Int)(Q:Zh->Ending->Zh->Prop)(Q':Ending->Zh->Prop)(t:∀X,Zz w X->D4 125 #[ca (Yg h c b a o q p l n m i k j),C0 s] X λe f=>e=C1 (Zg G)/\Zz X f)(r:0<=G->∀X,Zz w X->w.1.size+3<=X.1.size->D4 81 #[ca (Yg h c b a o q p l n m i k j)] X λe f=>(∃D F E A C B x z y,e=C1 (ca (Yg h c b a D F E A C B x z y))/\∀Y,Zz f Y->D4 126 #[ca (Yg h c b a D F E A C B x z y),C0 s,Zg g] Y (Q X))/\Zz X f)(O:∀X e f,Zz w X->Q X e f->Zz X f/\∃(c0 c1 c2 c3 c4:Int) (D:Zk) (F E:Nat) (A:Zk) (C B:Nat) (x:Zk) (z y:Nat) (S:Zi) (R:Int) (a' b':Zi),e=C1 (ca #[Zg c0,Zg c1,Zg c2,Zg c3,Zg c4,Cx D F E,Cx A C B,Cx x z y,C0 S,Zg R,C0 a',C0 b']))(u:G<0->∀f,Zz w f->Q' (.returned (ca (ee (Cp 2 ⟨#[]⟩ ⟨#[]⟩)))) f)(P:0<=G->∀X e f L,Zz w X->w.1.size+3<=X.1.size->Q X e f->Tn [w.1.size+2] f L->Q' e L):
 D4 80 #[ca (Yg h c b a o q p l n m i k j),ca (Ye 4 s H g d I K J)] w Q':=by
 have⟨W,f⟩:=Ag (((w.alloc (bs (Yg h c b a o q p l n m i k j) 30)).alloc (bs (Ye 4 s H g d I K J) 117)).alloc (bs Yd 81));obtain⟨M,zO,x0⟩:=(Bq f).1,(Bq f).2.1,(Bq f).2.2.1;have xe:Aa W (w.1.size+1) (Xw 4 s H g d I K J):=by have N:=Aa.new (w.alloc (bs (Yg h c b a o q p l n m i k j) 30)) (Xw 4 s H g d I K J) 117;rw[Aq]at N;rw[f];exact Aa.A N (Zy)
 have x1:Aa W (w.1.size+2) z12:=by have N:=Aa.new ((w.alloc (bs (Yg h c b a o q p l n m i k j) 30)).alloc (bs (Ye 4 s H g d I K J) 117)) z12 81;rw[Aq,Aq]at N;rw[f];exact N
 have zE:=Yw (t W M);have L:Hid (∀X,Zz W X->Aa X w.1.size (Yh h c b a o q p l n m i k j)/\Aa X (w.1.size+1) (Xw 4 s H g d I K J)/\Aa X (w.1.size+2) z12/\Zz w X):=gD;obtain⟨HW,zC,HF,zG,HQ⟩:=Yw f,Yw r,Yw O,Yw u,Yw P;obtain⟨v0,v1,v2,v3,v4,v5,v6⟩:=Aa.c7 x0 0 1 2 3 4 5 6;obtain⟨e0,e1,e2,e3,e4,e5⟩:=Aa.c6 xe 0 1 2 3 4 5;clear f x0 xe x1 t r O u P M;delta D4;go_in;go_upto_region 1 with fail;rw[<-HW.o];go_wp2_with fail;refine zE.Ak ?_;rintro e r ⟨rfl,zJ⟩;have O:Hid (Zz W r):=zJ;have⟨x0,xe,x1,zK⟩:=L r O;by_cases hneg:G<0
 .obtain⟨⟨y0,q0⟩,⟨y1,q1⟩,⟨y2,q2⟩,⟨y3,q3⟩,⟨y4,q4⟩,⟨y5,q5⟩,⟨y6,q6⟩,⟨y7,q7⟩,⟨y8,q8⟩,⟨y9,q9⟩,⟨T,zM⟩,U,zN⟩:=Br x1;have Z:=Yw zK;go_wp2;refine Co (ca (ee (Cp 2 ⟨#[]⟩ ⟨#[]⟩))) (by simp[results,results80,go_sem,y0,y1,y2,y3,y4,y5,y6,y7,y8,y9,T,U,Cp]) ?_;exact zG hneg _ (Z.ag (Tn.A (Bw r (w.1.size+2) _ _ _ _ _ _ _ _ _ _ _ _) Z.size gA))
 have h0:0<=G:=Yv;have D1:Below r.1.size r r.drew:=gB;have bd:=O.ag (D1.ah O.size);have t:=(L _ bd).2.2.2;have zA:w.1.size+3<=r.drew.1.size:=gB;have zB:=Yw (zC h0 r.drew t zA);have u:=Yw bd;have HS:Hid (∀X,Zz W X->eh X (Zd (w.1.size) 0)=ai (Zg h)/\eh X (Zd (w.1.size) 1)=ai (Zg c)/\eh X (Zd (w.1.size) 2)=ai (Zg b)/\eh X (Zd (w.1.size) 3)=ai (Zg a)/\eh X (Zd (w.1.size) 4)=ai (Cx o q p)/\eh X (Zd (w.1.size) 5)=ai (Cx l n m)/\eh X (Zd (w.1.size) 6)=ai (Cx i k j)/\eh X (Zd (w.1.size+1) 1)=ai (C0 s)/\eh X (Zd (w.1.size+1) 3)=ai (Zg g)):=λX P=>by
  have⟨f,M,_⟩:=L X P;exact⟨(f 0 _ rfl).1,(f 1 _ rfl).1,(f 2 _ rfl).1,(f 3 _ rfl).1,(f 4 _ rfl).1,(f 5 _ rfl).1,(f 6 _ rfl).1,(M 1 _ rfl).1,(M 3 _ rfl).1⟩
 have zI:Hid (∀X Y,Zz W X->Tn [w.1.size+1+1] X Y->eh Y (Zd (w.1.size) 0)=ai (Zg h)/\eh Y (Zd (w.1.size) 1)=ai (Zg c)/\eh Y (Zd (w.1.size) 2)=ai (Zg b)/\eh Y (Zd (w.1.size) 3)=ai (Zg a)/\eh Y (Zd (w.1.size) 4)=ai (Cx o q p)/\eh Y (Zd (w.1.size) 5)=ai (Cx l n m)/\eh Y (Zd (w.1.size) 6)=ai (Cx i k j)/\eh Y (Zd (w.1.size+1) 1)=ai (C0 s)/\eh Y (Zd (w.1.size+1) 3)=ai (Zg g)):=λX Y P V=>by
  have⟨z0,z1,_⟩:=L X P;have f:=Aa.same z0 (V.block _ z0.lt Yt);have M:=Aa.same z1 (V.block _ z1.lt Yu);exact⟨(f 0 _ rfl).1,(f 1 _ rfl).1,(f 2 _ rfl).1,(f 3 _ rfl).1,(f 4 _ rfl).1,(f 5 _ rfl).1,(f 6 _ rfl).1,(M 1 _ rfl).1,(M 3 _ rfl).1⟩
 have Y:=hneg;go_upto_region 11 with fail;go_region_held3 (λX=>eh X (Zd (w.1.size) 0)=ai (Zg h)/\eh X (Zd (w.1.size) 1)=ai (Zg c)/\eh X (Zd (w.1.size) 2)=ai (Zg b)/\eh X (Zd (w.1.size) 3)=ai (Zg a)/\eh X (Zd (w.1.size) 4)=ai (Cx o q p)/\eh X (Zd (w.1.size) 5)=ai (Cx l n m)/\eh X (Zd (w.1.size) 6)=ai (Cx i k j)/\eh X (Zd (w.1.size+1) 1)=ai (C0 s)/\eh X (Zd (w.1.size+1) 3)=ai (Zg g))
  (first|with_reducible exact HS.o _ u.o|with_reducible exact HS.o _ B2|with_reducible exact HS.o _ X|with_reducible exact zI.o _ _ X (Bw _ _ _ _ _ _ _ _ _ _ _ _ _ _))
  (first
    |(go_at_call 81;refine zB.Ak ?_;rintro e w2 ⟨⟨D,F,E,A,C,B,x,z,y,rfl,V⟩,P⟩;have B2:Below W.1.size W w2:=u.ag (P.ah u.size);have zF:=Yw (V w2 Ae);clear V P)
    |(go_at_call 126;refine zF.Ak ?_;intro e V P;obtain⟨hb3,c0,c1,c2,c3,c4,ua',un',uc',va',vn',vc',xa',xn',xc',S,R,a',b',rfl⟩:=HF r.drew e V t P;have X:Below W.1.size W V:=u.ag (hb3.ah u.size);have zH:=Yw P;have⟨_,_,zz1,_⟩:=L V X;have⟨⟨y0,q0⟩,⟨y1,q1⟩,⟨y2,q2⟩,⟨y3,q3⟩,⟨y4,q4⟩,⟨y5,q5⟩,⟨y6,q6⟩,⟨y7,q7⟩,⟨y8,q8⟩,⟨y9,q9⟩,⟨T,zM⟩,U,zN⟩:=Br zz1;clear P hb3 zz1))
 go_wp2;refine Co (ca #[Zg c0,Zg c1,Zg c2,Zg c3,Zg c4,Cx ua' un' uc',Cx va' vn' vc',Cx xa' xn' xc',C0 S,Zg R,C0 a',C0 b']) (by simp[results,results80,go_sem,y0,y1,y2,y3,y4,y5,y6,y7,y8,y9,T,U]) ?_;exact HQ h0 r.drew _ _ _ t zA zH (Bw V (w.1.size+2) _ _ _ _ _ _ _ _ _ _ _ _)
section
structure CT (w:Zh) (base b:Nat) (ta pa la:Zk) (pc lc:Nat) (zs:List (Kd×Value)) (ps:List Pd) (ls:List Ld):Prop where
 tb:ta=ai ⟨b,0,an⟩\/zs=[]
 z:BO w b 0 zs
 bl:b<w.1.size
 po:ej w base 148 2 (bx pa (ed ps) pc) (ed ps) (Af pC ps)
 lo:ej w base 112 3 (bx la (ed ls) lc) (ed ls) (Af lC ls)
 lb:base<=w.1.size
 bL:ai b≠ef (Value.slice la (ed ls) lc)
 pL:∀g,ef (Value.slice pa (ed ps) pc)=ai g->ef (Value.slice la (ed ls) lc)≠ai g
 zL:∀z∈zs,∀ad n rc,z.2=bx (ai ad) n rc->z.1.C≠[]->ai ad.block≠ef (Value.slice la (ed ls) lc)
 zb:zs=[]\/base<=b
 zr:∀z∈zs,∀ad n rc,z.2=bx (ai ad) n rc->z.1.C≠[]->base<=ad.block
def OD(base:Nat)(L:Value)(wd now given births:Int)(ks:List Kd)(ps:List Pd)(ls:List Ld)(kd:Int)(s nm:Zi)(num:Int)(text:Zi)(refs:Zl)(w:Zh)(e:Ending)(w':Zh):Prop:=
 Tn (ef L).toList w w'/\(
  (∃c a b,Gh wd now given births ks ps ls kd s nm num text refs c a b/\e=.returned (ca (ee (Cp c a b))))\/
  (∃r b1 ta1 tc1 zs1 pa1 pc1 la1 lc1,Db wd now given births ks ps ls kd s nm num text refs r/\e=.returned (ca #[Ze,Zg wd,Zg r.G,Zg r.H,Zg r.E,bx ta1 (ed r.B) tc1,bx pa1 (ed r.ps) pc1,bx la1 (ed r.ls) lc1,.string r.sm,Zg r.le,Zc,Zc])/\zs1.map (·.1)=r.B/\CT w' base b1 ta1 pa1 la1 pc1 lc1 zs1 r.ps r.ls))
theorem CT.A{k:Zh}{base:Nat}{f:Zk}{d:Nat}{l:List (Kd×Value)}{i:C7}{e:C6}(h:CT w base b j f c g d l i e)(a:Zz w k):CT k base b j f c g d l i e:=
 ⟨h.tb,h.z.A a h.bl,Zr h.bl a.size,Ai h.po a,Ai h.lo a,Zm h.lb a.size,h.bL,h.pL,h.zL,h.zb,h.zr⟩
theorem CT.fq{f:Zk}{k:Nat}{d:List (Kd×Value)}{l:C7}{i:C6}(h:CT w a b c j f k g d l i):BH w w.1.size c (d.map (·.1)):=by
 rcases h.tb with e|e
 .rw[e];exact h.z.fq h.bl
 rw[e];exact cr rfl
theorem CT.ic{e:Zk}{i f:Nat}{k:List (Kd×Value)}{d:C7}{g:C6}(h:CT w a b j c e i f k d g):Bd w w.1.size c d:=Bd.own h.po
theorem CT.ia{f:Zk}{e:Nat}{k:List (Kd×Value)}{i:C7}{d:C6}(h:CT w a b j f c g e k i d):Ba w w.1.size c d:=Ba.own h.lo
theorem CT.iy{k s e:Zk}{f:Nat}{l:List (Kd×Value)}{u:C7}{i:C6}(h:CT w a b k s e t f l u i){c:Nat}{d:C7}(j:ej w n 148 2 (Yz g (ed d) c) (ed d) (Af pC d))(p:a<=n)(o:∀q,ef (Cx e (ed i) f)=ai q->q<n):CT w a b k (ai ⟨g,0,an⟩) e c f l d i:=
 ⟨h.tb,h.z,h.bl,j.ah p,h.lo,h.lb,h.bL,λq r m=>by have v:=(Ab j r).1;have r:=o q m;omega,h.zL,h.zb,h.zr⟩
theorem CT.iv{r i:Zk}{j:Nat}{o:List (Kd×Value)}{k:C7}{E:C6}(h:CT w a b r i C j D o k E){c:Nat}{d:C6}(p:ej w n 112 3 (Yz g (ed d) c) (ed d) (Af lC d))(x:a<=n)(F:b<n)(y:∀q,ef (Cx i (ed k) j)=ai q->q<n)(B:∀z∈o,∀f m l,z.2=Cx (ai f) m l->z.1.C≠[]->f.block<n):CT w a b r i (ai ⟨g,0,an⟩) j c o k d:=by
 have G:=(Ab p (g:=g) rfl).1;refine⟨h.tb,h.z,h.bl,h.po,p.ah x,h.lb,λe=> ?_,λq A e=> ?_,λz s f m l t u e=> ?_,h.zb,h.zr⟩
 .have:b=g:=F7;omega
 .have v:g=q:=F7;have:=y q A;omega
 have v:f.block=g:=F7;have:=B z s f m l t u;omega
theorem CT.dj{o g d:Zk}{i e:Nat}{k:List (Kd×Value)}{j:C7}{f:C6}(h:CT w a b o g d i e k j f):(∀q,ef (Cx g (ed j) i)=ai q->q<w.1.size)/\(∀q,ef (Cx d (ed f) e)=ai q->q<w.1.size)/\∀z∈k,∀c m l,z.2=Cx (ai c) m l->z.1.C≠[]->c.block<w.1.size:=
 ⟨λ_ c=>(Ab h.po c).2,λ_ c=>(Ab h.lo c).2,λ_ n _ _ _ c l=>h.z.dh n c l⟩
theorem Fs{a:Zk}{m c:Nat}{i:Zj}(h:ej w b e size (Cx a m c) n i)(f:a=an):c=0:=by
 rcases h.2 with⟨d,_⟩|⟨g,j,k,d,_⟩
 .injection d
 injection d with e1;rw[f]at e1;cases e1
theorem EA{c:Zh}{v:Dg}{d:Zj}(h:ej w a e size v n d)(f:Tn [q] w c)(i:q<a):ej c a e size v n d:=
 Ar h (λg b=>f.block g (Ab h b).2 (by have:=(Ab h b).1;simp;omega))
theorem OE{w':Zh}{v:Dg}{c:Zj}(h:ej w a e size v n c)(f:Tn [q] w w')(d:∀g,ef v=ai g->g≠q):ej w' a e size v n c:=
 Ar h (λg b=>f.block g (Ab h b).2 (by simp;exact d g b))
theorem Cr{X d a:Zh}(b:Zz w X)(c:Zz X d)(e:Tn [w.1.size+2] d a):Below w.1.size w a:=
 (b.ag (c.ah b.size)).ag (e.A (Zm b.size c.size) (by intro v f;simp at f;omega))
theorem Ph(z f b a k g:Int){i:Zk}(p l t:Zk)(y r q n m x u:Nat){d:C5}(s o c:Zi)(B:BH w w.1.size i d)(zB:ed d<=1000)(C:¬As d s):
 D4 123 #[ca (Yg z f b a i (ed d) y p r q l n m),ca (Ye k s o g c t x u)] w λe h=>e=C1 (ca (ee (Cp 2 ⟨#[]⟩ ⟨#[]⟩)))/\Zz w h:=by
 have⟨W,h⟩:=Ag (((w.alloc (bs (Yg z f b a i (ed d) y p r q l n m) 30)).alloc (bs (Ye k s o g c t x u) 117)).alloc (bs Yd 81));have A:=(Bq h).1;have F:=(Bq h).2.2.1;have H:Aa W (w.1.size+1) (Xw k s o g c t x u):=by have j:=Aa.new (w.alloc (bs (Yg z f b a i (ed d) y p r q l n m) 30)) (Xw k s o g c t x u) 117;rw[Aq]at j;rw[h];exact Aa.A j (Zy)
 have G:Aa W (w.1.size+2) z12:=by have j:=Aa.new ((w.alloc (bs (Yg z f b a i (ed d) y p r q l n m) 30)).alloc (bs (Ye k s o g c t x u) 117)) z12 81;rw[Aq,Aq]at j;rw[h];exact j
 obtain⟨D,zA,E,I,⟨v0,K,L,M,N,O,P,Q⟩,J,_⟩:=Yw (FK z f b a y (Cx p r q) (Cx l n m) s (BH.A B A) A.size Yv),Js C,Yw h,Yw G,Cq F,H 1 _ rfl;clear h F G H B C;delta D4;go_in;go_upto_region 1 with fail;rw[<-E.o];clear E;go_wp2_with fail;refine D.Ak ?_;rintro e F ⟨rfl,h⟩;obtain⟨⟨G,q0⟩,⟨H,q1⟩,⟨R,q2⟩,⟨S,q3⟩,⟨T,q4⟩,⟨U,q5⟩,⟨V,q6⟩,⟨X,q7⟩,⟨Y,q8⟩,⟨Z,q9⟩,⟨C,zC⟩,E,zE⟩:=Br (Aa.A (v:=Ze) I h);have B:=A.ag (h.ah A.size);generalize Df d s=fi at *
 clear v0 K L M N O P Q D J;go_wp2;refine Co (ca (ee (Cp 2 ⟨#[]⟩ ⟨#[]⟩))) (by simp[results,results123,go_sem,G,H,R,S,T,U,V,X,Y,Z,C,E,Cp]) ?_;exact⟨rfl,B.ag (Tn.A (Bw F (w.1.size+2) _ _ _ _ _ _ _ _ _ _ _ _) B.size gA)⟩
theorem Rv{a:C7}{n:Zi}(s:Zi)(h:¬∃x∈a,x.name=n):ed (Bj a n s)=ed a+1:=by
 have c:∀(l:C7),(¬∃x∈l,x.name=n)->ed (l.filter (λx=>less x.name n))+ed (l.filter (λx=> !(less x.name n)&& !decide (x.name=n)))=ed l:=by
  intro l;induction l with
  |nil=>intro _;rfl
  |cons x l ih=>intro b;have d:x.name≠n:=gA;have:=ih (λ⟨y,hy,e⟩=>b ⟨y,by simp[hy],e⟩);cases b:less x.name n<;>simp[b,d]<;>omega
 have:=c a h;unfold Bj;rw[Am,Am];simp;omega
def Agn(wd now given births num:Int)(zs:List (Kd×Value))(ps:List Pd)(ls:List Ld)(s:Zi)(X:Zh)(e:Ending)(w':Zh):Prop:=
 Below X.1.size X w'/\(((ed ls=200\/given=1000000000)/\e=.returned (ca (ee (Cp 4 ⟨#[]⟩ ⟨#[]⟩))))\/
  ((ed ls<200/\given<1000000000)/\∃b1 tc1 zs1 p1 pc1 g c,e=.returned (ca #[Ze,Zg wd,Zg now,Zg (given+1),Zg births,bx (ai ⟨b1,0,an⟩) (ed zs) tc1,bx (ai ⟨p1,0,an⟩) (ed ps) pc1,bx (ai ⟨g,0,an⟩) (ed ls+1) c,Zc,Zg (given+1),Zc,Zc])/\zs1.map (·.1)=zs.map (·.1)/\ej w' X.1.size 50 4 (bx (ai ⟨b1,0,an⟩) (ed zs1) tc1) (ed zs1) (Af kC zs1)/\(∀z∈zs1,∃g' c',z.2=bx (ai ⟨g',0,an⟩) (ed z.1.C) c'/\ej w' X.1.size 9 1 z.2 (ed z.1.C) (z.1.C.map Value.string))/\ej w' X.1.size 148 2 (bx (ai ⟨p1,0,an⟩) (ed ps) pc1) (ed ps) (Af pC ps)/\ej w' X.1.size 112 3 (bx (ai ⟨g,0,an⟩) (ed ls+1) c) (ed (ls++[(⟨given+1,s,now+num⟩:Ld)])) (Af lC (ls++[(⟨given+1,s,now+num⟩:Ld)]))/\b1≠g/\p1≠g/\∀z∈zs1,∀ad n rc,z.2=bx (ai ad) n rc->ad.block≠g))
theorem BO.some{d:List (Kd×Value)}(h:BO w b a d):Jy w ⟨b,a,an⟩ (d.map (·.1)):=by intro i k c;rw[getElem?_map]at c;obtain⟨z,j,rfl⟩:=Option.map_eq_some_iff.1 c;have⟨⟨_,_,_,f⟩,e,l,g,_⟩:=h i z j;exact⟨e,l,by rw[f,g]⟩
theorem QF{T P L:Option Nat}{R:List Nat}{l:Nat}(h:(T.toList++(P.toList++(L.toList++R))).Nodup)(a:L=ai l):T≠ai l/\P≠ai l/\l∉R:=by subst a;cases T<;>cases P<;>simp_all<;>grind
theorem XT{x j a:Int}{A n:Zk}(z:Nat){o:Nat}{l:List (Kd×Value)}{k:C6}(s t:Zi){i:Zi}{u:Int}{f:Zl}(G:Zk)(H:Nat)(h:CT w p b v A n B o l m k)(K:IQ x j d a (l.map (·.1)) m k 3 u i f):
 D4 80 #[ca (Yg x j d a v (ed l) z A (ed m) B n (ed k) o),ca (Ye 3 s t u i G (ed f) H)] w (OD p (Cx n (ed k) o) x j d a (l.map (·.1)) m k 3 s t u i f w):=by
 refine DX 3 124 _ x j d a v A n (ed l) z (ed m) B (ed k) o s t i u G (ed f) H w [] (λX e E=>Se X E e x j d a (Cw v l z) (Cw n k o) m t) _ (ct (ct (cr ⟨rfl,rfl,rfl⟩))) Yu (λX r _=>Rl x j d a v n (ed l) z (ed k) o B t (h.A r).ic (C8 K.np)) ?_ ?_
 .rintro X e E ⟨y,⟨_,rfl⟩|⟨_,g,c,rfl,_⟩⟩
  .exact⟨Tn.of y,_,_,_,_,_,_,_,_,_,_,_,_,_,_,_,_,_,_,rfl⟩
  exact⟨Tn.of y,_,_,_,_,_,_,_,_,_,_,_,_,_,_,_,_,_,_,rfl⟩
 rintro X e E O r P ⟨y,⟨I,rfl⟩|⟨C,g,c,rfl,M⟩⟩ D
 .exact⟨Tn.of (Cr r y D),cr ⟨5,_,_,ct ⟨rfl,rfl,ct (cr ⟨rfl,I,rfl⟩)⟩,rfl⟩⟩
 have F:=Cr r y D;have L:=h.A F;have J:=EA M D Yv;exact⟨Tn.of F,ct ⟨⟨⟨#[]⟩,0,j,d,a,l.map (·.1),Bf m t,k⟩,b,v,z,l,_,c,n,o,ct (ct (cr ⟨rfl,C,rfl⟩)),by rw[A7],rfl,L.iy J (Zm h.lb r.size) (λq N=>Zr (h.dj.2.1 q N) r.size)⟩⟩
theorem XU{B:Zk}(D:Nat){v C:Nat}{o:List (Kd×Value)}{m:C6}(s G:Zi){j:Zi}{i:Zl}(K:Zk)(L:Nat)(h:CT w t b x u B v C o r m)(Q:IQ y k f d (o.map (·.1)) r m 5 l j i):
 D4 80 #[ca (Yg y k f d x (ed o) D u (ed r) v B (ed m) C),ca (Ye 5 s G l j K (ed i) L)] w (OD t (Cx B (ed m) C) y k f d (o.map (·.1)) r m 5 s G l j i w):=by
 refine DX 5 127 _ y k f d x u B (ed o) D (ed r) v (ed m) C s G j l K (ed i) L w [] (λX e H=>Vp X H e y k f d (Cw x o D) (Cw u r v) m l) _ (ct (ct (ct (cr ⟨rfl,rfl,rfl⟩)))) Yu (λX p _=>Tt y k f d x u (ed o) D (ed r) v C l (h.A p).ia (C8 Q.nl)) ?_ ?_
 .rintro X e H ⟨A,⟨_,rfl⟩|⟨_,g,c,rfl,_⟩⟩
  .exact⟨Tn.of A,_,_,_,_,_,_,_,_,_,_,_,_,_,_,_,_,_,_,rfl⟩
  exact⟨Tn.of A,_,_,_,_,_,_,_,_,_,_,_,_,_,_,_,_,_,_,rfl⟩
 rintro X e H T p J ⟨A,⟨M,rfl⟩|⟨E,g,c,rfl,S⟩⟩ F
 .exact⟨Tn.of (Cr p A F),cr ⟨5,_,_,ct ⟨rfl,rfl,ct (ct (ct (cr ⟨rfl,M,rfl⟩)))⟩,rfl⟩⟩
 have I:=Cr p A F;have R:=h.A I;have N:=EA S F Yv;exact⟨Tn.of I,ct ⟨⟨⟨#[]⟩,0,k,f,d,o.map (·.1),r,Bz m l⟩,b,x,D,o,u,v,_,c,ct (ct (ct (ct (cr ⟨rfl,E,rfl⟩)))),by rw[A7],rfl,R.iv N (Zm h.lb p.size) (Zr h.bl p.size) (λq O=>Zr (h.dj.1 q O) p.size) (λz J a n c O P=>Zr (h.dj.2.2 z J a n c O P) p.size)⟩⟩
theorem XV(E:Nat){v:Nat}{o:List (Kd×Value)}{m:C6}(s H:Zi){l:Zi}{j:Int}{k:Zl}(L:Zk)(M:Nat)(h:CT w t b x u C v D o r m)(A:IQ y i f d (o.map (·.1)) r m 6 j l k):
 D4 80 #[ca (Yg y i f d x (ed o) E u (ed r) v C (ed m) D),ca (Ye 6 s H j l L (ed k) M)] w (OD t (Cx C (ed m) D) y i f d (o.map (·.1)) r m 6 s H j l k w):=by
 refine DX 6 128 _ y i f d x u C (ed o) E (ed r) v (ed m) D s H l j L (ed k) M w [] (λX e I=>Vw X I e y i f d (Cw x o E) (Cw u r v) m j) _ (ct (ct (ct (ct (cr ⟨rfl,rfl,rfl⟩))))) Yu (λX p _=>TF y i f d x u (ed o) E (ed r) v D j (h.A p).ia (C8 A.nl) A.dx A.dv A.gu A.ib) ?_ ?_
 .rintro X e I ⟨B,⟨_,rfl⟩|⟨_,g,c,rfl,_⟩⟩
  .exact⟨Tn.of B,_,_,_,_,_,_,_,_,_,_,_,_,_,_,_,_,_,_,rfl⟩
  exact⟨Tn.of B,_,_,_,_,_,_,_,_,_,_,_,_,_,_,_,_,_,_,rfl⟩
 rintro X e I T p K ⟨B,⟨N,rfl⟩|⟨F,g,c,rfl,S⟩⟩ G
 .exact⟨Tn.of (Cr p B G),cr ⟨4,_,_,ct ⟨rfl,rfl,ct (ct (ct (ct (cr ⟨rfl,N,rfl⟩))))⟩,rfl⟩⟩
 have J:=Cr p B G;have R:=h.A J;have O:=EA S G Yv;exact⟨Tn.of J,ct ⟨⟨⟨#[]⟩,0,i+j,f,d,o.map (·.1),r,AQ m (i+j)⟩,b,x,E,o,u,v,_,c,ct (ct (ct (ct (ct (cr ⟨rfl,F,rfl⟩))))),by rw[A7],rfl,R.iv O (Zm h.lb p.size) (Zr h.bl p.size) (λq P=>Zr (h.dj.1 q P) p.size) (λz K a n c P Q=>Zr (h.dj.2.2 z K a n c P Q) p.size)⟩⟩
theorem XW{a:Int}{t:Zk}(z:Nat){u:Nat}{l:List (Kd×Value)}{j:C7}(s m:Zi){i:Zi}{p:Int}{f:Zl}(I:Zk)(J:Nat)(h:CT w B b v C t D u l j o)(G:IQ y k d a (l.map (·.1)) j o 2 p i f):
 D4 80 #[ca (Yg y k d a v (ed l) z C (ed j) D t (ed o) u),ca (Ye 2 s m p i I (ed f) J)] w (OD B (Cx t (ed o) u) y k d a (l.map (·.1)) j o 2 s m p i f w):=by
 have L:ed (l.map (·.1))<=1000:=C8 G.bn.len;by_cases hth:As (l.map (·.1)) s
 .refine DX 2 123 _ y k d a v C t (ed l) z (ed j) D (ed o) u s m i p I (ed f) J w [] (λX e A=>ZI X A e y k d a (Cw v l z) (Cw t o u) j m s) _ (ct (cr ⟨rfl,rfl,rfl⟩)) Yu (λX n _=> ?_) ?_ ?_
  .have F:=Vr y k d a 2 p t I z D u (ed o) (ed f) J m i (h.A n).fq (h.A n).ic L (C8 G.np) hth G.cw;rw[A7]at F;exact F
  .rintro X e A ⟨r,⟨_,rfl⟩|⟨_,g,c,rfl,_⟩⟩
   .exact⟨Tn.of r,_,_,_,_,_,_,_,_,_,_,_,_,_,_,_,_,_,_,rfl⟩
   exact⟨Tn.of r,_,_,_,_,_,_,_,_,_,_,_,_,_,_,_,_,_,_,rfl⟩
  rintro X e A Q n U ⟨r,⟨V,rfl⟩|⟨R,g,c,rfl,T⟩⟩ H
  .have N:=LF j m s;have O:¬∃x∈j,x.name=m:=λK=>by have:=N.2 K;have:=G.np;omega
   exact⟨Tn.of (Cr n r H),cr ⟨4,_,_,ct ⟨rfl,rfl,cr ⟨rfl,ct ⟨hth,O,by have:=N.1;have:=G.np;omega,rfl⟩⟩⟩,rfl⟩⟩
  have M:=Cr n r H;have S:=h.A M;have P:=EA T H Yv;have E:(∃x∈j,x.name=m)\/ed j<100:=by
   by_cases K:∃x∈j,x.name=m
   .exact cr K
   have:=Rv s K;exact ct Yv
  exact⟨Tn.of M,ct ⟨⟨⟨#[]⟩,0,k,d,a,l.map (·.1),Bj j m s,o⟩,b,v,z,l,_,c,t,u,ct (cr ⟨rfl,hth,E,rfl⟩),by rw[A7],rfl,S.iy P (Zm h.lb n.size) (λq K=>Zr (h.dj.2.1 q K) n.size)⟩⟩
 refine DX 2 123 _ y k d a v C t (ed l) z (ed j) D (ed o) u s m i p I (ed f) J w [] (λX e A=>e=C1 (ca (ee (Cp 2 ⟨#[]⟩ ⟨#[]⟩)))/\Zz X A) _ (ct (cr ⟨rfl,rfl,rfl⟩)) Yu (λX n _=> ?_) ?_ ?_
 .have F:=Ph y k d a 2 p C t I z (ed j) D (ed o) u (ed f) J s m i (h.A n).fq L hth;rw[A7]at F;exact F
 .rintro X e A ⟨rfl,r⟩;exact⟨Tn.of r,_,_,_,_,_,_,_,_,_,_,_,_,_,_,_,_,_,_,rfl⟩
 rintro X e A Q n U ⟨rfl,r⟩ H;exact⟨Tn.of (Cr n r H),cr ⟨2,_,_,ct ⟨rfl,rfl,cr ⟨rfl,cr ⟨hth,rfl⟩⟩⟩,rfl⟩⟩
theorem XX{L:Nat}{Q j:Int}{ta pa Z:Zk}(tc:Nat){pc lc:Nat}{m:List (Kd×Value)}{H:C7}{p:C6}(s nm:Zi){D:Zi}{o:Int}{C:Zl}(ra:Zk)(rc:Nat)(h:CT w L b ta pa Z pc lc m H p)(t:IQ Q j d f (m.map (·.1)) H p 4 o D C)(zN:∀k∈m.map (·.1),ed k.C<=30):
 D4 80 #[ca (Yg Q j d f ta (ed m) tc pa (ed H) pc Z (ed p) lc),ca (Ye 4 s nm o D ra (ed C) rc)] w (OD L (Cx Z (ed p) lc) Q j d f (m.map (·.1)) H p 4 s nm o D C w):=by
 have zP:ed (m.map (·.1))<=600:=t.bn.len;refine Pg Q j d f ta pa Z (ed m) tc (ed H) pc (ed p) lc s nm D o ra (ed C) rc w (Df (m.map (·.1)) s) (Agn Q j d f o m H p s) _ (λX F=> ?_) (λh0 X F B=> ?_) ?_ ?_ ?_
 .have h1:=FK Q j d f tc (Cx pa (ed H) pc) (Cx Z (ed p) lc) s (h.A F).fq (Zx) Yv;rw[A7]at h1;exact h1
 .have E:=h.A F;have h1:=Jz Q j d f ta pa Z tc pc lc (m.map (·.1)) H p X ⟨E.fq,E.ic,E.ia⟩ (λA r=>by
   rcases E.tb with e|e
   .rw[e]at r;cases r;exact E.z.some
   rw[e];intro i k hk;simp at hk) (Fs E.po) (Fs E.lo) zP t.np t.nl zN
  rw[A7]at h1;refine h1.ah ?_;rintro e w' ⟨T,P',L',rs,rfl,hS,U,u⟩;obtain⟨M,n1,S,rfl⟩:=U T Yu;obtain⟨W,n2,R,rfl⟩:=U P' Yu;obtain⟨V,n3,zW,rfl⟩:=U L' Yu;obtain⟨_,_,x⟩:=AB hS.aw;obtain⟨_,_,O⟩:=AB hS.pins;obtain⟨_,_,e3⟩:=AB hS.bh;cases x;cases O;cases e3;refine⟨⟨_,_,_,_,_,_,_,_,_,rfl,λY K=> ?_⟩,u⟩;refine(Jf Q j d f (ai ⟨M,0,an⟩) (ai ⟨W,0,an⟩) (ai ⟨V,0,an⟩) _ S (ed H) R zW p s o (Ai hS.bh K) (Zm u.size K.size) (C8 t.nl) t.cj t.cg t.dx t.dv t.gu t.ib).ah ?_;rintro e w3 ⟨G,zE⟩;have yA:X.1.size<=V:=(Ab hS.bh rfl).1;have zO:Below X.1.size X w3:=(u.ag (K.ah u.size)).ag (G.A (Zm u.size K.size) (by intro v U;simp[ownBlock]at U;omega));refine⟨zO,?_⟩;rcases zE with⟨I,rfl⟩|⟨⟨zC,Y⟩,g,c,rfl,ho,zB⟩
  .exact cr ⟨by have:=t.nl;have:=t.cg;omega,rfl⟩
  have zF:=hS.nd;rw[Ho]at zF;unfold BJ at zF;obtain⟨n1,n2,n3⟩:=QF zF (l:=V) rfl;have r:∀{e:TypeId} {size:Nat} {v:Dg} {n:Nat} {xs:Zj},ej w' X.1.size e size v n xs->ef v≠ai V->ej w3 X.1.size e size v n xs:=λ{e size v n xs} ho1 hne=>Ar (Ai ho1 K) (λq hq=>G.block q (Ab (Ai ho1 K) hq).2 (λe=>by simp[ownBlock]at e;exact hne gA));have hlen:ed ((m.map (·.1)).zip rs)=ed m:=by rw[length_zip,hS.len,A7];omega
  refine ct ⟨⟨zC,Y⟩,M,S,(m.map (·.1)).zip rs,W,R,g,c,Yu,?_,?_,?_,r hS.pins n2,ho,?_,?_,?_⟩
  .rw[map_fst_zip (by rw[hS.len];exact Zx)]
  .have h2:=r hS.aw n1;rw[hlen];rw[A7]at h2;exact h2
  .intro z B;have⟨i,y⟩:=A3 B;rw[getElem?_zip_eq_some]at y;have hr:=hS.C i z.1 z.2 y.1 y.2;obtain⟨⟨J,n',A,N⟩,a',zY,zJ⟩:=U z.2 (by simp;exact ct (ct (ct (Zs y.2)))),AB hr;rw[N]at zJ;cases zJ;refine⟨J,A,N,r hr (λe=>n3 ?_)⟩;exact mem_filterMap.2 ⟨z.2,Zs y.2,e⟩
  .have q1:=(Ab hS.aw (g:=M) rfl).2;have q2:=K.size;rcases zB with P|P
   .have x:V=g:=(by simpa [ownBlock]using P);intro e;exact n1 D7
   omega
  .have q1:=(Ab hS.pins (g:=W) rfl).2;have q2:=K.size;rcases zB with P|P
   .have x:V=g:=(by simpa [ownBlock]using P);intro e;exact n2 D7
   omega
  intro z B a n' A O;have⟨i,y⟩:=A3 B;rw[getElem?_zip_eq_some]at y;have hr:=hS.C i z.1 z.2 y.1 y.2;obtain⟨J,m',d',e3⟩:=U z.2 (by simp;exact ct (ct (ct (Zs y.2))));rw[e3]at O;cases O;have q1:=(Ab hr (g:=J) (by rw[e3];rfl)).2;have q2:=K.size;show J≠g;rcases zB with P|P
  .have x:V=g:=(by simpa [ownBlock]using P);intro e;exact n3 (mem_filterMap.2 ⟨z.2,Zs y.2,by rw[e3];simp[ownBlock];omega⟩)
  omega
 .rintro X e w' F ⟨u,⟨_,rfl⟩|⟨_,M,S,zG,W,R,g,c,rfl,_⟩⟩
  .exact⟨u,_,_,_,_,_,_,_,_,_,_,_,_,_,_,_,_,_,_,rfl⟩
  exact⟨u,_,_,_,_,_,_,_,_,_,_,_,_,_,_,_,_,_,_,rfl⟩
 .intro zX w' u;have K:¬As (m.map (·.1)) s:=λG=>by have⟨i,k,e,_⟩:=Nz G;omega
  exact⟨Tn.of u,cr ⟨2,_,_,ct ⟨rfl,rfl,ct (ct (cr ⟨rfl,cr ⟨K,rfl⟩⟩))⟩,rfl⟩⟩
 rintro h0 X e w' zM F B ⟨u,hQ⟩ G;have K:As (m.map (·.1)) s:=Classical.byContradiction λhn=>C8 (Js hn);have hB:=Cr F u G;rcases hQ with⟨I,rfl⟩|⟨⟨zC,Y⟩,M,S,zG,W,R,g,c,rfl,hm,hk,zK,zT,zE,zH,zI,zU⟩
 .exact⟨Tn.of hB,cr ⟨4,_,_,ct ⟨rfl,rfl,ct (ct (cr ⟨rfl,ct ⟨K,I,rfl⟩⟩))⟩,rfl⟩⟩
 have zA:=EA hk G Yv;have zS:=EA zT G Yv;have zZ:=EA zE G Yv;have zV:BO zM M 0 zG:=BO.own zA (λz B=>by
  have⟨J,A,N,ho⟩:=zK z B;rw[N]at ho;exact⟨⟨J,0,an⟩,A,N,Ad.own (EA ho G Yv)⟩)
 refine⟨Tn.of hB,ct ⟨⟨⟨#[]⟩,d+1,j,d+1,f,m.map (·.1),H,p++[⟨d+1,s,j+o⟩]⟩,M,ai ⟨M,0,an⟩,S,zG,ai ⟨W,0,an⟩,R,ai ⟨g,0,an⟩,c,ct (ct (ct (cr ⟨rfl,K,zC,Y,rfl⟩))),Yu,hm,⟨cr rfl,zV,(Ab zA rfl).2,zS.ah (Zm h.lb F.size),?_,Zm h.lb hB.size,by simp[ownBlock];exact zH,λq hq e=> ?_,λz B a n c x _ e=> ?_,ct (Zm (Zm h.lb F.size) (Ab zA rfl).1),λz B a n c x _=> ?_⟩⟩⟩
 .have h4:ej zM X.1.size 112 3 (Yz g (ed (p++[(⟨d+1,s,j+o⟩:Ld)])) c) (ed (p++[(⟨d+1,s,j+o⟩:Ld)])) (Af lC (p++[(⟨d+1,s,j+o⟩:Ld)])):=gB;exact h4.ah (Zm h.lb F.size)
 .have x:W=q:=by simpa [ownBlock]using hq
  have O:g=q:=F7;exact zI (x.ag O.symm)
 .have O:a.block=g:=F7;exact zU z B a n c x O
 obtain⟨J,A,N,n⟩:=zK z B;rw[N]at x;cases x;obtain⟨q1,q2,q⟩:=(Ab n (g:=J) (by rw[N];rfl)).1,h.lb,F.size;show L<=J;omega
theorem XY{A m:Int}{t:Zk}(I:Nat){y v:Nat}{i:List (Kd×Value)}{p:C7}(s L:Zi){k:Zi}{B:Int}{j:Zl}(O:Zk)(P:Nat)(h:CT w D b H x t y v i p o)(K:IQ A m f d (i.map (·.1)) p o 7 B k j):
 D4 80 #[ca (Yg A m f d H (ed i) I x (ed p) y t (ed o) v),ca (Ye 7 s L B k O (ed j) P)] w (OD D (Cx t (ed o) v) A m f d (i.map (·.1)) p o 7 s L B k j w):=by
 have Z:=K.bn.len;have S:ed i<=600:=gA;by_cases hth:As (i.map (·.1)) s
 .obtain rfl:H=ai ⟨b,0,an⟩:=h.tb.resolve_right (λe=>by obtain⟨u,hu,_⟩:=hth;rw[e]at hu;simp at hu);refine DX 7 129 _ A m f d (ai ⟨b,0,an⟩) x t (ed i) I (ed p) y (ed o) v s L k B O (ed j) P w [] (λX e C=>RM X C e A m f d (Cw x p y) (Cw t o v) i p o s) _ (ct (ct (ct (ct (ct (⟨rfl,rfl,rfl⟩)))))) Yu (λX l _=>SL A m f d I y v (h.A l).z (h.A l).bl (h.A l).ic (h.A l).ia S K.np K.nl (λz r=>(K.bn.C z.1 (mem_map.2 ⟨z,r,rfl⟩)).1) hth) ?_ ?_
  .rintro X e C ⟨q,⟨_,rfl⟩|⟨_,g,c,rfl,_⟩⟩
   .exact⟨Tn.of q,_,_,_,_,_,_,_,_,_,_,_,_,_,_,_,_,_,_,rfl⟩
   exact⟨Tn.of q,_,_,_,_,_,_,_,_,_,_,_,_,_,_,_,_,_,_,rfl⟩
  rintro X e C U l r ⟨q,⟨M,rfl⟩|⟨G,g,c,rfl,T,Y,N⟩⟩ F
  .exact⟨Tn.of (Cr l q F),cr ⟨6,_,_,ct ⟨rfl,rfl,ct (ct (ct (ct (ct ⟨rfl,ct ⟨hth,M,rfl⟩⟩))))⟩,rfl⟩⟩
  have Q:=Cr l q F;have E:=h.A Q;have R:=T.O F N Yt (λz r a n c V W J=>by
   simp at J;have:=h.z.dh (A8.1 r).1 V W;omega)
  exact⟨Tn.of Q,ct ⟨⟨⟨#[]⟩,0,m,f,d,Ch (i.map (·.1)) s,p,o⟩,g,_,c,Ci i s,x,y,t,v,ct (ct (ct (ct (ct (ct ⟨rfl,hth,G,rfl⟩))))),by simp[<-Oa],Oa i s,⟨cr rfl,R,Zr N F.size,E.po,E.lo,E.lb,λe=>by have J:=h.dj.2.1 g e.symm;have V:=l.size;omega,E.pL,λz r=>E.zL z (A8.1 r).1,ct (by have J:=h.lb;have V:=l.size;omega),λz r=>E.zr z (A8.1 r).1⟩⟩⟩
 refine DX 7 129 _ A m f d H x t (ed i) I (ed p) y (ed o) v s L k B O (ed j) P w [] (λX e C=>e=C1 (ca (ee (Cp 2 ⟨#[]⟩ ⟨#[]⟩)))/\Zz X C) _ (ct (ct (ct (ct (ct (⟨rfl,rfl,rfl⟩)))))) Yu (λX l _=> ?_) ?_ ?_
 .have J:=NA A m f d x t I (ed p) y (ed o) v s (h.A l).fq Yv hth;rw[A7]at J;exact J
 .rintro X e C ⟨rfl,q⟩;exact⟨Tn.of q,_,_,_,_,_,_,_,_,_,_,_,_,_,_,_,_,_,_,rfl⟩
 rintro X e C U l r ⟨rfl,q⟩ F;exact⟨Tn.of (Cr l q F),cr ⟨2,_,_,ct ⟨rfl,rfl,ct (ct (ct (ct (ct ⟨rfl,cr ⟨hth,rfl⟩⟩))))⟩,rfl⟩⟩
theorem XZ{r:Int}{P D:Zk}(tc:Nat){I E:Nat}{F:List (Kd×Value)}{B:C7}(s N:Zi){j:Zi}{f:Zl}{K:Zk}(O:Nat)(h:CT w p b P H D I E F B o)(m:IQ r k d i (F.map (·.1)) B o 1 l j f)(hr:Ad w w.1.size K f)(zI:K=an->ed f=0/\O=0):
 D4 80 #[ca (Yg r k d i P (ed F) tc H (ed B) I D (ed o) E),ca (Ye 1 s N l j K (ed f) O)] w (OD p (Cx D (ed o) E) r k d i (F.map (·.1)) B o 1 s N l j f w):=by
 refine DX 1 122 _ r k d i P H D (ed F) tc (ed B) I (ed o) E s N j l K (ed f) O w (ef (Cx D (ed o) E)).toList (λX e w'=>TH p b r k d i l F (Cx H (ed B) I) (Cx D (ed o) E) o j f X e w') _ (cr ⟨rfl,rfl,rfl⟩) (λq u=>h.dj.2.1 q gA) (λX t _=>Vz p r k d i 1 l P b tc F H D (ed B) I E o s N j f K O X ⟨h.tb,zI,(h.A t).z,(h.A t).bl,Ai h.lo t,Zm h.lb t.size,h.bL,h.zL,Ad.ah (Ad.A hr t) t.size,m.bn,m.w1,λz A=>m.cf z.1 (mem_map.2 ⟨z,A,rfl⟩),m.jw,m.jv,m.bi,m.aj,m.cj,m.cg,m.dx,m.dv,m.gu,m.ib,m.nl⟩) ?_ ?_
 .rintro X e w' ⟨y,⟨c,a,b',_,rfl⟩|⟨M,aj,g,gc,Y,C,Z,_,_,_,_,rfl,_⟩⟩
  .exact⟨y,_,_,_,_,_,_,_,_,_,_,_,_,_,_,_,_,_,_,rfl⟩
  exact⟨y,_,_,_,_,_,_,_,_,_,_,_,_,_,_,_,_,_,_,rfl⟩
 rintro X e w' zP t A ⟨zJ,hQ⟩ y;have G:=zJ;have hB:=Tn.fresh ((Tn.of t).ag G) y Yv;rcases hQ with⟨c,a,b',zG,rfl⟩|⟨M,aj,g,gc,Y,C,Z,Q,R,zE,zB,rfl,hm,zN,S,T,W,U,ho,zC,zM⟩
 .exact⟨hB,cr ⟨c,a,b',cr ⟨rfl,zG⟩,rfl⟩⟩
 have zT:g≠w.1.size+2:=by have:=h.bl;rcases T with⟨e,_⟩|e<;>omega
 have zK:=zN.O y S Yt (λz A a n c x e3 v=>by
  simp at v;rcases W z A with L|⟨zA,n',zO,J,zF⟩
  .have:=h.z.dh L x e3;omega
  rw[x]at J;cases J;omega)
 have zU:C≠w.1.size+2:=by
  rcases U with e|e
  .have:=h.dj.2.1 C e;omega
  omega
 have zV:=OE ho y (by intro q u;have:C=q:=by simpa [ownBlock]using u
                      omega)
 have V:=Ai h.po t;have zH:=OE (Ar V (w':=w') (λq u=>G.block q (Ab V u).2 (λe=>h.pL q u gA))) y (by intro q u;have:=h.dj.1 q u;omega);have zS:=t.size;have h4:ej zP p 112 3 (Yz C (ed (o++[(⟨d+1,Bm j f r,k+l⟩:Ld)])) Z) (ed (o++[(⟨d+1,Bm j f r,k+l⟩:Ld)])) (Af lC (o++[(⟨d+1,Bm j f r,k+l⟩:Ld)])):=gA;refine⟨hB,ct ⟨⟨Bm j f r,d+1,k,d+1,aj,M,B,o++[⟨d+1,Bm j f r,k+l⟩]⟩,g,_,gc,Y,H,I,_,Z,cr ⟨rfl,Q,zE,zB,M,aj,R,rfl⟩,by simp[<-hm],hm,⟨cr rfl,zK,Zr S y.size,zH,h4,Zm h.lb hB.size,by simp[ownBlock];exact zC,λq u e=> ?_,λz A a n c v x e=> ?_,?_,λz A a n c v x=> ?_⟩⟩⟩
 .have v:C=q:=F7;have:=h.dj.1 q u;rcases U with hk|hk
  .exact h.pL q u gA
  omega
 .have e3:a.block=C:=F7;exact zM z A a n c v x e3
 .rcases T with⟨v,x⟩|v
  .rw[v,x];exact h.zb
  exact ct (C8 h.lb)
 rcases W z A with L|⟨zA,n',zO,J,zF⟩
 .exact h.zr z L a n c v x
 rw[v]at J;cases J;have:=h.lb;omega
theorem LG{f:Nat}{r g c a:Int}{z o:Zk}(A:Nat){x:Nat}{l:List (Kd×Value)}{j:C6}(s u:Zi){e:Zi}{d:Zl}{q:Zk}(y:Nat){n:Int}(h:CT w f b z v o x p l m j)(t:IQ r g c a (l.map (·.1)) m j n i e d)(B:∀k∈l.map (·.1),ed k.C<=30)(D:Ad w w.1.size q d)(C:q=an->ed d=0/\y=0):
 D4 80 #[ca (Yg r g c a z (ed l) A v (ed m) x o (ed j) p),ca (Ye n s u i e q (ed d) y)] w (OD f (Cx o (ed j) p) r g c a (l.map (·.1)) m j n s u i e d w):=by
 obtain rfl|rfl|rfl|rfl|rfl|rfl|rfl:n=1\/n=2\/n=3\/n=4\/n=5\/n=6\/n=7:=by have:=t.ju;have:=t.jy;omega
 .exact XZ A s u y h t D C
 .exact XW A s u q y h t
 .exact XT A s u q y h t
 .exact XX A s u q y h t B
 .exact XU A s u q y h t
 .exact XV A s u q y h t
 exact XY A s u q y h t
