import Derived.Test.YtfehblndlffcmaaGreatDoorX19
import Derived.Test.YtfehblndlffcmaaGreatDoorX37
import Derived.Test.YtfehblndlffcmaaGreatDoorX38
set_option maxRecDepth 100000
set_option maxHeartbeats 16000000
open Option renaming some->an,none->ba
open Bool renaming true->bg,false->bq
open Go.RowKit renaming Below->bs
open Decidable renaming decide->bx
open Go.Obj renaming cells->ca
open Go.Value renaming slice->cr,agg->ct,bool->ef
open Or renaming inl->dp,inr->eb
open Go.Ground renaming data->ed
open List renaming length->eh,toArray->ei
open Go.World renaming cell?->ek,grownBy->ep,setCell->ev
namespace Go.Proofs.YtfehblndlffcmaaGreatDoor
open ChangeShapes WideShapes ChangeAt RowKit _root_.Go.Proofs.Tryz List World Value
variable{b n c q g:Nat}{a:Zk}{p:Int}{w X Y:Zh}{u v:Vd}{r:Rs}
def Fm(v:Vd)(a:Va):Zj:=Bd v (cr a.Y (eh v.ss) a.sc) (cr a.V (eh v.C) a.T) (cr a.Q (eh v.B) a.W) (cr a.L (eh v.ps) a.P) (cr a.K (eh v.ls) a.O) (cr a.Z (eh v.H) a.y) (cr a.g (eh v.ms) a.j)
theorem Qy{a:Va}(k:Int)(g:Bc w w.1.size a v)(d:Dz v)(i:eh v.C<=a.T)(h:Env w):
 D8 8 #[ct (ei (Fm v a)),Zg k] w (XL v (λu=>∃c,Dp v.wd v.lim (Ap v.ss v.C k) [] c u) w):=by
 obtain⟨l,m⟩:=Hp (k:=k) d.ss d.C;refine YQ (dp ⟨rfl,rfl,rfl,rfl⟩) v _ _ _ k (Ap v.ss v.C k) (λu=>∃c,Dp v.wd v.lim (Ap v.ss v.C k) [] c u) w rfl (λY b=>Gi (g.X b) d (h.A b)) (λ_ Y b=>Mm _ _ k (g.X b).s (g.X b).t d.s d.t d.ss d.C i) (λ_ Y u n b f=> ?_);obtain⟨j,c,rfl,p,r⟩:=RT f;refine(NX v.wd v.lim ba c 0 [] p (dp rfl) l Yu m Yu (h.A b)).ai ?_;rintro e s ⟨c,u,S,U,T,P,L,Q,M,q,f,rfl,b,o⟩;exact⟨c,u,S,U,T,P,L,Q,M,q,⟨c,f⟩,rfl,b,o⟩
theorem VH{a:Va}(d:Bc w w.1.size a v)(c:Dz v)(g:eh v.C<=a.T)(h:Env w):
 D8 13 #[ct (ei (Fm v a))] w λe b=>∃(u:Vd) (S U T P L Q M:D4) (rs:Zj),(¬BW v/\u=v0\/BW v/\u=CK v (Ap v.ss v.C (eh v.C)))/\e=C5 (ct (ei (Bd u S U T P L Q M)))/\AF b w.1.size S U T P L Q M rs u/\Zz w b:=by
 refine Vs (dp ⟨rfl,rfl,rfl,rfl⟩) v _ _ _ _ _ (Ap v.ss v.C (eh v.C)) w rfl (λY b=>Gi (d.X b) c (h.A b)) ?_ (λ_ Y b=>Vi _ _ (d.X b).s (d.X b).t c.s c.t c.ss c.C g);rintro⟨r,f⟩ Y b;exact MD (d.X b) c f
theorem Cp.pre{b:Int}:∀{xs ys:Zl} {r r':Rs},Cp b r (xs++ys) r'->∃a,Cp b r xs a
 |[],_,r,_,_=>⟨r,rfl⟩
 |_::_,_,_,_,h=>by obtain⟨a,c,d⟩:=h;have⟨f,e⟩:=Cp.pre d;exact⟨f,a,c,e⟩
theorem BZ.left(h:BZ v r)(k:Int):∃b,Cp v.wd r0 (Ap v.ss v.C k) b/\BG (Ap v.ss v.C k) []=bg/\Dp v.wd v.lim (Ap v.ss v.C k) [] 0 (Bq v.wd v.lim (Ap v.ss v.C k) [] b):=by
 have g:=CM.1 h.log;have e:Ap v.ss v.C k=v.ss++v.C.take (min (max k 0) (eh v.C)).toNat:=by simp[Ap,h.log]
 have a:=h.run;rw[<-take_append_drop (min (max k 0) (eh v.C)).toNat v.C,<-append_assoc]at a;have⟨b,d⟩:=a.pre;rw[<-e]at d;have c:BG (Ap v.ss v.C k) []=bg:=CM.2 ⟨by rw[e,Am,C0,length_nil];omega,λs f=>by
  rw[e,append_nil]at f;rcases Bw.1 f with h|h
  .exact gA
  exact g.2 s (mem_append_right _ (mem_of_mem_take h))⟩
 exact⟨b,d,c,eb ⟨⟨h.wd,h.lim,c⟩,eb ⟨b,by rw[append_nil];exact d,rfl,rfl⟩⟩⟩
theorem BZ.all(h:BZ v r){c:Int}(m:Dp v.wd v.lim (Ap v.ss v.C (eh v.C)) [] c u):(v.J=u.J/\v.F=u.F/\v.G=u.G/\v.E=u.E)/\v.B=u.B/\v.ps=u.ps/\v.ls=u.ls:=by
 have⟨n,a,_,l⟩:=h.left (eh v.C);have e:Ap v.ss v.C (eh v.C)=v.ss++v.C:=by simp[Ap,h.log]
 obtain⟨_,rfl⟩:=m.di l;rw[e]at a;obtain rfl:=a.di h.run;have⟨⟨b,d,f,g⟩,i,j,k⟩:=h.same;exact⟨⟨b.symm,d.symm,f.symm,g.symm⟩,i.symm,j.symm,k.symm⟩
theorem BZ.gd(h:BZ v r):BZ (CK v (Ap v.ss v.C (eh v.C))) r:=by
 have⟨c,b,a,_⟩:=h.left (eh v.C);have e:Ap v.ss v.C (eh v.C)=v.ss++v.C:=by simp[Ap,h.log]
 refine⟨h.wd,h.lim,a,?_,h.same,h.round⟩;show Cp v.wd r0 (Ap v.ss v.C (eh v.C)++[]) r;rw[append_nil,e];exact h.run
theorem fy(a:Zh)(c:Zj)(f:eh c=17):∃e d:Zh,e=a.alloc (ca Xo 34)/\d=e.setCells a.1.size 0 (ei c).toList/\e.there a.1.size 0 (ei c).size/\Aa d a.1.size c/\Zz a d/\a.1.size<d.1.size:=by
 refine⟨_,_,rfl,rfl,?_,?_,?_,?_⟩
 all_goals
  obtain⟨x,b,z,t⟩:=(Ax (w:=a) (l:=AU) (T:=34) rfl).2.2,(Ax (w:=a) (l:=AU) (T:=34) rfl).1,(Ax (w:=a) (l:=AU) (T:=34) rfl).2.1,AD a.1.size c 0 (a.alloc (ca (ei AU) 34))
 .rw[show (ei c).size=17 from by rw[A0];exact f];exact x.there
 .exact x.aw c (by rw[f];rfl)
 .exact b.ag (t.A b.size Yu)
 exact Zr Yv t.size
theorem Ca{P:Program}{c:Array Oper}{rest:List Oper}{f:Oper}{a:Act}{Q:Exit->Act->Zh->Prop}(p:Region.wanted f (yielded c a.tmps)=bg)(g:TypeId)(x:Operand)(m:f.op=.load g x)(b o:Nat)(q:a.eval x=Yx b o)(e:Zj)(d:TypeDesc)(j:w.rangeAt b o e)(n:P.underlying g=an d)(k:d.isRow=bg)(l:(P.info? g).map (·.size)=an (eh e))(h:wpList P c Q rest (a.put f.dst (ct (ei e))) w):wpList P c Q (f::rest) a w:=
 wpList_step λ_ i=>by rw[if_pos p];exact wp_load_mid g x m b o q e d j n k l (i _ _ h)
theorem Qz(a:Zk)(n c:Nat)(q:Env w)(d:D8 4 #[C3 a n c] w λe D=>∃u f k,e=C5 (.tuple #[ct (ei (Fm u f)),Zg k])/\(Bc D D.1.size f u/\Kv f u/\Dz u/\eh u.C<=f.T)/\(-1<=k/\k<=10)/\Zz w D):
 D8 3 #[C3 a n c] w λe D=>e=C5 (ef bg)/\Zz w D:=by
 by_cases h20:(1048576:Int)<n
 .clear d;delta D8;go_in;go_wp2;go_ret;exact⟨rfl,Ae⟩
 have o:=Yw d;have E:Hid (Env w):=q;clear d q;delta D8;go_in;go_wp2_with fail;refine o.Aj ?_;clear o;rintro e q ⟨u,f,k,rfl,⟨J,I,V,G⟩,H,t⟩;have⟨K,d⟩:=Ag (Fm u f);rw[<-d];have HL:Hid (eh K=17/\∀x∈K,x.oneCell'=bg):=by rw[d];exact⟨rfl,by simp[Fm,Bd,oneCell']⟩
 have⟨W2,C,W,xE,xF,c3,b3,z3⟩:=fy q K HL.1;have B:Hid (∀X,Zz C X->Aa X q.1.size K/\Bc X X.1.size f u/\Env X/\Zz w X):=λX o=>by have hb:bs q.1.size q X:=b3.ag (o.ai b3.size);refine⟨?_,J.X hb,(E.A t).A hb,t.ag (hb.ai t.size)⟩;rw[d]at c3 |-;exact Aa.A c3 o
 have O:Hid (Kv f u/\Dz u/\eh u.C<=f.T):=⟨I,V,G⟩;have R:Hid (W2.there q.1.size 0 (ei K).size):=xF;have N:=Yw W;have xA:=Yw xE;have F:Hid (K=Fm u f):=d;clear W xE xF c3 b3 J I V G t E d;go_upto_region 4 with(refine wpList_store_mid rfl 34 _ _ rfl q.1.size 0 (ei K) rfl rfl (by rw[<-N.o];exact R.o) (by rw[A0,HL.1];kernel_rfl) (all_oneCell_toArray HL.2) ?_);rw[<-N.o,<-xA.o];clear N xA R;generalize q.1.size=g at *
 have l:Hid (∀X,Zz C X->D8 5 #[ct (ei K)] X λe D=>Av (BW u) X D e):=λX o=>by rw[F.o];exact DJ (B X o).2.1 O.1 O.2.1
 have j:Hid (∀X,Zz C X->D8 6 #[ct (ei K)] X λe D=>Av (BW u) X D e):=λX o=>by rw[F.o];exact Gi (B X o).2.1 O.2.1 (B X o).2.2.1
 have z:Hid (∀X k,Zz C X->D8 8 #[ct (ei K),Zg k] X (XL u (λx=>∃c,Dp u.wd u.lim (Ap u.ss u.C k) [] c x) X)):=λX k o=>by rw[F.o];exact Qy k (B X o).2.1 O.2.1 O.2.2 (B X o).2.2.1
 go_wp2_with (refine wpList_load_mid rfl 34 _ rfl g 0 rfl K _ (Aa.range (B C Ae).1) underlying34 rfl J2 ?_);refine Calls.mono (l C Ae) ?_;rintro e t ⟨b4,rfl,b,d⟩;cases b4 with
 |false=>
  have sH:¬BW u:=λh=>by have:=b.2 h;cases this
  clear b l;go_wp2_with (refine wpList_load_mid rfl 34 _ rfl g 0 rfl K _ (Aa.range (B t d).1) underlying34 rfl J2 ?_);refine Calls.mono (j t d) ?_;rintro e w5 ⟨b5,rfl,q,i⟩;have G:=d.ag (i.ai d.size);obtain rfl:b5=bq:=by
   cases b5 with
   |false=>rfl
   |true=>exact absurd (q.1 rfl) sH
  clear q j;go_wp2_with (refine Ca Yp 34 _ rfl g 0 rfl K _ (Aa.range (B w5 G).1) underlying34 rfl J2 ?_);refine Calls.mono (z w5 k G) ?_;rintro e E ⟨x,S,U,T,P,L,Q,M,rs,Y,rfl,q,J⟩;obtain rfl:x=v0:=by
   rcases Y with⟨_,h⟩|⟨h,_⟩
   .exact h
   exact absurd h sH
  obtain⟨sa,sc,rfl,Z⟩:=q.s.row;obtain⟨ua,uc,rfl,q2⟩:=q.u.row;obtain⟨ta,tc,pa,pc,la,lc,rfl,rfl,rfl,q3⟩:=q.st.rows;obtain⟨qa,qc,rfl,q4⟩:=q.q.row;obtain⟨ma,mc,rfl,q5⟩:=q.m.row;have vY:=Yw (ME v0 ⟨sa,sc,ua,uc,ta,tc,pa,pc,la,lc,qa,qc,ma,mc⟩ ⟨ba,0,ba,0,ba,0,ba,0,ba,0,ba,0,ba,0⟩ E ⟨Z,q2,q3,q4,q5⟩ ⟨dp rfl,dp rfl,⟨dp rfl,dp rfl,dp rfl⟩,dp rfl,dp rfl⟩ Kw ⟨Aq _,Aq _,Aq _⟩ (λk H=>by cases H));have yZ:Hid (Zz w E):=by have:=(B w5 G).2.2.2;exact this.ag (J.ai this.size)
  clear q Z q2 q3 q4 q5 z B O F J i d G Y;go_wp2_with fail;refine vY.Aj ?_;rintro e w7 ⟨rfl,tA⟩;go_wp2;go_ret;exact⟨rfl,yZ.ag (tA.ai yZ.size)⟩
 |true=>
  have⟨r,yO⟩:=b.1 rfl;have G:Hid (BZ u r):=yO;have yX:Hid (Zz C t):=d;have rJ:=O.2.2;have V:=O.2.1;obtain⟨rH,rI,I⟩:=V.s,V.t,O.1;have⟨m,i⟩:∃m:Nat,(m:Int)=min (max k 0) (eh u.C):=⟨(min (max k 0) (eh u.C)).toNat,Yv⟩;have sV:m<=eh u.C:=Yv;have tG:Hid (Ap u.ss u.C k=u.ss++u.C.take m):=by
   have e:(min (max k 0) (eh u.C)).toNat=m:=Yv;show Ap u.ss u.C k=_;unfold Ap;rw[if_pos yO.log,e]
  have u3:ek t (Zd g 3)=an (C2 f.V u.C f.T):=((B t d).1 3 _ L8).1;have u2:ek t (Zd g 2)=an (C2 f.Y u.ss f.sc):=((B t d).1 2 _ L8).1;clear b d yO l j;go_upto_if 37 with fail;go_cut [5,37] (λv _ y=>v=Zg (max k 0)/\y=t)
  case first=>
   by_cases hk0:k<0
   .have e1:bx (k<0)=bg:=decide_eq_true hk0;go_wp2;go_meet;exact⟨by congr 1;omega,rfl⟩
   have e1:bx (k<0)=bq:=decide_eq_false hk0;go_wp2;go_meet;exact⟨by congr 1;omega,rfl⟩
  case rest=>
  revert wc;rintro sZ ⟨rfl,rfl⟩;go_upto_if 43 with fail;go_cut [5,43] (λv _ y=>v=Zg m/\y=sZ)
  case first=>
   by_cases hk1:(eh u.C:Int)<max k 0
   .have e1:bx ((eh u.C:Int)<max k 0)=bg:=decide_eq_true hk1;go_wp2;go_meet;exact⟨by congr 1;omega,rfl⟩
   have e1:bx ((eh u.C:Int)<max k 0)=bq:=decide_eq_false hk1;go_wp2;go_meet;exact⟨by congr 1;omega,rfl⟩
  case rest=>
  revert wc;rintro t ⟨rfl,rfl⟩;clear i;go_upto_region 11 with fail;have⟨i0,hi,sN,sO,sP⟩:=info_parts Ck;have d:=(B t yX).2.1;have bA:bs t.1.size t (t.alloc (ca #[] 9)):=Zy;have oA:(t.alloc (ca #[] 9)).drew.ownsRow t.1.size 9 1 (Yz t.1.size 0 0) 0 (([]:Zl).map string):=ownsRow_lit (base:=t.1.size) (e:=9) (size:=1) t #[] 0 (Zx) Yo rfl;have rows:∀(X:Zh) (b:Zk) (l:Zl),Zz t X->Ab t t.1.size b l->∀A,b=an A->∀(j:Nat) s,l[j]?=an s->ek X (A.add j)=an (C4 s):=λX b l o i A e j s hs=>by
   rcases i with rfl|⟨b,tM,e',hb,hc⟩
   .simp at hs
   rw[e]at e';cases e';rw[A7];exact(o.cell (p:=⟨b,tM+j,ba⟩) hb).ag (hc j s hs)
  have j:Ab t t.1.size f.V (u.C.take m):=by
   rcases d.t with h|⟨b,tM,e,hb,hc⟩
   .exact dp (by rw[h];simp)
   exact eb ⟨b,tM,e,hb,λi s hs=>hc i s (by rw[getElem?_take]at hs;split at hs;exact hs;cases hs)⟩
  have sL:eh (u.C.take m)=m:=N2;have i:∀X,Zz t X->ek X (Zd g 2)=an (C2 f.Y u.ss f.sc)/\ek X (Zd g 3)=an (C2 f.V u.C f.T):=λX o=>by have h:=(B X (yX.ag (o.ai yX.size))).1;exact⟨(h 2 _ L8).1,(h 3 _ L8).1⟩
  obtain⟨⟨e2,e3⟩,⟨f2,f3⟩,A⟩:=i t.drew Ae.drew,i (t.alloc (ca #[] 9)).drew bA.drew,Yw i;clear i u2 u3;have sU:m<=f.T:=Yv;have sT:(0:Int)<=(m:Int):=Yv;go_cut [6] (λv y=>∃gL cL,v=Yz gL (eh u.ss+m) cL/\Hid (y.ownsRow t.1.size 9 1 (Yz gL (eh u.ss+m) cL) (eh u.ss+m) ((u.ss++u.C.take m).map string)/\Zz t y))
  case first=>
   have rA:=rows (t.alloc (ca #[] 9)).drew f.Y u.ss bA.drew d.s;have rB:=λX o=>rows X f.V (u.C.take m) o j;have sW:=I.s;have sX:f.V=ba->m=0/\f.T=0:=λe=>Dl (I.t e);clear rows j d B O z G V I
   go_region_law (first
    |(refine Az (t.alloc (ca #[] 9)).drew rfl (.tmp 48) (.tmp 51) 23 rfl t.1.size 9 i0 Zc 16 underlying23 hi sN sO sP rfl t.1.size 0 0 [] rfl oA f.Y (eh u.ss) f.sc u.ss rfl rfl sW rA Yo Yv Yu ?_;intro k6 tN E tL sR rD rF;simp only[Ay,nil_append]at tL;have b6:bs t.1.size t E:=bA.drew.grown sR Yu (λk H=>by cases H;omega);have r6:=rB E b6;have z6:t.1.size<=E.1.size:=b6.size;have⟨g2,g3⟩:=A E b6)
    |(refine Az E rfl (.tmp 52) (.tmp 57) 23 rfl t.1.size 9 i0 Zc 16 underlying23 hi sN sO sP rfl k6 (eh u.ss) tN u.ss rfl tL f.V m f.T (u.C.take m) rfl sL sX r6 Yo Yv Yv ?_;intro k9 tO tB sY sS rE rG;have sQ:bs t.1.size t tB:=b6.grown sS b6.size (λk H=>by cases H;exact(tL.lt k6 rfl).1)))
   all_goals
    go_wp2_with fail;go_meet;exact⟨k9,tO,rfl,sY,sQ⟩
  case rest=>
  clear rows j d bA oA e2 e3 f2 f3 A sL;revert wc;rintro w5 ⟨gL,cL,rfl,V⟩;have vN:Hid (Zz C w5):=yX.ag (V.2.ai yX.size);have⟨L,hL⟩:=Ag (u.ss++u.C.take m);have j:eh u.ss+m=eh L:=by rw[hL,Am,C0];omega
  rw[j];rw[j,<-hL]at V;rw[<-hL]at tG;have⟨d,A,I,y⟩:=G.left k;rw[tG.o]at A I y;have i:=Yw (Za A (Za I y));have vT:Hid (∀s∈L,s.size<=1048576):=λs hs=>by have:=(CM.1 I).2 s (by rw[append_nil];exact hs);omega
  have sD:eh L<=4000:=by have:=(CM.1 I).1;simp at this;omega
  have tC:Hid (Ab w5 w5.1.size (an ⟨gL,0,ba⟩) L):=Ab.own V.1;clear A I y hL V sV sU sT j;go_wp2_with (refine wpList_load_mid rfl 34 _ rfl g 0 rfl K _ (Aa.range (B w5 vN).1) underlying34 rfl J2 ?_);refine Calls.mono (z w5 k vN) ?_;rintro e E ⟨x,S,U,T,P,L',Q,M,rs,Y,rfl,q,J⟩;obtain rfl:x=Bq u.wd u.lim L [] d:=by
   rcases Y with⟨h,_⟩|⟨_,c,h⟩
   .exact absurd ⟨r,G⟩ h
   rw[tG.o]at h;exact(h.di i.2.2).2
  obtain⟨yH,yI,rfl,Z⟩:=q.s.row;obtain⟨yJ,yL,rfl,q2⟩:=q.u.row;obtain⟨zI,zJ,zE,zF,A,zA,rfl,rfl,rfl,q3⟩:=q.st.rows;obtain⟨zG,zH,rfl,q4⟩:=q.q.row;obtain⟨zB,zC,rfl,q5⟩:=q.m.row;have vV:Hid (Bc E E.1.size ⟨yH,yI,yJ,yL,zI,zJ,zE,zF,A,zA,zG,zH,zB,zC⟩ (Bq u.wd u.lim L [] d)/\Zz w5 E):=⟨⟨Z,q2,q3,q4,q5⟩,J⟩;have⟨v1,I⟩:=Ag (Fm (Bq u.wd u.lim L [] d) ⟨yH,yI,yJ,yL,zI,zJ,zE,zF,A,zA,zG,zH,zB,zC⟩);have xC:Hid (eh v1=17/\∀x∈v1,x.oneCell'=bg):=I3;rw[show Bd (Bq u.wd u.lim L [] d) (C2 yH (Bq u.wd u.lim L [] d).ss yI) (C2 yJ (Bq u.wd u.lim L [] d).C yL) (C2 zI (Bq u.wd u.lim L [] d).B zJ) (C2 zE (Bq u.wd u.lim L [] d).ps zF) (C2 A (Bq u.wd u.lim L [] d).ls zA) (C2 zG (Bq u.wd u.lim L [] d).H zH) (C2 zB (Bq u.wd u.lim L [] d).ms zC)=v1 from I.symm];have vX:=Yw I
  clear I q Z q2 q3 q4 q5 Y J;have⟨A1,W6,y,sE,sI,c1,b1,z1⟩:=fy E v1 xC.1;have I:=Yw y;have j:=Yw sE;have J:Hid (A1.there E.1.size 0 (ei v1).size):=sI;have vP:=Yw (Za c1 (Za b1 z1));clear y sE sI c1 b1 z1;go_upto_region 13 with(first
   |refine wpList_store_mid rfl 34 _ _ rfl E.1.size 0 (ei v1) rfl rfl (by rw[<-I.o];exact J.o) (by rw[A0,xC.1];kernel_rfl) (all_oneCell_toArray xC.2) ?_)
  rw[<-I.o,<-j.o];clear I j J;have vO:Hid (Zz w5 W6):=vV.2.ag (vP.2.1.ai vV.2.size);have J:Hid (Zz C W6):=vN.ag (vO.ai vN.size);have x0:=((B W6 J).1 0 (Zg u.wd) L8).1;have j:=((B W6 J).1 1 (Zg u.lim) L8).1;have I:=Yw (NX u.wd u.lim ba cL 0 [] (Ab.X tC vO) (dp rfl) Yv Yu vT Yu (B W6 J).2.2.1);go_wp2_with fail;refine I.Aj ?_;clear I x0 j;rintro e w7 ⟨c',y,S,U,T,P,L',Q,M,rs,Y,rfl,q,tA⟩;obtain⟨rfl,rfl⟩:=Y.di i.2.2;obtain⟨xW,xZ,rfl,Z⟩:=q.s.row;obtain⟨vF,vI,rfl,q2⟩:=q.u.row;obtain⟨vD,vE,xO,xP,xG,xH,rfl,rfl,rfl,q3⟩:=q.st.rows;obtain⟨xQ,xT,rfl,q4⟩:=q.q.row;obtain⟨xI,xL,rfl,q5⟩:=q.m.row;have vW:Hid (Bc w7 w7.1.size ⟨xW,xZ,vF,vI,vD,vE,xO,xP,xG,xH,xQ,xT,xI,xL⟩ (Bq u.wd u.lim L [] d)/\Zz W6 w7):=⟨⟨Z,q2,q3,q4,q5⟩,tA⟩;clear q Z q2 q3 q4 q5 Y tA;have⟨v2,I⟩:=Ag (Fm (Bq u.wd u.lim L [] d) ⟨xW,xZ,vF,vI,vD,vE,xO,xP,xG,xH,xQ,xT,xI,xL⟩);have xD:Hid (eh v2=17/\∀x∈v2,x.oneCell'=bg):=I3;rw[show[Zg (Bq u.wd u.lim L [] d).wd,Zg (Bq u.wd u.lim L [] d).lim,C2 xW (Bq u.wd u.lim L [] d).ss xZ,C2 vF (Bq u.wd u.lim L [] d).C vI,Zg (Bq u.wd u.lim L [] d).J,Zg (Bq u.wd u.lim L [] d).F,Zg (Bq u.wd u.lim L [] d).G,Zg (Bq u.wd u.lim L [] d).E,C2 vD (Bq u.wd u.lim L [] d).B vE,C2 xO (Bq u.wd u.lim L [] d).ps xP,C2 xG (Bq u.wd u.lim L [] d).ls xH,Zg (Bq u.wd u.lim L [] d).I,C2 xQ (Bq u.wd u.lim L [] d).H xT,C2 xI (Bq u.wd u.lim L [] d).ms xL,Zg (Bq u.wd u.lim L [] d).N,Zg (Bq u.wd u.lim L [] d).M,Zg (Bq u.wd u.lim L [] d).ro]=v2 from I.symm]
  have tE:=Yw I;clear I;have⟨A2,W7,j,W,xF,c2,b2,z2⟩:=fy w7 v2 xD.1;have I:=Yw j;have N:=Yw W;have R:=Yw xF;have vQ:=Yw (Za c2 (Za b2 z2));clear j W xF c2 b2 z2;go_upto_region 14 with(first
   |refine wpList_store_mid rfl 34 _ _ rfl w7.1.size 0 (ei v2) rfl rfl (by rw[<-I.o];exact R.o) (by rw[A0,xD.1];kernel_rfl) (all_oneCell_toArray xD.2) ?_)
  rw[<-I.o,<-N.o];clear I N R;have yY:Hid (Zz W6 W7):=vW.2.ag (vQ.2.1.ai vW.2.size);have N:Hid (Zz C W7):=J.ag (yY.ai J.size);have x0:=((B W7 N).1 0 (Zg u.wd) L8).1;have I:=Yw (Rj u.wd cL (Ab.X (Ab.X tC vO) yY) Yv vT (B W7 N).2.2.1);go_wp2_with fail;refine I.Aj ?_;clear I x0;rintro e w8 ⟨x,T,P,L',rs,sM,rfl,hS,tK⟩;obtain rfl:=sM.di (eb ⟨⟨G.wd,sD⟩,eb ⟨d,i.1,rfl⟩⟩);obtain⟨t8,c8,rfl⟩:=Au hS.ak;obtain⟨p8,d8,rfl⟩:=Au hS.pins;obtain⟨l8,e8,rfl⟩:=Au hS.ax;have⟨j,tJ⟩:=D6 w8 #[Ze,Zg u.wd,Zg d.F,Zg d.G,Zg d.E,C2 t8 d.B c8,C2 p8 d.ps d8,C2 l8 d.ls e8,Zc,Ze,Zc,Zc] 42;obtain⟨W,rC,tY⟩:=Ax (l:=[Ze,Zg u.wd,Zg d.F,Zg d.G,Zg d.E,C2 t8 d.B c8,C2 p8 d.ps d8,C2 l8 d.ls e8,Zc,Ze,Zc,Zc]) tJ;have l:Hid (Zz W7 j):=tK.ag (W.ai tK.size);have R:Hid (Zz C j):=N.ag (l.ai N.size);have I:Hid (∀X,Zz j X->Aa X w8.1.size [Ze,Zg u.wd,Zg d.F,Zg d.G,Zg d.E,C2 t8 d.B c8,C2 p8 d.ps d8,C2 l8 d.ls e8,Zc,Ze,Zc,Zc]/\Bo X X.1.size t8 p8 l8 d.B d.ps d.ls/\Aa X E.1.size v1/\Aa X w7.1.size v2/\Bc X X.1.size ⟨yH,yI,yJ,yL,zI,zJ,zE,zF,A,zA,zG,zH,zB,zC⟩ (Bq u.wd u.lim L [] d)/\Bc X X.1.size ⟨xW,xZ,vF,vI,vD,vE,xO,xP,xG,xH,xQ,xT,xI,xL⟩ (Bq u.wd u.lim L [] d)/\Zz C X):=λX o=>by
   have h8:=l.ag (o.ai l.size);have h7:=yY.ag (h8.ai yY.size);refine⟨Aa.A tY o,((hS.A W).A o).get,?_,?_,((vV.1.X vP.2.1).X h7),((vW.1.X vQ.2.1).X h8),R.ag (o.ai R.size)⟩
   .have h:=vP.1;rw[vX.o]at h |-;exact Aa.A h h7
   have h:=vQ.1;rw[tE.o]at h |-;exact Aa.A h h8
  have tV:=Yw tJ;clear tJ W rC tY hS sM tK vV vW vP vQ vO yY l J N tC;go_upto_region 15 with fail;rw[<-tV.o];clear tV;have tD:Hid (eh d.B<=600/\eh d.ps<=100/\eh d.ls<=200/\∀k∈d.B,eh k.D<=30):=by have h:=i.1.ok (DH G.wd.1 G.wd.2);exact⟨h.bk.len,h.np,h.nl,h.cz⟩
  have vY:Hid (∀X,Zz j X->D8 7 #[ct (ei v1),ct (ei v2)] X λe D=>e=C5 (ef bg)/\Zz X D):=λX o=>by have h:=tD.o;rw[vX.o,tE.o];exact ME (Bq u.wd u.lim L [] d) ⟨yH,yI,yJ,yL,zI,zJ,zE,zF,A,zA,zG,zH,zB,zC⟩ ⟨xW,xZ,vF,vI,vD,vE,xO,xP,xG,xH,xQ,xT,xI,xL⟩ X (I X o).2.2.2.2.1 (I X o).2.2.2.2.2.1 (i.2.2.fit ⟨Yv,Yu,vT,Yu⟩) ⟨by show eh d.B<=_;omega,by show eh d.ps<=_;omega,by show eh d.ls<=_;omega⟩ (λk H=>Dl (h.2.2.2 k H))
  have J:Hid (∀X,Zz j X->D8 11 #[ct (C8 u.wd d.F d.G d.E zI d.B zJ zE d.ps zF A d.ls zA),ct (C8 u.wd d.F d.G d.E t8 d.B c8 p8 d.ps d8 l8 d.ls e8)] X λe D=>e=C5 (ef bg)/\Zz X D):=λX o=>by
   have h:=tD.o;refine(GP (eb ⟨rfl,rfl⟩) u.wd d.F d.G d.E u.wd d.F d.G d.E zI zE A t8 p8 l8 zJ zF zA c8 d8 e8 d.B d.B d.ps d.ps d.ls d.ls X (I X o).2.2.2.2.1.st (I X o).2.1 Yv Yv (λk H=>Dl (h.2.2.2 k H)) (λk H=>Dl (h.2.2.2 k H))).ai ?_;rintro e D hs;exact hs.is ⟨⟨rfl,rfl,rfl,rfl⟩,rfl,rfl,rfl⟩
  have xB:Hid (∀X,Zz j X->D8 12 #[ct (Xy 0 zG 0 zH zB 0 zC 0 0 0),ct Xt] X λe D=>e=C5 (ef bg)/\Zz X D):=λX o=>JE (b:=[]) (a:=[]) 0 0 0 0 ba ba zH zC 0 0 (I X o).2.2.2.2.1.q (I X o).2.2.2.2.1.m (dp rfl) (dp rfl) ⟨Yu,Yu⟩;have vU:Hid (∀X,Zz j X->X.rangeAt E.1.size 4 (C7 u.wd d.F d.G d.E zI d.B zJ zE d.ps zF A d.ls zA)/\X.rangeAt E.1.size 11 (Xu 0 zG 0 zH zB 0 zC 0 0 0)/\X.rangeAt w8.1.size 1 (C7 u.wd d.F d.G d.E t8 d.B c8 p8 d.ps d8 l8 d.ls e8)):=λX o=>by
   have h:=(I X o).2.2.1;rw[vX.o]at h;exact⟨Aa.dq [Zg u.wd,Zg u.lim,C2 yH L yI,C3 yJ 0 yL] (C7 u.wd d.F d.G d.E zI d.B zJ zE d.ps zF A d.ls zA) (Xu 0 zG 0 zH zB 0 zC 0 0 0) h,Aa.dq [Zg u.wd,Zg u.lim,C2 yH L yI,C3 yJ 0 yL,Zg u.wd,Zg d.F,Zg d.G,Zg d.E,C2 zI d.B zJ,C2 zE d.ps zF,C2 A d.ls zA] (Xu 0 zG 0 zH zB 0 zC 0 0 0) [] h,Aa.dq [Ze] (C7 u.wd d.F d.G d.E t8 d.B c8 p8 d.ps d8 l8 d.ls e8) [Zc,Ze,Zc,Zc] (I X o).1⟩
  obtain⟨u0,_⟩:=(I j Ae).1 0 _ rfl;go_wp2_with (first
   |refine Ca Yp 34 _ rfl E.1.size 0 rfl v1 _ (Aa.range (I j Ae).2.2.1) underlying34 rfl (by rw[xC.1];kernel_rfl) ?_
   |refine Ca Yp 34 _ rfl w7.1.size 0 rfl v2 _ (Aa.range (I j Ae).2.2.2.1) underlying34 rfl (by rw[xD.1];kernel_rfl) ?_)
  refine Calls.mono (vY j Ae) ?_;clear vY;rintro e w9 ⟨rfl,N⟩;go_wp2_with (first
   |refine Ca Yp 30 _ rfl E.1.size 4 rfl (C7 u.wd d.F d.G d.E zI d.B zJ zE d.ps zF A d.ls zA) _ (vU w9 N).1 underlying30 rfl Yr ?_
   |refine Ca Yp 30 _ rfl w8.1.size 1 rfl (C7 u.wd d.F d.G d.E t8 d.B c8 p8 d.ps d8 l8 d.ls e8) _ (vU w9 N).2.2 underlying30 rfl Yr ?_)
  refine Calls.mono (J w9 N) ?_;clear J;rintro e tB ⟨rfl,l⟩;have J:=N.ag (l.ai N.size);go_wp2_with (refine Ca Yp 32 _ rfl E.1.size 11 rfl (Xu 0 zG 0 zH zB 0 zC 0 0 0) _ (vU tB J).2.1 underlying32 rfl Yr ?_);refine Calls.mono (xB tB J) ?_;clear xB;rintro e yD ⟨rfl,W⟩;have zO:Hid (Zz C yD):=by have h:=J.ag (W.ai J.size);exact R.ag (h.ai R.size)
  clear N l W J vU I vX tE xC xD tD u0 R i vT sD;have i:Hid (∀X,Zz C X->D8 13 #[ct (ei K)] X λe D=>∃(y:Vd) (S U T P L Q M:D4) (rs:Zj),(¬BW u/\y=v0\/BW u/\y=(CK u (Ap u.ss u.C (eh u.C))))/\e=C5 (ct (ei (Bd y S U T P L Q M)))/\AF D X.1.size S U T P L Q M rs y/\Zz X D):=λX o=>by rw[F.o];exact VH (B X o).2.1 O.2.1 O.2.2 (B X o).2.2.1
  have I:=((B yD zO).1 3 (C2 f.V u.C f.T) L8).1;go_wp2_with (refine wpList_load_mid rfl 34 _ rfl g 0 rfl K _ (Aa.range (B yD zO).1) underlying34 rfl J2 ?_);refine Calls.mono (z yD (eh u.C) zO) ?_;clear z I;rintro e R ⟨x,S,U,T,P,L',Q,M,rs,Y,rfl,q,I⟩;have tW:Hid ((u.J=x.J/\u.F=x.F/\u.G=x.G/\u.E=x.E)/\u.B=x.B/\u.ps=x.ps/\u.ls=x.ls):=by
   rcases Y with⟨h,_⟩|⟨_,c,h⟩
   .exact absurd ⟨r,G⟩ h
   exact G.all h
  obtain⟨xX,vA,rfl,Z⟩:=q.s.row;obtain⟨vG,vJ,rfl,q2⟩:=q.u.row;obtain⟨zZ,yB,zV,zX,zS,zT,rfl,rfl,rfl,q3⟩:=q.st.rows;obtain⟨xR,xU,rfl,q4⟩:=q.q.row;obtain⟨xJ,xM,rfl,q5⟩:=q.m.row;have yF:Hid (Bc R R.1.size ⟨xX,vA,vG,vJ,zZ,yB,zV,zX,zS,zT,xR,xU,xJ,xM⟩ x/\Zz yD R):=⟨⟨Z,q2,q3,q4,q5⟩,I⟩;clear q Z q2 q3 q4 q5 Y I;have⟨v3,I⟩:=Ag (Fm x ⟨xX,vA,vG,vJ,zZ,yB,zV,zX,zS,zT,xR,xU,xJ,xM⟩);have tH:Hid (eh v3=17/\∀x∈v3,x.oneCell'=bg):=I3;rw[show Bd x (C2 xX x.ss vA) (C2 vG x.C vJ) (C2 zZ x.B yB) (C2 zV x.ps zX) (C2 zS x.ls zT) (C2 xR x.H xU) (C2 xJ x.ms xM)=v3 from I.symm];have tS:=Yw I;clear I;have⟨A3,N,l,xE,z,c3,b3,z3⟩:=fy R v3 tH.1;have I:=Yw l;have xA:=Yw xE;have J:Hid (A3.there R.1.size 0 (ei v3).size):=z;have vR:=Yw (Za c3 (Za b3 z3))
  clear l xE z c3 b3 z3;go_upto_region 18 with(first
   |refine wpList_store_mid rfl 34 _ _ rfl R.1.size 0 (ei v3) rfl rfl (by rw[<-I.o];exact J.o) (by rw[A0,tH.1];kernel_rfl) (all_oneCell_toArray tH.2) ?_)
  rw[<-I.o,<-xA.o];clear I xA J;have vL:Hid (Zz yD N):=yF.2.ag (vR.2.1.ai yF.2.size);have J:Hid (Zz C N):=zO.ag (vL.ai zO.size);go_wp2_with (refine wpList_load_mid rfl 34 _ rfl g 0 rfl K _ (Aa.range (B N J).1) underlying34 rfl J2 ?_);refine Calls.mono (i N J) ?_;clear i;rintro e I ⟨y,S,U,T,P,L',Q,M,rs,Y,rfl,q,i⟩;obtain rfl:y=(CK u (Ap u.ss u.C (eh u.C))):=by
   rcases Y with⟨h,_⟩|⟨_,h⟩
   .exact absurd ⟨r,G⟩ h
   exact h
  obtain⟨yT,yU,rfl,Z⟩:=q.s.row;obtain⟨yK,yM,rfl,q2⟩:=q.u.row;obtain⟨yV,yW,yR,yS,yP,yQ,rfl,rfl,rfl,q3⟩:=q.st.rows;obtain⟨zM,zN,rfl,q4⟩:=q.q.row;obtain⟨W,zK,rfl,q5⟩:=q.m.row;have zP:Hid (Bc I I.1.size ⟨yT,yU,yK,yM,yV,yW,yR,yS,yP,yQ,zM,zN,W,zK⟩ (CK u (Ap u.ss u.C (eh u.C)))/\Zz N I):=⟨⟨Z,q2,q3,q4,q5⟩,i⟩;clear q Z q2 q3 q4 q5 Y i;have⟨v4,i⟩:=Ag (Fm (CK u (Ap u.ss u.C (eh u.C))) ⟨yT,yU,yK,yM,yV,yW,yR,yS,yP,yQ,zM,zN,W,zK⟩);have vZ:Hid (eh v4=17/\∀x∈v4,x.oneCell'=bg):=by rw[i];exact⟨rfl,by simp[Fm,Bd,oneCell']⟩
  rw[show Bd (CK u (Ap u.ss u.C (eh u.C))) (C2 yT (CK u (Ap u.ss u.C (eh u.C))).ss yU) (C2 yK (CK u (Ap u.ss u.C (eh u.C))).C yM) (C2 yV (CK u (Ap u.ss u.C (eh u.C))).B yW) (C2 yR (CK u (Ap u.ss u.C (eh u.C))).ps yS) (C2 yP (CK u (Ap u.ss u.C (eh u.C))).ls yQ) (C2 zM (CK u (Ap u.ss u.C (eh u.C))).H zN) (C2 W (CK u (Ap u.ss u.C (eh u.C))).ms zK)=v4 from i.symm]
  have tF:=Yw i;clear i;have⟨A4,l,sB,sF,sJ,c4,b4,z4⟩:=fy I v4 vZ.1;have i:=Yw sB;have tU:=Yw sF;have z:Hid (A4.there I.1.size 0 (ei v4).size):=sJ;have yN:=Yw (Za c4 (Za b4 z4));clear sB sF sJ c4 b4 z4;go_upto_region 19 with(first
   |refine wpList_store_mid rfl 34 _ _ rfl I.1.size 0 (ei v4) rfl rfl (by rw[<-i.o];exact z.o) (by rw[A0,vZ.1];kernel_rfl) (all_oneCell_toArray vZ.2) ?_)
  rw[<-i.o,<-tU.o];clear i tU z;have yE:Hid (Zz N l):=zP.2.ag (yN.2.1.ai zP.2.size);have i:Hid (Zz C l):=J.ag (yE.ai J.size);obtain⟨z,f2⟩:=Hp (k:=eh u.C) O.2.1.ss O.2.1.C;have V:=Yw (Qy k (zP.1.X yN.2.1) ⟨z,by simp[CK],f2,by simp[CK],O.2.1.st,O.2.1.r⟩ (by simp[CK]) (B l i).2.2.1);rw[<-tF.o]at V;clear z f2;go_wp2_with (refine wpList_load_mid rfl 34 _ rfl I.1.size 0 rfl v4 _ (Aa.range yN.1) underlying34 rfl (by rw[vZ.1];kernel_rfl) ?_);refine V.Aj ?_;clear V;rintro e V ⟨z,S,U,T,P,L',Q,M,rs,Y,rfl,q,vM⟩;have tX:Hid ((u.J=z.J/\u.F=z.F/\u.G=z.G/\u.E=z.E)/\u.B=z.B/\u.ps=z.ps/\u.ls=z.ls):=by
   rcases Y with⟨h,_⟩|⟨_,c,h⟩
   .exact absurd ⟨r,G.gd⟩ h
   have e:Ap (CK u (Ap u.ss u.C (eh u.C))).ss (CK u (Ap u.ss u.C (eh u.C))).C k=Ap u.ss u.C (eh u.C):=(by have⟨_,_,yO,_⟩:=G.left (eh u.C);show Ap (Ap u.ss u.C (eh u.C)) [] k=_;simp[Ap]at yO |-;simp[yO]);rw[e]at h;exact G.all h
  obtain⟨xY,vC,rfl,Z⟩:=q.s.row;obtain⟨vH,vK,rfl,q2⟩:=q.u.row;obtain⟨yA,yC,zW,zY,s,zU,rfl,rfl,rfl,q3⟩:=q.st.rows;obtain⟨xS,xV,rfl,q4⟩:=q.q.row;obtain⟨xK,xN,rfl,q5⟩:=q.m.row;have yG:Hid (Bc V V.1.size ⟨xY,vC,vH,vK,yA,yC,zW,zY,s,zU,xS,xV,xK,xN⟩ z/\Zz l V):=⟨⟨Z,q2,q3,q4,q5⟩,vM⟩;clear q Z q2 q3 q4 q5 Y vM;have⟨v5,q⟩:=Ag (Fm z ⟨xY,vC,vH,vK,yA,yC,zW,zY,s,zU,xS,xV,xK,xN⟩);have tI:Hid (eh v5=17/\∀x∈v5,x.oneCell'=bg):=by rw[q];exact⟨rfl,by simp[Fm,Bd,oneCell']⟩
  rw[show Bd z (C2 xY z.ss vC) (C2 vH z.C vK) (C2 yA z.B yC) (C2 zW z.ps zY) (C2 s z.ls zU) (C2 xS z.H xV) (C2 xK z.ms xN)=v5 from q.symm];have tT:=Yw q;clear q;have⟨A5,q,sC,sG,sK,c5,b5,z5⟩:=fy V v5 tI.1;have Y:=Yw sC;have v:=Yw sG;have Z:Hid (A5.there V.1.size 0 (ei v5).size):=sK;have vS:=Yw (Za c5 (Za b5 z5))
  clear sC sG sK c5 b5 z5;go_upto_region 20 with(first
   |refine wpList_store_mid rfl 34 _ _ rfl V.1.size 0 (ei v5) rfl rfl (by rw[<-Y.o];exact Z.o) (by rw[A0,tI.1];kernel_rfl) (all_oneCell_toArray tI.2) ?_)
  rw[<-Y.o,<-v.o];clear Y v Z;have Z:Hid (∀X,Zz q X->Zz l X/\Zz N X/\Zz C X):=λX o=>by have tZ:=yG.2.ag (vS.2.1.ai yG.2.size);have h1:=tZ.ag (o.ai tZ.size);exact⟨h1,yE.ag (h1.ai yE.size),i.ag (h1.ai i.size)⟩
  have Y:Hid (∀X,Zz q X->Bc X X.1.size ⟨xX,vA,vG,vJ,zZ,yB,zV,zX,zS,zT,xR,xU,xJ,xM⟩ x/\Bc X X.1.size ⟨xY,vC,vH,vK,yA,yC,zW,zY,s,zU,xS,xV,xK,xN⟩ z/\Bc X X.1.size ⟨yT,yU,yK,yM,yV,yW,yR,yS,yP,yQ,zM,zN,W,zK⟩ (CK u (Ap u.ss u.C (eh u.C)))/\Zz C X):=λX o=>
   ⟨(yF.1.X vR.2.1).X (Z X o).2.1,(yG.1.X vS.2.1).X o,(zP.1.X yN.2.1).X (Z X o).1,(Z X o).2.2⟩
  have tR:Hid (eh u.B<=600/\eh u.ps<=100/\eh u.ls<=200/\∀k∈u.B,eh k.D<=30):=by have h:=G.dx;exact⟨h.bk.len,h.np,h.nl,h.cz⟩
  have tP:Hid (∀X,Zz q X->D8 11 #[ct (C8 x.J x.F x.G x.E zZ x.B yB zV x.ps zX zS x.ls zT),ct (C8 u.J u.F u.G u.E f.Q u.B f.W f.L u.ps f.P f.K u.ls f.O)] X λe D=>e=C5 (ef bg)/\Zz X D):=λX o=>by
   have⟨⟨e1,e2,e3,e4⟩,e5,e6,e7⟩:=tW.o;have h:=tR.o;refine(GP (eb ⟨rfl,rfl⟩) x.J x.F x.G x.E u.J u.F u.G u.E zZ zV zS f.Q f.L f.K yB zX zT f.W f.P f.O x.B u.B x.ps u.ps x.ls u.ls X (Y X o).1.st (B X (Y X o).2.2.2).2.1.st (by rw[<-e5,<-e6,<-e7];omega) Yv (λk H=>by have:=h.2.2.2 k (by rw[e5];exact H);omega) (λk H=>Dl (h.2.2.2 k H))).ai ?_;rintro e D hs;exact hs.is ⟨⟨e1.symm,e2.symm,e3.symm,e4.symm⟩,e5.symm,e6.symm,e7.symm⟩
  have tQ:Hid (∀X,Zz q X->D8 11 #[ct (C8 z.J z.F z.G z.E yA z.B yC zW z.ps zY s z.ls zU),ct (C8 u.J u.F u.G u.E f.Q u.B f.W f.L u.ps f.P f.K u.ls f.O)] X λe D=>e=C5 (ef bg)/\Zz X D):=λX o=>by
   have⟨⟨e1,e2,e3,e4⟩,e5,e6,e7⟩:=tX.o;have h:=tR.o;refine(GP (eb ⟨rfl,rfl⟩) z.J z.F z.G z.E u.J u.F u.G u.E yA zW s f.Q f.L f.K yC zY zU f.W f.P f.O z.B u.B z.ps u.ps z.ls u.ls X (Y X o).2.1.st (B X (Y X o).2.2.2).2.1.st (by rw[<-e5,<-e6,<-e7];omega) Yv (λk H=>by have:=h.2.2.2 k (by rw[e5];exact H);omega) (λk H=>Dl (h.2.2.2 k H))).ai ?_;rintro e D hs;exact hs.is ⟨⟨e1.symm,e2.symm,e3.symm,e4.symm⟩,e5.symm,e6.symm,e7.symm⟩
  have xB:Hid (∀X,Zz q X->D8 12 #[ct (Xy u.I zM (eh u.H) zN W (eh u.ms) zK u.N u.M u.ro),ct (Xy u.I f.Z (eh u.H) f.y f.g (eh u.ms) f.j u.N u.M u.ro)] X λe D=>e=C5 (ef bg)/\Zz X D):=λX o=>JE u.I u.N u.M u.ro f.Z f.g zN zK f.y f.j (Y X o).2.2.1.q (Y X o).2.2.1.m (B X (Y X o).2.2.2).2.1.q (B X (Y X o).2.2.2).2.1.m O.2.1.r;have v:Hid (∀X,Zz q X->(X.rangeAt R.1.size 4 (C7 x.J x.F x.G x.E zZ x.B yB zV x.ps zX zS x.ls zT)/\X.rangeAt V.1.size 4 (C7 z.J z.F z.G z.E yA z.B yC zW z.ps zY s z.ls zU)/\X.rangeAt I.1.size 11 (Xu u.I zM (eh u.H) zN W (eh u.ms) zK u.N u.M u.ro))/\(X.rangeAt g 4 (C7 u.J u.F u.G u.E f.Q u.B f.W f.L u.ps f.P f.K u.ls f.O)/\X.rangeAt g 11 (Xu u.I f.Z (eh u.H) f.y f.g (eh u.ms) f.j u.N u.M u.ro))/\ek X (Zd (I.1.size) 3)=an (C3 yK 0 yM)):=λX o=>by
   obtain⟨⟨k1,k2,k3⟩,h3,h4,h5⟩:=Z X o,vR.1,yN.1,vS.1;have hg:=(B X k3).1;rw[tS.o]at h3;rw[tF.o]at h4;rw[tT.o]at h5;rw[F.o]at hg;have sA:=Aa.A h4 k1;exact⟨⟨Aa.dq [Zg x.wd,Zg x.lim,C2 xX x.ss vA,C2 vG x.C vJ] (C7 x.J x.F x.G x.E zZ x.B yB zV x.ps zX zS x.ls zT) (Xu x.I xR (eh x.H) xU xJ (eh x.ms) xM x.N x.M x.ro) (Aa.A h3 k2),Aa.dq [Zg z.wd,Zg z.lim,C2 xY z.ss vC,C2 vH z.C vK] (C7 z.J z.F z.G z.E yA z.B yC zW z.ps zY s z.ls zU) (Xu z.I xS (eh z.H) xV xK (eh z.ms) xN z.N z.M z.ro) (Aa.A h5 o),Aa.dq [Zg (CK u (Ap u.ss u.C (eh u.C))).wd,Zg (CK u (Ap u.ss u.C (eh u.C))).lim,C2 yT (CK u (Ap u.ss u.C (eh u.C))).ss yU,C2 yK (CK u (Ap u.ss u.C (eh u.C))).C yM,Zg (CK u (Ap u.ss u.C (eh u.C))).J,Zg (CK u (Ap u.ss u.C (eh u.C))).F,Zg (CK u (Ap u.ss u.C (eh u.C))).G,Zg (CK u (Ap u.ss u.C (eh u.C))).E,C2 yV (CK u (Ap u.ss u.C (eh u.C))).B yW,C2 yR (CK u (Ap u.ss u.C (eh u.C))).ps yS,C2 yP (CK u (Ap u.ss u.C (eh u.C))).ls yQ] (Xu u.I zM (eh u.H) zN W (eh u.ms) zK u.N u.M u.ro) [] sA⟩,⟨Aa.dq [Zg u.wd,Zg u.lim,C2 f.Y u.ss f.sc,C2 f.V u.C f.T] (C7 u.J u.F u.G u.E f.Q u.B f.W f.L u.ps f.P f.K u.ls f.O) (Xu u.I f.Z (eh u.H) f.y f.g (eh u.ms) f.j u.N u.M u.ro) hg,Aa.dq [Zg u.wd,Zg u.lim,C2 f.Y u.ss f.sc,C2 f.V u.C f.T,Zg u.J,Zg u.F,Zg u.G,Zg u.E,C2 f.Q u.B f.W,C2 f.L u.ps f.P,C2 f.K u.ls f.O] (Xu u.I f.Z (eh u.H) f.y f.g (eh u.ms) f.j u.N u.M u.ro) [] hg⟩,(sA 3 _ rfl).1⟩
  have yZ:Hid (∀X,Zz q X->Zz w X):=λX o=>(B X (Z X o).2.2).2.2.2;clear vR yN vS tS tF tT yF zP yG vL yE J i tW tX Y B F O G Z;go_wp2_with (first
   |refine wpList_load_mid rfl 30 _ rfl R.1.size 4 rfl (C7 x.J x.F x.G x.E zZ x.B yB zV x.ps zX zS x.ls zT) _ (v q Ae).1.1 underlying30 rfl Yr ?_
   |refine wpList_load_mid rfl 30 _ rfl g 4 rfl (C7 u.J u.F u.G u.E f.Q u.B f.W f.L u.ps f.P f.K u.ls f.O) _ (v q Ae).2.1.1 underlying30 rfl Yr ?_)
  refine Calls.mono (tP q Ae) ?_;rintro e G ⟨rfl,B⟩;go_wp2_with (first
   |refine Ca Yp 30 _ rfl V.1.size 4 rfl (C7 z.J z.F z.G z.E yA z.B yC zW z.ps zY s z.ls zU) _ (v G B).1.2.1 underlying30 rfl Yr ?_
   |refine Ca Yp 30 _ rfl g 4 rfl (C7 u.J u.F u.G u.E f.Q u.B f.W f.L u.ps f.P f.K u.ls f.O) _ (v G B).2.1.1 underlying30 rfl Yr ?_)
  refine Calls.mono (tQ G B) ?_;rintro e F ⟨rfl,J⟩;have o:=B.ag (J.ai B.size);have i:=(v F o).2.2;go_wp2_with (first
   |refine Ca Yp 32 _ rfl I.1.size 11 rfl (Xu u.I zM (eh u.H) zN W (eh u.ms) zK u.N u.M u.ro) _ (v F o).1.2.2 underlying32 rfl Yr ?_
   |refine Ca Yp 32 _ rfl g 11 rfl (Xu u.I f.Z (eh u.H) f.y f.g (eh u.ms) f.j u.N u.M u.ro) _ (v F o).2.1.2 underlying32 rfl Yr ?_)
  refine Calls.mono (xB F o) ?_;rintro e Y ⟨rfl,O⟩;have Z:Hid (Zz w Y):=yZ Y (o.ag (O.ai o.size));clear tP tQ xB v yZ;go_wp2;go_ret;exact⟨rfl,Z⟩
