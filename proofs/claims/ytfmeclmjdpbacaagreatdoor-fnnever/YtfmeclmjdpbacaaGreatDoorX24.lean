import Derived.Test.YtfmeclmjdpbacaaGreatDoorX20
import Derived.Test.YtfmeclmjdpbacaaGreatDoorX21
import Derived.Test.YtfmeclmjdpbacaaGreatDoorX11
import Derived.Test.YtfmeclmjdpbacaaGreatDoorX22
set_option maxRecDepth 100000
set_option maxHeartbeats 16000000
open Option renaming some->ai
open Bool renaming true->ay
open Go.RowKit renaming Below->bg
open Go.Obj renaming cells->bs
open Go.Value renaming agg->ca,ownBlock->ef
open Or renaming inr->ct
open List renaming length->ed,toArray->ee
open Go.World renaming ownsRow->ej,setCell->el
namespace Go.Proofs.YtfmeclmjdpbacaaGreatDoor
open ChangeShapes WideShapes ChangeAt RowKit _root_.Go.Proofs.Tryz List World Value
variable{w X Y:Zh}{a size n b q:Nat}{e:TypeId}{v S U T P L Q M:Value}{d c:Zl}{u:Vd}{i:Zj}{V:List Nat}
theorem QJ{b:Zj}(h:ej w a e size v n b):Aj v=ef v:=by rcases h.2 with⟨rfl,_⟩|⟨g,c,d,rfl,_⟩<;>rfl
theorem OG{x y:Dg}(h:(Ah X (w.1.size+3) x d/\Ah X (w.1.size+3) y c/\∀g,Aj x=ai g->Aj y≠ai g)/\Zz w X)(t:Tn [b] X Y)(e:w.1.size<=b)(j:b<w.1.size+3):
 Ah Y w.1.size x d/\Ah Y w.1.size y c/\(∀g,Aj x=ai g->Aj y≠ai g)/\Zz w Y:=by
 have a:∀{v ss},Ah X (w.1.size+3) v ss->∀g,Aj v=ai g->g∉[b]:=λi g f=>by have:=(i.S f).1;simp;omega
 exact⟨(h.1.1.O t (a h.1.1)).ah Yv,(h.1.2.1.O t (a h.1.2.1)).ah Yv,h.1.2.2,h.2.ag (t.A h.2.size (C9 e))⟩
theorem Abx(wd:Int)(m:Nat)(E:C5)(s:Zi)(i A t J:Int){qa ma:Zk}(ac bc:Nat){a:Zl}(S:YT w wd m E s)(hq:Ad w w.1.size qa a)(hm:Ad w w.1.size ma c)(hf:GM a c):
 D4 140 #[ca #[Zg wd,.map (ai m)],ca (Yb i qa (ed a) ac ma (ed c) bc A t J),C0 s] w λe w'=>∃x q y n,e=C1 (ca (Yb i x (ed (shQ i E a c s)) q y (ed c) n A t J))/\
  Ah w' w.1.size (Cx x (ed (shQ i E a c s)) q) (shQ i E a c s)/\Ah w' w.1.size (Cx y (ed c) n) c/\(∀g,Aj (Cx x (ed (shQ i E a c s)) q)=ai g->Aj (Cx y (ed c) n)≠ai g)/\Zz w w':=by
 obtain⟨⟨i0,hi,zS,zT,zU⟩,yC,zO,W,Q⟩:=info_parts CQ,hf.q,hf.m,Ag (((w.alloc (bs #[Zg wd,.map (ai m)] 121)).alloc (bs (Yb i qa (ed a) ac ma (ed c) bc A t J) 32)).alloc (bs Xv 32));have P:bg w.1.size w W:=(Bq Q).1;have yG:W.1.size=w.1.size+3:=(Bq Q).2.1;have p:Hid (∀X,Zz W X->Aa X w.1.size [Zg wd,.map (ai m)]/\Aa X (w.1.size+1) (Xu i qa (ed a) ac ma (ed c) bc A t J)/\Aa X (w.1.size+1+1) Xt):=λX I=>⟨Aa.A (Bq Q).2.2.1 I,Aa.A (Bq Q).2.2.2.1 I,Aa.A (Bq Q).2.2.2.2 I⟩;obtain⟨HW,L,B⟩:=Yw Q,Yw (Zn hq hm),Yw S;clear Q hq hm S;delta D4;go_in;go_wp2_with fail;rw[<-HW.o];refine(Kb i A t J ac bc (Ad.U L.1 P) (Ad.U L.2 P) hf).ah ?_;rintro e w2 ⟨x,q,y,n,mm,rfl,ox,zI,oy,yD,O⟩;obtain⟨zE,yA,V,hV⟩:=P.ag (O.ah P.size),O.size,Du w2 (Yb i x (ed a) q y (ed c) n A t J) 32;have zC:=(Av hV).1;have yF:=(Av hV).2.1;have C:Hid (∀X,Zz V X->Aa X w2.1.size (Xu i x (ed a) q y (ed c) n A t J)):=λX I=>Aa.A (Av hV).2.2 I;have l:Hid (∀X,Zz V X->(ej X (w.1.size+3) 9 1 (Cw x a q) (ed a) (a.map string)/\Ah X (w.1.size+3) (Cw y c n) c/\(∀g,Aj (Cw x a q)=ai g->g<w2.1.size/\Aj (Cw y c n)≠ai g)/\∀g,Aj (Cw y c n)=ai g->g<w2.1.size)/\Zz w X/\Zz W X):=λX I=>by
  have Z:=zC.ag (I.ah zC.size);have zJ:=Ah.own oy;exact⟨⟨(DF ox Z).ah Yv,(zJ.A Z).ah Yv,λg D=>⟨by have:=zI g D;have:=(Ah.own ox).S D;omega,λh=>by have:=zI g D;have:=(zJ.S h).1;omega⟩,λg D=>(zJ.S D).2⟩,zE.ag (Z.ah zE.size),O.ag (Z.ah O.size)⟩
 go_upto_region 2 with fail;rw[<-hV];clear hV zC ox oy O HW zE zI;generalize w2.1.size=b7 at *
 have r:Hid (∀X,Zz V X->(Ah X (w.1.size+3) (Cw x a q) a/\Ah X (w.1.size+3) (Cw y c n) c/\∀g,Aj (Cw x a q)=ai g->Aj (Cw y c n)≠ai g)/\Zz w X):=λX I=>by have h:=l X I;exact⟨⟨Ah.own h.1.1,h.1.2.1,λg D=>(h.1.2.2.1 g D).2⟩,h.2.1⟩
 have f:=Below.refl V.1.size V;obtain⟨⟨⟨q0,_⟩,q1,_⟩,a0,a1⟩:=Zn ((p V (l V f).2.2).1 0 _ rfl) ((p V (l V f).2.2).1 1 _ rfl),Zn ((p V (l V f).2.2).2.1 0 _ rfl).1 ((p V (l V f).2.2).2.1 1 _ rfl).1;have HV:Hid (Zz V V):=f;by_cases p0:i=0
 case' pos=>
  have zV:(i==0)=ay:=C9 p0;have HN:Hid (shQ i E a c s=a):=FE (.inl p0);obtain⟨G,H,T⟩:=Yw (p V (l V f).2.2),Yw (C V f),Yw (r V f);clear p0 B f p C l r L q0 q1
 case' neg=>
  have zV:(i==0)=false:=C9 p0;by_cases p1:ed a=23200
  case' pos=>
   have HN:Hid (shQ i E a c s=a):=FE (ct (ct (ct p1)));have zW:((ed a:Int)==23200)=ay:=Yt;obtain⟨G,H,T⟩:=Yw (p V (l V f).2.2),Yw (C V f),Yw (r V f);clear p1 p0 B f p C l r L q0 q1
  case' neg=>
   have zW:((ed a:Int)==23200)=false:=beq_eq_false_iff_ne.2 Yv;have⟨ok,zB,F⟩:=B.o;have HC:=Yw (F V (l V f).2.1);clear F B f;go_wp2_with fail;refine HC.Ak ?_;rintro e d ⟨rfl,z⟩;have o:=Yw (l d z);have zG:=Ad.U (w:=w) L.2 o.2.1;clear HC a0 a1 HV q0 q1;cases ok
   case' false=>
    have HN:Hid (shQ i E a c s=a):=FE (ct (.inl (λhh=>by have:=zB.2 hh;cases this)));obtain⟨G,H,T⟩:=Yw (p d o.2.2),Yw (C d z),Yw (r d z);clear zB zG p0 p1 z o p C l r L
   case' true=>
    have zH:=zB.1 rfl;clear zB;obtain⟨HC,a0,a1⟩:=Yw (Qv bc s zG zO),Zn ((p d o.2.2).2.1 2 _ rfl).1 ((p d o.2.2).2.1 0 _ rfl).1;clear zG;go_wp2_with fail;refine HC.Ak ?_;rintro e w9 ⟨rfl,zM⟩;rw[zM];clear zM HC;by_cases hin:s∈c
    case' pos=>
     have HN:Hid (shQ i E a c s=a):=FE (ct (ct (.inl hin)));rw[@decide_eq_true _ (Classical.propDecidable _) hin];obtain⟨G,H,T⟩:=Yw (p d o.2.2),Yw (C d z),Yw (r d z);clear zH hin p0 p1 z o p C l r L a0 a1
    case neg=>
     have HN:Hid (shQ i E a c s=a++[s]):=Nx p0 zH hin p1;rw[@decide_eq_false _ (Classical.propDecidable _) hin];have G:=Yw (p d o.2.2);have H:=Yw (C d z);obtain⟨⟨⟨c0,_⟩,c1,f1⟩,yE,Y⟩:=Zn (H 0 _ rfl) (H 1 _ rfl),z.size,o.1.1;have zN:b7<d.1.size:=Yv
     clear zH hin L P a0 a1 p0 p1 r l p C;go_wp2_with (first
      |(at_builtin;refine wpList_append_lies _ rfl _ _ 23 rfl (w.1.size+3) 9 i0 Zc 1 16 underlying23 hi zS zT zU rfl Yq _ (ed a) (a.map string) rfl ?d0 ⟨d.1.size,0,none⟩ 1 1 [C0 s] rfl rfl ?d1 ?d2 Yq ?d3 ?d4 ?d5 _ rfl ?_)
      |go_in)
     case d0=>exact Y.alloc _
     case d1=>exact cell_one_new d (C0 s) 9
     case d2=>intro u hu;simp at hu;subst hu;rfl
     case d3=>unfold maxLen;omega
     case d4=>omega
     case d5=>simp;omega
     intro k N M zK zA R zZ;have K:∀g,ef (Cw x a q)=ai g->w.1.size+3<=g/\g<b7/\Aj (Cw y c n)≠ai g:=λg D=>⟨(Ab Y D).1,o.1.2.2.1 g ((QJ Y).ag D)⟩;have U:bg d.1.size d (d.alloc (bs #[C0 s] 9)):=Zy;have zF:bg w.1.size w M:=(o.2.1.ag (U.ah o.2.1.size)).grown zA (by have:=o.2.1.size;simp;omega) (λj hj=>C8 (K j hj));have tG:∀b,b<d.1.size->ef (Cw x a q)≠ai b->M.1[b]?=d.1[b]?:=λb hb h=>(zA.block b Yt (λe=>h e.symm)).ag (U.block b hb);have zP:w.1.size+1+1<d.1.size:=C8 G.2.2.lt;obtain⟨⟨c0,_⟩,⟨c1,f1⟩,⟨c2,_⟩,⟨c3,_⟩,⟨c4,_⟩,c5,_⟩:=c6 (Aa.same H (tG b7 zN (λe=>C8 (K _ e))));obtain⟨⟨d0,g0⟩,⟨d1,g1⟩,⟨d2,g2⟩,⟨d3,g3⟩,⟨d4,g4⟩,d5,g5⟩:=c6 (Aa.same G.2.2 (tG _ zP (λe=>C8 (K _ e))));have zY:w.1.size+3<=b7:=Yv;have hk:k≠b7/\Aj (Cw y c n)≠ai k:=by
      rcases R with h|h
      .have:=K k h;exact⟨Yv,this.2.2⟩
      .exact⟨Yv,λe=>C8 (o.1.2.2.2 k e)⟩
     have yB:¬b7=w.1.size+1+1:=Yv;have zX:¬w.1.size+1+1=b7:=Yv;have T:Hid (∀v,(Ah (el M (Zd b7 1) v) (w.1.size+3) (Yz k (ed a+1) N) (a++[s])/\Ah (el M (Zd b7 1) v) (w.1.size+3) (Cw y c n) c/\∀g,Aj (Yz k (ed a+1) N)=ai g->Aj (Cw y c n)≠ai g)/\Zz w (el M (Zd b7 1) v)):=λv=>by
      have t7:=Bi M b7 1 v;have ok:=Ah.own (w:=M) (base:=w.1.size+3) (v:=Yz k (ed a+1) N) (ss:=a++[s]) (C9 zK);have oy:=o.1.2.1.stays (w':=M) (Zm U.size zA.size) (λg e=>tG g (o.1.2.1.S e).2 (λh=>(K g h).2.2 e));exact⟨⟨ok.O t7 (λg e=>by cases e;simp;exact hk.1),oy.O t7 (λg e=>by have:=o.1.2.2.2 g e;simp;omega),λg e=>by cases e;exact hk.2⟩,zF.ag (t7.A zF.size Yt)⟩
     clear zK zA zF U o H G Y tG K hk R;go_wp2;refine Co (ca (Yb i (ai ⟨k,0,none⟩) (ed a+1) N y (ed c) n A t J)) (by simp[results,results140,go_sem,d0,d1,d2,d3,d4,d5]) ?_;rw[HN.o];refine⟨ai ⟨k,0,none⟩,N,y,n,Yu,?_⟩;rw[show ed (a++[s])=ed a+1 by simp];exact OG (T _) ((((((Bi _ _ _ _).ag (Bi _ _ _ _)).ag (Bi _ _ _ _)).ag (Bi _ _ _ _)).ag (Bi _ _ _ _)).ag (Bi _ _ _ _)) Yv Yv
 all_goals
  obtain⟨⟨c0,_⟩,⟨c1,_⟩,⟨c2,_⟩,⟨c3,_⟩,⟨c4,_⟩,c5,_⟩:=c6 H;obtain⟨⟨d0,g0⟩,⟨d1,g1⟩,⟨d2,g2⟩,⟨d3,g3⟩,⟨d4,g4⟩,d5,g5⟩:=c6 G.2.2;obtain⟨⟨b0,_⟩,⟨b1,_⟩,_⟩:=c6 G.2.1;go_wp2;refine Co (ca (Yb i x (ed a) q y (ed c) n A t J)) (by simp[results,results140,go_sem,d0,d1,d2,d3,d4,d5]) ?_;rw[HN.o];exact⟨x,q,y,n,rfl,OG T ((((((Bi _ _ _ _).ag (Bi _ _ _ _)).ag (Bi _ _ _ _)).ag (Bi _ _ _ _)).ag (Bi _ _ _ _)).ag (Bi _ _ _ _)) Yv Yv⟩
theorem MU(n l k o:Int){a b:Zk}(u z:Nat)(r:Ad w w.1.size a d)(q:Ad w w.1.size b c)(J:GM d c):
 D4 97 #[ca (Yb n a (ed d) u b (ed c) z l k o)] w λe f=>∃x i y j,e=C1 (ca (Yb n x (ed d) i y (ed c) j l k o))/\
  ej f w.1.size 9 1 (Cx x (ed d) i) (ed d) (d.map string)/\ej f w.1.size 9 1 (Cx y (ed c) j) (ed c) (c.map string)/\(∀g,ef (Cx x (ed d) i)=ai g->ef (Cx y (ed c) j)≠ai g)/\Zz w f:=by
 have⟨W,f⟩:=Ag ((w.alloc (bs (Yb n a (ed d) u b (ed c) z l k o) 32)).alloc (bs Xv 32));have h:=(AT f).1;have s:=(AT f).2.2.1;have t:Aa W (w.1.size+1) Xt:=by have A:=Aa.new (w.alloc (bs (Yb n a (ed d) u b (ed c) z l k o) 32)) Xt 32;rw[Aq]at A;rw[f];exact A
 have N:=(AT f).2.1;have m:=Yw f;have p:Hid (Aa W _ _):=(AT f).2.2.1;have B:Hid (Aa W (w.1.size+1) Xt):=t;have I:Hid (Ad w w.1.size a d):=r;have H:Hid (Ad w w.1.size b c):=q;obtain⟨L,M⟩:=Aa.c2 s 1 2;clear f t s r q;delta D4;go_in;go_upto_region 1 with fail;rw[<-m.o];clear m;go_region_with (first
  |(go_at_call 93;refine(DH u (Ad.U (w:=w) I h.drew) J.q).ah ?_;rintro e K ⟨x,i,rfl,r,C⟩;have f:bg W.1.size W K:=(Below.refl W.1.size W).drew.ag C;obtain⟨b2,_⟩:=Aa.A p f 2 _ rfl)
  |(go_at_call 93;refine(DH z (Ad.U (w:=w) H (h.ag (f.ah h.size))) J.m).ah ?_;rintro e G ⟨y,j,rfl,s,q⟩;have m:bg W.1.size W G:=f.ag (q.ah f.size);obtain⟨⟨c0,d0⟩,⟨c1,d1⟩,⟨c2,d2⟩,⟨c3,d3⟩,⟨c4,d4⟩,c5,d5⟩:=c6 (Aa.A p m);obtain⟨⟨k0,g0⟩,⟨k1,g1⟩,⟨k2,g2⟩,⟨k3,g3⟩,⟨k4,g4⟩,k5,g5⟩:=c6 (Aa.A (v:=Ze) B m)))
 all_goals
  have D:ej G (w.1.size+2) 9 1 (Cw x d i) (ed d) (d.map string):=(DF r q).ah Yt;have E:ej G (w.1.size+2) 9 1 (Cw y c j) (ed c) (c.map string):=s.ah (C8 f.size);have F:∀g,ef (Cw x d i)=ai g->ef (Cw y c j)≠ai g:=λg A t=>by have O:=(Ab r A).2;have P:=(Ab s t).1;omega
  have t:=Yw (Zn D (Zn E (Zn F (h.ag (m.ah h.size)))));clear D E r s C q f m p B I H L M h F;go_wp2;refine Co (ca (Yb n x (ed d) i y (ed c) j l k o)) (by simp[results,results97,go_sem,k0,k1,k2,k3,k4,k5]) ⟨x,i,y,j,rfl,?_,?_,t.2.2.1,?_⟩
  .refine ownsRow.ah ?_ (show w.1.size<=w.1.size+2 by omega)
   iterate 8 (refine ownsRow_setCell_below ?_ Ym _)
   exact t.1
  .refine ownsRow.ah ?_ (show w.1.size<=w.1.size+2 by omega)
   iterate 8 (refine ownsRow_setCell_below ?_ Ym _)
   exact t.2.1
  iterate 8 (refine Below.setCell ?_ Yu _)
  exact t.2.2.2
theorem IW{v:Vd}{a:Va}{r:Rs}(A:Bg w w.1.size a v)(h:DM v)(b:Bo v r):
 D4 64 #[ca (Xr v a)] w λe c=>∃(S U T P L Q M:Dg) (Z:Zj),e=C1 (ca #[Zg v.wd,Zg v.J,S,U,Zg v.P,Zg v.G,Zg v.H,Zg v.E,T,P,L,Zg v.I,Q,M,Zg v.L,Zg v.K,Zg v.ro])/\Ay c w.1.size S U T P L Q M Z v/\Zz w c:=by
 have⟨W,f⟩:=Ag ((w.alloc (bs (Xr v a) 34)).alloc (bs Xp 34));have l:=(AT f).1;have zW:=(AT f).2.1;have z:Hid (Aa W _ _):=(AT f).2.2.1;have H:Hid (Aa W (w.1.size+1) Xo):=by have n:=Aa.new (w.alloc (bs (Xr v a) 34)) Xo 34;rw[Aq]at n;show Aa W (w.1.size+1) Xo;rw[f];exact n
 have HR:Hid (∀X,Zz w X->Bg X X.1.size a v):=λX c=>A.U c;have i:=b.run.ok (Fq b.wd.1 b.wd.2);have c:Hid (v.wd=v.P/\r.B=v.B/\r.ps=v.ps/\r.ls=v.ls):=⟨b.same.1.1,b.same.2⟩;have k:Hid (Gk v.P r.G r.H r.E v.B v.ps v.ls):=by have n:Gk v.wd r.G r.H r.E r.B r.ps r.ls:=i;rw[c.1,c.2.1,c.2.2.1,c.2.2.2]at n;exact n
 have j:=Yw f;have D:Hid (Zz w W):=l;have f1:=h.s;have N:=h.t;have zZ:Hid (GM v.F v.ms):=h.r;obtain⟨I,J⟩:=Aa.c2 z 2 3;clear f A l h b i c;delta D4;go_in;go_upto_region 1 with fail;rw[<-j.o];clear j;go_wp2_with fail;refine(GO a.sc a.d (HR W D).s (HR W D).t f1 N).ah ?_;rintro e w1 ⟨x,f,y,h,rfl,E,j,B,b⟩;have z1:=b.size;clear I J;have⟨l,A⟩:=Ag (el (el w1 (Zd (w.1.size) 2) (Cw x v.ss f)) (Zd (w.1.size) 3) (Cw y v.D h));have F:Tn [w.1.size] w1 l:=by rw[A];exact(Tn.set _ _ _ _ Yu).ag (Tn.set _ _ _ _ Yu)
 have yD:l.1.size=w1.1.size:=by rw[A];simp
 have K:Hid (Aa l (w.1.size+1) Xo):=Aa.same (Aa.A (v:=Ze) H b) (F.block _ Yv Ym);have c:Hid (Aa l w.1.size (Xk v x f y h a.W a.j a.Z a.g a.X a.e a.qa a.qc a.i a.mc)):=by have n:Aa w1 w.1.size (Xq v a):=Aa.A z b;show Aa l w.1.size (Xk v x f y h a.W a.j a.Z a.g a.X a.e a.qa a.qc a.i a.mc);rw[A];exact((n.set 2 _).set 3 _)
 have C:Hid (Zz w l):=gD;have R:Hid (ej l W.1.size 9 1 (Cw x v.ss f) (ed v.ss) (v.ss.map string)):=DJ E F Yt;have V:Hid (ej l W.1.size 9 1 (Cw y v.D h) (ed v.D) (v.D.map string)):=DJ j F Yt;obtain⟨zS,⟨I,N⟩,⟨J,Y⟩,G⟩:=Yw B,(Aa.A z b) 2 _ rfl,(Aa.A z b) 3 _ rfl,Yw A;have zP:Hid ((∀g,ef (Cw x v.ss f)=ai g->g<w1.1.size)/\(∀g,ef (Cw y v.D h)=ai g->g<w1.1.size)):=⟨λg i=>(Ab E i).2,λg i=>(Ab j i).2⟩;clear A E j B D;go_upto_region 2 with fail;rw[<-G.o];clear G I N J Y b F z H;obtain⟨⟨e4,f4⟩,⟨e5,f5⟩,⟨e6,f6⟩,e7,f7⟩:=(c.o) 4 _ rfl,(c.o) 5 _ rfl,(c.o) 6 _ rfl,(c.o) 7 _ rfl;obtain⟨⟨e8,f8⟩,⟨e9,f9⟩,F,G⟩:=(c.o) 8 _ rfl,(c.o) 9 _ rfl,(c.o) 10 _ rfl;have z:=Yw (Ko v.P v.G v.H v.E a.W a.Z a.X a.j a.g a.e v.B v.ps v.ls l (HR l C).st k.bn.len k.np k.nl k.bn.sz k.bn.w8);go_wp2_with fail;refine z.Ak ?_;rintro e w2 ⟨d,m,O,P,L,rfl,j,_,_,b⟩;have Y:=Yw (GH j k.bn.nd k.bn.sz k.bn.len k.np k.nl k.dz);have z2:=b.size;have E:Hid (Zz l w2):=b;clear e4 f4 e5 f5 e6 f6 e7 f7 e8 f8 e9 f9 F G z j b;go_wp2_with fail;refine Y.Ak ?_;rintro e H ⟨T,P',L',Z,rfl,A,J⟩;obtain⟨t,u,q,s,o,p,rfl,rfl,rfl,_⟩:=A.rows;have z3:=J.size;have b:bg l.1.size l H:=E.ag (J.ah E.size);obtain⟨B,z⟩:=Ag (el (el (el (el (el (el (el H (Zd (w.1.size) 4) (Zg v.P)) (Zd (w.1.size) 5) (Zg v.G)) (Zd (w.1.size) 6) (Zg v.H)) (Zd (w.1.size) 7) (Zg v.E)) (Zd (w.1.size) 8) (Cw t v.B u)) (Zd (w.1.size) 9) (Cw q v.ps s)) (Zd (w.1.size) 10) (Cw o v.ls p));have D:Tn [w.1.size] H B:=by
  rw[z];exact((((((Tn.set _ _ _ _ Yu).ag (Tn.set _ _ _ _ Yu)).ag (Tn.set _ _ _ _ Yu)).ag (Tn.set _ _ _ _ Yu)).ag (Tn.set _ _ _ _ Yu)).ag (Tn.set _ _ _ _ Yu)).ag (Tn.set _ _ _ _ Yu)
 have yE:B.1.size=H.1.size:=by rw[z];simp
 have zY:Hid (Aa B (w.1.size+1) Xo):=Aa.same (Aa.A (v:=Ze) K b) (D.block _ Yv Ym);have j:Hid (Aa B w.1.size (Xk v x f y h t u q s o p a.qa a.qc a.i a.mc)):=by have n:Aa H w.1.size (Xk v x f y h a.W a.j a.Z a.g a.X a.e a.qa a.qc a.i a.mc):=Aa.A c b;show Aa B w.1.size (Xk v x f y h t u q s o p a.qa a.qc a.i a.mc);rw[z];exact(((((((n.set 4 _).set 5 _).set 6 _).set 7 _).set 8 _).set 9 _).set 10 _)
 have I:Hid (Zz w B):=gD;replace R:Hid (ej B W.1.size 9 1 (Cw x v.ss f) (ed v.ss) (v.ss.map string)):=DJ (Ai R b) D Yt;replace V:Hid (ej B W.1.size 9 1 (Cw y v.D h) (ed v.D) (v.D.map string)):=DJ (Ai V b) D Yt;have N:Hid ((∀g,ef (Cw x v.ss f)=ai g->g<w2.1.size)/\(∀g,ef (Cw y v.D h)=ai g->g<w2.1.size)/\∀g∈BJ (Cw t v.B u) (Cw q v.ps s) (Cw o v.ls p) Z,g<H.1.size):=⟨λg i=>C8 (zP.1 g i),λg i=>C8 (zP.2 g i),A.dj⟩;have zT:Hid (Bc B w2.1.size (Cw t v.B u) (Cw q v.ps s) (Cw o v.ls p) Z v.B v.ps v.ls):=A.O D Yt;obtain⟨⟨e4,f4⟩,⟨e5,f5⟩,⟨e6,f6⟩,⟨e7,f7⟩,⟨e8,f8⟩,⟨e9,f9⟩,F,G⟩:=(Aa.A c b) 4 _ rfl,(Aa.A c b) 5 _ rfl,(Aa.A c b) 6 _ rfl,(Aa.A c b) 7 _ rfl,(Aa.A c b) 8 _ rfl,(Aa.A c b) 9 _ rfl,(Aa.A c b) 10 _ rfl;have zU:=Yw z;clear z A Y E;go_upto_region 3 with fail;rw[<-zU.o];clear zU e4 f4 e5 f5 e6 f6 e7 f7 e8 f8 e9 f9 F G J b D c K C;obtain⟨⟨zA,zH⟩,⟨zB,zI⟩,⟨zC,zJ⟩,⟨zE,zK⟩,⟨zF,zM⟩,zG,zN⟩:=(j.o) 11 _ rfl,(j.o) 12 _ rfl,(j.o) 13 _ rfl,(j.o) 14 _ rfl,(j.o) 15 _ rfl,(j.o) 16 _ rfl;go_wp2_with fail;refine(MU v.I v.L v.K v.ro a.qc a.mc (HR B I).q (HR B I).m zZ).ah ?_;rintro e w4 ⟨D,z,C,c,rfl,zV,K,J,b⟩;clear zA zH zB zI zC zJ zE zK zF zM zG zN;have A:=b.size;have⟨E,A⟩:=Ag (el (el (el (el (el (el w4 (Zd (w.1.size) 11) (Zg v.I)) (Zd (w.1.size) 12) (Cw D v.F z)) (Zd (w.1.size) 13) (Cw C v.ms c)) (Zd (w.1.size) 14) (Zg v.L)) (Zd (w.1.size) 15) (Zg v.K)) (Zd (w.1.size) 16) (Zg v.ro));have F:Tn [w.1.size] w4 E:=by rw[A];exact(((((Tn.set _ _ _ _ Yu).ag (Tn.set _ _ _ _ Yu)).ag (Tn.set _ _ _ _ Yu)).ag (Tn.set _ _ _ _ Yu)).ag (Tn.set _ _ _ _ Yu)).ag (Tn.set _ _ _ _ Yu)
 have yF:E.1.size=w4.1.size:=by rw[A];simp
 have zO:Hid (Aa E (w.1.size+1) Xo):=Aa.same (Aa.A (v:=Ze) zY b) (F.block _ Yv Ym);have zX:Hid (Aa E w.1.size (Xk v x f y h t u q s o p D z C c)):=by have n:Aa w4 w.1.size (Xk v x f y h t u q s o p a.qa a.qc a.i a.mc):=Aa.A j b;show Aa E w.1.size (Xk v x f y h t u q s o p D z C c);rw[A];exact((((((n.set 11 _).set 12 _).set 13 _).set 14 _).set 15 _).set 16 _)
 have⟨W5,Y⟩:=Ag (E.setCells (w.1.size+1) 0 (Xk v x f y h t u q s o p D z C c));have G:Tn [w.1.size+1] E W5:=by rw[Y];exact Ap _ _ _ _
 have x5:Aa W5 (w.1.size+1) (Xk v x f y h t u q s o p D z C c):=by rw[Y];exact zO.ax _ rfl
 have yC:=G.size;have q1:=DJ (DJ (Ai R b) F Yt) G Yt;have q2:=DJ (DJ (Ai V b) F Yt) G Yt;have q3:=((zT.A b).O F Yt).O G Yt;have q4:=DJ (DJ zV F Yt) G Yt;have q5:=DJ (DJ K F Yt) G Yt;have X:Hid (Zz w W5):=gD;have HV:Hid (Ay W5 w.1.size (Cw x v.ss f) (Cw y v.D h) (Cw t v.B u) (Cw q v.ps s) (Cw o v.ls p) (Cw D v.F z) (Cw C v.ms c) Z v):=
  Ay.of (n1:=w2.1.size) (n2:=H.1.size) (Ah.own (q1.ah Yv)) (Ah.own (q2.ah Yv)) (λg n=>zS g n) (λg i=>by rcases i with i|i;exact N.1 g i;exact N.2.1 g i) q3 Yv N.2.2 (Ah.own (q4.ah Yv)) (Ah.own (q5.ah Yv)) (λg i=>by rcases i with i|i;(have:=(Ab q4 i).1;omega);(have:=(Ab q5 i).1;omega)) z3 (λg n=>J g n)
 obtain⟨⟨zA,zH⟩,⟨zB,zI⟩,⟨zC,zJ⟩,⟨zE,zK⟩,⟨zF,zM⟩,⟨zG,zN⟩,g,yA,yB⟩:=(Aa.A j b) 11 _ rfl,(Aa.A j b) 12 _ rfl,(Aa.A j b) 13 _ rfl,(Aa.A j b) 14 _ rfl,(Aa.A j b) 15 _ rfl,(Aa.A j b) 16 _ rfl,Yw A,Yw Y,Yw x5;clear A Y zV K J q1 q2 q3 q4 q5 x5 F G R V zT zS N;go_upto_region 4 with fail;rw[<-g.o];clear g zA zH zB zI zC zJ zE zK zF zM zG zN;have F:((Xj v x f y h t u q s o p D z C c):Array Value).all (·.oneCell')=ay:=Ef
 have A:E.there (w.1.size+1) 0 17:=zO.there;have G:=Yw (Zn F A);clear F A;go_wp2_with (first
  |refine wpList_load_mid rfl 34 _ rfl w.1.size 0 rfl (Xk v x f y h t u q s o p D z C c) _ zX.range underlying34 rfl Yr ?_
  |refine wpList_store_mid rfl 34 _ _ rfl (w.1.size+1) 0 (Xj v x f y h t u q s o p D z C c) rfl rfl G.2 Yr G.1 ?_)
 rw[<-yA.o];refine bodyPost_ret (AM results64 _ _ (w.1.size+1) (Xk v x f y h t u q s o p D z C c) _ rfl (Aa.range yB) underlying34 rfl Yr) rfl ?_;exact⟨_,_,_,_,_,_,_,Z,rfl,HV,X⟩
def OH(v:Vd)(l:Zl):Vd:={v with ss:=l,D:=[]}
theorem Ay.gh{c:Nat}{u:Dg}{f:Zj}{v:Vd}{l:Zl}(h:Ay X c S U T P L Q M f v)(i:∀g∈DC S U T P L Q M f,g<n)(j:Ah X n u l)(o:c<=n):Ay X c u Zb T P L Q M f (OH v l):=by
 refine⟨j.ah o,Ah.nil _ _,h.st,h.q,h.m,?_⟩;have d:=h.nd;unfold DC at d i |-;have e:(Aj Zb).toList=[]:=rfl;rw[e,append_nil];refine nodup_append.2 ⟨?_,(nodup_append.1 d).2.1,λa m b k e=> ?_⟩
 .cases Aj u<;>simp
 have p:=(j.S (A6.1 m)).1;have m:=i b (A5.2 (ct k));omega
theorem Aeg(v:Vd)(p q s t:Dg)(R:Zj)(l:Zl)(w:Zh)(B:ed R=13)(y:∀X,Zz w X->D4 63 #[ca (ee (p::q::s::t::R))] X λe c=>Au (BY v) X c e)(m:BY v->∀X,Zz w X->D4 64 #[ca (ee (p::q::s::t::R))] X λe c=>∃(S U T P L Q M:Dg) (A:Zj),e=C1 (ca (ee (AV v S U T P L Q M)))/\Ay c X.1.size S U T P L Q M A v/\Zz X c)(hS:BY v->∀X,Zz w X->D4 65 #[ca #[s,t]] X λe c=>∃u,e=C1 (ca #[u,Zb])/\ej c X.1.size 9 1 u (ed l) (l.map string)/\Zz X c):
 D4 25 #[ca (ee (p::q::s::t::R))] w λe c=>∃(u:Vd) (S U T P L Q M:Dg) (A:Zj),(¬BY v/\u=v0\/BY v/\u=OH v l)/\e=C1 (ca (ee (AV u S U T P L Q M)))/\Ay c w.1.size S U T P L Q M A u/\Zz w c:=by
 all_goals
  have⟨W,c⟩:=Ag ((w.alloc (bs (ee (p::q::s::t::R)) 34)).alloc (bs Xp 34));have d:=(AT c).1;have zW:=(AT c).2.1;have i:Hid (Aa W w.1.size (p::q::s::t::R)):=(AT c).2.2.1;have r:Hid (Aa W (w.1.size+1) BG):=(AT (k:=BG) c).2.2.2;have zB:Hid (ed (p::q::s::t::R)=17):=by show ed (p::q::s::t::R)=17;simp[B]
  have j:=Yw y;have HC:=Yw m;have HS:=Yw hS;have f:=Yw c;clear c y m hS B;delta D4;go_in;go_upto_region 1 with fail;rw[<-f.o];clear f;go_wp2_with (refine wpList_load_mid rfl 34 _ rfl w.1.size 0 rfl (p::q::s::t::R) _ i.range underlying34 rfl (by rw[zB.o];kernel_rfl) ?_);refine(j W d).ah ?_;rintro e y ⟨o,rfl,f,c⟩;have z1:=c.size
  have N:Hid (Aa y w.1.size (p::q::s::t::R)):=Aa.A i c;have m:Hid (Aa y (w.1.size+1) BG):=Aa.A (v:=Ze) r c;have B:Hid (Zz w y):=d.ag (c.ah d.size);clear c j i r d;cases o with
  |false=>
   have zI:Hid (¬BY v):=λh=>by have:=f.2 h;cases this
   clear f HC HS;have c:(ee BG).all (·.oneCell')=ay:=(by simp[BG,oneCell']);obtain⟨zA,W9,d⟩:=Yw (Zn c m.there),Ag (y.setCells (w.1.size+1) 0 BG);have x9:Aa W9 (w.1.size+1) BG:=(by rw[d];exact m.ax _ rfl);have b9:bg w.1.size w W9:=B.ag (by rw[d];exact(Ap _ _ _ _).A B.size Yu);have zK:=Yw d;clear c d;go_wp2_with (refine wpList_store_mid rfl 34 _ _ rfl (w.1.size+1) 0 Xp rfl rfl zA.2 Yr zA.1 ?_);change bodyPost _ _ _ _ _ (y.setCells (w.1.size+1) 0 BG);rw[<-zK.o]
   refine bodyPost_ret (AM results25 _ _ (w.1.size+1) BG _ rfl x9.range underlying34 rfl Yr) rfl ?_;exact⟨v0,_,_,_,_,_,_,_,[],.inl ⟨zI,rfl⟩,rfl,Ay.nil _ _,b9⟩
  |true=>
   have C:Hid (BY v):=f.1 rfl;clear f;go_wp2_with (refine wpList_load_mid rfl 34 _ rfl w.1.size 0 rfl (p::q::s::t::R) _ N.range underlying34 rfl (by rw[zB.o];kernel_rfl) ?_);refine(HC C y B).ah ?_;rintro e i ⟨S,U,T,P,L,Q,M,A,rfl,G,K⟩;have⟨c,H⟩:∃c:Zj,c=[Zg v.P,Zg v.G,Zg v.H,Zg v.E,T,P,L,Zg v.I,Q,M,Zg v.L,Zg v.K,Zg v.ro]:=⟨_,rfl⟩;have eR:AV v S U T P L Q M=(Zg v.wd::Zg v.J::S::U::c):=(by rw[H];rfl);have j:ed (Zg v.wd::Zg v.J::S::U::c)=17:=(by rw[H];rfl);have F:∀x∈(Zg v.wd::Zg v.J::S::U::c),x.oneCell'=ay:=(by have⟨a,h,_⟩:=G.io;rw[<-eR,h];simp[AV,oneCell']);have o:Hid (∀g∈DC S U T P L Q M A,g<i.1.size):=G.dj;have zJ:Hid (∀d f,AV (OH v l) (Cw d l f) Zb T P L Q M=(Zg v.wd::Zg v.J:: Cw d l f::Zb::c)):=λd f=>by rw[H];rfl
   rw[eR];obtain⟨z2,r,b⟩:=K.size,Ag ((i.alloc (bs Xp 34)).setCells i.1.size 0 (ee (Zg v.wd::Zg v.J::S::U::c)).toList);have O:=boxed (X:=i) (cs:=(Zg v.wd::Zg v.J::S::U::c)) (z:=BG) (T:=34) (by rw[j];rfl);have e3:r=(i.alloc (bs (ee BG) 34)).setCells i.1.size 0 (Zg v.wd::Zg v.J::S::U::c):=b;rw[<-e3]at O;obtain⟨x3,b3,z3⟩:=O;have D:Hid ((i.alloc (bs Xp 34)).there i.1.size 0 (ee (Zg v.wd::Zg v.J::S::U::c)).size/\ed (Zg v.wd::Zg v.J::S::U::c)=17/\∀x∈(Zg v.wd::Zg v.J::S::U::c),x.oneCell'=ay):=⟨by rw[show(ee (Zg v.wd::Zg v.J::S::U::c)).size=17 from by rw[Az];exact j];exact(Aa.new i BG 34).there,j,F⟩;have Y:=Yw b;have E:bg y.1.size y r:=K.ag (b3.ah K.size);have V:Hid (Aa r w.1.size (p::q::s::t::R)):=Aa.A N E;have zC:Hid (Aa r (w.1.size+1) BG):=Aa.A (v:=Ze) m E;have I:Hid (Zz w r):=B.ag (E.ah B.size);have Z:Hid (Ay r y.1.size S U T P L Q M A v):=G.A b3;have J:=Yw x3;clear b e3 x3 b3 E G K eR j F H N m HC;go_upto_region 4 with(refine wpList_store_mid rfl 34 _ _ rfl i.1.size 0 (ee (Zg v.wd::Zg v.J::S::U::c)) rfl rfl D.1 (by rw[Az,D.2.1];kernel_rfl) (all_oneCell_toArray D.2.2) ?_);rw[<-Y.o];clear Y;obtain⟨⟨y2,_⟩,y3,_⟩:=V 2 _ rfl,V 3 _ rfl;go_wp2_with fail;refine(HS C r I).ah ?_;rintro e w4 ⟨u,rfl,Y,m⟩;obtain⟨d,f,rfl,_⟩:=(Ah.own Y).row;have z4:=m.size;clear y2 y3 HS V;have⟨G,K⟩:=Ag (el (el w4 (Zd (i.1.size) 2) (Cw d l f)) (Zd (i.1.size) 3) Zb);have t5:Tn [i.1.size] w4 G:=(by rw[K];exact(Tn.set _ _ _ _ Yu).ag (Tn.set _ _ _ _ Yu));have zN:Hid (Aa G i.1.size (Zg v.wd::Zg v.J:: Cw d l f::Zb::c)):=(by show Aa G i.1.size (Zg v.wd::Zg v.J:: Cw d l f::Zb::c);rw[K];exact((Aa.A J m).set 2 (Cw d l f)).set 3 Zb);have z5:=t5.size;have zE:Hid (Aa G (w.1.size+1) BG):=Aa.same (Aa.A (v:=Ze) zC m) (t5.block _ Yv Yt);have j:ed (Zg v.wd::Zg v.J:: Cw d l f::Zb::c)=17:=C9 D.2.1;have F:∀x∈(Zg v.wd::Zg v.J:: Cw d l f::Zb::c),x.oneCell'=ay:=λx hx=>by
    have h1:=D.2.2 x;simp only[Bh]at hx h1;rcases hx with rfl|rfl|rfl|rfl|hx
    .rfl
    .rfl
    .rfl
    .rfl
    exact h1 (ct (ct (ct (ct hx))))
   have⟨H,N⟩:=Ag (G.setCells (w.1.size+1) 0 (ee (Zg v.wd::Zg v.J:: Cw d l f::Zb::c)).toList);have t6:Tn [(w.1.size+1)] G H:=(by rw[N];exact Ap _ _ _ _);have x6:Aa H (w.1.size+1) (Zg v.wd::Zg v.J:: Cw d l f::Zb::c):=(by rw[N];exact zE.ax _ (by rw[j];rfl));have V:Tn [i.1.size,(w.1.size+1)] w4 H:=(t5.ah Yu).ag (t6.ah Yu);have X:Ay H y.1.size S U T P L Q M A v:=(Z.A m).stays V (λg hg E=>by have h1:=Z.lo g E;have h2:=o g E;simp at hg;omega);have zF:Ah H r.1.size (Cw d l f) l:=Ah.own (DJ Y V (λb O=>by simp at O;omega));have zG:Hid (Ay H w.1.size (Cw d l f) Zb T P L Q M A (OH v l)):=(X.gh (n:=r.1.size) (λg hg=>C8 (o g hg)) zF Yv).ah (C8 B.size);have g:bg w.1.size w w4:=I.ag (m.ah I.size);have zH:Hid (Zz w H):=g.ag (V.A g.size (λb O=>by simp at O;omega));have E:Hid (G.there (w.1.size+1) 0 (ee (Zg v.wd::Zg v.J:: Cw d l f::Zb::c)).size/\ed (Zg v.wd::Zg v.J:: Cw d l f::Zb::c)=17/\∀x∈(Zg v.wd::Zg v.J:: Cw d l f::Zb::c),x.oneCell'=ay):=⟨by rw[show(ee (Zg v.wd::Zg v.J:: Cw d l f::Zb::c)).size=17 from by rw[Az];exact j];exact zE.there,j,F⟩;obtain⟨y2,f2⟩:=Aa.A J m 2 _ rfl
   obtain⟨y3,f3⟩:=Aa.A J m 3 _ rfl;have b:=Yw K;have x:=Yw N;have zM:=Yw x6;clear K N x6 t5 t6 V X zF g F j Y m J Z zC I o;go_upto_region 5 with fail;rw[<-b.o];clear b y2 y3 f2 f3;go_wp2_with (first
    |refine wpList_load_mid rfl 34 _ rfl i.1.size 0 rfl (Zg v.wd::Zg v.J:: Cw d l f::Zb::c) _ zN.range underlying34 rfl (by rw[E.2.1];kernel_rfl) ?_
    |refine wpList_store_mid rfl 34 _ _ rfl (w.1.size+1) 0 (ee (Zg v.wd::Zg v.J:: Cw d l f::Zb::c)) rfl rfl E.1 (by rw[Az,E.2.1];kernel_rfl) (all_oneCell_toArray E.2.2) ?_)
   rw[<-x.o];refine bodyPost_ret (AM results25 _ _ (w.1.size+1) (Zg v.wd::Zg v.J:: Cw d l f::Zb::c) _ rfl (Aa.range zM) underlying34 rfl (by rw[E.2.1];kernel_rfl)) rfl ?_;exact⟨OH v l,Cw d l f,Zb,T,P,L,Q,M,A,ct ⟨C,rfl⟩,by rw[zJ.o],zG,zH⟩
def Aeh(v:Vd)(To:Vd->Prop)(w:Zh)(e:Ending)(w':Zh):Prop:=∃(u:Vd) (S U T P L Q M:Value) (rs:Zj),(¬BY v/\u=v0\/BY v/\To u)/\e=.returned (ca (ee (AV u S U T P L Q M)))/\Ay w' w.1.size S U T P L Q M rs u/\Zz w w'
def JQ(w:Zh)(To:Vd->Prop)(p:Value)(X:Zh):Prop:=
 ∃(b:Nat) (u:Vd) (S U T P L Q M:Value) (rs:Zj),p=.pointer (ai ⟨b,0,none⟩)/\To u/\Aa X b (AV u S U T P L Q M)/\Aa X (w.1.size+1) BG/\Ay X (w.1.size+2) S U T P L Q M rs u/\Zz w X
theorem JQ.of{c:Vd->Prop}{a:Zj}(k:c u)(d:Aa X b BG)(h:Aa X (w.1.size+1) BG)(i:Ay X (w.1.size+2) S U T P L Q M a u)(j:b∉DC S U T P L Q M a)(dm:w.1.size+2<=b)(f:Zz w X):
 JQ w c (Yy b) (X.setCells b 0 (ee (AV u S U T P L Q M)).toList):=by
 have t:=Ap b (AV u S U T P L Q M) 0 X;have l:=(d 0 _ rfl).1;refine⟨b,u,S,U,T,P,L,Q,M,a,rfl,k,d.ax _ rfl,Aa.same h (t.block _ h.lt Yt),i.stays t (λg e=>by simp at e;subst e;exact j),f.ag (t.A f.size Yt)⟩
theorem Le{c:Zj}(h:Ay X b S U T P L Q M c u):∀x∈(AV u S U T P L Q M),x.oneCell'=ay:=by have⟨a,e,_⟩:=h.io;rw[e];simp[AV,oneCell']
theorem Afh(v:Vd)(s t:Dg)(R:Zj)(k:Int)(l:Zl)(Z:Vd->Prop)(w:Zh)(m:ed R=13)(j:∀X,Zz w X->D4 63 #[ca (ee (Zg v.wd::Zg v.J::s::t::R))] X λe a=>Au (BY v) X a e)(f:BY v->∀X,Zz w X->D4 66 #[ca #[s,t],Zg k] X λe a=>∃u,e=C1 (ca #[u,Zb])/\ej a X.1.size 9 1 u (ed l) (l.map string)/\Zz X a)(hO:BY v->∀X u n,Zz w X->ej X n 9 1 u (ed l) (l.map string)->D4 12 #[Zg v.wd,Zg v.J,ca #[u,Zb]] X λe a=>∃(c:Int) (u:Vd) (S U T P L Q M:Dg) (G:Zj),Z u/\e=C1 (.tuple #[ca (ee (AV u S U T P L Q M)),Zg c])/\Ay a X.1.size S U T P L Q M G u/\Zz X a):
 D4 26 #[ca (ee (Zg v.wd::Zg v.J::s::t::R)),Zg k] w (Aeh v Z w):=by
 all_goals
  have⟨W,a⟩:=Ag ((w.alloc (bs (ee (Zg v.wd::Zg v.J::s::t::R)) 34)).alloc (bs Xp 34));have i:=(AT a).1;have zW:=(AT a).2.1;have q:Hid (Aa W w.1.size (Zg v.wd::Zg v.J::s::t::R)):=(AT a).2.2.1;have y:Hid (Aa W (w.1.size+1) BG):=(AT (k:=BG) a).2.2.2;have zH:Hid (ed (Zg v.wd::Zg v.J::s::t::R)=17):=by show ed (Zg v.wd::Zg v.J::s::t::R)=17;simp[m]
  have r:=Yw j;have HC:=Yw f;have HO:=Yw hO;have d:=Yw a;clear a j f hO m;delta D4;go_in;go_upto_region 1 with fail;rw[<-d.o];clear d;go_wp2_with (refine wpList_load_mid rfl 34 _ rfl w.1.size 0 rfl (Zg v.wd::Zg v.J::s::t::R) _ q.range underlying34 rfl (by rw[zH.o];kernel_rfl) ?_);refine(r W i).ah ?_;rintro e a ⟨o,rfl,j,d⟩;have z1:=d.size
  have m:Hid (Aa a w.1.size (Zg v.wd::Zg v.J::s::t::R)):=Aa.A q d;have f:Hid (Aa a (w.1.size+1) BG):=Aa.A (v:=Ze) y d;have zA:Hid (Zz w a):=i.ag (d.ah i.size);clear d r q y i;cases o with
  |false=>
   have zI:Hid (¬BY v):=λh=>by have:=j.2 h;cases this
   clear j HC HO;have d:(ee BG).all (·.oneCell')=ay:=(by simp[BG,oneCell']);obtain⟨zC,n,y⟩:=Yw (Zn d f.there),Ag (a.setCells (w.1.size+1) 0 BG);have x9:Aa n (w.1.size+1) BG:=(by rw[y];exact f.ax _ rfl);have b9:bg w.1.size w n:=zA.ag (by rw[y];exact(Ap _ _ _ _).A zA.size Yu);have zB:=Yw y;clear d y;go_wp2_with (refine wpList_store_mid rfl 34 _ _ rfl (w.1.size+1) 0 Xp rfl rfl zC.2 Yr zC.1 ?_);change bodyPost _ _ _ _ _ (a.setCells (w.1.size+1) 0 BG);rw[<-zB.o]
   refine bodyPost_ret (AM results26 _ _ (w.1.size+1) BG _ rfl x9.range underlying34 rfl Yr) rfl ?_;exact⟨v0,_,_,_,_,_,_,_,[],.inl ⟨zI,rfl⟩,rfl,Ay.nil _ _,b9⟩
  |true=>
   have r:Hid (BY v):=j.1 rfl;have C:Hid (∀X,Zz a X->Zz w X):=λX d=>zA.ag (d.ah zA.size);have H:Hid (∀X,Zz a X->Aa X w.1.size (Zg v.wd::Zg v.J::s::t::R)/\Aa X (w.1.size+1) BG):=λX d=>⟨Aa.A m d,Aa.A (v:=Ze) f d⟩;clear j m f;go_upto_region 3 with fail;go_cut [5] (λp f=>JQ w Z p f)
   case first=>
    refine wp_region_held_drew (S:=λX=>Zz a X) Yr Ae.drew (λhS=> ?_);refine AK 0 (Yy w.1.size) ?_;refine Di 1 (Zg v.wd) rfl (by exact Or.inl ⟨Yp,λX d=>by have hc:=((H X d).1 0 _ rfl).1;go_simp⟩) ?_;refine AK 2 (Yx w.1.size 1) ?_;refine Di 3 (Zg v.J) rfl (by exact Or.inl ⟨Yp,λX d=>by have hc:=((H X d).1 1 _ rfl).1;go_simp⟩) ?_;refine AK 4 (Yx w.1.size 2) ?_;refine Di 5 (ca #[s,t]) rfl (by exact yieldsIf_load_mid Yp 25 _ rfl w.1.size 2 rfl [s,t] _ (λX h=>Aa.fx [Zg v.wd,Zg v.J] [s,t] R (H X h).1) underlying25 rfl Yr) ?_;refine AK 6 (Zg k) ?_;have h1:=(Below.refl a.1.size a).drew;refine WG 7 12 (λK d=> ?_) (λK d=> ?_)
    .go_simp;refine(HC r a.drew (C a.drew h1)).ah ?_;rintro e B ⟨x,rfl,o,I⟩;have A:bg a.1.size a B:=h1.ag (I.ah h1.size);have z2:=I.size;have y2:=A.size;try go_simp
     refine d.out _ _ A (λhS=> ?_);clear d K;refine WG 8 12 (λK d=> ?_) (λK d=> ?_)
     .go_simp;refine(HO r B x _ (C B A) o).ah ?_;rintro e i ⟨c,u,S,U,T,P,L,Q,M,G,E,rfl,D,z⟩;have j:bg a.1.size a i:=A.ag (z.ah A.size);have z3:=z.size;have y3:=j.size;try go_simp
      refine d.out _ _ j (λhS=> ?_);clear d K;refine AK 9 (.tuple #[ca (ee (AV u S U T P L Q M)),Zg c]) ?_;refine AK 10 (ca (ee (AV u S U T P L Q M))) ?_;refine AK 11 (Zg c) ?_;refine Bk 12 (λK d=> ?_);go_simp;have⟨q,f⟩:=Du i Xp 34;have V:=(Av f).1;have zE:=(Av f).2.1;have J:Aa q i.1.size BG:=(Av (l:=BG) f).2.2;have m:bg a.1.size a q:=j.ag (V.ah j.size);have y4:=m.size;try rw[<-f]
      clear f;refine d.out _ _ m (λhS=> ?_);clear d K;refine Bk 13 (λK d=> ?_);have N:Aa q i.1.size BG:=J;have O:Ay q (w.1.size+2) S U T P L Q M G u:=(D.A V).ah Yv;have p:JQ w Z (Yy i.1.size) (q.setCells i.1.size 0 (ee (AV u S U T P L Q M)).toList):=JQ.of E N (H q m).2 O (λF=>C8 (D.dj _ F)) Yv (C q m);rw[if_pos Yp];refine wp_store_mid 34 _ _ rfl (i.1.size) 0 (ee (AV u S U T P L Q M)) rfl rfl N.there Yr (all_oneCell_toArray (Le O)) ?_;refine d.out _ _ (m.ag ((Ap _ _ _ _).A m.size Ym)) (λhS=> ?_);clear d K;try simp only[Act.put]
      refine AK 14 (Zg c) ?_;refine wpAnyH_done Yr ?_ _;go_wp2_with fail;go_meet;exact p
     go_simp;have⟨q,f⟩:=Du B Xp 34;have V:=(Av f).1;have zE:=(Av f).2.1;have J:Aa q B.1.size BG:=(Av (l:=BG) f).2.2;have m:bg a.1.size a q:=A.ag (V.ah A.size);have y4:=m.size;try rw[<-f]
     clear f;refine d.out _ _ m (λhS=> ?_);clear d K;refine Bk 8 (λK d=> ?_);go_simp;refine(HO r q x _ (C q m) (Ai o V)).ah ?_;rintro e i ⟨c,u,S,U,T,P,L,Q,M,G,E,rfl,D,z⟩;have j:bg a.1.size a i:=m.ag (z.ah m.size);have z3:=z.size;have y3:=j.size;try go_simp
     refine d.out _ _ j (λhS=> ?_);clear d K;refine AK 9 (.tuple #[ca (ee (AV u S U T P L Q M)),Zg c]) ?_;refine AK 10 (ca (ee (AV u S U T P L Q M))) ?_;refine AK 11 (Zg c) ?_;refine Bk 13 (λK d=> ?_);have N:Aa i B.1.size BG:=Aa.A (v:=Ze) J z;have O:Ay i (w.1.size+2) S U T P L Q M G u:=D.ah Yv;have p:JQ w Z (Yy B.1.size) (i.setCells B.1.size 0 (ee (AV u S U T P L Q M)).toList):=JQ.of E N (H i j).2 O (λF=>C8 (D.lo _ F)) Yv (C i j);rw[if_pos Yp];refine wp_store_mid 34 _ _ rfl (B.1.size) 0 (ee (AV u S U T P L Q M)) rfl rfl N.there Yr (all_oneCell_toArray (Le O)) ?_;refine d.out _ _ (j.ag ((Ap _ _ _ _).A j.size Ym)) (λhS=> ?_);clear d K;try simp only[Act.put]
     refine AK 14 (Zg c) ?_;refine wpAnyH_done Yr ?_ _;go_wp2_with fail;go_meet;exact p
    go_simp;have⟨q,f⟩:=Ag ((a.alloc (bs Xp 34)).drew);have m:bg a.1.size a q:=(by rw[f];exact(Zy).drew);have J:Aa q a.1.size BG:=(by rw[f];exact Aa.A (v:=Ze) (Aa.new a BG 34) Ae.drew);have zE:=J.lt;try rw[<-f]
    clear f;refine d.out _ _ m (λhS=> ?_);clear d K;refine Bk 7 (λK d=> ?_);go_simp;refine(HC r q (C q m)).ah ?_;rintro e B ⟨x,rfl,o,I⟩;have A:bg a.1.size a B:=m.ag (I.ah m.size);have z2:=I.size;have y2:=A.size;try go_simp
    refine d.out _ _ A (λhS=> ?_);clear d K;refine Bk 8 (λK d=> ?_);go_simp;refine(HO r B x _ (C B A) o).ah ?_;rintro e i ⟨c,u,S,U,T,P,L,Q,M,G,E,rfl,D,z⟩;have j:bg a.1.size a i:=A.ag (z.ah A.size);have z3:=z.size;have y3:=j.size;try go_simp
    refine d.out _ _ j (λhS=> ?_);clear d K;refine AK 9 (.tuple #[ca (ee (AV u S U T P L Q M)),Zg c]) ?_;refine AK 10 (ca (ee (AV u S U T P L Q M))) ?_;refine AK 11 (Zg c) ?_;refine Bk 13 (λK d=> ?_);have N:Aa i a.1.size BG:=Aa.A (v:=Ze) (Aa.A (v:=Ze) J I) z;have O:Ay i (w.1.size+2) S U T P L Q M G u:=D.ah Yv;have p:JQ w Z (Yy a.1.size) (i.setCells a.1.size 0 (ee (AV u S U T P L Q M)).toList):=JQ.of E N (H i j).2 O (λF=>C8 (D.lo _ F)) Yv (C i j);rw[if_pos Yp];refine wp_store_mid 34 _ _ rfl (a.1.size) 0 (ee (AV u S U T P L Q M)) rfl rfl N.there Yr (all_oneCell_toArray (Le O)) ?_;refine d.out _ _ (j.ag ((Ap _ _ _ _).A j.size Ym)) (λhS=> ?_);clear d K;try simp only[Act.put]
    refine AK 14 (Zg c) ?_;refine wpAnyH_done Yr ?_ _;go_wp2_with fail;go_meet;exact p
   obtain⟨b,u,S,U,T,P,L,Q,M,G,rfl,E,x6,Y,h,K⟩:=hcut;have⟨n,y⟩:=Ag (wc.setCells (w.1.size+1) 0 (ee (AV u S U T P L Q M)).toList);have X:Tn [(w.1.size+1)] wc n:=(by rw[y];exact Ap _ _ _ _);have x9:Aa n (w.1.size+1) (AV u S U T P L Q M):=(by rw[y];exact Y.ax _ rfl);have zF:Hid (Ay n w.1.size S U T P L Q M G u):=(h.stays X (λg d F=>by have:=h.lo g F;simp at d;omega)).ah Yv;have zG:Hid (Zz w n):=K.ag (X.A K.size Yu);have HT:Hid (Z u):=E;have⟨d,f⟩:=Ag (AV u S U T P L Q M);have g:Hid (ed d=17):=(by show ed d=17;rw[f];rfl);have F:(ee d).size=17:=by rw[f];rfl
   have HI:Hid (wc.there (w.1.size+1) 0 (ee d).size/\∀x∈d,x.oneCell'=ay):=⟨by rw[F];exact Y.there,by rw[f];exact Le h⟩;rw[<-f]at x6 x9 y;have HE:=Yw f;have zJ:=Yw x6;have zK:=Yw x9;have zB:=Yw y;clear F f x6 x9 y h Y K X E;go_wp2_with (first
    |refine wpList_load_mid rfl 34 _ rfl b 0 rfl d _ (Aa.range zJ) underlying34 rfl (by rw[g.o];kernel_rfl) ?_
    |refine wpList_store_mid rfl 34 _ _ rfl (w.1.size+1) 0 (ee d) rfl rfl HI.1 (by rw[Az,g.o];kernel_rfl) (all_oneCell_toArray HI.2) ?_)
   rw[<-zB.o];refine bodyPost_ret (AM results26 _ _ (w.1.size+1) d _ rfl (Aa.range zK) underlying34 rfl (by rw[g.o];kernel_rfl)) rfl ?_;exact⟨u,S,U,T,P,L,Q,M,G,ct ⟨r,HT⟩,by rw[HE.o],zF,zG⟩
structure Ow (X:Zh) (base q:Nat) (e:TypeId) (size:Nat) (v:Value) (n:Nat) (xs:Zj):Prop where
 o:ej X base e size v n xs
 q:ef v≠ai q
theorem Ow.O(h:Ow X a q e size v n i)(o:Tn V X Y)(m:∀g∈V,g<a\/g=q\/X.1.size<=g\/∃d f,f≠e/\X.1[g]?=ai (bs d f)):Ow Y a q e size v n i:=
 ⟨Ar h.o (λg c=>o.block g (Ab h.o c).2 (λj=>by
  have p:=Ab h.o c;rcases m g j with b|b|b|⟨d,f,k,b⟩
  .omega
  .exact h.q (b▸c)
  .omega
  obtain⟨j,l⟩:=BN h.o c;rw[l]at b;cases b;exact k rfl)),h.q⟩
structure KR (X:Zh) (base q:Nat) (T P L:Value) (zs:List (Kd×Value)) (ps:List Pd) (ls:List Ld):Prop where
 t:Ow X base q 50 4 T (ed zs) (Af kC zs)
 r:∀z∈zs,Ow X base q 9 1 z.2 (ed z.1.C) (z.1.C.map Value.string)
 p:Ow X base q 148 2 P (ed ps) (Af pC ps)
 l:Ow X base q 112 3 L (ed ls) (Af lC ls)
 w:StW (zs.map (·.1)) ps ls
theorem KR.O{j:List (Kd×Value)}{i:C7}{d:C6}(h:KR X a q T P L j i d)(b:Tn V X Y)(l:∀g∈V,g<a\/g=q\/X.1.size<=g):KR Y a q T P L j i d:=
 have f:∀{e:TypeId},∀g∈V,g<a\/g=q\/X.1.size<=g\/∃k c,c≠e/\X.1[g]?=ai (bs k c):=λg c=>by
  rcases l g c with h|h|h
  .exact .inl h
  .omega
  omega
 ⟨h.t.O b f,λz c=>(h.r z c).O b f,h.p.O b f,h.l.O b f,h.w⟩
theorem KR.A{base:Nat}{c:List (Kd×Value)}{b:C7}{a:C6}(h:KR X base q T P L c b a)(d:Zz X Y):KR Y base q T P L c b a:=h.O (V:=[]) (Tn.of d) Yu
theorem Ow.other{d:TypeId}{c:Nat}{f:Dg}{r:Nat}{l:Zj}(h:Ow X a q e size v n i)(m:Ow X a q d c f r l)(k:d≠e)(p:Tn (ef f).toList X Y):Ow Y a q e size v n i:=
 h.O p (λb j=>by
  obtain⟨j,o⟩:=BN m.o (g:=b) gA;exact ct (ct (ct ⟨j,_,k,o⟩)))
theorem KR.aw{d:Dg}{i c:List (Kd×Value)}{g:C7}{f:C6}(h:KR X a q T P L i g f)(hT:Tn (ef T).toList X Y)(j:Ow Y a q 50 4 d (ed c) (Af kC c))(e:∀z∈c,z∈i\/Ow X a q 9 1 z.2 (ed z.1.C) (z.1.C.map string)/\KdW z.1)(m:ed c<=1048576):KR Y a q d P L c g f:=by
 refine⟨j,λy b=> ?_,h.p.other h.t Yq hT,h.l.other h.t Yq hT,⟨λk l=> ?_,by rw[A7];exact m,h.w.p,h.w.pn,h.w.l,h.w.ln⟩⟩
 .rcases e y b with b|b
  .exact(h.r y b).other h.t Yq hT
  exact b.1.other h.t Yq hT
 obtain⟨y,b,rfl⟩:=mem_map.1 l;rcases e y b with b|b
 .exact h.w.k _ (mem_map.2 ⟨y,b,rfl⟩)
 exact b.2
structure SpE (w:Zh) (b:Nat) (a:Zk) (n c:Nat) (p K:Int) (q:Nat) (X:Zh):Prop where
 ex:∃wd now given births T P L zs ps ls,Aa X q [Zg wd,Zg now,Zg given,Zg births,T,P,L]/\KR X (w.1.size+2) q T P L zs ps ls
 z:Aa X (w.1.size+1) z7
 rd:∃p',AP X b a n c p'/\p<=p'/\p'<=p+K
 gr:w.grownBy X (ai b)
theorem Me(h:w.grownBy X (ai b))(a:Tn V X Y)(f:∀g∈V,w.1.size<=g\/g=b):w.grownBy Y (ai b):=
 ⟨a.os.ag h.os,a.tape.ag h.tape,a.output.ag h.output,Zm h.size a.size,λi d c=>(a.block i (Zr d h.size) (λe=>by rcases f i e with h|h;omega;exact c K9)).ag (h.block i d c)⟩
