import Derived.Test.YtfmeclmjdpbacaaGreatDoorX15
import Derived.Test.YtfmeclmjdpbacaaGreatDoorX19
set_option maxRecDepth 100000
set_option maxHeartbeats 16000000
open Option renaming some->ai,none->an
open Bool renaming true->ay,false->ba
open Go.RowKit renaming Below->bg
open Decidable renaming decide->bq
open Go.Obj renaming cells->bs
open Go.Value renaming slice->bx,agg->ca,pointer->ea,bool->ec,ownBlock->ef
open Or renaming inr->ct
open List renaming length->ed
open Go.World renaming cell?->eh,frozen?->ei,ownsRow->ej,setCell->el
namespace Go.Proofs.YtfmeclmjdpbacaaGreatDoor
open ChangeShapes WideShapes ChangeAt RowKit _root_.Go.Proofs.Tryz List World Value
variable{a v i f t p j z:Int}{b s o qs:Zl}{w:Zh}{u:Zk}{m c B d g H:Nat}{O P L Q M D:Value}
theorem Kb(n j i r:Int){q l:Zk}(B C:Nat){a:Zl}(s:Ad w w.1.size q a)(d:Ad w w.1.size l b)(M:GM a b):
 D4 97 #[ca (Yb n q (ed a) B l (ed b) C j i r)] w λe c=>∃x h y k m,e=C1 (ca (Yb n x (ed a) h y (ed b) k j i r))/\
  ej c w.1.size 9 1 (Cx x (ed a) h) (ed a) (a.map string)/\(∀g,Aj (Cx x (ed a) h)=ai g->g<m)/\ej c m 9 1 (Cx y (ed b) k) (ed b) (b.map string)/\w.1.size<=m/\Zz w c:=by
 have⟨W,c⟩:=Ag ((w.alloc (bs (Yb n q (ed a) B l (ed b) C j i r) 32)).alloc (bs Xv 32));have f:bg w.1.size w W:=by rw[c];exact(Zy).alloc Yu _
 have u:BM W (w.1.size+1) 0 Zb Zb 0 0 0:=by rw[c];exact⟨by simp[go_sem],by simp[go_sem],by simp[go_sem],by simp[go_sem],by simp[go_sem],by simp[go_sem],Yu⟩
 have N:BM W w.1.size n (Cw q a B) (Cw l b C) j i r:=by rw[c];exact⟨by simp[go_sem],by simp[go_sem],by simp[go_sem],by simp[go_sem],by simp[go_sem],by simp[go_sem],Ym⟩
 have U:∀o,ei W ⟨w.1.size,o,an⟩=ba:=λo=>by rw[c];simp[go_sem]
 have V:∀o,ei W ⟨w.1.size+1,o,an⟩=ba:=λo=>by rw[c];simp[go_sem]
 have Y:W.1.size=w.1.size+2:=by rw[c];simp
 have L:=Yw c;have t:=Yw N;have E:=Yw u;have K:=Yw s;have J:=Yw d;clear c u s d;obtain⟨O,P,Q,R,S,T,Z⟩:=N;delta D4;go_in;go_upto_region 1 with fail;rw[<-L.o];go_region_with (first
  |(go_at_call 93;refine(DH B (Ad.U (w:=w) K f.drew) M.q).ah ?_;rintro e s ⟨x,h,rfl,z,F⟩;have c:bg W.1.size W s:=(Below.refl W.1.size W).drew.ag F;have⟨b0,b1,b2,b3,b4,b5,b6⟩:=BM.A t c)
  |(go_at_call 93;refine(DH C (Ad.U (w:=w) J (f.ag (c.ah f.size))) M.m).ah ?_;rintro e D ⟨y,k,rfl,H,u⟩;have d:bg W.1.size W D:=c.ag (u.ah c.size);have⟨c0,c1,c2,c3,c4,c5,c6⟩:=BM.A t d;have⟨d0,d1,d2,d3,d4,d5,d6⟩:=BM.A E d;have m:∀o,ei D ⟨w.1.size,o,an⟩=ba:=(λo=>(d.frozen (p:=⟨w.1.size,o,an⟩) Yt).ag (U o));have e1:∀o,ei D ⟨w.1.size+1,o,an⟩=ba:=(λo=>(d.frozen (p:=⟨w.1.size+1,o,an⟩) Yt).ag (V o))))
 all_goals
  have I:ej D (w.1.size+2) 9 1 (Cw x a h) (ed a) (a.map string):=(DF z u).ah Yt;have X:w.1.size+2<=s.1.size:=C8 c.size;have G:∀g,Aj (Cw x a h)=ai g->g<s.1.size:=λg A=>(Ab z (by cases x with|none=>cases A|some _=>exact A)).2;have A:=Yw (Zn I (Zn H (Zn G (f.ag (d.ah f.size)))));clear I G z H F u c d t E K J O P Q R S T f L;go_wp2;refine Co (ca (Yb n x (ed a) h y (ed b) k j i r)) (by simp[results,results97,go_sem,d0,d1,d2,d3,d4,d5]) ⟨x,h,y,k,s.1.size,rfl,?_,A.2.2.1,?_,Yv,?_⟩
  .refine ownsRow.ah ?_ (show w.1.size<=w.1.size+2 by omega)
   iterate 8 (refine ownsRow_setCell_below ?_ Ym _)
   exact A.1
  .iterate 8 (refine ownsRow_setCell_below ?_ Ym _)
   exact A.2.1
  iterate 8 (refine Below.setCell ?_ Yu _)
  exact A.2.2.2
theorem QC(d:Nat)(q i h r:Int){v:Zk}(H I:Nat){a:Zl}(B:Ad w w.1.size v b)(A:Ad w w.1.size u a)(hf:GM b a):
 D4 73 #[Yy d,ca (Yb q v (ed b) H u (ed a) I i h r)] w λe j=>∃c k s l t p n P f,e=C1 (Yy c)/\Aa j c (GY d q (Cx k (ed b) s) (Cx l (ed a) t) i h r p Zb)/\Ah j w.1.size (Cx k (ed b) s) b/\Ah j w.1.size (Cx l (ed a) t) a/\AW j 160 p n P f/\MK a f P/\n<=ed a/\KK j c/\Is c p (Aj (Cx k (ed b) s)) (Aj (Cx l (ed a) t)) an/\w.1.size<=c/\w.1.size<=p/\Zz w j:=by
 have⟨W,k⟩:=Du w (Yb q v (ed b) H u (ed a) I i h r) 32;have j:bg w.1.size w W:=by rw[k];exact Zy
 have l:BM W w.1.size q (Cw v b H) (Cw u a I) i h r:=by rw[k];exact⟨Yu,Yu,Yu,Yu,Yu,Yu,Yu⟩
 have Y:=Yw l;have S0:=ZJ (w:=W.drew) l;have V:bg W.1.size W W.drew:=Ae.drew;have HQ:Hid (Ad W.drew W.drew.1.size v b):=Ad.ah (Ad.A B j.drew) j.size;have HM:Hid (∀X,Zz W X->Ad X X.1.size u a):=λX z=>Ad.ah (Ad.A A (j.ag (z.ah j.size))) (j.ag (z.ah j.size)).size;have z:=Yw k;clear k B A l;delta D4;go_in;go_upto_region 1 with fail;rw[<-z.o];clear z;go_region_held3 (λX=>eh X (Zd (w.1.size) 0)=ai (Zg q)/\eh X (Zd (w.1.size) 1)=ai (Cw v b H)/\eh X (Zd (w.1.size) 2)=ai (Cw u a I)/\eh X (Zd (w.1.size) 3)=ai (Zg i)/\eh X (Zd (w.1.size) 4)=ai (Zg h)/\eh X (Zd (w.1.size) 5)=ai (Zg r))
  (first|with_reducible exact S0|with_reducible exact X|with_reducible exact S2|with_reducible exact S3 _)
  (first
    |(go_at_call 97;refine(Kb q i h r H I HQ (HM _ V) hf).ah ?_;rintro e w1 ⟨x,s,y,t,m,rfl,M,C,N,B,A⟩;have J:bg W.1.size W w1:=V.ag (A.ah V.size);have X:=ZJ (BM.A Y J);have R:=HM _ J;have c:=Yw (Zn M (Zn N (Zn C (Zn B A))));clear M N C B A)
    |(go_at_call 112;refine(Jd q i h r v u (ed b) H I a w1 R (C8 hf.m)).ah ?_;rintro e l ⟨p,P,f,rfl,O,E,L,k⟩;have F:bg W.1.size W l:=J.ag (k.ah J.size);have S2:=ZJ (BM.A Y F);have S3:∀o,_:=λo=>ZJ (w:=l.alloc o) (BM.A Y (F.alloc F.size o));have n:=Yw (Zn O (Zn E (Zn L k)));clear O E L k))
 obtain⟨⟨M,N,C,B,A⟩,⟨O,E,L,k⟩,G,z⟩:=c.o,n.o,Du l #[Yy d,Zg q,Cw x b s,Cw y a t,Zg i,Zg h,Zg r,.map (ai p),Zb] 139;have K:bg l.1.size l G:=by rw[z];exact Zy
 have o:Aa G l.1.size (GY d q (Cw x b s) (Cw y a t) i h r p Zb):=by rw[z];exact Aa.new l _ _
 have U:w.1.size<=W.drew.1.size:=j.size;have z12:=k.size;have lm:=E.lt;have T:KK G l.1.size:=by rw[z];exact⟨_,_,heap_alloc_new l _⟩
 have Z:=Ah.own M;have Q:=Ah.own N;have S:Is l.1.size p (Aj (Cw x b s)) (Aj (Cw y a t)) an:=by
  refine⟨Yv,λg D=> ?_,λg D=> ?_,λg e=>by cases e⟩
  .have h1:=Z.S D;exact⟨Yv,Yv,λe=>by have h2:=Q.S e;have h3:=C g D;omega,λe=>by cases e⟩
  have h1:=Q.S D;exact⟨Yv,Yv,λe=>by cases e⟩
 have HE:Hid (Zz w G):=(j.ag (F.ah j.size)).ag (K.ah (by have:=j.size;have:=F.size;omega));have D:=Yw (Zn o (Zn (((Z.A k).A K).ah U) (Zn (((Q.A k).A K).ah (Zm U B)) (Zn (E.ak K E.lt) (Zn L (Zn T S))))));have g:w.1.size<=l.1.size:=by have:=j.size;have:=F.size;omega
 have zA:w.1.size<=p:=by have:=j.size;have:=J.size;omega
 rw[<-z];clear z K o M N E L C B A k Z Q S T S0 X S2 S3 lm c n R;go_wp2;go_ret;exact⟨_,x,s,y,t,p,_,P,f,rfl,D.1,D.2.1,D.2.2.1,D.2.2.2.1,D.2.2.2.2.1,Zx,D.2.2.2.2.2.1,D.2.2.2.2.2.2,g,zA,HE⟩
open Classical in
theorem Ru(wd Q n f:Int){a:Zk}(sc:Nat)(P L:Dg){m:C5}(s:Zi)(d t r B:Int)(g h T N:Nat){c:Zl}(l:BH w w.1.size a m)(zO:ed m<=1048576)(C:Ad w w.1.size (ai ⟨g,0,an⟩) b)(A:Ad w w.1.size (ai ⟨h,0,an⟩) c)(hf:GM b c)(yL:ed b<=23200):
 D4 103 #[ca #[Zg wd,Zg Q,Zg n,Zg f,Cx a (ed m) sc,P,L],ca (Yb d (ai ⟨g,0,an⟩) (ed b) T (ai ⟨h,0,an⟩) (ed c) N t r B),C0 s] w λe i=>∃x D y z,e=C1 (ca (Yb d (ai ⟨x,0,an⟩) (ed (shQ d m b c s)) D (ai ⟨y,0,an⟩) (ed c) z t r B))/\
  ej i w.1.size 9 1 (Yz x (ed (shQ d m b c s)) D) (ed (shQ d m b c s)) ((shQ d m b c s).map string)/\ej i w.1.size 9 1 (Yz y (ed c) z) (ed c) (c.map string)/\x≠y/\Zz w i:=by
 obtain⟨⟨i0,hi,zV,zW,zX⟩,yJ,zK,W,q⟩:=info_parts CQ,hf.q,hf.m,Ag (((w.alloc (bs #[Zg wd,Zg Q,Zg n,Zg f,Cw a m sc,P,L] 30)).alloc (bs (Yb d (ai ⟨g,0,an⟩) (ed b) T (ai ⟨h,0,an⟩) (ed c) N t r B) 32)).alloc (bs Xv 32));have X:bg w.1.size w W:=gB;have F:BM W (w.1.size+1+1) 0 Zb Zb 0 0 0:=by rw[q];exact⟨by simp[go_sem],by simp[go_sem],by simp[go_sem],by simp[go_sem],by simp[go_sem],by simp[go_sem],Yu⟩
 have E:BM W (w.1.size+1) d (C2 g b T) (C2 h c N) t r B:=by rw[q];exact⟨by simp[go_sem],by simp[go_sem],by simp[go_sem],by simp[go_sem],by simp[go_sem],by simp[go_sem],Ym⟩
 have x0:BA W w.1.size wd Q n f (Cw a m sc) P L:=by rw[q];exact⟨by simp[go_sem],by simp[go_sem],by simp[go_sem],by simp[go_sem],by simp[go_sem],by simp[go_sem],by simp[go_sem],Ym⟩
 have G:∀o,ei W ⟨w.1.size+1+1,o,an⟩=ba:=λo=>by rw[q];simp[go_sem]
 have yN:W.1.size=w.1.size+3:=gB;obtain⟨HW,M,j,zF,J,i⟩:=Yw q,Yw (Zn C A),Yw l,Yw E,Yw F,Yw X;clear q C A l E F;have⟨a0,a1,a2,a3,a4,a5,k⟩:=zF.o;obtain⟨l,q,A,C,E,F,H,I⟩:=x0;have yG:bg W.1.size W W:=gB;delta D4;go_in;go_upto_region 1 with fail;rw[<-HW.o];by_cases p0:d=0
 case' pos=>
  have HN:Hid (shQ d m b c s=b):=FE (.inl p0);have zZ:(d==0)=ay:=Yt;clear l q A C E F H I p0;obtain⟨E,rfl⟩:=Ag W
 case' neg=>
  have zZ:(d==0)=ba:=Yt;go_wp2_with fail;refine(FK wd Q n f sc P L s (BH.A j X) X.size zO).ah ?_;rintro e E ⟨rfl,K⟩;obtain⟨zB,H,zC⟩:=Yw (i.ag (K.ah i.size)),Yw (BM.A zF K),Yw (BM.A J K);have zG:∀o,ei E ⟨w.1.size+1+1,o,an⟩=ba:=λo=>(K.frozen (p:=⟨w.1.size+1+1,o,an⟩) Ym).ag (G o);obtain⟨yM,i,J⟩:=K.size,Yw zB.o,Yw zC.o;have G:=zG;have⟨a0,a1,a2,a3,a4,a5,k⟩:=H.o;rcases Fz m s with⟨Y,zS⟩|⟨fi,fu,Y,zN,zM⟩
  case' inl=>
   have HN:Hid (shQ d m b c s=b):=FE (ct (.inl zS));rw[Y]
  case' inr=>
   have l:As m s:=⟨fu,Zs zN,zM⟩;rw[Y];have yD:bq ((fi:Int)<0)=ba:=Yu;have HC:=Yw (Nh N s (Ad.U (w:=w) M.2 i) zK);go_wp2_with fail;refine HC.Ak ?_;rintro e w9 ⟨rfl,zU⟩;rw[zU];by_cases hin:s∈c
   case' pos=>
    have HN:Hid (shQ d m b c s=b):=FE (ct (ct (.inl hin)));have I:c.any (λx=>decide (x=s))=ay:=Yt;rw[I]
   case' neg=>
    have I:c.any (λx=>decide (x=s))=ba:=gG;rw[I];by_cases p1:ed b=23200
    case' pos=>
     have HN:Hid (shQ d m b c s=b):=FE (ct (ct (ct p1)));have yA:bq ((23200:Int)<=(ed b:Int))=ay:=Yt;clear p1
    case' neg=>
     have yA:bq ((23200:Int)<=(ed b:Int))=ba:=Yt;have HN:Hid (shQ d m b c s=b++[s]):=Nx p0 l hin p1;clear l hin;go_wp2_with fail;refine(LC d t r B g h T N (Ad.U M.1 i) (Ad.U M.2 i) hf).ah ?_;rintro e F ⟨x,D,y,z,rfl,R,S,zA,A⟩;obtain⟨lx,ly,zE,q,U⟩:=R.lt x rfl,S.lt y rfl,A.size,Du F (Yb d (ai ⟨x,0,an⟩) (ed b) D (ai ⟨y,0,an⟩) (ed c) z t r B) 32;have O:bg F.1.size F q:=gB;have l:=A.ag (O.ah zE);have C:Hid (ej q (w.1.size+3) 9 1 (C2 x b D) (ed b) (b.map string)/\ej q (w.1.size+3) 9 1 (C2 y c z) (ed c) (c.map string)/\x≠y/\Zz w q):=⟨(DF R O).ah Yv,(DF S O).ah Yv,zA,i.ag (l.ah i.size)⟩;have H8:Hid (BM q F.1.size d (C2 x b D) (C2 y c z) t r B):=(by show BM q F.1.size d (C2 x b D) (C2 y c z) t r B;rw[U];exact BM.new _ _ _ _ _ _ _ _);have H2:=Yw (BM.A J l);have Z:∀o,ei q ⟨w.1.size+1+1,o,an⟩=ba:=λo=>(l.frozen (p:=⟨w.1.size+1+1,o,an⟩) Ym).ag (G o);have f8:∀o,ei q ⟨F.1.size,o,an⟩=ba:=λo=>by rw[U];simp[go_sem]
     have u:q.1.size=F.1.size+1:=gB;go_upto_region 4 with fail;rw[<-U];clear U O R S A l G H J i M j a0 a1 a2 a3 a4 a5 k;have G:=Z;clear Z;generalize F.1.size=b7 at *
     have yH:w.1.size+3<=b7:=Yv;have yI:b7<q.1.size:=Yv
     clear u;have⟨c0,c1,c2,c3,c4,c5,c6⟩:=H8.o;have⟨d0,d1,d2,d3,d4,d5,d6⟩:=H2.o;go_wp2_with (first
      |(at_builtin;refine wpList_append_lies _ rfl _ _ 23 rfl (w.1.size+3) 9 i0 Zc 1 16 underlying23 hi zV zW zX rfl Yq _ (ed b) (b.map string) rfl ?d0 ⟨q.1.size,0,an⟩ 1 1 [C0 s] rfl rfl ?d1 ?d2 Yq ?d3 ?d4 ?d5 _ rfl ?_)
      |go_in)
     case d0=>exact C.1.alloc _
     case d1=>exact cell_one_new q (C0 s) 9
     case d2=>intro u hu;simp at hu;subst hu;rfl
     case d3=>unfold maxLen;omega
     case d4=>omega
     case d5=>simp;omega
     intro k U O zT Z V yC;have H:bg q.1.size q (q.alloc (bs #[C0 s] 9)):=gB;have zY:=Z.size;simp[ownBlock]at zY V;have l:(q.alloc (bs #[C0 s] 9)).grownBy O (ai x):=(by simpa [ownBlock]using Z);have r7:=(BM.A H8 H).grown l Yv;have r2:=(BM.A H2 H).grown l Yv;have yE:∀o,ei O ⟨b7,o,an⟩=ba:=λo=>(l.frozen_far ⟨b7,o,an⟩ Ym Ym).ag ((H.frozen (p:=⟨b7,o,an⟩) Ym).ag (f8 o));have zG:∀o,ei O ⟨w.1.size+1+1,o,an⟩=ba:=λo=>(l.frozen_far ⟨w.1.size+1+1,o,an⟩ Ym Ym).ag ((H.frozen (p:=⟨w.1.size+1+1,o,an⟩) Ym).ag (G o));have zJ:ej O (w.1.size+3) 9 1 (C2 y c z) (ed c) (c.map string):=(C.2.1.alloc _).kept l (ct D7);have zH:bg w.1.size w O:=(C.2.2.2.ag (H.ah C.2.2.2.size)).grown l Yt (λj j=>by cases j;omega);have zP:k≠y:=Yv;have yK:¬k=b7:=Yv;have yF:¬b7=w.1.size+1+1:=Yv;have yB:¬w.1.size+1+1=b7:=Yv;have zI:ej O (w.1.size+3) 9 1 (Yz k (ed b+1) U) (ed b+1) ((b++[s]).map string):=gB;have j:=Yw (Zn zI (Zn zJ (Zn zP zH)));obtain⟨c0,c1,c2,c3,c4,c5,c6⟩:=r7;obtain⟨d0,d1,d2,d3,d4,d5,d6⟩:=r2;clear zT zI zJ Z l zH H f8 G H8 H2 C;go_wp2;refine Co (ca (Yb d (ai ⟨k,0,an⟩) (ed b+1) U (ai ⟨y,0,an⟩) (ed c) z t r B)) (by simp[results,results103,go_sem,d0,d1,d2,d3,d4,d5]) ?_;rw[HN.o];refine⟨k,U,y,z,Yu,?_,?_,j.2.2.1,?_⟩
     .rw[show ed (b++[s])=ed b+1 by simp];refine ownsRow.ah ?_ (show w.1.size<=w.1.size+3 by omega)
      iterate 6 (refine ownsRow_setCell_below ?_ Yu _)
      refine ownsRow_setCell_other ?_ D7 _;exact j.1
     .refine ownsRow.ah ?_ (show w.1.size<=w.1.size+3 by omega)
      iterate 6 (refine ownsRow_setCell_below ?_ Yu _)
      refine ownsRow_setCell_other ?_ D7 _;exact j.2.1
     iterate 7 (refine Below.setCell ?_ Ym _)
     exact j.2.2.2
 all_goals
  go_wp2_with fail;refine(LC d t r B g h T N (Ad.U M.1 i) (Ad.U M.2 i) hf).ah ?_;rintro e F ⟨x,D,y,z,rfl,R,S,zA,A⟩;obtain⟨C,d0,d1,d2,d3,d4,d5,d6⟩:=Yw (Zn (R.ah (show w.1.size+3<=E.1.size by omega)) (Zn (S.ah (show w.1.size+3<=E.1.size by omega)) (Zn zA (i.ag (A.ah i.size))))),BM.A J A;have l:∀o,ei F ⟨w.1.size+1+1,o,an⟩=ba:=λo=>(A.frozen (p:=⟨w.1.size+1+1,o,an⟩) Ym).ag (G o);clear R S A a0 a1 a2 a3 a4 a5 G;go_wp2;refine Co (ca (Yb d (ai ⟨x,0,an⟩) (ed b) D (ai ⟨y,0,an⟩) (ed c) z t r B)) (by simp[results,results103,go_sem,d0,d1,d2,d3,d4,d5]) ?_;rw[HN.o];refine⟨x,D,y,z,rfl,?_,?_,C.2.2.1,?_⟩
  .refine ownsRow.ah ?_ (show w.1.size<=w.1.size+3 by omega)
   iterate 6 (refine ownsRow_setCell_below ?_ Yu _)
   exact C.1
  .refine ownsRow.ah ?_ (show w.1.size<=w.1.size+3 by omega)
   iterate 6 (refine ownsRow_setCell_below ?_ Yu _)
   exact C.2.1
  iterate 6 (refine Below.setCell ?_ Ym _)
  exact C.2.2.2
theorem Kc{i B c d m:Nat}{O P L:Dg}{F C f a:Int}{j:List Kd}{A:List Pd}{z:List Ld}{V H r Y:Int}{Q M D:Dg}{N:Nat}{qs l G:Zl}{w:Zh}(h:CM w i B c d m O P L F C f a j A z V H r Y Q M D N qs l l G)(S:Dv F j)(zS:∀k∈j,1<=k.born)(hp:ed A<=100)(hl:ed z<=200)(yB:∀x∈l,(x.size:Int)=F)(yJ:ed G<=1000):
 D4 118 #[ea (ai ⟨c,0,an⟩)] w λe p=>BX B (vB d m O P L) w p/\
  ((e=.returned (ec ba)/\(∀y∈j,¬y.born<r)/\CM p i B c d m O P L F C f a j A z V H r Y Q M D N qs l l G)\/
   (e=.returned (ec ay)/\∃u,Hj j r u/\(((u.sum∈l\/Dw A z j u.sum)/\CM p i B c d m O P L F C f a j A z V H u.born Y Q M D N qs l l G)\/(u.sum∉l/\¬Dw A z j u.sum/\∃U,ef U=ef O/\∃q,CM p i B c d m U P L F C f a (Ch j u.sum) A z V H u.born Y Q M q N qs l l (G++[u.sum]))))):=by
 obtain⟨Da,Dc,rfl,_⟩:=h.dd.row;have HS:Hid (∀X,Zz w X->eh X ⟨c,0,an⟩=ai (ea (ai ⟨d,0,an⟩))/\eh X ⟨c,5,an⟩=ai (.int .i64 r)):=λX s=>⟨((h.box.A s) 0 _ rfl).1,((h.box.A s) 5 _ rfl).1⟩;have K:Hid (∀X,Zz w X->D4 113 #[ea (ai ⟨d,0,an⟩),.int .i64 r] X λe p=>∃u I J,e=.returned (.tuple #[CG u I J,ec (bq (0<u.born))])/\YB j r u I J/\Zz X p):=λX s=>Ks r (h.R.A s) S.nd S.sz S.len zS;have n:Hid (CM w i B c d m O P L F C f a j A z V H r Y Q M (bx Da (ed G) Dc) N qs l l G):=h;have T:bg w.1.size w w.drew:=Ae.drew;have q:∀o,Zz w (w.alloc o).drew:=λo=>(Zy).drew;have yI:=h.box.lt;have yK:∀(k:Int) (X:Zh),(Instr.field 81 (ca #[.int .i64 k,.int .i64 0,.int .i64 0,.int .i64 0,.int .i64 0,bx an 0 0,bx an 0 0,bx an 0 0,.string ⟨#[]⟩,.int .i64 0,.string ⟨#[]⟩,.string ⟨#[]⟩]) 0).run prog X=.ok (.int .i64 k) X:=λ_ _=>by first|rfl|kernel_rfl
 clear h;unfold CG at K;delta D4;go_in;go_upto_region 1 with fail;go_cut [3,4] (λv t R=>∃(E:Nat) (u:Kd) (I:Zk) (J:Nat),v=ea (ai ⟨E,0,an⟩)/\t=ec (bq (0<u.born))/\Hid (Aa R E [.string u.sum,.int .i64 u.born,.string u.Q,bx I (ed u.C) J]/\YB j r u I J/\Zz w R/\w.1.size<=E))
 case first=>
  go_region_held3 (λX=>eh X ⟨c,0,an⟩=ai (ea (ai ⟨d,0,an⟩))/\eh X ⟨c,5,an⟩=ai (.int .i64 r))
   (first|with_reducible exact HS.o _ T|with_reducible exact HS.o _ (q _)|with_reducible exact HS.o _ B2|with_reducible exact HS.o _ (zI _)|with_reducible exact HS.o _ (zJ _ _ _ _))
   (first
     |(go_at_call 113;refine Calls.mono (K _ T) ?_;rintro e w2 ⟨u,I,J,rfl,hY,zA⟩;have B2:bg w.1.size w w2:=T.ag (zA.ah T.size);have zI:∀o,Zz w (w2.alloc o):=λo=>B2.alloc B2.size o)
     |(go_at_call 113;refine Calls.mono (K _ (q _)) ?_;rintro e w2 ⟨u,I,J,rfl,hY,zA⟩;have B2:bg w.1.size w w2:=(q _).ag (zA.ah (q _).size);have n0:Aa w2 w.1.size NU:=Aa.A (v:=.string ⟨#[]⟩) (Aa.new w NU 50) (CA zA);have zJ:∀v0 R Z g,Zz w (el (el (el (el w2 ⟨w.1.size,0,an⟩ v0) ⟨w.1.size,1,an⟩ R) ⟨w.1.size,2,an⟩ Z) ⟨w.1.size,3,an⟩ g):=λ_ _ _ _=>(((B2.setCell Kg _).setCell Kg _).setCell Kg _).setCell Kg _;obtain⟨m0,k⟩:=n0 0 _ rfl;obtain⟨m1,k1⟩:=n0 1 _ rfl;obtain⟨m2,k2⟩:=n0 2 _ rfl;obtain⟨m3,k3⟩:=n0 3 _ rfl))
  all_goals
   go_wp2_with fail;go_meet
   first
    |exact⟨_,u,I,J,rfl,rfl,⟨(((n0.set 0 _).set 1 _).set 2 _).set 3 _,hY,zJ _ _ _ _,Zx⟩⟩
    |exact⟨_,u,I,J,rfl,rfl,⟨Aa.new w2 _ _,hY,zI _,B2.size⟩⟩
 revert wc;intro w3 hcut;obtain⟨E,u,I,J,rfl,rfl,g⟩:=hcut;clear HS K T q;have t:=g.2.2.1;have K:Hid (CM w3 i B c d m O P L F C f a j A z V H r Y Q M (bx Da (ed G) Dc) N qs l l G):=n.A t;have dm:=n.lo;have zY:¬E=c:=C8 g.2.2.2;have yH:¬c=E:=λe=>zY e.symm;have yA:=n.bc;have zO:Hid (E∉vB d m O P L):=λe=>by have:=n.R.dj E e;have:=g.2.2.2;omega
 have yG:=n.bB;rcases g.2.1 with⟨h,_,_,R⟩|⟨h,Z,q⟩
 .have hd:bq (0<u.born)=ba:=by rw[h];rfl
  have x:Hid (∀y∈j,¬y.born<r):=R;clear R h;go_wp2;go_ret;exact⟨BX.of (t.ah dm),.inl ⟨rfl,x,K⟩⟩
 have hd:bq (0<u.born)=ay:=by have:=zS u h;simp;omega
 have zE:Hid (Hj j r u):=⟨h,Z,q⟩;have yC:=S.sz u h;have h8:=S.w8;clear Z q;obtain⟨⟨k,_⟩,⟨k1,_⟩,⟨q5,f5⟩,W,y⟩:=g.1 0 _ rfl,g.1 1 _ rfl,K.box 5 _ rfl,Ag (el w3 ⟨c,5,an⟩ (.int .i64 u.born));have q:Hid (CM W i B c d m O P L F C f a j A z V H u.born Y Q M (bx Da (ed G) Dc) N qs l l G):=by show CM _ _ _ _ _ _ _ _ _ _ _ _ _ _ _ _ _ _ _ _ _ _ _ _ _ _ _ _;rw[y];exact K.put 5 _ rfl K.q K.mr K.dd K.ap
 have o:Hid (Aa W E [.string u.sum,.int .i64 u.born,.string u.Q,bx I (ed u.C) J]):=Aa.same g.1 (by rw[y];exact Below.heap_setCell _ _ _ _ zY);have bW:bg B w W:=by rw[y];exact(t.ah dm).setCell (C9 yA) _
 have HW:Hid _:=y;have⟨nk,cc,fk,R,v,_⟩:=q.gp;have Z:Hid (∀X,Zz W X->D4 114 #[ea (ai ⟨c,0,an⟩),.string u.sum] X λe p=>Au (u.sum∈l) X p e):=λX s=>
  Gg d V H u.born Y Q M (bx Da (ed G) Dc) fk F u.sum (q.box.A s) (R.ak s R.lt) v yB yC h8
 have zG:As j u.sum:=⟨u,h,rfl⟩;have zM:Hid _:=zG;clear y R v n K g t h;go_upto_region 5 with fail;rw[<-HW.o];clear HW k1 q5 f5 k;obtain⟨⟨k,_⟩,⟨g,_⟩,zB,zV⟩:=o 0 _ rfl,q.box 0 _ rfl,Aa.lt o,q.box.lt;by_cases hmk:u.sum∈l
 .have y:Hid (u.sum∈l):=hmk;have h:Hid (∀n:AA W,D4 114 #[ea (ai ⟨c,0,an⟩),.string u.sum] n.w λe p=>e=.returned (ec ay)/\bg n.w.1.size n.w p):=λn=>(Z _ n.h).ah (λe p ⟨b,he,hb,hbb⟩=>⟨by rw[he,hb.2 y.o],hbb⟩);have qk:=AA.cell k zB;have K:=AA.ne W;clear hmk k g Z;refine AN I3 I3 ?_
  repeat (go_big_quiet_step (first|exact AA.calls (h _)))
  refine wpQuiet_nil ?_;intro n;clear qk K h;go_wp2;go_ret;exact⟨BX.of (bW.ag (n.h.ah q.lo)),ct ⟨rfl,u,zE,.inl ⟨.inl y,q.A n.h⟩⟩⟩
 have y:Hid (u.sum∉l):=hmk;by_cases hin:Dw A z j u.sum
 .have t:Hid (Dw A z j u.sum):=hin;have h:Hid (∀n:AA W,D4 114 #[ea (ai ⟨c,0,an⟩),.string u.sum] n.w λe p=>e=.returned (ec ba)/\bg n.w.1.size n.w p):=λn=>(Z _ n.h).ah (λe p ⟨b,he,hb,hbb⟩=>⟨by
   cases b with
   |true=>exact absurd (hb.1 rfl) y
   |false=>exact he,hbb⟩)
  have x:Hid (∀n:AA W,D4 90 #[ea (ai ⟨d,0,an⟩),ca #[.int .i64 7,.string u.sum,.string ⟨#[]⟩,.int .i64 0,.string ⟨#[]⟩,bx an 0 0]] n.w λe p=>e=.returned (ca #[.int .i64 6,.int .i64 0,.int .i64 0,.int .i64 0,.int .i64 0,bx an 0 0,bx an 0 0,bx an 0 0,.string ⟨#[]⟩,.int .i64 0,.string ⟨#[]⟩,.string ⟨#[]⟩])/\bg n.w.1.size n.w p):=λn=>LR (q.R.A n.h) S hp hl zM t;obtain⟨qk,q0,K⟩:=AA.cell k zB,AA.cell g zV,AA.ne W;clear hmk hin k g Z zG;refine AN I3 I3 ?_
  repeat (go_big_quiet_step (first|exact AA.calls (h _)|exact AA.calls (x _)))
  refine wpQuiet_nil ?_;intro n;clear qk q0 K h x;go_wp2;go_ret;exact⟨BX.of (bW.ag (n.h.ah q.lo)),ct ⟨rfl,u,zE,.inl ⟨ct t,q.A n.h⟩⟩⟩
 have t:Hid (¬Dw A z j u.sum):=hin;have h:Hid (∀X,Zz W X->D4 114 #[ea (ai ⟨c,0,an⟩),.string u.sum] X λe p=>e=.returned (ec ba)/\Zz X p):=λX s=>(Z _ s).ah (λe p ⟨b,he,hb,hbb⟩=>⟨by
  cases b with
  |true=>exact absurd (hb.1 rfl) y
  |false=>exact he,hbb⟩)
 have x:Hid (∀X,Zz W X->D4 90 #[ea (ai ⟨d,0,an⟩),ca #[.int .i64 7,.string u.sum,.string ⟨#[]⟩,.int .i64 0,.string ⟨#[]⟩,bx an 0 0]] X λe p=>e=.returned (ca #[.int .i64 0,.int .i64 0,.int .i64 0,.int .i64 0,.int .i64 0,bx an 0 0,bx an 0 0,bx an 0 0,.string ⟨#[]⟩,.int .i64 0,.string ⟨#[]⟩,.string ⟨#[]⟩])/\∃U,Dr p i d m U P L F C f a (Ch j u.sum) A z/\ef U=ef O/\Tn (vB d m O P L) X p/\YV X p i d m O U P L F a j u.sum):=λX s=>Mw (q.R.A s) S hp hl zM t;have zN:Hid (c∉vB d m O P L):=λe=>C8 (q.db.1 c e);have zC:Hid (∀X,Zz W X->eh X ⟨c,0,an⟩=ai (ea (ai ⟨d,0,an⟩))/\eh X ⟨E,0,an⟩=ai (.string u.sum)):=λX s=>⟨((q.box.A s) 0 _ rfl).1,((Aa.A o s) 0 _ rfl).1⟩;have zK:Hid (∀X p,Zz W X->Tn (vB d m O P L) X p->eh p ⟨c,0,an⟩=ai (ea (ai ⟨d,0,an⟩))/\eh p ⟨E,0,an⟩=ai (.string u.sum)):=λX p s hT=>
  ⟨(Aa.same (q.box.A s) (hT.block c (Zr zV s.size) (λe=>zN e)) 0 _ rfl).1,(Aa.same (Aa.A o s) (hT.block E (Zr zB s.size) zO) 0 _ rfl).1⟩
 have T:bg W.1.size W W.drew:=Ae.drew;clear hmk hin k g Z zG;go_region_held3 (λX=>eh X ⟨c,0,an⟩=ai (ea (ai ⟨d,0,an⟩))/\eh X ⟨E,0,an⟩=ai (.string u.sum))
  (first|with_reducible exact zC.o _ T|with_reducible exact zC.o _ K|with_reducible exact zK.o _ _ K s)
  (first
    |(go_at_call 114;refine Calls.mono (h _ T) ?_;rintro e w6 ⟨rfl,zT⟩;have K:bg W.1.size W w6:=T.ag (zT.ah T.size))
    |(go_at_call 90;refine Calls.mono (x _ K) ?_;rintro e X ⟨rfl,U,zW,zF,s,zX⟩))
 all_goals
  obtain⟨zH,yL,yM,p⟩:=q.lo,K.size,s.size,q.A K;have Z:∀g,B<=g->g∉vB d m O P L:=λg k e=>C8 (q.db.1 g e);have yD:vB d m U P L=vB d m O P L:=by unfold vB;rw[zF]
  have zU:X.1[c]?=w6.1[c]?:=s.block c p.box.lt zN;have⟨nk,cc,fk,R,v⟩:=p.gp;have h7:CM X i B c d m U P L F C f a (Ch j u.sum) A z V H u.born Y Q M (bx Da (ed G) Dc) N qs l l G:=⟨zW,zX B Lh p.db,Aa.same p.box zU,p.q.O s (λg k=>Z g (p.q.S k).1),p.mr.O s (λg k=>Z g (p.mr.S k).1),p.dd.O s (λg k=>Z g (p.dd.S k).1),⟨nk,cc,fk,R.S (s.block N R.lt (Z N p.bm)),v⟩,p.ap,p.bc,p.bm,p.bB⟩;have y7:Aa X E [.string u.sum,.int .i64 u.born,.string u.Q,bx I (ed u.C) J]:=Aa.same (Aa.A o K) (s.block E (Zr zB K.size) zO);have g:BX B (vB d m O P L) w X:=(BX.of (bW.ag (K.ah zH))).ag (BX.tn s Lh);obtain⟨va,vc,w8,hr,x8,g8,zP,_,k⟩:=(h7.A Ae.drew).pushD u.sum Lh;have zZ:Hid _:=zF;have HE:Hid _:=Zn zP (g.ag (BX.of (Ae.drew.ag k)));obtain⟨⟨yN,_⟩,yO,_⟩:=h7.box 8 _ rfl,y7 0 _ rfl;have yE:c<X.1.size:=h7.box.lt;have yF:E<X.1.size:=y7.lt;clear zW zF s zX yD g y7 zU zC zK x h K zT p h7 zP k R v Z;go_upto_region 6 with fail
  go_region_law (first
   |(refine CK (by rfl) (.tmp 47) (.tmp 50) 23 23 (by rfl) (by rfl) (by rfl) hr ?_))
  all_goals
   clear hr;go_wp2;go_ret;exact⟨HE.2,ct ⟨rfl,u,zE,ct ⟨y,t,_,zZ,_,HE.1⟩⟩⟩
theorem CM.nil{e:Nat}{u g b:Int}{k:C5}{r:C7}{l:C6}{q:Int}{n:Nat}{p j:Zl}(h:CM w e B c d m O P L u g b a k r l q i f t Q M D n s o p j):CM w e B c d m O P L u g b a k r l q i f t Q M D n s o p (j++[]):=by rw[append_nil];exact h
theorem CM.ik{o:Zh}{j:Nat}{y:Int}{u:C5}{x:C7}{v:C6}{K A r:Int}{k:Nat}{N I J:Zl}(h:CM w j B c d m O P L y p i a u x v K A z r Q M D H N I J s)(F:Aa o c (GY d 0 Zb Zb 0 0 (r+1) k D))(q:Tn [c] w o)(S:w.1.size<=k)(G:∃l f,AW o 160 k 0 l f/\MK [] f l):CM o j B c d m O P L y p i a u x v 0 0 0 (r+1) Zb Zb D k [] [] [] s:=by
 obtain⟨l,f,C,E⟩:=G;have t:∀b∈[c],B<=b:=by simp;exact h.bc
 have R:=h.box.lt;have dm:=h.lo;exact⟨h.R.gd h.db q t,h.db.O q t,F,Ah.nil _ _,Ah.nil _ _,h.dd.O q (λg n e=>(h.ap.s g n).1 (C9 e)),⟨0,l,f,C,E,Zx⟩,⟨by omega,(λg e=>by cases e),(λg e=>by cases e),λg n=>⟨(h.ap.s g n).1,C8 (h.dd.S n).2⟩⟩,h.bc,by omega,h.bB⟩
theorem XR{i:Nat}{J b:Int}{x:C5}{C:C7}{A:C6}{ph n:Int}{F:Zl}(h:CM w i B c d m O P L J v b a x C A ph n j z Q M D H qs o o F)(N:UOk J a x C A ph z qs o)(zF:ed F<=1000):
 D4 76 #[Yy c] w λe f=>e=C1 (.tuple #[])/\BX B (vB d m O P L) w f/\∃O',ef O'=ef O/\∃r,UTo x C A a ph n j z qs o r/\∃Q' M' D' zE,CM f i B c d m O' P L J v b a r.B C A r.I r.L r.K r.ro Q' M' D' zE r.F r.ms r.ms (F++r.ds):=by
 obtain⟨HC,g,X,T⟩:=Yw h,Yw N,h.box 1 _ rfl;obtain⟨va,vc,rfl,_⟩:=h.q.row;obtain⟨⟨Y,U⟩,zC,zN,zI⟩:=h.box 2 _ rfl,h.bc,h.bB,N.ql;rcases N.jr with rfl|zG
 .clear h N;delta D4;go_in;go_wp2_with fail;refine(Vx HC g.pl g.ll g.gz g.ie g.ok.w8 g.b0 g.b1).ah ?_;rintro e I ⟨rfl,V,p,q⟩;have f:=Yw (Zn p (BX.of (V:=vB d m O P L) q));clear p q X Y T U;go_wp2;go_end0;exact⟨rfl,f.2,_,rfl,_,.begin rfl,_,_,_,_,f.1.nil⟩
 have E:ph≠0:=by rcases zG with rfl|rfl<;>decide
 have zM:(ph==0)=ba:=C9 E
 cases qs with
 |cons s q0=>
  clear h N;delta D4;go_in;go_wp2_with fail;refine(Pa s q0 HC (λk t=>⟨g.ok.sz k t,(g.C k t).1,(g.C k t).2⟩) g.iq (g.jo s Yu) g.ok.w8 (by simp at zI;omega) g.ml).ah ?_;rintro e I ⟨rfl,Q',M',zK,zJ,p,l,q⟩;have f:=Yw (Zn p (Zn l (BX.of (V:=vB d m O P L) q)));clear p q l X Y T U;go_wp2;go_end0
  exact⟨rfl,f.2.2,_,rfl,_,.mark E s q0 zK zJ rfl f.2.1,_,_,_,_,f.1.nil⟩
 |nil=>
  rcases zG with rfl|rfl
  .obtain⟨W,l⟩:=D2 w c 1 (Zg 2);have zH:Hid (CM W i B c d m O P L J v b a x C A 2 n j z (Cx va 0 vc) M D H [] o o F):=(by show CM _ _ _ _ _ _ _ _ _ _ _ _ _ _ _ _ _ _ _ _ _ _ _ _ _ _ _ _;rw[l];exact h.put 1 _ rfl h.q h.mr h.dd h.ap);have bW:bg B w W:=(by rw[l];exact Ae.setCell (C9 zC) _);have G:=Yw l;clear h N l;delta D4;go_in;go_upto_region 7 with fail;rw[<-G.o];clear G;go_wp2_with fail;refine(Kc zH g.ok g.born g.pl g.ll g.iq zF).ah ?_;rintro e I ⟨q,l⟩;rcases l with⟨rfl,hn,p⟩|⟨rfl,u,S,l⟩
   .have HN:Hid (∀y∈x,¬y.born<j):=hn;have K:=Yw p;have zB:Hid (BX B (vB d m O P L) w I):=(BX.of bW).ag q;clear hn p X Y T U;go_wp2_with fail;refine(Qx d 2 n j z (Cx va 0 vc) M D H K.box g.r0 g.r1).ah ?_;rintro e w2 ⟨rfl,zE,k,R,zA,r⟩;have Z:BX B (vB d m O P L) w w2:=zB.ag (BX.of (R.A K.lo (by simp;exact zC)));have f:=Yw (Zn (K.ik k R zA r) Z);clear Z k R zA r;go_wp2;go_end0;exact⟨rfl,f.2,_,rfl,_,.rest E rfl (λy hy=>Int.not_lt.2 (HN y hy)),_,_,_,_,f.1.nil⟩
   have HB:Hid (BX B (vB d m O P L) w I):=(BX.of bW).ag q;rcases l with⟨t,G⟩|⟨hm,t,O',hO,D',G⟩
   .have f:=Yw (Zn G (Zn S t));clear G S t X Y T U;go_wp2;go_end0;exact⟨rfl,HB,_,rfl,_,.ak E rfl u f.2.1 f.2.2,_,_,_,_,f.1.nil⟩
   have f:=Yw (Zn G (Zn S (Zn hm t)));clear G S t hm X Y T U;go_wp2;go_end0;exact⟨rfl,HB,_,hO,_,.drop E rfl u f.2.1 f.2.2.1 f.2.2.2,_,_,_,_,f.1⟩
  clear h N;delta D4;go_in;go_wp2_with fail;refine(Kc HC g.ok g.born g.pl g.ll g.iq zF).ah ?_;rintro e I ⟨q,l⟩;rcases l with⟨rfl,hn,p⟩|⟨rfl,u,S,l⟩
  .have HN:Hid (∀y∈x,¬y.born<j):=hn;have K:=Yw p;have zB:Hid (BX B (vB d m O P L) w I):=q;clear hn p X Y T U;go_wp2_with fail;refine(Qx d 2 n j z (Cx va 0 vc) M D H K.box g.r0 g.r1).ah ?_;rintro e w2 ⟨rfl,zE,k,R,zA,r⟩;have Z:BX B (vB d m O P L) w w2:=zB.ag (BX.of (R.A K.lo (by simp;exact zC)));have f:=Yw (Zn (K.ik k R zA r) Z);clear Z k R zA r;go_wp2;go_end0;exact⟨rfl,f.2,_,rfl,_,.rest E rfl (λy hy=>Int.not_lt.2 (HN y hy)),_,_,_,_,f.1.nil⟩
  have HB:Hid (BX B (vB d m O P L) w I):=q;rcases l with⟨t,G⟩|⟨hm,t,O',hO,D',G⟩
  .have f:=Yw (Zn G (Zn S t));clear G S t X Y T U;go_wp2;go_end0;exact⟨rfl,HB,_,rfl,_,.ak E rfl u f.2.1 f.2.2,_,_,_,_,f.1.nil⟩
  have f:=Yw (Zn G (Zn S (Zn hm t)));clear G S t hm X Y T U;go_wp2;go_end0;exact⟨rfl,HB,_,hO,_,.drop E rfl u f.2.1 f.2.2.1 f.2.2.2,_,_,_,_,f.1⟩
def WD(ks:List Kd)(ps:List Pd)(ls:List Ld)(ph at_:Int)(qs ms:Zl):Prop:=ph≠0/\qs=[]/\∃u,Hj ks at_ u/\u.sum∉ms/\¬Dw ps ls ks u.sum
theorem Pe(d:Nat)(n j f q:Int)(o k:Zk)(p l:Nat)(D:Dg)(m:Nat)(b a:Zl)(h:Aa w c (GY d n (Cx o (ed b) p) (Cx k (ed a) l) j f q m D)):
 D4 77 #[Yy c] w λe g=>e=C1 (ec (bq (23200<ed b\/600<ed a)))/\g=w:=by
 obtain⟨⟨r,_⟩,s,_⟩:=h 2 _ rfl,h 3 _ rfl;by_cases h1:23200<ed b
 .have g:(23200:Int)<ed b:=Yv;rw[decide_eq_true (.inl h1)];delta D4;go_in;go_wp2;go_ret;exact⟨rfl,rfl⟩
 have g:¬(23200:Int)<ed b:=Yv;by_cases h2:600<ed a
 .have i:(600:Int)<ed a:=Yv;rw[decide_eq_true (ct h2)];delta D4;go_in;go_wp2;go_ret;exact⟨rfl,rfl⟩
 have i:¬(600:Int)<ed a:=Yv;rw[decide_eq_false Yv];delta D4;go_in;go_wp2;go_ret;exact⟨rfl,rfl⟩
theorem Pf{A:Nat}{Z zA:Int}{g:C5}{q:C7}{p:C6}{C zF ro:Int}{mm:Nat}{l ds:Zl}(h:CM w A B c d m O P L Z zA j f g q p C zF a ro Q M D mm qs l l ds)(s:Dv Z g)(zJ:∀k∈g,1<=k.born)(hp:ed q<=100)(hl:ed p<=200)(zN:∀x∈l,(x.size:Int)=Z)(zO:∀x∈g,∀y∈g,x.born=y.born->x=y):
 D4 75 #[Yy c] w λe i=>Au (WD g q p C a qs l) w i e:=by
 obtain⟨I,_⟩:=h.box 1 _ rfl;obtain⟨qa,qc,rfl,_⟩:=h.q.row;obtain⟨K,_⟩:=h.box 2 _ rfl;by_cases hp0:C=0
 .have T:¬WD g q p C a qs l:=λh=>h.1 hp0;have R:=Yw T;subst hp0;clear h T;delta D4;go_in;go_wp2;go_ret;exact⟨ba,rfl,⟨(λe=>by cases e),λe=>absurd e R⟩,Ae⟩
 have zS:(C==0)=ba:=C9 hp0;by_cases hq0:qs=[]
 case neg=>
  have T:¬WD g q p C a qs l:=λh=>hq0 h.2.1;have R:=Yw T;have i:(0:Int)<ed qs:=C8 (length_pos_iff.2 hq0);clear h T hq0;delta D4;go_in;go_wp2;go_ret;exact⟨ba,rfl,⟨(λe=>by cases e),λe=>absurd e R⟩,Ae⟩
 subst hq0;have HS:Hid (∀X,Zz w X->eh X (Zd c 0)=ai (Yy d)/\eh X (Zd c 5)=ai (Zg a)):=λX r=>⟨((h.box.A r) 0 _ rfl).1,((h.box.A r) 5 _ rfl).1⟩;have F:Hid (∀X,Zz w X->D4 113 #[Yy d,Zg a] X λe i=>∃u G H,e=C1 (.tuple #[CG u G H,ec (bq (0<u.born))])/\YB g a u G H/\Zz X i):=λX r=>Ks a (h.R.A r) s.nd s.sz s.len zJ;have HC:=Yw h;have r:bg w.1.size w w.drew:=Ae.drew;have z:∀o,Zz w (w.alloc o).drew:=λo=>(Zy).drew;have zT:=h.box.lt;have zK:Hid (C≠0):=hp0;clear h;unfold CG at F;delta D4;go_in;go_upto_region 3 with fail;go_cut [3,4] (λv t E=>∃(kb:Nat) (u:Kd) (G:Zk) (H:Nat),v=Yy kb/\t=ec (bq (0<u.born))/\Hid (Aa E kb [C0 u.sum,Zg u.born,C0 u.Q,Cw G u.C H]/\YB g a u G H/\Zz w E/\w.1.size<=kb))
 case first=>
  go_region_held3 (λX=>eh X (Zd c 0)=ai (Yy d)/\eh X (Zd c 5)=ai (Zg a))
   (first|with_reducible exact HS.o _ r|with_reducible exact HS.o _ (z _)|with_reducible exact HS.o _ k|with_reducible exact HS.o _ (zG _)|with_reducible exact HS.o _ (zH _ _ _ _))
   (first
     |(go_at_call 113;refine Calls.mono (F _ r) ?_;rintro e Y ⟨u,G,H,rfl,hY,t⟩;have k:bg w.1.size w Y:=r.ag (t.ah r.size);have zG:∀o,Zz w (Y.alloc o):=λo=>k.alloc k.size o)
     |(go_at_call 113;refine Calls.mono (F _ (z _)) ?_;rintro e Y ⟨u,G,H,rfl,hY,t⟩;have k:bg w.1.size w Y:=(z _).ag (t.ah (z _).size);have n0:Aa Y w.1.size NU:=Aa.A (v:=Zc) (Aa.new w NU 50) (CA t);have zH:∀v0 E J N,Zz w (el (el (el (el Y (Zd (w.1.size) 0) v0) (Zd (w.1.size) 1) E) (Zd (w.1.size) 2) J) (Zd (w.1.size) 3) N):=λ_ _ _ _=>(((k.setCell Yu _).setCell Yu _).setCell Yu _).setCell Yu _;obtain⟨m0,J⟩:=n0 0 _ rfl;obtain⟨m1,k1⟩:=n0 1 _ rfl;obtain⟨m2,k2⟩:=n0 2 _ rfl;obtain⟨m3,k3⟩:=n0 3 _ rfl))
  all_goals
   go_wp2_with fail;go_meet
   first
    |exact⟨_,u,G,H,rfl,rfl,⟨(((n0.set 0 _).set 1 _).set 2 _).set 3 _,hY,zH _ _ _ _,Zx⟩⟩
    |exact⟨_,u,G,H,rfl,rfl,⟨Aa.new Y _ _,hY,zG _,k.size⟩⟩
 revert wc;intro E hcut;obtain⟨kb,u,G,H,rfl,rfl,x⟩:=hcut;clear HS F r z I K;have r:=x.2.2.1;obtain⟨U,J,_⟩:=HC.A r,x.1 0 _ rfl;obtain⟨⟨V,_⟩,o,zC⟩:=U.box 0 _ rfl,Aa.lt x.1,U.box.lt;have zU:¬kb=c:=C8 x.2.2.2;have⟨nk,cc,fk,v,zI,_⟩:=U.gp;have h8:=s.w8;rcases x.2.1 with⟨K,_,_,F⟩|⟨K,zE,z⟩
 .have X:bq (0<u.born)=ba:=by rw[K];rfl
  have R:Hid (¬WD g q p C a [] l):=λ⟨_,_,y,hy,_⟩=>F y hy.1 hy.2.1;have I:Hid (∀n:AA E,True):=λ_=>trivial;clear F K U;have W:=AA.cell J o;have F:=AA.ne E;clear J V;go_upto_region 4 with fail;rw[X];refine AN Yr Yr ?_
  repeat (go_big_quiet_step (fail))
  refine wpQuiet_nil ?_;intro n;clear W F I;go_wp2;go_ret;exact⟨ba,rfl,⟨(λe=>by cases e),λe=>absurd e R⟩,r.ag (n.h.ah r.size)⟩
 have X:bq (0<u.born)=ay:=by have:=zJ u K;simp;omega
 have zM:Hid (Hj g a u):=⟨K,zE,z⟩;have zB:Hid (WD g q p C a [] l↔u.sum∉l/\¬Dw q p g u.sum):=⟨λ⟨_,_,y,hy,h1,h2⟩=>by
  have e:y=u:=zO y hy.1 u K (by have:=z y hy.1 hy.2.1;have:=hy.2.2 u K zE;omega);rw[e]at h1 h2;exact⟨h1,h2⟩,λh=>⟨zK,rfl,u,zM,h.1,h.2⟩⟩
 have zP:=s.sz u K;have N:Hid (∀n:AA E,D4 114 #[Yy c,C0 u.sum] n.w λe i=>Au (u.sum∈l) n.w i e):=λn=>
  Gg d C zF a ro _ M D fk Z u.sum (U.box.A n.h) (v.ak n.h v.lt) zI zN zP h8
 have S:Hid (∀n:AA E,D4 115 #[Yy d,C0 u.sum] n.w λe i=>∃y,e=C1 (ec y)/\(y=ay↔Dw q p g u.sum)/\bg n.w.1.size n.w i):=λn=>Jb u.sum (U.R.A n.h) s.nd s.sz s.C s.len hp hl;clear zE z v zI U;by_cases hmk:u.sum∈l
 .have v:Hid (u.sum∈l):=hmk;have I:Hid (∀n:AA E,D4 114 #[Yy c,C0 u.sum] n.w λe i=>e=C1 (ec ay)/\bg n.w.1.size n.w i):=λn=>(N n).ah (λe i ⟨b,he,hb,hbb⟩=>⟨by rw[he,hb.2 v.o],hbb⟩);have U:Hid True:=trivial;clear hmk S;obtain⟨W,y,F⟩:=AA.cell J o,AA.cell V zC,AA.ne E;clear J V N;go_upto_region 4 with fail;rw[X];refine AN Yr Yr ?_
  repeat (go_big_quiet_step (first|exact AA.calls (I _)))
  refine wpQuiet_nil ?_;intro n;clear W y F I U;go_wp2;go_ret;exact⟨ba,rfl,⟨(λe=>by cases e),λe=>absurd v (zB.1 e).1⟩,r.ag (n.h.ah r.size)⟩
 have v:Hid (u.sum∉l):=hmk;have I:Hid (∀n:AA E,D4 114 #[Yy c,C0 u.sum] n.w λe i=>e=C1 (ec ba)/\bg n.w.1.size n.w i):=λn=>(N n).ah (λe i ⟨b,he,hb,hbb⟩=>⟨by
  cases b with
  |true=>exact absurd (hb.1 rfl) v
  |false=>exact he,hbb⟩)
 by_cases hin:Dw q p g u.sum
 .have z:Hid (Dw q p g u.sum):=hin;have U:Hid (∀n:AA E,D4 115 #[Yy d,C0 u.sum] n.w λe i=>e=C1 (ec ay)/\bg n.w.1.size n.w i):=λn=>(S n).ah (λe i ⟨b,he,hb,hbb⟩=>⟨by rw[he,hb.2 z.o],hbb⟩);clear hmk hin S;obtain⟨W,y,F⟩:=AA.cell J o,AA.cell V zC,AA.ne E;clear J V N;go_upto_region 4 with fail;rw[X];refine AN Yr Yr ?_
  repeat (go_big_quiet_step (first|exact AA.calls (I _)|exact AA.calls (U _)))
  refine wpQuiet_nil ?_;intro n;clear W y F I U;go_wp2;go_ret;exact⟨ba,rfl,⟨(λe=>by cases e),λe=>absurd z (zB.1 e).2⟩,r.ag (n.h.ah r.size)⟩
 have z:Hid (¬Dw q p g u.sum):=hin;have U:Hid (∀n:AA E,D4 115 #[Yy d,C0 u.sum] n.w λe i=>e=C1 (ec ba)/\bg n.w.1.size n.w i):=λn=>(S n).ah (λe i ⟨b,he,hb,hbb⟩=>⟨by
  cases b with
  |true=>exact absurd (hb.1 rfl) z
  |false=>exact he,hbb⟩)
 clear hmk hin S;obtain⟨W,y,F⟩:=AA.cell J o,AA.cell V zC,AA.ne E;clear J V N;go_upto_region 4 with fail;rw[X];refine AN Yr Yr ?_
 repeat (go_big_quiet_step (first|exact AA.calls (I _)|exact AA.calls (U _)))
 refine wpQuiet_nil ?_;intro n;clear W y F I U;go_wp2;go_ret;exact⟨ay,rfl,⟨(λ_=>zB.2 ⟨v,z⟩),λ_=>rfl⟩,r.ag (n.h.ah r.size)⟩
theorem Dr.db{c:Int}{r:C5}{D:C7}{C:C6}(h:Dr w g d m O P L t v i c r D C):DB w g w.1.size d m O P L t c r:=by
 have⟨n,f,y,z,o⟩:=h.map;refine⟨h.dj,n,f,y,z,o,λs k u j j e p q j=> ?_⟩;rcases o s k with⟨x,_⟩|⟨I,G,H,_,_,E,j⟩
 .rw[x]at e;cases e
 rw[E]at e;simp only[CG,Option.some.injEq,agg.injEq]at e;have k:=congrArg (λa=>a[3]?) e;simp at k;obtain⟨rfl,l,rfl⟩:=k;rcases j with j|⟨b,F,A,B,_⟩
 .rw[j]at l;simp at l;omega
 rw[A]at q;cases q;exact B
theorem QD{F b:Int}{C:C5}{E:C7}{D:C6}(t k j v:Int){r:Zk}(A B:Nat){i h:Zl}(l:Dr w g d m O P L F p b a C E D)(V:Ad w w.1.size u i)(S:Ad w w.1.size r h)(R:GM i h):
 D4 73 #[Yy d,ca (Yb t u (ed i) A r (ed h) B k j v)] w λe z=>∃c Q M s,e=C1 (Yy c)/\CM z g w.1.size c d m O P L F p b a C E D t k j v Q M Zb s i h h []/\Zz w z:=by
 refine(QC d t k j v A B V S R).ah ?_;rintro e z ⟨c,x,Y,y,Z,s,n,J,f,rfl,o,W,X,N,K,T,_,G,H,I,q⟩;have dm:g<=w.1.size:=by have:=l.bd;have:=l.box.lt;omega
 exact⟨c,_,_,s,rfl,⟨l.A q,l.db.O (U:=[]) (Tn.of q) Yu,o,W,X,Ah.nil _ _,⟨n,J,f,N,K,T⟩,G,H,I,dm⟩,q⟩
