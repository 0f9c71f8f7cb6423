import Derived.Test.YtfehblndlffcmaaGreatDoorX13
import Derived.Test.YtfehblndlffcmaaGreatDoorX16
set_option maxRecDepth 100000
set_option maxHeartbeats 16000000
open Option renaming some->an,none->ba
open Bool renaming true->bg
open Go.RowKit renaming Below->bs
open Go.Obj renaming cells->ca
open Go.Value renaming agg->ct,bool->ef,ownBlock->ej
open Or renaming inr->eb
open Go.Ground renaming data->ed
open List renaming length->eh,toArray->ei
open Go.World renaming ownsRow->eo,setCell->ev
open Go renaming maxLen->ew
namespace Go.Proofs.YtfehblndlffcmaaGreatDoor
open ChangeShapes WideShapes ChangeAt RowKit _root_.Go.Proofs.Tryz List World Value
variable{X:Zh}{n f fk fv fc b:Nat}{S U T P L Q M u:Value}{v:Vd}
def CK(v:Vd)(l:Zl):Vd:={v with ss:=l,C:=[]}
theorem AF.gd{c:Nat}{f:Zj}{l:Zl}(h:AF X c S U T P L Q M f v)(i:∀g∈Df S U T P L Q M f,g<n)(j:Ak X n u l)(o:c<=n):AF X c u Zb T P L Q M f (CK v l):=by
 refine⟨j.ai o,Ak.nil _ _,h.st,h.q,h.m,?_⟩;have d:=h.nd;unfold Df at d i |-;have e:(Al Zb).toList=[]:=rfl;rw[e,append_nil];refine nodup_append.2 ⟨?_,(nodup_append.1 d).2.1,λa m b k e=> ?_⟩
 .cases Al u<;>simp
 have p:=(j.bh (By.1 m)).1;have m:=i b (Bw.2 (eb k));omega
theorem Vs{fs:Nat}(zN:(fk=13/\fv=6/\fc=37/\fs=38)\/(fk=111/\fv=5/\fc=146/\fs=147))(v:Vd)(p q s t:D4)(R:Zj)(l:Zl)(w:Zh)(B:eh R=13)(y:∀X,Zz w X->D8 fv #[ct (ei (p::q::s::t::R))] X λe c=>Av (BW v) X c e)(m:BW v->∀X,Zz w X->D8 fc #[ct (ei (p::q::s::t::R))] X λe c=>∃(S U T P L Q M:D4) (A:Zj),e=C5 (ct (ei (Bd v S U T P L Q M)))/\AF c X.1.size S U T P L Q M A v/\Zz X c)(hS:BW v->∀X,Zz w X->D8 fs #[ct #[s,t]] X λe c=>∃u,e=C5 (ct #[u,Zb])/\eo c X.1.size 9 1 u (eh l) (l.map string)/\Zz X c):
 D8 fk #[ct (ei (p::q::s::t::R))] w λe c=>∃(u:Vd) (S U T P L Q M:D4) (A:Zj),(¬BW v/\u=v0\/BW v/\u=CK v l)/\e=C5 (ct (ei (Bd u S U T P L Q M)))/\AF c w.1.size S U T P L Q M A u/\Zz w c:=by
 rcases zN with⟨rfl,rfl,rfl,rfl⟩|⟨rfl,rfl,rfl,rfl⟩
 all_goals
  have⟨W,c⟩:=Ag ((w.alloc (ca (ei (p::q::s::t::R)) 34)).alloc (ca Xo 34));have d:=(AQ c).1;have zW:=(AQ c).2.1;have i:Hid (Aa W w.1.size (p::q::s::t::R)):=(AQ c).2.2.1;have r:Hid (Aa W (w.1.size+1) AU):=(AQ (k:=AU) c).2.2.2;have zB:Hid (eh (p::q::s::t::R)=17):=by show eh (p::q::s::t::R)=17;simp[B]
  have j:=Yw y;have HC:=Yw m;have HS:=Yw hS;have f:=Yw c;clear c y m hS B;delta D8;go_in;go_upto_region 1 with fail;rw[<-f.o];clear f;go_wp2_with (refine wpList_load_mid rfl 34 _ rfl w.1.size 0 rfl (p::q::s::t::R) _ i.range underlying34 rfl (by rw[zB.o];kernel_rfl) ?_);refine(j W d).ai ?_;rintro e y ⟨o,rfl,f,c⟩;have z1:=c.size;have N:Hid (Aa y w.1.size (p::q::s::t::R)):=Aa.A i c;have m:Hid (Aa y (w.1.size+1) AU):=Aa.A (v:=Ze) r c
  have B:Hid (Zz w y):=d.ag (c.ai d.size);clear c j i r d;cases o with
  |false=>
   have zI:Hid (¬BW v):=λh=>by have:=f.2 h;cases this
   clear f HC HS;have c:(ei AU).all (·.oneCell')=bg:=(by simp[AU,oneCell']);obtain⟨zA,W9,d⟩:=Yw (Zn c m.there),Ag (y.setCells (w.1.size+1) 0 AU);have x9:Aa W9 (w.1.size+1) AU:=(by rw[d];exact m.aw _ rfl);have b9:bs w.1.size w W9:=B.ag (by rw[d];exact(AD _ _ _ _).A B.size Yu);have zK:=Yw d;clear c d;go_wp2_with (refine wpList_store_mid rfl 34 _ _ rfl (w.1.size+1) 0 Xo rfl rfl zA.2 Yr zA.1 ?_);change bodyPost _ _ _ _ _ (y.setCells (w.1.size+1) 0 AU);rw[<-zK.o]
   first|refine bodyPost_ret (AM results13 _ _ (w.1.size+1) AU _ rfl x9.range underlying34 rfl Yr) rfl ?_|refine bodyPost_ret (AM results111 _ _ (w.1.size+1) AU _ rfl x9.range underlying34 rfl Yr) rfl ?_
   exact⟨v0,_,_,_,_,_,_,_,[],.inl ⟨zI,rfl⟩,rfl,AF.nil _ _,b9⟩
  |true=>
   have D:Hid (BW v):=f.1 rfl;clear f;go_wp2_with (refine wpList_load_mid rfl 34 _ rfl w.1.size 0 rfl (p::q::s::t::R) _ N.range underlying34 rfl (by rw[zB.o];kernel_rfl) ?_);refine(HC D y B).ai ?_;rintro e i ⟨S,U,T,P,L,Q,M,A,rfl,G,K⟩;have⟨c,H⟩:∃c:Zj,c=[Zg v.J,Zg v.F,Zg v.G,Zg v.E,T,P,L,Zg v.I,Q,M,Zg v.N,Zg v.M,Zg v.ro]:=⟨_,rfl⟩;have eR:Bd v S U T P L Q M=(Zg v.wd::Zg v.lim::S::U::c):=(by rw[H];rfl);have j:eh (Zg v.wd::Zg v.lim::S::U::c)=17:=(by rw[H];rfl);have F:∀x∈(Zg v.wd::Zg v.lim::S::U::c),x.oneCell'=bg:=(by have⟨a,h,_⟩:=G.jl;rw[<-eR,h];simp[Bd,oneCell']);have o:Hid (∀g∈Df S U T P L Q M A,g<i.1.size):=G.db;have zJ:Hid (∀d f,Bd (CK v l) (C2 d l f) Zb T P L Q M=(Zg v.wd::Zg v.lim:: C2 d l f::Zb::c)):=λd f=>by rw[H];rfl
   rw[eR];obtain⟨z2,r,b⟩:=K.size,Ag ((i.alloc (ca Xo 34)).setCells i.1.size 0 (ei (Zg v.wd::Zg v.lim::S::U::c)).toList);have O:=boxed (X:=i) (cs:=(Zg v.wd::Zg v.lim::S::U::c)) (z:=AU) (T:=34) (by rw[j];rfl);have e3:r=(i.alloc (ca (ei AU) 34)).setCells i.1.size 0 (Zg v.wd::Zg v.lim::S::U::c):=b;rw[<-e3]at O;obtain⟨x3,b3,z3⟩:=O;have E:Hid ((i.alloc (ca Xo 34)).there i.1.size 0 (ei (Zg v.wd::Zg v.lim::S::U::c)).size/\eh (Zg v.wd::Zg v.lim::S::U::c)=17/\∀x∈(Zg v.wd::Zg v.lim::S::U::c),x.oneCell'=bg):=⟨by rw[show(ei (Zg v.wd::Zg v.lim::S::U::c)).size=17 from by rw[A0];exact j];exact(Aa.new i AU 34).there,j,F⟩;have Y:=Yw b;have C:bs y.1.size y r:=K.ag (b3.ai K.size);have V:Hid (Aa r w.1.size (p::q::s::t::R)):=Aa.A N C;have zC:Hid (Aa r (w.1.size+1) AU):=Aa.A (v:=Ze) m C;have I:Hid (Zz w r):=B.ag (C.ai B.size);have Z:Hid (AF r y.1.size S U T P L Q M A v):=G.A b3;have J:=Yw x3;clear b e3 x3 b3 C G K eR j F H N m HC;go_upto_region 4 with(refine wpList_store_mid rfl 34 _ _ rfl i.1.size 0 (ei (Zg v.wd::Zg v.lim::S::U::c)) rfl rfl E.1 (by rw[A0,E.2.1];kernel_rfl) (all_oneCell_toArray E.2.2) ?_);rw[<-Y.o];clear Y;obtain⟨⟨y2,_⟩,y3,_⟩:=V 2 _ rfl,V 3 _ rfl;go_wp2_with fail;refine(HS D r I).ai ?_;rintro e w4 ⟨u,rfl,Y,m⟩;obtain⟨d,f,rfl,_⟩:=(Ak.own Y).row;have z4:=m.size;clear y2 y3 HS V;have⟨G,K⟩:=Ag (ev (ev w4 (Zd (i.1.size) 2) (C2 d l f)) (Zd (i.1.size) 3) Zb);have t5:Tn [i.1.size] w4 G:=(by rw[K];exact(Tn.set _ _ _ _ Yu).ag (Tn.set _ _ _ _ Yu));have zM:Hid (Aa G i.1.size (Zg v.wd::Zg v.lim:: C2 d l f::Zb::c)):=(by show Aa G i.1.size (Zg v.wd::Zg v.lim:: C2 d l f::Zb::c);rw[K];exact((Aa.A J m).set 2 (C2 d l f)).set 3 Zb);have z5:=t5.size;have zE:Hid (Aa G (w.1.size+1) AU):=Aa.same (Aa.A (v:=Ze) zC m) (t5.block _ Yv Yt);have j:eh (Zg v.wd::Zg v.lim:: C2 d l f::Zb::c)=17:=D2 E.2.1;have F:∀x∈(Zg v.wd::Zg v.lim:: C2 d l f::Zb::c),x.oneCell'=bg:=λx hx=>by
    have h1:=E.2.2 x;simp only[Cf]at hx h1;rcases hx with rfl|rfl|rfl|rfl|hx
    .rfl
    .rfl
    .rfl
    .rfl
    exact h1 (eb (eb (eb (eb hx))))
   have⟨H,N⟩:=Ag (G.setCells (w.1.size+1) 0 (ei (Zg v.wd::Zg v.lim:: C2 d l f::Zb::c)).toList);have t6:Tn [(w.1.size+1)] G H:=(by rw[N];exact AD _ _ _ _);have x6:Aa H (w.1.size+1) (Zg v.wd::Zg v.lim:: C2 d l f::Zb::c):=(by rw[N];exact zE.aw _ (by rw[j];rfl));have V:Tn [i.1.size,(w.1.size+1)] w4 H:=(t5.ai Yu).ag (t6.ai Yu);have X:AF H y.1.size S U T P L Q M A v:=(Z.A m).stays V (λg hg C=>by have h1:=Z.lo g C;have h2:=o g C;simp at hg;omega);have zF:Ak H r.1.size (C2 d l f) l:=Ak.own (Dw Y V (λb O=>by simp at O;omega));have zG:Hid (AF H w.1.size (C2 d l f) Zb T P L Q M A (CK v l)):=(X.gd (n:=r.1.size) (λg hg=>Dl (o g hg)) zF Yv).ai (Dl B.size);have b4:bs w.1.size w w4:=I.ag (m.ai I.size);have zH:Hid (Zz w H):=b4.ag (V.A b4.size (λb O=>by simp at O;omega));have C:Hid (G.there (w.1.size+1) 0 (ei (Zg v.wd::Zg v.lim:: C2 d l f::Zb::c)).size/\eh (Zg v.wd::Zg v.lim:: C2 d l f::Zb::c)=17/\∀x∈(Zg v.wd::Zg v.lim:: C2 d l f::Zb::c),x.oneCell'=bg):=⟨by rw[show(ei (Zg v.wd::Zg v.lim:: C2 d l f::Zb::c)).size=17 from by rw[A0];exact j];exact zE.there,j,F⟩
   obtain⟨y2,f2⟩:=Aa.A J m 2 _ rfl;obtain⟨y3,f3⟩:=Aa.A J m 3 _ rfl;have b:=Yw K;have x:=Yw N;have g:=Yw x6;clear K N x6 t5 t6 V X zF b4 F j Y m J Z zC I o;go_upto_region 5 with fail;rw[<-b.o];clear b y2 y3 f2 f3;go_wp2_with (first
    |refine wpList_load_mid rfl 34 _ rfl i.1.size 0 rfl (Zg v.wd::Zg v.lim:: C2 d l f::Zb::c) _ zM.range underlying34 rfl M7 ?_
    |refine wpList_store_mid rfl 34 _ _ rfl (w.1.size+1) 0 (ei (Zg v.wd::Zg v.lim:: C2 d l f::Zb::c)) rfl rfl C.1 (by rw[A0,C.2.1];kernel_rfl) (all_oneCell_toArray C.2.2) ?_)
   rw[<-x.o]
   first|refine bodyPost_ret (AM results13 _ _ (w.1.size+1) (Zg v.wd::Zg v.lim:: C2 d l f::Zb::c) _ rfl (Aa.range g) underlying34 rfl M7) rfl ?_|refine bodyPost_ret (AM results111 _ _ (w.1.size+1) (Zg v.wd::Zg v.lim:: C2 d l f::Zb::c) _ rfl (Aa.range g) underlying34 rfl M7) rfl ?_
   exact⟨CK v l,C2 d l f,Zb,T,P,L,Q,M,A,eb ⟨D,rfl⟩,by rw[zJ.o],zG,zH⟩
def XL(v:Vd)(To:Vd->Prop)(w:Zh)(e:Ending)(w':Zh):Prop:=∃(u:Vd) (S U T P L Q M:Value) (rs:Zj),(¬BW v/\u=v0\/BW v/\To u)/\e=.returned (ct (ei (Bd u S U T P L Q M)))/\AF w' w.1.size S U T P L Q M rs u/\Zz w w'
def JD(w:Zh)(To:Vd->Prop)(p:Value)(X:Zh):Prop:=
 ∃(b:Nat) (u:Vd) (S U T P L Q M:Value) (rs:Zj),p=.pointer (an ⟨b,0,ba⟩)/\To u/\Aa X b (Bd u S U T P L Q M)/\Aa X (w.1.size+1) AU/\AF X (w.1.size+2) S U T P L Q M rs u/\Zz w X
theorem JD.of{w:Zh}{c:Vd->Prop}{u:Vd}{a:Zj}(k:c u)(d:Aa X b AU)(h:Aa X (w.1.size+1) AU)(i:AF X (w.1.size+2) S U T P L Q M a u)(j:b∉Df S U T P L Q M a)(gx:w.1.size+2<=b)(f:Zz w X):
 JD w c (Yy b) (X.setCells b 0 (ei (Bd u S U T P L Q M)).toList):=by
 have t:=AD b (Bd u S U T P L Q M) 0 X;have l:=(d 0 _ rfl).1;refine⟨b,u,S,U,T,P,L,Q,M,a,rfl,k,d.aw _ rfl,Aa.same h (t.block _ h.lt Yt),i.stays t (λg e=>by simp at e;subst e;exact j),f.ag (t.A f.size Yt)⟩
theorem KO{c:Zj}{u:Vd}(h:AF X b S U T P L Q M c u):∀x∈(Bd u S U T P L Q M),x.oneCell'=bg:=by have⟨a,e,_⟩:=h.jl;rw[e];simp[Bd,oneCell']
theorem YQ{fo:Nat}(zK:(fk=8/\fv=6/\fc=26/\fo=9)\/(fk=112/\fv=5/\fc=148/\fo=66))(v:Vd)(s t:D4)(R:Zj)(k:Int)(l:Zl)(Z:Vd->Prop)(w:Zh)(m:eh R=13)(j:∀X,Zz w X->D8 fv #[ct (ei (Zg v.wd::Zg v.lim::s::t::R))] X λe a=>Av (BW v) X a e)(f:BW v->∀X,Zz w X->D8 fc #[ct #[s,t],Zg k] X λe a=>∃u,e=C5 (ct #[u,Zb])/\eo a X.1.size 9 1 u (eh l) (l.map string)/\Zz X a)(hO:BW v->∀X u n,Zz w X->eo X n 9 1 u (eh l) (l.map string)->D8 fo #[Zg v.wd,Zg v.lim,ct #[u,Zb]] X λe a=>∃(c:Int) (u:Vd) (S U T P L Q M:D4) (G:Zj),Z u/\e=C5 (.tuple #[ct (ei (Bd u S U T P L Q M)),Zg c])/\AF a X.1.size S U T P L Q M G u/\Zz X a):
 D8 fk #[ct (ei (Zg v.wd::Zg v.lim::s::t::R)),Zg k] w (XL v Z w):=by
 rcases zK with⟨rfl,rfl,rfl,rfl⟩|⟨rfl,rfl,rfl,rfl⟩
 all_goals
  have⟨W,a⟩:=Ag ((w.alloc (ca (ei (Zg v.wd::Zg v.lim::s::t::R)) 34)).alloc (ca Xo 34));have i:=(AQ a).1;have zW:=(AQ a).2.1;have q:Hid (Aa W w.1.size (Zg v.wd::Zg v.lim::s::t::R)):=(AQ a).2.2.1;have y:Hid (Aa W (w.1.size+1) AU):=(AQ (k:=AU) a).2.2.2;have zH:Hid (eh (Zg v.wd::Zg v.lim::s::t::R)=17):=by show eh (Zg v.wd::Zg v.lim::s::t::R)=17;simp[m]
  have r:=Yw j;have HC:=Yw f;have HO:=Yw hO;have d:=Yw a;clear a j f hO m;delta D8;go_in;go_upto_region 1 with fail;rw[<-d.o];clear d;go_wp2_with (refine wpList_load_mid rfl 34 _ rfl w.1.size 0 rfl (Zg v.wd::Zg v.lim::s::t::R) _ q.range underlying34 rfl (by rw[zH.o];kernel_rfl) ?_);refine(r W i).ai ?_;rintro e a ⟨o,rfl,j,d⟩;have z1:=d.size;have m:Hid (Aa a w.1.size (Zg v.wd::Zg v.lim::s::t::R)):=Aa.A q d;have f:Hid (Aa a (w.1.size+1) AU):=Aa.A (v:=Ze) y d
  have zA:Hid (Zz w a):=i.ag (d.ai i.size);clear d r q y i;cases o with
  |false=>
   have zI:Hid (¬BW v):=λh=>by have:=j.2 h;cases this
   clear j HC HO;have d:(ei AU).all (·.oneCell')=bg:=(by simp[AU,oneCell']);obtain⟨zC,n,y⟩:=Yw (Zn d f.there),Ag (a.setCells (w.1.size+1) 0 AU);have x9:Aa n (w.1.size+1) AU:=(by rw[y];exact f.aw _ rfl);have b9:bs w.1.size w n:=zA.ag (by rw[y];exact(AD _ _ _ _).A zA.size Yu);have zB:=Yw y;clear d y;go_wp2_with (refine wpList_store_mid rfl 34 _ _ rfl (w.1.size+1) 0 Xo rfl rfl zC.2 Yr zC.1 ?_);change bodyPost _ _ _ _ _ (a.setCells (w.1.size+1) 0 AU);rw[<-zB.o]
   first|refine bodyPost_ret (AM results8 _ _ (w.1.size+1) AU _ rfl x9.range underlying34 rfl Yr) rfl ?_|refine bodyPost_ret (AM results112 _ _ (w.1.size+1) AU _ rfl x9.range underlying34 rfl Yr) rfl ?_
   exact⟨v0,_,_,_,_,_,_,_,[],.inl ⟨zI,rfl⟩,rfl,AF.nil _ _,b9⟩
  |true=>
   have r:Hid (BW v):=j.1 rfl;have C:Hid (∀X,Zz a X->Zz w X):=λX d=>zA.ag (d.ai zA.size);have H:Hid (∀X,Zz a X->Aa X w.1.size (Zg v.wd::Zg v.lim::s::t::R)/\Aa X (w.1.size+1) AU):=λX d=>⟨Aa.A m d,Aa.A (v:=Ze) f d⟩;clear j m f;go_upto_region 3 with fail;go_cut [5] (λp f=>JD w Z p f)
   case first=>
    refine wp_region_held_drew (S:=λX=>Zz a X) Yr Ae.drew (λhS=> ?_);refine Cb 0 (Yy w.1.size) ?_;refine Gd 1 (Zg v.wd) rfl (by exact Or.inl ⟨Yp,λX d=>by have hc:=((H X d).1 0 _ rfl).1;go_simp⟩) ?_;refine Cb 2 (Yx w.1.size 1) ?_;refine Gd 3 (Zg v.lim) rfl (by exact Or.inl ⟨Yp,λX d=>by have hc:=((H X d).1 1 _ rfl).1;go_simp⟩) ?_;refine Cb 4 (Yx w.1.size 2) ?_;refine Gd 5 (ct #[s,t]) rfl (by exact yieldsIf_load_mid Yp 25 _ rfl w.1.size 2 rfl [s,t] _ (λX h=>Aa.dq [Zg v.wd,Zg v.lim] [s,t] R (H X h).1) underlying25 rfl Yr) ?_;refine Cb 6 (Zg k) ?_;have h1:=(Below.refl a.1.size a).drew;refine Aci 7 12 (λK d=> ?_) (λK d=> ?_)
    .go_simp;refine(HC r a.drew (C a.drew h1)).ai ?_;rintro e B ⟨x,rfl,o,I⟩;have A:bs a.1.size a B:=h1.ag (I.ai h1.size);have z2:=I.size;have y2:=A.size;try go_simp
     refine d.out _ _ A (λhS=> ?_);clear d K;refine Aci 8 12 (λK d=> ?_) (λK d=> ?_)
     .go_simp;refine(HO r B x _ (C B A) o).ai ?_;rintro e i ⟨c,u,S,U,T,P,L,Q,M,G,E,rfl,D,z⟩;have j:bs a.1.size a i:=A.ag (z.ai A.size);have z3:=z.size;have y3:=j.size;try go_simp
      refine d.out _ _ j (λhS=> ?_);clear d K;refine Cb 9 (.tuple #[ct (ei (Bd u S U T P L Q M)),Zg c]) ?_;refine Cb 10 (ct (ei (Bd u S U T P L Q M))) ?_;refine Cb 11 (Zg c) ?_;refine CX 12 (λK d=> ?_);go_simp;have⟨q,f⟩:=D6 i Xo 34;have V:=(Ax f).1;have zE:=(Ax f).2.1;have J:Aa q i.1.size AU:=(Ax (l:=AU) f).2.2;have m:bs a.1.size a q:=j.ag (V.ai j.size);have y4:=m.size;try rw[<-f]
      clear f;refine d.out _ _ m (λhS=> ?_);clear d K;refine CX 13 (λK d=> ?_);have N:Aa q i.1.size AU:=J;have O:AF q (w.1.size+2) S U T P L Q M G u:=(D.A V).ai Yv;have p:JD w Z (Yy i.1.size) (q.setCells i.1.size 0 (ei (Bd u S U T P L Q M)).toList):=JD.of E N (H q m).2 O (λF=>Dl (D.db _ F)) Yv (C q m);rw[if_pos Yp];refine wp_store_mid 34 _ _ rfl (i.1.size) 0 (ei (Bd u S U T P L Q M)) rfl rfl N.there Yr (all_oneCell_toArray (KO O)) ?_;refine d.out _ _ (m.ag ((AD _ _ _ _).A m.size Ym)) (λhS=> ?_);clear d K;try simp only[Act.put]
      refine Cb 14 (Zg c) ?_;refine wpAnyH_done Yr ?_ _;go_wp2_with fail;go_meet;exact p
     go_simp;have⟨q,f⟩:=D6 B Xo 34;have V:=(Ax f).1;have zE:=(Ax f).2.1;have J:Aa q B.1.size AU:=(Ax (l:=AU) f).2.2;have m:bs a.1.size a q:=A.ag (V.ai A.size);have y4:=m.size;try rw[<-f]
     clear f;refine d.out _ _ m (λhS=> ?_);clear d K;refine CX 8 (λK d=> ?_);go_simp;refine(HO r q x _ (C q m) (Ah o V)).ai ?_;rintro e i ⟨c,u,S,U,T,P,L,Q,M,G,E,rfl,D,z⟩;have j:bs a.1.size a i:=m.ag (z.ai m.size);have z3:=z.size;have y3:=j.size;try go_simp
     refine d.out _ _ j (λhS=> ?_);clear d K;refine Cb 9 (.tuple #[ct (ei (Bd u S U T P L Q M)),Zg c]) ?_;refine Cb 10 (ct (ei (Bd u S U T P L Q M))) ?_;refine Cb 11 (Zg c) ?_;refine CX 13 (λK d=> ?_);have N:Aa i B.1.size AU:=Aa.A (v:=Ze) J z;have O:AF i (w.1.size+2) S U T P L Q M G u:=D.ai Yv;have p:JD w Z (Yy B.1.size) (i.setCells B.1.size 0 (ei (Bd u S U T P L Q M)).toList):=JD.of E N (H i j).2 O (λF=>Dl (D.lo _ F)) Yv (C i j);rw[if_pos Yp];refine wp_store_mid 34 _ _ rfl (B.1.size) 0 (ei (Bd u S U T P L Q M)) rfl rfl N.there Yr (all_oneCell_toArray (KO O)) ?_;refine d.out _ _ (j.ag ((AD _ _ _ _).A j.size Ym)) (λhS=> ?_);clear d K;try simp only[Act.put]
     refine Cb 14 (Zg c) ?_;refine wpAnyH_done Yr ?_ _;go_wp2_with fail;go_meet;exact p
    go_simp;have⟨q,f⟩:=Ag ((a.alloc (ca Xo 34)).drew);have m:bs a.1.size a q:=(by rw[f];exact(Zy).drew);have J:Aa q a.1.size AU:=(by rw[f];exact Aa.A (v:=Ze) (Aa.new a AU 34) Ae.drew);have zE:=J.lt;try rw[<-f]
    clear f;refine d.out _ _ m (λhS=> ?_);clear d K;refine CX 7 (λK d=> ?_);go_simp;refine(HC r q (C q m)).ai ?_;rintro e B ⟨x,rfl,o,I⟩;have A:bs a.1.size a B:=m.ag (I.ai m.size);have z2:=I.size;have y2:=A.size;try go_simp
    refine d.out _ _ A (λhS=> ?_);clear d K;refine CX 8 (λK d=> ?_);go_simp;refine(HO r B x _ (C B A) o).ai ?_;rintro e i ⟨c,u,S,U,T,P,L,Q,M,G,E,rfl,D,z⟩;have j:bs a.1.size a i:=A.ag (z.ai A.size);have z3:=z.size;have y3:=j.size;try go_simp
    refine d.out _ _ j (λhS=> ?_);clear d K;refine Cb 9 (.tuple #[ct (ei (Bd u S U T P L Q M)),Zg c]) ?_;refine Cb 10 (ct (ei (Bd u S U T P L Q M))) ?_;refine Cb 11 (Zg c) ?_;refine CX 13 (λK d=> ?_);have N:Aa i a.1.size AU:=Aa.A (v:=Ze) (Aa.A (v:=Ze) J I) z;have O:AF i (w.1.size+2) S U T P L Q M G u:=D.ai Yv;have p:JD w Z (Yy a.1.size) (i.setCells a.1.size 0 (ei (Bd u S U T P L Q M)).toList):=JD.of E N (H i j).2 O (λF=>Dl (D.lo _ F)) Yv (C i j);rw[if_pos Yp];refine wp_store_mid 34 _ _ rfl (a.1.size) 0 (ei (Bd u S U T P L Q M)) rfl rfl N.there Yr (all_oneCell_toArray (KO O)) ?_;refine d.out _ _ (j.ag ((AD _ _ _ _).A j.size Ym)) (λhS=> ?_);clear d K;try simp only[Act.put]
    refine Cb 14 (Zg c) ?_;refine wpAnyH_done Yr ?_ _;go_wp2_with fail;go_meet;exact p
   obtain⟨b,u,S,U,T,P,L,Q,M,G,rfl,E,x6,Y,h,K⟩:=hcut;have⟨n,y⟩:=Ag (wc.setCells (w.1.size+1) 0 (ei (Bd u S U T P L Q M)).toList);have t9:Tn [(w.1.size+1)] wc n:=(by rw[y];exact AD _ _ _ _);have x9:Aa n (w.1.size+1) (Bd u S U T P L Q M):=(by rw[y];exact Y.aw _ rfl);have zF:Hid (AF n w.1.size S U T P L Q M G u):=(h.stays t9 (λg d F=>by have:=h.lo g F;simp at d;omega)).ai Yv;have zG:Hid (Zz w n):=K.ag (t9.A K.size Yu);have HT:Hid (Z u):=E;have⟨d,f⟩:=Ag (Bd u S U T P L Q M);have F:Hid (eh d=17):=(by show eh d=17;rw[f];rfl);have X:(ei d).size=17:=by rw[f];rfl
   have HI:Hid (wc.there (w.1.size+1) 0 (ei d).size/\∀x∈d,x.oneCell'=bg):=⟨by rw[X];exact Y.there,by rw[f];exact KO h⟩;rw[<-f]at x6 x9 y;have HE:=Yw f;have zJ:=Yw x6;have g:=Yw x9;have zB:=Yw y;clear X f x6 x9 y h Y K t9 E;go_wp2_with (first
    |refine wpList_load_mid rfl 34 _ rfl b 0 rfl d _ (Aa.range zJ) underlying34 rfl (by rw[F.o];kernel_rfl) ?_
    |refine wpList_store_mid rfl 34 _ _ rfl (w.1.size+1) 0 (ei d) rfl rfl HI.1 (by rw[A0,F.o];kernel_rfl) (all_oneCell_toArray HI.2) ?_)
   rw[<-zB.o]
   first|refine bodyPost_ret (AM results8 _ _ (w.1.size+1) d _ rfl (Aa.range g) underlying34 rfl (by rw[F.o];kernel_rfl)) rfl ?_|refine bodyPost_ret (AM results112 _ _ (w.1.size+1) d _ rfl (Aa.range g) underlying34 rfl (by rw[F.o];kernel_rfl)) rfl ?_
   exact⟨u,S,U,T,P,L,Q,M,G,eb ⟨r,HT⟩,by rw[HE.o],zF,zG⟩
theorem Ni{w:Zh}{v:D4}(f d:List (Kd×Value))(m:eo w b 78 4 v (eh f) (Ad kC f))(l:Zk)(c:Nat)(p:l=ba->eh d=0/\c=0)(H:∀A,l=an A->∀j u,(Ad kC d)[j]?=an u->w.cell? (A.add j)=an u)(K:∀z∈d,∃a n c,z.2=C3 a n c)(M:eh f<=1000000)(L:eh d<=1000000)(i:b<=w.1.size)(t:v≠Zb)(q:TypeId):
 ∃g h k,(Builtin.append_ #[26,26] q #[v,C3 l (eh d) c]).run prog w=.ok (Yz g (eh f+eh d) h) k/\eo k b 78 4 (Yz g (eh f+eh d) h) (eh (f++d)) (Ad kC (f++d))/\w.grownBy k (ej v):=by
 have⟨x,s,y,B,C⟩:=info_parts Hx;cases l with
 |none=>obtain⟨E,rfl⟩:=p rfl;have J:=B8 E;subst J;obtain⟨g,h,rfl,_,_⟩:=BK m t;exact⟨g,h,w,run_append_owned_none (P:=prog) w b 26 q 78 x 4 underlying26 s _ _ _ m,by rw[append_nil];exact m,⟨rfl,rfl,rfl,Zx,λ_ _ _=>rfl⟩⟩
 |some A=>
  obtain⟨N,k,I,r,F,G,_⟩:=run_append_own_at (P:=prog) w b 26 q 78 x _ 4 64 underlying26 s y B C rfl Yq v (eh f) (Ad kC f) m A (eh d) c (Ad kC d) (BY CB _) (H A rfl) (λu o=>by
   have⟨z,D,o⟩:=mem_flatMap.1 o;have⟨a,n,c,e⟩:=K z D;simp[kC,e]at o;rcases o with rfl|rfl|rfl|rfl<;>rfl) Yo Yv i
  obtain⟨g,h,rfl,_,_⟩:=BK r (λe=>t (G.1 e).1);exact⟨g,h,k,I,by rw[Fp,Am];exact r,F⟩
theorem Ef{P:Program}{w:Zh}{o:Oper}{a:Act}{K:Act->Zh->Prop}{Q:Exit->Act->Zh->Prop}(b x:Operand)(t:TypeId)(e:o.op=.call {callee:=.builtin .append,args:= #[b,x],argTypes:= #[t,t]}){v c:D4}{d:Zh}(g:a.eval b=v)(i:a.eval x=u)(f:(Builtin.append_ #[t,t] o.type #[v,u]).run P w=.ok c d)(h:K (a.put o.dst c) d):Oper.wp P o a w K Q:=by unfold Oper.wp execOp;simp only[e,resolve,invoke,builtin,Sem.run_bind,Sem.run_pure,Result.andThen_ok,map_toArray,map_cons,map_nil,g,i,f];exact h
structure Mz (base:Nat) (X:Zh) (n:Nat) (z:Kd×Value):Prop where
 row:eo X base 9 1 z.2 (eh z.1.D) (z.1.D.map Value.string)
 sm:z.1.sum.size<=8
 tx:z.1.i.size<=10
 rl:eh z.1.D<=1
 rs:∀s∈z.1.D,s.size<=8
 bo:0<=z.1.born/\z.1.born<=n
structure Ob (w wr:Zh) (n:Nat) (T:Value) (zs:List (Kd×Value)):Prop where
 gh:Aa wr w.1.size z7
 box:Aa wr (w.1.size+1) [Zg 8,Ze,Ze,Zg n,T,Zb,Zb]
 ow:eo wr (w.1.size+2) 78 4 T (eh zs) (Ad kC zs)
 zz:∀z∈zs,Mz (w.1.size+2) wr n z
 bl:bs w.1.size w wr
theorem Mz.A{base:Nat}{w:Zh}{z:Kd×Value}(h:Mz base w n z)(a:Zz w X):Mz base X n z:=⟨Ah h.row a,h.sm,h.tx,h.rl,h.rs,h.bo⟩
theorem Ob.A{w wr:Zh}{b:List (Kd×Value)}(h:Ob w wr n T b)(a:Zz wr X):Ob w X n T b:=
 ⟨Aa.A h.gh a,Aa.A h.box a,Ah h.ow a,λz c=>(h.zz z c).A a,h.bl.ag (a.ai h.bl.size)⟩
theorem Jd{w:Zh}{d:Nat}{b:List (Kd×Value)}(h:eo w d 78 4 T (eh b) (Ad kC b)){k:Nat}(n:k<=eh b):T=Zb/\b=[]\/∃g a,T=Yz g (eh b) a/\d<=g/\g<w.1.size/\eh b<=a/\a<=ew/\(∀j u,(Ad kC (b.take k))[j]?=an u->w.cell? ((⟨g,0,ba⟩:Addr).add j)=an u)/\∃c,(if a=k then an (⟨g,0,ba⟩:Addr)else an ⟨g,k *4,ba⟩)=an ⟨g,c,ba⟩/\∀j u,(Ad kC (b.drop k))[j]?=an u->w.cell? (Zd g (c+j))=an u:=by
 rcases h.2 with⟨e,p⟩|⟨g,a,o,e,m,s,i,l,q,r⟩
 .exact gA
 subst e;refine eb ⟨g,a,rfl,m,(h.lt g rfl).2,i,l,λj u c=> ?_,?_⟩
 .rw[A7,Ay];have f:=(Zw c).1;rw[BY CB,C0]at f;rw[h.cellAt j Yv];rw[<-take_append_drop k b,Cd,getElem?_append_left (by rw[BY CB,C0];omega)];exact c
 by_cases hc:a=k
 .refine⟨0,by rw[if_pos hc],λj u c=> ?_⟩;rw[drop_of_length_le Yv]at c;simp[Ad]at c
 refine⟨k *4,by rw[if_neg hc],λj u c=> ?_⟩;rw[<-Ji CB b k n,getElem?_drop]at c;have f:=(Zw c).1;rw[BY CB]at f;exact(h.cellAt _ Yv).ag c
theorem Qn{w:Zh}{a:Nat}{c:Zk}{b:Zl}(h:eo w a 9 1 (C3 c n f) (eh b) (b.map string)):Ab w w.1.size c b:=by
 rcases h.2 with⟨_,d⟩|⟨g,i,j,e,_⟩
 .exact .inl (B8 d)
 cases e;exact Ab.own h
structure MnP (w:Zh) (n:Nat) (e:Ending) (w':Zh):Prop where
 ex:∃T zs,e=.returned (ct #[Zg 8,Ze,Ze,Zg n,T,Zb,Zb])/\eo w' (w.1.size+2) 78 4 T (eh zs) (Ad kC zs)/\(∀z∈zs,Mz (w.1.size+2) w' n z)/\eh zs<=n/\Zz w w'
theorem XM(n:Nat)(apart:Bool)(w:Zh)(hn:n<=1000):
 D8 72 #[Zg n,ef apart] w (MnP w n):=by
 have⟨W,b⟩:=Ag ((w.alloc (ca Yi 30)).alloc (ca #[Zg 8,Ze,Ze,Zg n,Zb,Zb,Zb] 30));have hb:bs w.1.size w W:=by rw[b];exact(Zy).alloc Yu _
 have E:Hid (Ob w W n Zb []):=by
  refine⟨?_,?_,ownsRow_nil _ _ _ _,Yu,hb⟩
  .rw[b];exact Aa.A (Aa.new w z7 30) (Zy)
  have B:=Aa.new (w.alloc (ca Yi 30)) [Zg 8,Ze,Ze,Zg n,Zb,Zb,Zb] 30;rw[Ao]at B;rw[b];exact B
 have d:=Yw b;clear b hb;delta D8;go_in;go_upto_region 2 with fail;rw[<-d.o];clear d;go_wp2;go_loopw [6,7] (λd i wr=>∃(k:Nat) (last:Zi) (T:D4) (b:List (Kd×Value)),i=Zg (k:Int)/\d=C4 last/\1<=k/\k<=n+1/\last.size<=8/\eh b<k/\Hid (Ob w wr n T b)) (λ_ i _=>n+1 -(intOf i).toNat)
 case atStart=>exact⟨1,_,_,[],rfl,rfl,Yv,Yv,Yq,Yu,E⟩
 clear E;obtain⟨k,last,T,b,rfl,rfl,yJ,yK,I,yO,E⟩:=hrel;by_cases hk:k<=n
 case neg=>
  obtain⟨ta,tc,hT⟩:=Au E.ow;subst hT;obtain⟨⟨b0,b1,b2,b3,b4,b5,b6⟩,⟨N,q0⟩,⟨y1,q1⟩,⟨y2,q2⟩,⟨y3,q3⟩,⟨K,q4⟩,⟨y5,q5⟩,y6,q6⟩:=Aa.c7 E.box 0 1 2 3 4 5 6,Lu E.gh;have yI:¬(k:Int)<=n:=Yv;have C:Hid (∀X,Tn [w.1.size] wr X->eo X (w.1.size+2) 78 4 (C2 ta b tc) (eh b) (Ad kC b)/\(∀z∈b,Mz (w.1.size+2) X n z)/\eh b<=n/\Zz w X):=λX hX=>by refine⟨Ar E.ow (λg hg=>hX.block g (Ac E.ow hg).2 (by have:=(Ac E.ow hg).1;simp;omega)),λz I=> ?_,Yv,E.bl.ag (hX.A E.bl.size Yu)⟩;have B:=E.zz z I;exact⟨Ar B.row (λg hg=>hX.block g (Ac B.row hg).2 (by have:=(Ac B.row hg).1;simp;omega)),B.sm,B.tx,B.rl,B.rs,B.bo⟩
  clear E;go_wp2;refine C1 (ct #[Zg 8,Ze,Ze,Zg n,C2 ta b tc,Zb,Zb]) (by simp[results,results72,go_sem,N,y1,y2,y3,K,y5,y6]) ⟨_,b,rfl,C.o _ ?_⟩
  repeat refine Tn.ag ?_ (Tn.set _ _ _ _ Yu)
  exact Tn.of Ae
 have d:=Yw (Nb 9 k wr Yv (by have:(10:Int)^9=1000000000:=rfl;omega) Yv);go_wp2_with fail;refine d.Aj ?_;clear d;rintro e w1 ⟨t,rfl,yA,r⟩;have⟨M,d⟩:=D6 w1 #[C4 t,Zb] 76;have C:=(Ax d).1;have G:=(Ax d).2.1;have F:Aa M w1.1.size [C4 t,Zb]:=(Ax (l:=[C4 t,Zb]) d).2.2;have D:bs wr.1.size wr M:=r.ag (C.ai r.size);have f:Hid (Zz wr M/\Aa M w1.1.size [C4 t,Zb]/\wr.1.size<=w1.1.size/\M.1.size=w1.1.size+1):=⟨D,F,r.size,G⟩;have y:=Yw d;clear d C G F D r;go_upto_region 7 with fail;rw[<-y.o];clear y;go_cut [26] (λv r=>∃c:Bool,v=ef c/\r=M)
 case first=>
  cases apart with
  |true=>go_wp2;go_meet;exact⟨_,rfl,rfl⟩
  |false=>go_wp2;go_meet;exact⟨_,rfl,rfl⟩
 revert wc;rintro M ⟨cc,rfl,rfl⟩;go_upto_if 26 with fail;go_cut [8,26] (λv _ r=>∃(o:Nat) (rv:D4) (d:Zl),v=Yy o/\Hid (Aa r o [C4 t,rv]/\eo r (w.1.size+2) 9 1 rv (eh d) (d.map string)/\eh d<=1/\(∀s∈d,s.size<=8)/\Zz wr r))
 case first=>
  cases cc with
  |true=>
   have⟨Y,hY⟩:=D7 M (w1.1.size) 1 (Yz M.1.size 1 1);have b2:bs Y.1.size Y (Y.alloc (ca #[C4 last] 9)):=Zy;have y:Y.1.size=M.1.size:=(by rw[hY];simp);have HS:Hid (Zz wr (Y.alloc (ca #[C4 last] 9))/\Aa (Y.alloc (ca #[C4 last] 9)) w1.1.size [C4 t,Yz M.1.size 1 1]/\eo (Y.alloc (ca #[C4 last] 9)) (w.1.size+2) 9 1 (Yz M.1.size 1 1) 1 [C4 last]):=by
    have⟨B,N,h3,h4⟩:=f.o;have h5:bs wr.1.size wr Y:=(by rw[hY];exact B.setCell (p:=⟨w1.1.size,1,ba⟩) h3 _);have h6:Aa Y w1.1.size [C4 t,Yz M.1.size 1 1]:=(by rw[hY];exact N.set 1 _);refine⟨h5.ag (b2.ai h5.size),Aa.A h6 b2,?_⟩;rw[<-y];refine ownsRow_lit (base:=w.1.size+2) (e:=9) (size:=1) Y #[C4 last] 1 ?_ Yo rfl;have:=E.bl.size;have:=E.box.lt;omega
   obtain⟨⟨c0,q0⟩,c1,q1⟩:=f.2.1 0 _ rfl,f.2.1 1 _ rfl;have zC:w1.1.size<M.1.size:=f.2.1.lt;subst hY;clear b2 y;go_wp2;go_meet;exact⟨_,_,[last],rfl,HS.2.1,HS.2.2,Yu,Yt,HS.1⟩
  |false=>go_wp2;go_meet;exact⟨_,_,[],rfl,f.2.1,ownsRow_nil _ _ _ _,Yu,Yu,f.1⟩
 revert wc;intro w2 hcut;obtain⟨o,rv,d,rfl,y⟩:=hcut;clear f;have⟨U,s,zZ⟩:=Au y.2.1;subst zZ;have f:Ab w2 w2.1.size U d:=Qn y.2.1;obtain⟨HF,⟨c0,_⟩,c1,_⟩:=Yw (GJ t s 8 f (Dl y.2.2.1) Yo),y.1 0 _ rfl,y.1 1 _ rfl;clear f;go_wp2_with fail;refine HF.Aj ?_;rintro e w3 ⟨rfl,F⟩;have G:=Yw (Jh (AG t d 8) 8 w3 (FT _ _ _) Yv Yv);have yN:(Ds (AG t d 8).data.toList (8:Int).toNat).size=8:=Ks _ _;generalize AG t d 8=FF at *
 generalize Ds FF.data.toList (8:Int).toNat=S at *
 go_wp2_with fail;refine G.Aj ?_;rintro e f ⟨rfl,H⟩;have D:bs w2.1.size w2 f:=F.ag (H.ai F.size);have C:Hid (Ob w f n T b):=(E.A y.2.2.2.2).A D;have zJ:Hid (Aa f o [C4 t,C2 U d s]/\Mz (w.1.size+2) f n (⟨S,k,t,d⟩,C2 U d s)):=⟨Aa.A y.1 D,⟨Ah y.2.1 D,by simp only;omega,yA,y.2.2.1,y.2.2.2.1,by simp only;omega⟩⟩;clear HF G F H D y E c0 c1 I;have⟨ta,tc,hT⟩:=Au C.ow;subst hT;go_wp2;go_loopw [9] (λj r=>∃m:Nat,m<=eh b/\j=Zg (m:Int)/\r=f) (λj _=>eh b -(intOf j).toNat)
 case atStart=>exact⟨0,Yv,rfl,rfl⟩
 obtain⟨m,hm,rfl,rfl⟩:=hrel;obtain⟨b4,_⟩:=C.box 4 _ rfl;go_upto_region 11 with fail;go_cut [47] (λv r=>∃c:Bool,v=ef c/\(c=bg->m<eh b)/\r=wr)
 case first=>
  by_cases zC:m<eh b
  .rcases Jd C.ow hm with⟨_,e⟩|⟨g,zE,e,_,hg,zS,zI,_⟩
   .rw[e]at zC;simp at zC
   cases e;have D:=Zv zC;have c0:=C.ow.cellAt (m *4) Yv;have y:=BU CB D (show 0<4 by decide);rw[Nat.add_zero]at y;rw[y]at c0;generalize b[m]=z at *
   have c1:wr.cell? (Zd g (m *4))=an (C4 z.1.sum):=c0;clear D y c0;go_wp2;go_meet;exact⟨_,rfl,λ_=>zC,rfl⟩
  go_wp2;go_meet;exact⟨_,rfl,(λh=>by cases h),rfl⟩
 revert wc;rintro f ⟨cc,rfl,y,rfl⟩;cases cc with
 |true=>have zC:=y rfl;go_wp2;exact⟨⟨m+1,Yv,Yn,by first|trivial|rfl⟩,Ys⟩
 |false=>
  clear y;have⟨A,R⟩:=D6 f #[] 78;have D:=(Ax (l:=[]) R).1;have u:=(Ax (l:=[]) R).2.1;have F:eo A f.1.size 78 4 (Yz f.1.size 0 0) (eh ([]:List (Kd×Value))) (Ad kC []):=by rw[R];exact ownsRow_lit (base:=f.1.size) (e:=78) (size:=4) f #[] 0 (Zx) Yo rfl
  have P:Hid (Ob w A n (C2 ta b tc) b):=C.A D;have HZ:Hid (∀z∈b,∃a n c,z.2=C3 a n c):=λz I=>by have⟨a,c,e⟩:=Au (C.zz z I).row;exact⟨a,_,c,e⟩
  have y:f.1.size<=A.1.size:=Yv;obtain⟨Z,_⟩:=P.box 4 _ rfl;have Q:=Yw F;have J:Hid (Zz f A):=D;clear F D;go_upto_region 13 with fail;go_cut [10] (λv r=>∃g c,v=Yz g m c/\Hid (eo r f.1.size 78 4 (Yz g m c) (eh (b.take m)) (Ad kC (b.take m))/\Zz f r))
  case first=>
   have V:eh (b.take m)=m:=N2;have zU:Yz f.1.size 0 0≠Zb:=λe=>by cases e
   rcases Jd P.ow hm with⟨e,e'⟩|⟨g,zE,e,_,hg,zS,zI,r,_⟩
   .subst e';cases e;obtain rfl:m=0:=D2 hm;have⟨g,zE,X,H,O,D⟩:=Ni [] [] Q ba 0 (λ_=>⟨rfl,rfl⟩) (λ_ e=>by cases e) Yu Yu Yu y zU 26;have HO:Hid (eo X f.1.size 78 4 (Yz g 0 zE) 0 []/\Zz f X):=⟨O,J.grown D y (λq G=>by simp[ownBlock]at G;omega)⟩;clear O D V;subst R;go_wp2_with (at_builtin;refine wpList_append_run rfl _ _ 26 26 rfl rfl rfl H ?_);go_wp2;go_meet;exact⟨g,zE,rfl,HO.1,HO.2⟩
   cases e;unfold ew at zI;have⟨F,zH,X,H,O,D⟩:=Ni [] (b.take m) Q (an ⟨g,0,ba⟩) tc (λe=>by cases e) (λx e=>by cases e;exact r) (λz I=>HZ z (mem_of_mem_take I)) Yu Yv y zU 26;rw[V]at H O;simp only[length_nil,Ay,nil_append]at H O;have HO:Hid (eo X f.1.size 78 4 (Yz F m zH) (eh (b.take m)) (Ad kC (b.take m))/\Zz f X):=⟨O,J.grown D y (λq G=>by simp[ownBlock]at G;omega)⟩;clear O D V r;subst R;go_wp2_with (at_builtin;refine wpList_append_run rfl _ _ 26 26 rfl rfl rfl H ?_);go_wp2;go_meet;exact⟨F,zH,rfl,HO.1,HO.2⟩
  clear Q J P Z R u y b4;revert wc;intro w5 hcut;obtain⟨g,c,rfl,HL⟩:=hcut;have yL:f.1.size<=w5.1.size:=HL.2.size;have yG:=Ac HL.1 (g:=g) rfl;have HF:Hid (∀X,bs f.1.size w5 X->Aa X (w.1.size+1) [Zg 8,Ze,Ze,Zg n,C2 ta b tc,Zb,Zb]/\Aa X o [C4 t,C2 U d s]/\eo X (w.1.size+2) 78 4 (C2 ta b tc) (eh b) (Ad kC b)):=λX hX=>by have hb:bs f.1.size f X:=HL.2.ag hX;exact⟨Aa.A C.box hb,Aa.A zJ.1 hb,Ah C.ow hb⟩
  have⟨zn,r⟩:∃z:Kd×Value,z=(⟨S,k,t,d⟩,C2 U d s):=⟨_,rfl⟩;have zK:=Yw r;clear r;go_upto_region 14 with fail
  refine CI [56,57,58,59,60,61,62,63,64,65,66,67] 12 rfl _ rfl Yr Yr Yr Yr Yr Yq Yr [(11,5),(11,6)] Yr (λL X=>bs f.1.size w5 X/\(L 6=false->eo X f.1.size 78 4 (Yz g m c) (eh (b.take m)) (Ad kC (b.take m)))/\w5.1.size<=X.1.size) (λi X v=>match i with
   |0=>v=Yz g m c
   |1=>v=C4 S
   |2=>v=Zg k
   |3=>v=ct #[C4 t,C2 U d s]
   |4=>v=ct #[C4 S,Zg k,C4 t,C2 U d s]
   |5=>∃q,v=Yz q 1 1/\q≠g/\Aa X q [C4 S,Zg k,C4 t,C2 U d s]
   |6=>∃F y,v=Yz F (m+1) y/\eo X f.1.size 78 4 (Yz F (m+1) y) (eh (b.take m++[zn])) (Ad kC (b.take m++[zn]))
   |7=>v=Yx (w.1.size+1) 4
   |8=>v=C2 ta b tc
   |9=>v=Zg m
   |10=>∃ad y,v=C2 ad (b.drop m) y/\(ad=ba/\eh (b.drop m)=0/\y=0\/∃Q P,ad=an ⟨Q,P,ba⟩/\Q<f.1.size/\∀j u,(Ad kC (b.drop m))[j]?=an u->X.cell? (Zd Q (P+j))=an u)
   |11=>∃F y,v=Yz F (eh b+1) y/\eo X f.1.size 78 4 (Yz F (eh b+1) y) (eh (b.take m++[zn]++b.drop m)) (Ad kC (b.take m++[zn]++b.drop m))
   |_=>True) (λj X Y=>bs f.1.size X Y/\(j≠11->X.grownBy Y (an g))/\(j≠6->j≠11->Zz X Y)) ?_ ⟨Ae.drew,λ_=>Ah HL.1 Ae.drew,Zx⟩ ?_ ?_
  .intro j i X Y v zT zV zW hE hT;obtain⟨B,N,h3⟩:=hE;rcases i with _|_|_|_|_|_|_|_|_|_|_|_|_
   .exact hT
   .exact hT
   .exact hT
   .exact hT
   .exact hT
   .obtain⟨q,e,G,hc⟩:=hT;exact⟨q,e,G,hc.au (N (λe=>zV N7)) G.symm⟩
   .obtain⟨F,y,e,O⟩:=hT;exact⟨F,y,e,Ah O (h3 (λe=>zT e) (λe=>zV N7))⟩
   .exact hT
   .exact hT
   .exact hT
   .obtain⟨ad,y,e,hn|⟨Q,P,ea,hb,hc⟩⟩:=hT
    .exact⟨ad,y,e,.inl hn⟩
    exact⟨ad,y,e,eb ⟨Q,P,ea,hb,λj u hu=>(B.cell (p:=⟨Q,P+j,ba⟩) hb).ag (hc j u hu)⟩⟩
   .obtain⟨F,y,e,O⟩:=hT;exact⟨F,y,e,Ah O (h3 (λe=>by subst e;have h9:=zW.symm.ag (by kernel_rfl:_=bg);cases h9) (λe=>zT e))⟩
   trivial
  .intro i o' L x X hi O hL hD V Z K r;have zM:=V.2.2;have H:bs f.1.size X X/\(i≠11->X.grownBy X (an g))/\(i≠6->i≠11->Zz X X):=⟨Ae,λ_=>⟨rfl,rfl,rfl,Zx,λ_ _ _=>rfl⟩,λ_ _=>Below.refl _ _⟩;have J:i≠6->∀Y,Zz X Y->bs f.1.size w5 Y/\(Bj L i 6=false->eo Y f.1.size 78 4 (Yz g m c) (eh (b.take m)) (Ad kC (b.take m)))/\w5.1.size<=Y.1.size:=λh6 Y hY=>⟨V.1.ag (hY.ai Yv),λh=>Ah (V.2.1 (by unfold Bj at h;rw[if_neg (Ne.symm h6)]at h;exact h)) hY,Zm zM hY.size⟩;rcases(show i=0\/i=1\/i=2\/i=3\/i=4\/i=5\/i=6\/i=7\/i=8\/i=9\/i=10\/i=11 by omega)with rfl|rfl|rfl|rfl|rfl|rfl|rfl|rfl|rfl|rfl|rfl|rfl<;>cases O<;>simp only[AY,Act.put,Zq,Zp,Zo]at r |-
   .go_simp;exact r.out _ X rfl H (J Yv X Ae)
   .go_simp;exact r.out _ X rfl H (J Yv X Ae)
   .go_simp;exact r.out _ X rfl H (J Yv X Ae)
   .obtain⟨_,f2,_⟩:=HF X V.1;obtain⟨⟨c0,_⟩,c1,_⟩:=f2 0 _ rfl,f2 1 _ rfl;clear f2;go_simp;exact r.out _ X rfl H (J Yv X Ae)
   .have d1:=Z ⟨1,ed⟩ Yu Yp;have d2:=Z ⟨2,ed⟩ Yu Yp;have d3:=Z ⟨3,ed⟩ Yu Yp;rw[show x 1=C4 S from d1,show x 2=Zg k from d2,show x 3=ct #[C4 t,C2 U d s]from d3]at r |-;go_simp;exact r.out _ X rfl H (J Yv X Ae)
   .have d4:=Z ⟨4,ed⟩ Yu Yp;rw[show x 4=ct #[C4 S,Zg k,C4 t,C2 U d s]from d4]at r |-;have R:bs X.1.size X (X.alloc (ca #[C4 S,Zg k,C4 t,C2 U d s] 78)):=Zy;go_simp;exact r.out _ _ ⟨X.1.size,rfl,Yv,Aa.new X _ _⟩ ⟨R.ai Yv,λ_=>Af _ R,λ_ _=>R⟩ (J Yv _ R)
   .have d0:=Z ⟨0,ed⟩ Yu Yp;have⟨q,e5,yM,G⟩:=Z ⟨5,ed⟩ Yu Yp;rw[show x 0=Yz g m c from d0,e5]at r |-
    obtain⟨F,y,X',zG,zF,D⟩:=Ni (b.take m) [zn] (V.2.1 hL) (an ⟨q,0,ba⟩) 1 (λe=>by cases e) (λA e j u hu=>by cases e;rw[A7,Ay];exact(G j u (by rw[zK.o]at hu;simpa [Ad,kC]using hu)).1) (by rw[zK.o];simp) N2 Yu Yv (λe=>by cases e) 26;rw[show eh (b.take m)=m from by rw[C0];omega]at zG zF;have zB:bs f.1.size X X':=Ae.grown D Yv (λq G=>by simp[ownBlock]at G;omega);refine Ef (.tmp 56) (.tmp 61) 26 rfl rfl rfl zG ?_;exact r.out _ X' ⟨F,y,rfl,zF⟩ ⟨zB,λ_=>D,λh=>absurd rfl h⟩ ⟨V.1.ag zB,λh=>by unfold Bj at h;simp at h,Zm zM D.size⟩
   .go_simp;exact r.out _ X rfl H (J Yv X Ae)
   .have d7:=Z ⟨7,ed⟩ Yu Yp;rw[show x 7=Yx (w.1.size+1) 4 from d7]at r |-;have⟨f1,_⟩:=HF X V.1;obtain⟨c4,_⟩:=f1 4 _ rfl;clear f1;go_simp;exact r.out _ X rfl H (J Yv X Ae)
   .go_simp;exact r.out _ X rfl H (J Yv X Ae)
   .have d8:=Z ⟨8,ed⟩ Yu Yp;have d9:=Z ⟨9,ed⟩ Yu Yp;rw[show x 8=C2 ta b tc from d8,show x 9=Zg m from d9]at r |-;have zX:eh (b.drop m)=eh b -m:=length_drop;rcases Jd (HF X V.1).2.2 hm with⟨e,e'⟩|⟨Q,zE,e,_,yF,zS,zI,_,P,R,zN⟩
    .subst e';cases e;obtain rfl:m=0:=D2 hm;go_simp;exact r.out _ X ⟨ba,0,rfl,.inl ⟨rfl,rfl,rfl⟩⟩ H (J Yv X Ae)
    cases e;unfold ew at zI;have yH:m<=tc:=Yv;have zO:Q<f.1.size:=Dl (Ac C.ow (g:=Q) rfl);go_simp;rw[<-zX];exact r.out _ X ⟨_,_,rfl,eb ⟨Q,P,rfl,zO,zN⟩⟩ H (J Yv X Ae)
   obtain⟨g6,c6,e6,h6⟩:=Z ⟨6,ed⟩ Yu Yp;have⟨ad,c0,e0,zP⟩:=Z ⟨10,ed⟩ Yu Yp;rw[e6,e0]at r |-;obtain⟨F,y,X',zG,zF,D⟩:=Ni (b.take m++[zn]) (b.drop m) h6 ad c0 (λe=>by rcases zP with h|⟨Q,P,ea,_⟩;exact h.2;rw[ea]at e;cases e) (λA e j u hu=>by
    rcases zP with h|⟨Q,P,ea,_,h⟩
    .rw[h.1]at e;cases e
    rw[ea]at e;cases e;rw[A7];exact h j u hu) (λz I=>HZ z (mem_of_mem_drop I)) Yt Yt Yv (λe=>by cases e) 26
   rw[show eh (b.take m++[zn])=m+1 from by simp;omega,show m+1+eh (b.drop m)=eh b+1 from by simp;omega]at zG;rw[show eh (b.take m++[zn])+eh (b.drop m)=eh b+1 from by simp;omega]at zF;have u:bs f.1.size X X':=Ae.grown D Yv (λq G=>(Ac h6 G).1);refine Ef (.tmp 62) (.tmp 66) 26 rfl rfl rfl zG ?_;exact r.out _ X' ⟨F,y,rfl,zF⟩ ⟨u,λh=>absurd rfl h,λ_ h=>absurd rfl h⟩ ⟨V.1.ag u,(λh=>by unfold Bj at h;simp at h;rw[hD ⟨6,ed⟩ Yu Yp]at h;cases h),Zm zM D.size⟩
  intro L x X hL V hT K r;simp only[AY,Act.put,Zq,Zp,Zo];obtain⟨g1,c1,e1,B⟩:=hT 11 Yq (λj=>Yu);rw[e1];go_simp;refine r.out _ _ ?_;clear r K hT;have zB:bs f.1.size f X:=HL.2.ag V.1;have N:=C.A zB;obtain⟨yB,yD,yE⟩:=N.bl.size,C.box.lt,Ac B (g:=g1) rfl;have HN:Hid (Ob w (ev X (Zd (w.1.size+1) 4) (Yz g1 (eh b+1) c1)) n (Yz g1 (eh b+1) c1) (b.take m++[zn]++b.drop m)):=by
   refine⟨Aa.same N.gh ?_,N.box.set 4 _,BM (B.ai Yv) (λq G=>by simp[ownBlock]at G;omega) 4 _,λz I=> ?_,N.bl.setCell (p:=⟨w.1.size+1,4,ba⟩) Yu _⟩
   .exact(AX X (w.1.size+1) 4 _).block _ N.gh.lt Yu
   have r:Mz (w.1.size+2) X n z:=by
    simp only[Bw,mem_singleton]at I;rcases I with(I|I)|I
    .exact N.zz z (mem_of_mem_take I)
    .rw[I,zK.o];exact zJ.2.A zB
    exact N.zz z (mem_of_mem_drop I)
   exact⟨BM r.row (λq G=>Dl (Ac r.row G).1) 4 _,r.sm,r.tx,r.rl,r.rs,r.bo⟩
  obtain⟨K,q4⟩:=N.box 4 _ rfl;have yC:w.1.size+1<X.1.size:=N.box.lt;clear N zB HF HL C zJ B;go_wp2;exact⟨⟨k+1,S,_,_,Yn,rfl,Yv,Yv,Yv,Yt,HN⟩,Ys⟩
structure YR (k:Kd):Prop where
 s:k.sum.size<=8
 t:k.i.size<=ew
 n:eh k.D<=1048576
 r:∀s∈k.D,s.size<=ew
 b:(Lit.int .i64 k.born).wf=bg
theorem YR.sl{k:Kd}(h:YR k):k.sum.size<=ew:=Zm h.s Yo
structure Vu (ks:List Kd) (ps:List Pd) (ls:List Ld):Prop where
 k:∀k∈ks,YR k
 kn:eh ks<=1048576
 p:∀p∈ps,p.name.size<=ew/\p.sum.size<=ew
 pn:eh ps<=1048576
 l:∀l∈ls,l.sum.size<=ew
 ln:eh ls<=1048576
structure SDc (X:Zh) (cs:Zj):Prop where
 ex:∃(wd now given births:Int) (ta:Zk) (tc:Nat) (pa:Zk) (pc:Nat) (la:Zk) (lc:Nat) (ks:List Kd) (ps:List Pd) (ls:List Ld),cs=[Zg wd,Zg now,Zg given,Zg births,.slice ta (eh ks) tc,.slice pa (eh ps) pc,.slice la (eh ls) lc]/\Bo X X.1.size ta pa la ks ps ls/\Vu ks ps ls/\(∀A,ta=an A->FY X A ks)/\(pa=ba->pc=0)/\(la=ba->lc=0)
theorem Ic.w{b:C9}{ps:Db}{d:Da}(h:Ic b ps d)(c:∀k∈b,JM k):Vu b ps d:=by have e:=h.n;exact⟨λk a=>⟨(c k a).2.2.2,h.k.i k a,Dl (c k a).2.1,h.k.ref k a,h.b k a⟩,Yv,λp a=>⟨h.p.name p a,h.p.sum p a⟩,Yv,h.l.sum,Yv⟩
theorem XN{w:Zh}{r:Nat}{o:Zk}{d:List (Kd×Value)}(h:eo w f 78 4 (C3 o n r) (eh d) (Ad kC d))(q:∀z∈d,∃b l,z.2=C3 b (eh z.1.D) l/\Ab w w.1.size b z.1.D):Br w w.1.size o (d.map (·.1)):=by
 rcases h.2 with⟨_,u⟩|⟨g,s,t,e,_⟩
 .exact .inl gA
 cases e;refine eb ⟨g,0,rfl,(h.lt g rfl).2,λi k m=> ?_⟩;rw[getElem?_map]at m;obtain⟨z,a,rfl⟩:=Option.map_eq_some_iff.1 m;have⟨b,l,e,p⟩:=q z (Zs a);have v:=(Zw a).1;have c:∀j,j<4->w.cell? (Zd g (0+i *4+j))=(kC z)[j]?:=λj m=>by rw[Ay,h.cellAt (i *4+j) Yv];exact BU CB a m
 exact⟨c 0 Yv,c 1 Yv,c 2 Yv,b,l,(c 3 Yv).ag (congrArg an e),p⟩
theorem Aaz{b:Int}(a:0<=b)(c:b<=1000):(Lit.int .i64 b).wf=bg:=by simp[Lit.wf,IntKind.min,IntKind.max,IntKind.signed,IntKind.bits];omega
theorem MC(n l k o:Int){a b:Zk}(u z:Nat){d c:Zl}{w:Zh}(r:Ab w w.1.size a d)(q:Ab w w.1.size b c)(J:IL d c):
 D8 62 #[ct (Xy n a (eh d) u b (eh c) z l k o)] w λe f=>∃x i y j,e=C5 (ct (Xy n x (eh d) i y (eh c) j l k o))/\
  eo f w.1.size 9 1 (C3 x (eh d) i) (eh d) (d.map string)/\eo f w.1.size 9 1 (C3 y (eh c) j) (eh c) (c.map string)/\(∀g,ej (C3 x (eh d) i)=an g->ej (C3 y (eh c) j)≠an g)/\Zz w f:=by
 have⟨W,f⟩:=Ag ((w.alloc (ca (Xy n a (eh d) u b (eh c) z l k o) 32)).alloc (ca Xt 32));have h:=(AQ f).1;have s:=(AQ f).2.2.1;have t:Aa W (w.1.size+1) Xs:=by have A:=Aa.new (w.alloc (ca (Xy n a (eh d) u b (eh c) z l k o) 32)) Xs 32;rw[Ao]at A;rw[f];exact A
 have N:=(AQ f).2.1;have m:=Yw f;have p:Hid (Aa W _ _):=(AQ f).2.2.1;have B:Hid (Aa W (w.1.size+1) Xs):=t;have I:Hid (Ab w w.1.size a d):=r;have H:Hid (Ab w w.1.size b c):=q;obtain⟨L,M⟩:=Aa.c2 s 1 2;clear f t s r q;delta D8;go_in;go_upto_region 1 with fail;rw[<-m.o];clear m;go_region_with (first
  |(go_at_call 58;refine(EL u (Ab.X (w:=w) I h.drew) J.q).ai ?_;rintro e K ⟨x,i,rfl,r,C⟩;have f:bs W.1.size W K:=(Below.refl W.1.size W).drew.ag C;obtain⟨b2,_⟩:=Aa.A p f 2 _ rfl)
  |(go_at_call 58;refine(EL z (Ab.X (w:=w) H (h.ag (f.ai h.size))) J.m).ai ?_;rintro e G ⟨y,j,rfl,s,q⟩;have m:bs W.1.size W G:=f.ag (q.ai f.size);obtain⟨⟨c0,d0⟩,⟨c1,d1⟩,⟨c2,d2⟩,⟨c3,d3⟩,⟨c4,d4⟩,c5,d5⟩:=c6 (Aa.A p m);obtain⟨⟨k0,g0⟩,⟨k1,g1⟩,⟨k2,g2⟩,⟨k3,g3⟩,⟨k4,g4⟩,k5,g5⟩:=c6 (Aa.A (v:=Ze) B m)))
 all_goals
  have D:eo G (w.1.size+2) 9 1 (C2 x d i) (eh d) (d.map string):=(Jg r q).ai Yt;have E:eo G (w.1.size+2) 9 1 (C2 y c j) (eh c) (c.map string):=s.ai (Dl f.size);have F:∀g,ej (C2 x d i)=an g->ej (C2 y c j)≠an g:=λg A t=>by have O:=(Ac r A).2;have P:=(Ac s t).1;omega
  have t:=Yw (Zn D (Zn E (Zn F (h.ag (m.ai h.size)))));clear D E r s C q f m p B I H L M h F;go_wp2;refine C1 (ct (Xy n x (eh d) i y (eh c) j l k o)) (by simp[results,results62,go_sem,k0,k1,k2,k3,k4,k5]) ⟨x,i,y,j,rfl,?_,?_,t.2.2.1,?_⟩
  .refine ownsRow.ai ?_ (show w.1.size<=w.1.size+2 by omega)
   iterate 8 (refine ownsRow_setCell_below ?_ Ym _)
   exact t.1
  .refine ownsRow.ai ?_ (show w.1.size<=w.1.size+2 by omega)
   iterate 8 (refine ownsRow_setCell_below ?_ Ym _)
   exact t.2.1
  iterate 8 (refine Below.setCell ?_ Yu _)
  exact t.2.2.2
theorem MD{a:Va}{r:Rs}{w:Zh}(A:Bc w w.1.size a v)(h:Dz v)(b:BZ v r):
 D8 37 #[ct (Xq v a)] w λe c=>∃(S U T P L Q M:D4) (Z:Zj),e=C5 (ct #[Zg v.wd,Zg v.lim,S,U,Zg v.J,Zg v.F,Zg v.G,Zg v.E,T,P,L,Zg v.I,Q,M,Zg v.N,Zg v.M,Zg v.ro])/\AF c w.1.size S U T P L Q M Z v/\Zz w c:=by
 have⟨W,f⟩:=Ag ((w.alloc (ca (Xq v a) 34)).alloc (ca Xo 34));have l:=(AQ f).1;have zW:=(AQ f).2.1;have z:Hid (Aa W _ _):=(AQ f).2.2.1;have H:Hid (Aa W (w.1.size+1) Xn):=by have n:=Aa.new (w.alloc (ca (Xq v a) 34)) Xn 34;rw[Ao]at n;show Aa W (w.1.size+1) Xn;rw[f];exact n
 have HR:Hid (∀X,Zz w X->Bc X X.1.size a v):=λX c=>A.X c;have i:=b.run.ok (DH b.wd.1 b.wd.2);have c:Hid (v.wd=v.J/\r.B=v.B/\r.ps=v.ps/\r.ls=v.ls):=⟨b.same.1.1,b.same.2⟩;have k:Hid (Gn v.J r.F r.G r.E v.B v.ps v.ls):=by have n:Gn v.wd r.F r.G r.E r.B r.ps r.ls:=i;rw[c.1,c.2.1,c.2.2.1,c.2.2.2]at n;exact n
 have j:=Yw f;have D:Hid (Zz w W):=l;have f1:=h.s;have N:=h.t;have zZ:Hid (IL v.H v.ms):=h.r;obtain⟨I,J⟩:=Aa.c2 z 2 3;clear f A l h b i c;delta D8;go_in;go_upto_region 1 with fail;rw[<-j.o];clear j;go_wp2_with fail;refine(JQ a.sc a.T (HR W D).s (HR W D).t f1 N).ai ?_;rintro e w1 ⟨x,f,y,h,rfl,E,j,B,b⟩;have z1:=b.size;clear I J;have⟨l,A⟩:=Ag (ev (ev w1 (Zd (w.1.size) 2) (C2 x v.ss f)) (Zd (w.1.size) 3) (C2 y v.C h));have F:Tn [w.1.size] w1 l:=by rw[A];exact(Tn.set _ _ _ _ Yu).ag (Tn.set _ _ _ _ Yu)
 have yD:l.1.size=w1.1.size:=by rw[A];simp
 have K:Hid (Aa l (w.1.size+1) Xn):=Aa.same (Aa.A (v:=Ze) H b) (F.block _ Yv Ym);have c:Hid (Aa l w.1.size (Xm v x f y h a.Q a.W a.L a.P a.K a.O a.Z a.y a.g a.j)):=by have n:Aa w1 w.1.size (Xp v a):=Aa.A z b;show Aa l w.1.size (Xm v x f y h a.Q a.W a.L a.P a.K a.O a.Z a.y a.g a.j);rw[A];exact((n.set 2 _).set 3 _)
 have C:Hid (Zz w l):=gD;have R:Hid (eo l W.1.size 9 1 (C2 x v.ss f) (eh v.ss) (v.ss.map string)):=Dw E F Yt;have V:Hid (eo l W.1.size 9 1 (C2 y v.C h) (eh v.C) (v.C.map string)):=Dw j F Yt;obtain⟨zS,⟨I,N⟩,⟨J,Y⟩,G⟩:=Yw B,(Aa.A z b) 2 _ rfl,(Aa.A z b) 3 _ rfl,Yw A;have zP:Hid ((∀g,ej (C2 x v.ss f)=an g->g<w1.1.size)/\(∀g,ej (C2 y v.C h)=an g->g<w1.1.size)):=⟨λg i=>(Ac E i).2,λg i=>(Ac j i).2⟩;clear A E j B D;go_upto_region 2 with fail;rw[<-G.o];clear G I N J Y b F z H;obtain⟨⟨e4,f4⟩,⟨e5,f5⟩,⟨e6,f6⟩,e7,f7⟩:=(c.o) 4 _ rfl,(c.o) 5 _ rfl,(c.o) 6 _ rfl,(c.o) 7 _ rfl;obtain⟨⟨e8,f8⟩,⟨e9,f9⟩,F,G⟩:=(c.o) 8 _ rfl,(c.o) 9 _ rfl,(c.o) 10 _ rfl;have z:=Yw (Ka v.J v.F v.G v.E a.Q a.L a.K a.W a.P a.O v.B v.ps v.ls l (HR l C).st k.bk.len k.np k.nl k.bk.sz k.bk.w8);go_wp2_with fail;refine z.Aj ?_;rintro e w2 ⟨d,m,O,P,L,rfl,j,_,_,b⟩;have Y:=Yw (Iy (l.1.size+1) d m O P L v.J v.F v.G v.E v.B v.ps v.ls w2 j k.bk.nd k.bk.sz k.bk.len k.np k.nl k.cz);have z2:=b.size;have E:Hid (Zz l w2):=b;clear e4 f4 e5 f5 e6 f6 e7 f7 e8 f8 e9 f9 F G z j b;go_wp2_with fail;refine Y.Aj ?_;rintro e H ⟨T,P',L',Z,rfl,A,J⟩;obtain⟨t,u,q,s,o,p,rfl,rfl,rfl,_⟩:=A.rows;have z3:=J.size;have b:bs l.1.size l H:=E.ag (J.ai E.size);obtain⟨B,z⟩:=Ag (ev (ev (ev (ev (ev (ev (ev H (Zd (w.1.size) 4) (Zg v.J)) (Zd (w.1.size) 5) (Zg v.F)) (Zd (w.1.size) 6) (Zg v.G)) (Zd (w.1.size) 7) (Zg v.E)) (Zd (w.1.size) 8) (C2 t v.B u)) (Zd (w.1.size) 9) (C2 q v.ps s)) (Zd (w.1.size) 10) (C2 o v.ls p));have D:Tn [w.1.size] H B:=by
  rw[z];exact((((((Tn.set _ _ _ _ Yu).ag (Tn.set _ _ _ _ Yu)).ag (Tn.set _ _ _ _ Yu)).ag (Tn.set _ _ _ _ Yu)).ag (Tn.set _ _ _ _ Yu)).ag (Tn.set _ _ _ _ Yu)).ag (Tn.set _ _ _ _ Yu)
 have yE:B.1.size=H.1.size:=by rw[z];simp
 have zY:Hid (Aa B (w.1.size+1) Xn):=Aa.same (Aa.A (v:=Ze) K b) (D.block _ Yv Ym);have j:Hid (Aa B w.1.size (Xm v x f y h t u q s o p a.Z a.y a.g a.j)):=by have n:Aa H w.1.size (Xm v x f y h a.Q a.W a.L a.P a.K a.O a.Z a.y a.g a.j):=Aa.A c b;show Aa B w.1.size (Xm v x f y h t u q s o p a.Z a.y a.g a.j);rw[z];exact(((((((n.set 4 _).set 5 _).set 6 _).set 7 _).set 8 _).set 9 _).set 10 _)
 have I:Hid (Zz w B):=gD;replace R:Hid (eo B W.1.size 9 1 (C2 x v.ss f) (eh v.ss) (v.ss.map string)):=Dw (Ah R b) D Yt;replace V:Hid (eo B W.1.size 9 1 (C2 y v.C h) (eh v.C) (v.C.map string)):=Dw (Ah V b) D Yt;have N:Hid ((∀g,ej (C2 x v.ss f)=an g->g<w2.1.size)/\(∀g,ej (C2 y v.C h)=an g->g<w2.1.size)/\∀g∈BP (C2 t v.B u) (C2 q v.ps s) (C2 o v.ls p) Z,g<H.1.size):=⟨λg i=>Dl (zP.1 g i),λg i=>Dl (zP.2 g i),A.db⟩;have zT:Hid (Be B w2.1.size (C2 t v.B u) (C2 q v.ps s) (C2 o v.ls p) Z v.B v.ps v.ls):=A.S D Yt;obtain⟨⟨e4,f4⟩,⟨e5,f5⟩,⟨e6,f6⟩,⟨e7,f7⟩,⟨e8,f8⟩,⟨e9,f9⟩,F,G⟩:=(Aa.A c b) 4 _ rfl,(Aa.A c b) 5 _ rfl,(Aa.A c b) 6 _ rfl,(Aa.A c b) 7 _ rfl,(Aa.A c b) 8 _ rfl,(Aa.A c b) 9 _ rfl,(Aa.A c b) 10 _ rfl;have zU:=Yw z;clear z A Y E;go_upto_region 3 with fail;rw[<-zU.o];clear zU e4 f4 e5 f5 e6 f6 e7 f7 e8 f8 e9 f9 F G J b D c K C;obtain⟨⟨zA,zH⟩,⟨zB,zI⟩,⟨zC,zJ⟩,⟨zE,zK⟩,⟨zF,zM⟩,zG,zN⟩:=(j.o) 11 _ rfl,(j.o) 12 _ rfl,(j.o) 13 _ rfl,(j.o) 14 _ rfl,(j.o) 15 _ rfl,(j.o) 16 _ rfl;go_wp2_with fail;refine(MC v.I v.N v.M v.ro a.y a.j (HR B I).q (HR B I).m zZ).ai ?_;rintro e w4 ⟨D,z,C,c,rfl,zV,K,J,b⟩;clear zA zH zB zI zC zJ zE zK zF zM zG zN;have A:=b.size;have⟨E,A⟩:=Ag (ev (ev (ev (ev (ev (ev w4 (Zd (w.1.size) 11) (Zg v.I)) (Zd (w.1.size) 12) (C2 D v.H z)) (Zd (w.1.size) 13) (C2 C v.ms c)) (Zd (w.1.size) 14) (Zg v.N)) (Zd (w.1.size) 15) (Zg v.M)) (Zd (w.1.size) 16) (Zg v.ro));have F:Tn [w.1.size] w4 E:=by rw[A];exact(((((Tn.set _ _ _ _ Yu).ag (Tn.set _ _ _ _ Yu)).ag (Tn.set _ _ _ _ Yu)).ag (Tn.set _ _ _ _ Yu)).ag (Tn.set _ _ _ _ Yu)).ag (Tn.set _ _ _ _ Yu)
 have yF:E.1.size=w4.1.size:=by rw[A];simp
 have zO:Hid (Aa E (w.1.size+1) Xn):=Aa.same (Aa.A (v:=Ze) zY b) (F.block _ Yv Ym);have zX:Hid (Aa E w.1.size (Xm v x f y h t u q s o p D z C c)):=by have n:Aa w4 w.1.size (Xm v x f y h t u q s o p a.Z a.y a.g a.j):=Aa.A j b;show Aa E w.1.size (Xm v x f y h t u q s o p D z C c);rw[A];exact((((((n.set 11 _).set 12 _).set 13 _).set 14 _).set 15 _).set 16 _)
 have⟨W5,Y⟩:=Ag (E.setCells (w.1.size+1) 0 (Xm v x f y h t u q s o p D z C c));have G:Tn [w.1.size+1] E W5:=by rw[Y];exact AD _ _ _ _
 have x5:Aa W5 (w.1.size+1) (Xm v x f y h t u q s o p D z C c):=by rw[Y];exact zO.aw _ rfl
 have yC:=G.size;have q1:=Dw (Dw (Ah R b) F Yt) G Yt;have q2:=Dw (Dw (Ah V b) F Yt) G Yt;have q3:=((zT.A b).S F Yt).S G Yt;have q4:=Dw (Dw zV F Yt) G Yt;have q5:=Dw (Dw K F Yt) G Yt;have X:Hid (Zz w W5):=gD;have HV:Hid (AF W5 w.1.size (C2 x v.ss f) (C2 y v.C h) (C2 t v.B u) (C2 q v.ps s) (C2 o v.ls p) (C2 D v.H z) (C2 C v.ms c) Z v):=
  AF.of (n1:=w2.1.size) (n2:=H.1.size) (Ak.own (q1.ai Yv)) (Ak.own (q2.ai Yv)) (λg n=>zS g n) (λg i=>by rcases i with i|i;exact N.1 g i;exact N.2.1 g i) q3 Yv N.2.2 (Ak.own (q4.ai Yv)) (Ak.own (q5.ai Yv)) (λg i=>by rcases i with i|i;(have:=(Ac q4 i).1;omega);(have:=(Ac q5 i).1;omega)) z3 (λg n=>J g n)
 obtain⟨⟨zA,zH⟩,⟨zB,zI⟩,⟨zC,zJ⟩,⟨zE,zK⟩,⟨zF,zM⟩,⟨zG,zN⟩,g,yA,yB⟩:=(Aa.A j b) 11 _ rfl,(Aa.A j b) 12 _ rfl,(Aa.A j b) 13 _ rfl,(Aa.A j b) 14 _ rfl,(Aa.A j b) 15 _ rfl,(Aa.A j b) 16 _ rfl,Yw A,Yw Y,Yw x5;clear A Y zV K J q1 q2 q3 q4 q5 x5 F G R V zT zS N;go_upto_region 4 with fail;rw[<-g.o];clear g zA zH zB zI zC zJ zE zK zF zM zG zN;have F:((Xl v x f y h t u q s o p D z C c):Array Value).all (·.oneCell')=bg:=G3
 have A:E.there (w.1.size+1) 0 17:=zO.there;have G:=Yw (Zn F A);clear F A;go_wp2_with (first
  |refine wpList_load_mid rfl 34 _ rfl w.1.size 0 rfl (Xm v x f y h t u q s o p D z C c) _ zX.range underlying34 rfl Yr ?_
  |refine wpList_store_mid rfl 34 _ _ rfl (w.1.size+1) 0 (Xl v x f y h t u q s o p D z C c) rfl rfl G.2 Yr G.1 ?_)
 rw[<-yA.o];refine bodyPost_ret (AM results37 _ _ (w.1.size+1) (Xm v x f y h t u q s o p D z C c) _ rfl (Aa.range yB) underlying34 rfl Yr) rfl ?_;exact⟨_,_,_,_,_,_,_,Z,rfl,HV,X⟩
theorem Av.is{P:Prop}{w a:Zh}{e:Ending}(h:Av P w a e)(f:P):e=C5 (ef bg)/\Zz w a:=by obtain⟨b,rfl,c,d⟩:=h;rw[c.2 f];exact⟨rfl,d⟩
theorem JE(k g f l:Int){x y:Zk}(m n:Zk)(r s i j:Nat){b a:Zl}{w:Zh}(v:Ab w w.1.size x b)(z:Ab w w.1.size y a)(A:Ab w w.1.size m b)(B:Ab w w.1.size n a)(q:IL b a):
 D8 12 #[ct (Xy k x (eh b) r y (eh a) s g f l),ct (Xy k m (eh b) i n (eh a) j g f l)] w λe c=>e=C5 (ef bg)/\Zz w c:=by
 have⟨W,p⟩:=Ag ((w.alloc (ca (Xy k x (eh b) r y (eh a) s g f l) 32)).alloc (ca (Xy k m (eh b) i n (eh a) j g f l) 32));have t:=(AQ p).1;have o:Hid (∀X,Zz W X->Aa X w.1.size (Xu k x (eh b) r y (eh a) s g f l)/\Aa X (w.1.size+1) (Xu k m (eh b) i n (eh a) j g f l)/\Zz w X):=λX c=>⟨Aa.A (AQ p).2.2.1 c,Aa.A (AQ p).2.2.2 c,t.ag (c.ai t.size)⟩;have C:Hid (∀X,Zz w X->D8 25 #[C2 x b r,C2 m b i] X λe d=>e=C5 (ef bg)/\Zz X d):=λX c=>(GM r i (v.X c) (A.X c) q.q q.q).ai (λe d h=>h.is rfl);have D:Hid (∀X,Zz w X->D8 25 #[C2 y a s,C2 n a j] X λe d=>e=C5 (ef bg)/\Zz X d):=λX c=>(GM s j (z.X c) (B.X c) q.m q.m).ai (λe d h=>h.is rfl);have u:=Yw p;clear p v z A B q t;have⟨c,d,_⟩:=o W Ae;obtain⟨⟨z,_⟩,⟨A,_⟩,⟨t,_⟩,⟨B,_⟩,E,_⟩:=c 0 _ rfl,c 1 _ rfl,c 2 _ rfl,c 3 _ rfl,c 4 _ rfl;obtain⟨⟨F,_⟩,⟨G,_⟩,⟨H,_⟩,⟨v,_⟩,⟨I,_⟩,⟨J,_⟩,K,_⟩:=c 5 _ rfl,d 0 _ rfl,d 1 _ rfl,d 2 _ rfl,d 3 _ rfl,d 4 _ rfl,d 5 _ rfl;clear c d;delta D8;go_in;go_upto_region 1 with fail;rw[<-u.o];clear u;go_wp2_with fail;refine(C W (o W Ae).2.2).ai ?_;rintro e q ⟨rfl,p⟩;obtain⟨u,c,d,_⟩:=Yw p,o q p;clear z G A H t v B I E J F K;obtain⟨⟨t,_⟩,v,_⟩:=c 2 _ rfl,d 2 _ rfl;clear c d p;go_wp2_with fail;refine(D q (o q u).2.2).ai ?_;rintro e c ⟨rfl,p⟩;have d:Hid (Zz W c):=gD;clear p;go_wp2;go_ret;exact⟨rfl,(o c d).2.2⟩
theorem ME(v:Vd)(a b:Va)(w:Zh)(j:Bc w w.1.size a v)(i:Bc w w.1.size b v)(g:Dz v)(m:eh v.B<=100000/\eh v.ps<=100000/\eh v.ls<=100000)(o:∀k∈v.B,eh k.D<=100000):
 D8 7 #[ct (Xq v a),ct (Xq v b)] w λe c=>e=C5 (ef bg)/\Zz w c:=by
 have⟨W,l⟩:=Ag ((w.alloc (ca (Xq v a) 34)).alloc (ca (Xq v b) 34));have n:=(AQ l).1;have d:Hid (∀X,Zz W X->Aa X w.1.size (Xp v a)/\Aa X (w.1.size+1) (Xp v b)/\Zz w X):=λX c=>⟨Aa.A (AQ l).2.2.1 c,Aa.A (AQ l).2.2.2 c,n.ag (c.ai n.size)⟩;have q:Hid (∀X,Zz w X->D8 25 #[C2 a.Y v.ss a.sc,C2 b.Y v.ss b.sc] X λe f=>e=C5 (ef bg)/\Zz X f):=λX c=>(GM a.sc b.sc (j.X c).s (i.X c).s g.s g.s).ai (λe f h=>h.is rfl);have r:Hid (∀X,Zz w X->D8 25 #[C2 a.V v.C a.T,C2 b.V v.C b.T] X λe f=>e=C5 (ef bg)/\Zz X f):=λX c=>(GM a.T b.T (j.X c).t (i.X c).t g.t g.t).ai (λe f h=>h.is rfl);have s:Hid (∀X,Zz w X->D8 11 #[ct (C8 v.J v.F v.G v.E a.Q v.B a.W a.L v.ps a.P a.K v.ls a.O),ct (C8 v.J v.F v.G v.E b.Q v.B b.W b.L v.ps b.P b.K v.ls b.O)] X λe f=>e=C5 (ef bg)/\Zz X f):=λX c=>(GP (eb ⟨rfl,rfl⟩) v.J v.F v.G v.E v.J v.F v.G v.E a.Q a.L a.K b.Q b.L b.K a.W a.P a.O b.W b.P b.O v.B v.B v.ps v.ps v.ls v.ls X (j.X c).st (i.X c).st m Yv o (λk m=>Dl (o k m))).ai (λe f h=>h.is ⟨⟨rfl,rfl,rfl,rfl⟩,rfl,rfl,rfl⟩);have t:Hid (∀X,Zz w X->D8 12 #[ct (Xy v.I a.Z (eh v.H) a.y a.g (eh v.ms) a.j v.N v.M v.ro),ct (Xy v.I b.Z (eh v.H) b.y b.g (eh v.ms) b.j v.N v.M v.ro)] X λe f=>e=C5 (ef bg)/\Zz X f):=λX c=>JE v.I v.N v.M v.ro b.Z b.g a.y a.j b.y b.j (j.X c).q (j.X c).m (i.X c).q (i.X c).m g.r;have p:=Yw l;clear l j i g m o n;have⟨c,f,_⟩:=d W Ae;obtain⟨⟨i,_⟩,⟨l,_⟩,⟨n,_⟩,⟨o,_⟩,⟨u,_⟩,x,_⟩:=c 0 _ rfl,c 1 _ rfl,c 2 _ rfl,f 0 _ rfl,f 1 _ rfl,f 2 _ rfl;clear c f;delta D8;go_in;go_upto_region 1 with fail;rw[<-p.o];clear p;go_wp2_with fail;refine(q W (d W Ae).2.2).ai ?_;rintro e j ⟨rfl,g⟩;obtain⟨m,c,f,_⟩:=Yw g,d j g;clear i o l u n x
 obtain⟨i,_⟩:=c 3 _ rfl;obtain⟨l,_⟩:=f 3 _ rfl;clear c f g;go_wp2_with fail;refine(r j (d j m).2.2).ai ?_;rintro e c ⟨rfl,f⟩;have g:Hid (Zz W c):=gD;clear f i l;go_wp2_with (first
  |refine EA Yr 30 _ rfl w.1.size 4 rfl (C7 v.J v.F v.G v.E a.Q v.B a.W a.L v.ps a.P a.K v.ls a.O) _ (Aa.dq [Zg v.wd,Zg v.lim,C2 a.Y v.ss a.sc,C2 a.V v.C a.T] (C7 v.J v.F v.G v.E a.Q v.B a.W a.L v.ps a.P a.K v.ls a.O) (Xu v.I a.Z (eh v.H) a.y a.g (eh v.ms) a.j v.N v.M v.ro) (d c g).1) underlying30 rfl Yr ?_
  |refine EA Yr 30 _ rfl (w.1.size+1) 4 rfl (C7 v.J v.F v.G v.E b.Q v.B b.W b.L v.ps b.P b.K v.ls b.O) _ (Aa.dq [Zg v.wd,Zg v.lim,C2 b.Y v.ss b.sc,C2 b.V v.C b.T] (C7 v.J v.F v.G v.E b.Q v.B b.W b.L v.ps b.P b.K v.ls b.O) (Xu v.I b.Z (eh v.H) b.y b.g (eh v.ms) b.j v.N v.M v.ro) (d c g).2.1) underlying30 rfl Yr ?_)
 refine(s c (d c g).2.2).ai ?_;rintro e f ⟨rfl,l⟩;have i:Hid (Zz W f):=gD;clear l;go_wp2_with (first
  |refine EA Yr 32 _ rfl w.1.size 11 rfl (Xu v.I a.Z (eh v.H) a.y a.g (eh v.ms) a.j v.N v.M v.ro) _ (Aa.dq [Zg v.wd,Zg v.lim,C2 a.Y v.ss a.sc,C2 a.V v.C a.T,Zg v.J,Zg v.F,Zg v.G,Zg v.E,C2 a.Q v.B a.W,C2 a.L v.ps a.P,C2 a.K v.ls a.O] (Xu v.I a.Z (eh v.H) a.y a.g (eh v.ms) a.j v.N v.M v.ro) [] (d f i).1) underlying32 rfl Yr ?_
  |refine EA Yr 32 _ rfl (w.1.size+1) 11 rfl (Xu v.I b.Z (eh v.H) b.y b.g (eh v.ms) b.j v.N v.M v.ro) _ (Aa.dq [Zg v.wd,Zg v.lim,C2 b.Y v.ss b.sc,C2 b.V v.C b.T,Zg v.J,Zg v.F,Zg v.G,Zg v.E,C2 b.Q v.B b.W,C2 b.L v.ps b.P,C2 b.K v.ls b.O] (Xu v.I b.Z (eh v.H) b.y b.g (eh v.ms) b.j v.N v.M v.ro) [] (d f i).2.1) underlying32 rfl Yr ?_)
 refine(t f (d f i).2.2).ai ?_;rintro e l ⟨rfl,o⟩;have n:Hid (Zz W l):=gD;clear o;go_wp2;go_ret;exact⟨rfl,(d l n).2.2⟩
