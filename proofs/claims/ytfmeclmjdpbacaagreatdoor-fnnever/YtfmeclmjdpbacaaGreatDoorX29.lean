import Derived.Test.YtfmeclmjdpbacaaGreatDoorX28
set_option maxRecDepth 100000
set_option maxHeartbeats 16000000
open Bool renaming true->ay,false->ba
open Go.Obj renaming cells->bs
open Go.Value renaming agg->ca
open Go.Ground renaming data->dp
open List renaming length->ed,toArray->ee
open Go.World renaming ownsRow->ej
namespace Go.Proofs.YtfmeclmjdpbacaaGreatDoor
open ChangeShapes WideShapes ChangeAt RowKit _root_.Go.Proofs.Tryz List World Value
variable{v u:Vd}{g c a n q m:Nat}{w X Y:Zh}{b D:Zj}{z:Value}{L:List Ac}{x:Ac}
theorem LH.small{x:Option (UR×Nat)}(h:LH v x g w b):ed b=20/\∀y∈b,y.oneCell'=ay:=by
 cases x with
 |none=>have e:b=z20 1:=h;rw[e];exact⟨rfl,by simp[z20,oneCell']⟩
 |some p=>obtain⟨S,U,T,P,L,Q,M,i,D,rfl,d,f,_⟩:=h;obtain⟨⟨a,e,_⟩,_,_,c,_⟩:=d.io,f.row;rw[e,c];exact⟨rfl,by simp[OF,AV,oneCell']⟩
theorem LH.stays{x:Option (UR×Nat)}{w':Zh}{d:Zj}{V:List Nat}(h:LH v x c w d)(j:Tn V w w')(i:∀b∈V,b<c):LH v x c w' d:=by
 cases x with
 |none=>exact h
 |some p=>obtain⟨S,U,T,P,L,Q,M,m,D,rfl,e,f,k⟩:=h;exact⟨S,U,T,P,L,Q,M,m,D,rfl,e.stays j (λb l a=>by have:=e.lo b a;have:=i b l;omega),f.O j (λg l a=>by have:=(f.S l).1;have:=i g a;omega),k⟩
theorem LH.mono{x:Option (UR×Nat)}{d:Nat}(h:LH v x d w b)(c:a<=d):LH v x a w b:=by
 cases x with
 |none=>exact h
 |some p=>obtain⟨S,U,T,P,L,Q,M,i,D,rfl,f,g,e⟩:=h;exact⟨S,U,T,P,L,Q,M,i,D,rfl,f.ah c,g.ah c,e⟩
abbrev LH.ah:=@LH.mono
theorem MY{a:Va}(b:Int)(j:Bg w w.1.size a v)(J:DM v)(f:Env w):
 D4 8 #[ca (Xr v a),Zg b] w (YK v b w):=by
 have⟨W,c⟩:=Ag ((w.alloc (bs (Xr v a) 34)).alloc (bs Xi 45));obtain⟨p,zW,l⟩:=(AT c).1,(AT c).2.1,(AT c).2.2.1;have q:Aa W (w.1.size+1) (z20 0):=(AT (k:=z20 0) c).2.2.2;have g:Hid (∀X,Zz W X->Aa X w.1.size (Xq v a)/\Aa X (w.1.size+1) (z20 0)/\Zz w X):=λX i=>⟨Aa.A l i,Aa.A (v:=Ze) q i,p.ag (i.ah p.size)⟩;have t:=Yw (JP (j.U p) J (f.A p));have A:Hid (Bg W W.1.size a v/\Env W):=⟨j.U p,f.A p⟩;have n:=Yw c;clear c l q j f;by_cases hun:0<=b/\b<=10000
 .obtain⟨N,rfl⟩:∃N:Nat,b=N:=⟨b.toNat,Yv⟩;have Z:N<=10000:=Yv;have U:¬(N:Int)<0:=Yv;have V:¬(10000:Int)<N:=Yv;delta D4;go_in;go_upto_region 1 with fail;rw[<-n.o];clear n;go_wp2_with (refine wpList_load_mid rfl 34 _ rfl w.1.size 0 rfl (Xq v a) _ (g W Ae).1.range underlying34 rfl Yr ?_);refine t.Ak ?_;rintro e B ⟨z,⟨c,rfl⟩|⟨r,k,d,m,O,P,L,D,f,rfl,i⟩⟩
  .have l:Hid (¬(BY v/\0<=(N:Int)/\(N:Int)<=10000)):=λh=>c h.1;clear c t;have c:=Yw (TQ (X:=B) (g B z).2);go_wp2_with (refine wpList_store_mid rfl 45 _ _ rfl (w.1.size+1) 0 (Xg 1) rfl rfl c.1 Yr c.2.1 ?_);change bodyPost _ _ _ _ _ (B.setCells (w.1.size+1) 0 (z20 1));refine bodyPost_ret (AM results8 _ _ (w.1.size+1) (z20 1) _ rfl c.2.2.1.range underlying45 rfl Yr) rfl ?_;exact⟨none,z20 1,.inl ⟨l,rfl⟩,rfl,rfl,c.2.2.2⟩
  have I:=Yw (VN N Z f i (Zx) z A.1 J A.2);have M:Hid (Bo v r):=f;clear f i t;go_wp2_with fail;refine I.Ak ?_;rintro o y ⟨T,x,f,E,rfl,G⟩;have S:Below W.1.size W y:=z.ag T;obtain⟨i,s,F,q⟩:=g y S,G.small,Ag (y.setCells (w.1.size+1) 0 (ee f).toList);have H:Tn [w.1.size+1] y F:=by rw[q];exact Ap _ _ _ _
  have K:Aa F (w.1.size+1) f:=by rw[q];exact i.2.1.ax f (by rw[s.1];rfl)
  have j:Hid (y.there (w.1.size+1) 0 (ee f).size/\ed f=20/\∀u∈f,u.oneCell'=ay):=⟨by rw[show (ee f).size=20 from by rw[Az];exact s.1];exact i.2.1.there,s⟩;have C:Hid (YK v N w (.returned (ca (ee f))) F):=⟨x,f,.inr ⟨r,M,hun,by rw[Int.toNat_natCast];exact E⟩,rfl,(G.stays H Yt).ah Yv,i.2.2.ag (H.A i.2.2.size Yu)⟩;have R:=Yw K;have Q:=Yw q;clear q K H E G s i I;go_wp2_with (refine wpList_store_mid rfl 45 _ _ rfl (w.1.size+1) 0 (ee f) rfl rfl j.1 (by rw[Az,j.2.1];kernel_rfl) (all_oneCell_toArray j.2.2) ?_);rw[<-Q.o];exact bodyPost_ret (AM results8 _ _ (w.1.size+1) f _ rfl (Aa.range R) underlying45 rfl (by rw[j.2.1];kernel_rfl)) rfl C
 have l:Hid (¬(BY v/\0<=b/\b<=10000)):=λh=>hun h.2;by_cases U:b<0
 .clear hun t A;delta D4;go_in;go_upto_region 1 with fail;rw[<-n.o];clear n;have c:=Yw (TQ (X:=W) (g W Ae).2);go_wp2_with (refine wpList_store_mid rfl 45 _ _ rfl (w.1.size+1) 0 (Xg 1) rfl rfl c.1 Yr c.2.1 ?_);change bodyPost _ _ _ _ _ (W.setCells (w.1.size+1) 0 (z20 1));refine bodyPost_ret (AM results8 _ _ (w.1.size+1) (z20 1) _ rfl c.2.2.1.range underlying45 rfl Yr) rfl ?_;exact⟨none,z20 1,.inl ⟨l,rfl⟩,rfl,rfl,c.2.2.2⟩
 have V:(10000:Int)<b:=Yv;clear hun t A;delta D4;go_in;go_upto_region 1 with fail;rw[<-n.o];clear n;have c:=Yw (TQ (X:=W) (g W Ae).2);go_wp2_with (refine wpList_store_mid rfl 45 _ _ rfl (w.1.size+1) 0 (Xg 1) rfl rfl c.1 Yr c.2.1 ?_);change bodyPost _ _ _ _ _ (W.setCells (w.1.size+1) 0 (z20 1));refine bodyPost_ret (AM results8 _ _ (w.1.size+1) (z20 1) _ rfl c.2.2.1.range underlying45 rfl Yr) rfl ?_;exact⟨none,z20 1,.inl ⟨l,rfl⟩,rfl,rfl,c.2.2.2⟩
theorem Fy.own{base:Nat}{ss:Zl}(h:ej w base 9 1 (Yz g (ed ss) c) (ed ss) (ss.map string)):Fy w w.1.size (some ⟨g,0,none⟩) ss:=by
 rcases Ad.own h with f|⟨b,m,i,d,j⟩
 .exact .inl f
 rcases h.2 with⟨e,_⟩|⟨n,l,a,e,_,k,_⟩
 .cases e
 cases e;cases i;exact .inr ⟨_,_,rfl,d,⟨a,k⟩,j⟩
theorem JS{b:Zi}{a:Zl}(h:∃g c,z=ca #[C0 b,Yz g (ed a) c]/\ej X 0 9 1 (Yz g (ed a) c) (ed a) (a.map string))(f:Zz X Y):∃g c,z=ca #[C0 b,Yz g (ed a) c]/\ej Y 0 9 1 (Yz g (ed a) c) (ed a) (a.map string):=by obtain⟨g,c,d,e⟩:=h;exact⟨g,c,d,DF e f⟩
def GW(v:Vd)(e:Ed)(lo:Nat)(X:Zh)(z:Value):Prop:=∃d S U T P L Q M rs,z=ca (ee (Ha d S U T P L Q M))/\Ex v e d/\Ay X lo S U T P L Q M rs d.v
theorem GW.A{e:Ed}(h:GW v e a X z)(g:Zz X Y):GW v e a Y z:=by obtain⟨d,S,U,T,P,L,Q,M,i,b,c,f⟩:=h;exact⟨d,S,U,T,P,L,Q,M,i,b,c,f.A g⟩
def KS(n:Nat)(v:Vd)(x:Ac)(u:Vd)(c:Int):Prop:=(∃e d,EdA v x e/\Ex v e d/\u=d.v/\c=d.c)\/(¬(1<=x.N/\x.N<=6)/\c=0/\NV (n+40) u)
def DoP(n:Nat)(v:Vd)(x:Ac)(w:Zh)(e:Ending)(w':Zh):Prop:=∃(u:Vd) (c:Int) (S U T P L Q M:Value) (rs:Zj),e=.returned (.tuple #[ca (ee (AV u S U T P L Q M)),Zg c])/\KS n v x u c/\Ay w' w.1.size S U T P L Q M rs u/\Zz w w'
theorem Ace{a:Va}(x:Ac)(hr:Bg w w.1.size a v)(zX:ed v.D<=a.d)(hf:DM v)(hE:Env w)(K:x.ok)(zG:NV n v)(yK:n<=2900)(hw:1<=v.P/\v.P<=8):
 D4 6 #[ca (ee (BI v a)),ca (ee (BW x))] w (DoP n v x w):=by
 have⟨W3,f⟩:=Ag (((w.alloc (bs (ee (BI v a)) 34)).alloc (bs (ee (BW x)) 42)).alloc (bs Xp 34));have⟨W4,p⟩:=Du W3 Xn 62;obtain⟨⟨W,O⟩,i,y,j,z4⟩:=Ag (W4.setCells W3.1.size 0 (ee Xf).toList),(Bq f).1,(Bq f).2.1,(Av p).1,(Av p).2.1;have o:Aa W4 W3.1.size Cu:=(Av (l:=Cu) p).2.2;have k:Tn [W3.1.size] W4 W:=by rw[O];exact Ap _ _ _ _
 have g:Hid (W4.there W3.1.size 0 22):=o.there;have hs:∀{B:Nat} {v:Dg} {l:Zj},B<W3.1.size->Aa W3 B (v::l)->Aa W B (v::l):=λr h=>Aa.same (Aa.A h j) (k.block _ Yv Yt);have N:Aa W w.1.size (BI v a):=hs Yv (Bq f).2.2.1;have xX:Aa W (w.1.size+1) (BW x):=hs Yv (Bq f).2.2.2.1;have xR:Aa W (w.1.size+2) BG:=hs Yv (Bq (m:=BG) f).2.2.2.2;have Y:Aa W (w.1.size+3) Cu:=by rw[<-y,O];exact o.ax Cu rfl
 have r:Below w.1.size w W:=i.ag ((j.ah i.size).ag (k.A Yv Yt));have zW:W.1.size=w.1.size+4:=by rw[O,FQ];omega
 have I:Hid (∀X,Zz W X->Aa X w.1.size (BI v a)):=λX R=>Aa.A N R;have H:Hid (∀X,Zz W X->Aa X (w.1.size+1) (BW x)):=λX R=>Aa.A xX R;have zB:Hid (∀X,Zz W X->X.rangeAt w.1.size 4 (Eh v a)):=λX R=>Aa.fx [Zg v.wd,Zg v.J,Cw a.y v.ss a.sc,Cw a.ta v.D a.d] (Eh v a) (Xu v.I a.qa (ed v.F) a.qc a.i (ed v.ms) a.mc v.L v.K v.ro) (I X R);have C:Hid (∀X,Zz W X->Bg X X.1.size a v/\Env X):=λX R=>by have s:=r.ag (R.ah r.size);exact⟨hr.U s,hE.A s⟩
 have HK:Hid (∀X,Zz W X->BH X X.1.size a.W v.B/\Ba X X.1.size a.X v.ls):=λX R=>⟨(C X R).1.st.k,(C X R).1.st.l⟩;have zI:Hid (ed v.B<=1048576/\ed v.ls<=1048576):=⟨hf.st.k,hf.st.l⟩;have Z:Hid (∀e z X,Zz W X->EdA v x e->GW v e W.1.size X z->∃D:Zj,z=ca (ee D)/\(ed D=22/\∀u∈D,u.oneCell'=ay)/\X.there (w.1.size+3) 0 (ee D).size/\∃d S U T P L Q M G,D=Ha d S U T P L Q M/\Aa (X.setCells (w.1.size+3) 0 (ee D).toList) (w.1.size+3) D/\Ay (X.setCells (w.1.size+3) 0 (ee D).toList) W.1.size S U T P L Q M G d.v/\KS n v x d.v d.c/\Tn [w.1.size+3] W (X.setCells (w.1.size+3) 0 (ee D).toList)):=λe z X R A F=>by
  obtain⟨d,S,U,T,P,L,Q,M,G,h1,h2,h3⟩:=F;have h4:=Jt h3;have zH:Aa X (w.1.size+3) Cu:=Aa.A Y R;have t:=Ap (w.1.size+3) (Ha d S U T P L Q M) 0 X;refine⟨_,h1,h4,?_,d,S,U,T,P,L,Q,M,G,rfl,zH.ax _ (by rw[h4.1];rfl),h3.stays t (λb s V=>by have:=h3.lo b V;simp at s;omega),.inl ⟨e,d,A,h2,rfl,rfl⟩,(Tn.of R).ag t⟩;rw[show(ee (Ha d S U T P L Q M)).size=22 from by rw[Az];exact h4.1];exact zH.there
 have zC:Hid (∀u S U T P L Q M G (c:Int) D X,D=AV u S U T P L Q M->Ay X W.1.size S U T P L Q M G u->Tn [w.1.size+3] W X->KS n v x u c->(ed D=17/\∀u∈D,u.oneCell'=ay)/\X.there (w.1.size+2) 0 (ee D).size/\Aa (X.setCells (w.1.size+2) 0 (ee D).toList) (w.1.size+2) D/\DoP n v x w (.returned (.tuple #[ca (ee D),Zg c])) (X.setCells (w.1.size+2) 0 (ee D).toList)):=λu S U T P L Q M G c D X J F R A=>by
  have zH:Aa X (w.1.size+2) BG:=Aa.same xR (R.block _ Yv Yu);have t:=Ap (w.1.size+2) D 0 X;have s:=r.ag (R.A r.size Yu);have hl:ed D=17:=by rw[J];rfl
  refine⟨⟨hl,?_⟩,?_,zH.ax _ (by rw[hl];rfl),u,c,S,U,T,P,L,Q,M,G,by rw[J],A,(F.stays t (λb s V=>by have:=F.lo b V;simp at s;omega)).ah Yv,s.ag (t.A s.size Yu)⟩
  .obtain⟨a',e',_⟩:=F.io;rw[J,e'];simp[AV,oneCell']
  rw[show (ee D).size=17 from by rw[Az];exact hl];exact zH.there
 obtain⟨HO,HB,b,V,E⟩:=Yw K,Yw (Za r (Za y zW)),Yw f,Yw p,Yw O;clear O f p r i y j z4 o k hs N xX xR Y zW hr hE K;delta D4;go_in;go_upto_region 1 with fail;rw[<-b.o];go_upto_region 2 with(refine wpList_store_mid rfl 62 _ _ rfl W3.1.size 0 Xn rfl rfl (by rw[<-V.o];exact g.o) Yr Yr ?_);rw[<-V.o,<-E.o,HB.2.1];clear b V E g;obtain⟨y0,_⟩:=H W Ae 0 _ rfl;go_upto_block 0 with fail;go_cut [] (λf=>Hid (∃D d S U T P L Q M G,D=Ha d S U T P L Q M/\Aa f (w.1.size+3) D/\Ay f W.1.size S U T P L Q M G d.v/\KS n v x d.v d.c/\Tn [w.1.size+3] W f))
 case first=>
  by_cases q1:x.N=1
  .have yB:(x.N==1)=ay:=C9 q1
   have Q1:Hid (x.N=1):=q1;clear q1;go_upto_region 6 with fail;refine DA [21,22,23,24,25,26,27,28] 8 rfl _ rfl Yr Yr Yr Yr Yr Yq Yr (λ_ X=>Zz W X) (λi X z=>match i with
    |0=>z=ca (ee (BI v a))
    |1=>z=ca (ee (BW x))
    |2=>z=Yx w.1.size 4
    |3=>z=ca (ee (Eh v a))
    |4=>∃g c,z=ca #[C0 x.Y,C2 g (Fu v.B x.V x.pk) c]/\ej X 0 9 1 (C2 g (Fu v.B x.V x.pk) c) (ed (Fu v.B x.V x.pk)) ((Fu v.B x.V x.pk).map string)
    |5=>z=Yx (w.1.size+1) 5
    |6=>z=Zg x.tk
    |7=>GW v ⟨1,⟨#[]⟩,⟨#[]⟩,x.tk,x.Y,Fu v.B x.V x.pk⟩ W.1.size X z
    |_=>True) (λX Y=>Zz X Y) ?_ Ae.drew ?_ ?_
   .intro i X Y z zA hT;rcases i with _|_|_|_|_|_|_|_|_<;>first
     |exact hT
     |exact JS hT zA
     |exact GW.A hT zA
   .intro i o k y X hi ho hk f A K p;rcases(show i=0\/i=1\/i=2\/i=3\/i=4\/i=5\/i=6\/i=7 by omega)with rfl|rfl|rfl|rfl|rfl|rfl|rfl|rfl<;>cases ho<;>simp only[Bt,Act.put,Zq,Zp,Zo]at p |-
    .refine wp_load_mid 34 _ rfl w.1.size 0 rfl (BI v a) _ (I X f).range underlying34 rfl Yr ?_;exact p.out _ X rfl Ae f
    .refine wp_load_mid 42 _ rfl (w.1.size+1) 0 rfl (BW x) _ (H X f).range underlying42 rfl Yr ?_;exact p.out _ X rfl Ae f
    .go_simp;exact p.out _ X rfl Ae f
    .rw[show y 2=Yx w.1.size 4 from A ⟨2,dp⟩ Yu Yp]at p |-;refine wp_load_mid 30 _ rfl w.1.size 4 rfl (Eh v a) _ (zB X f) underlying30 rfl Yr ?_;exact p.out _ X rfl Ae f
    .rw[show y 1=ca (ee (BW x)) from A ⟨1,dp⟩ Yu Yp,show y 3=ca (ee (Eh v a)) from A ⟨3,dp⟩ Yu Yp]at p |-;go_simp;refine(MW x.N x.V x.pk x.tk x.Y x.T v.P v.G v.H v.E a.Z a.X a.j (ed v.ps) a.g (ed v.ls) a.e (HK X f).1 HO.2.2.2.2.1 (C8 HO.2.2.2.2.2) HO.2.1 (C8 HO.2.2.1) zI.1).ah ?_;rintro e X' ⟨g,c,rfl,ho,s⟩;exact p.out _ X' ⟨g,c,rfl,ho.ah (Aw _)⟩ s (f.ag (s.ah f.size))
    .go_simp;exact p.out _ X rfl Ae f
    .rw[show y 5=Yx (w.1.size+1) 5 from A ⟨5,dp⟩ Yu Yp]at p |-;obtain⟨c1,_⟩:=H X f 5 _ rfl;go_simp;exact p.out _ X rfl Ae f
    obtain⟨g,c,e4,hs⟩:=A ⟨4,dp⟩ Yu Yp;rw[show y 0=ca (ee (BI v a)) from A ⟨0,dp⟩ Yu Yp,e4,show y 6=Zg x.tk from A ⟨6,dp⟩ Yu Yp]at p |-;go_simp;refine(Abz x.Y c x.tk (C X f).1 hf (C X f).2 (Fy.own hs) (C8 (Sm v.B x.V x.pk)) (by have:=HO.1;unfold maxLen;omega)).ah ?_;rintro e X' ⟨d,S,U,T,P,L,Q,M,G,V,rfl,F,s⟩;exact p.out _ X' ⟨d,S,U,T,P,L,Q,M,G,rfl,V,F.ah f.size⟩ s (f.ag (s.ah f.size))
   intro y X f hT K p;simp only[Bt,Act.put,Zq,Zp,Zo];have N:=Yw (Z _ _ X f (.put Q1) (hT 7 Yq));have⟨D,E,b⟩:=N.o;have r:=Yw b;rw[E];clear hT b N;refine wp_store_mid 62 _ _ rfl (w.1.size+3) 0 (ee D) rfl rfl r.2.1 E8 (all_oneCell_toArray r.1.2) ?_;refine p.out _ _ ?_;clear p K;go_wp2_with fail;go_meet;exact⟨D,r.2.2⟩
  have yB:(x.N==1)=ba:=C9 q1;have N1:Hid (¬x.N=1):=q1;clear q1;by_cases q2:x.N=2
  .have yC:(x.N==2)=ay:=C9 q2
   have Q2:Hid (x.N=2):=q2;clear q2;go_upto_region 8 with fail;refine DA [31,32,33,34,35,36,37,38] 8 rfl _ rfl Yr Yr Yr Yr Yr Yq Yr (λ_ X=>Zz W X) (λi X z=>match i with
    |0=>z=ca (ee (BI v a))
    |1=>z=Yx (w.1.size+1) 3
    |2=>z=C0 x.T
    |3=>z=ca (ee (BW x))
    |4=>z=Yx w.1.size 4
    |5=>z=ca (ee (Eh v a))
    |6=>z=C0 (Ds v.B x.pk v.P)
    |7=>GW v ⟨2,Ds v.B x.pk v.P,x.T,0,⟨#[]⟩,[]⟩ W.1.size X z
    |_=>True) (λX Y=>Zz X Y) ?_ Ae.drew ?_ ?_
   .intro i X Y z zA hT;rcases i with _|_|_|_|_|_|_|_|_<;>first
     |exact hT
     |exact JS hT zA
     |exact GW.A hT zA
   .intro i o k y X hi ho hk f A K p;rcases(show i=0\/i=1\/i=2\/i=3\/i=4\/i=5\/i=6\/i=7 by omega)with rfl|rfl|rfl|rfl|rfl|rfl|rfl|rfl<;>cases ho<;>simp only[Bt,Act.put,Zq,Zp,Zo]at p |-
    .refine wp_load_mid 34 _ rfl w.1.size 0 rfl (BI v a) _ (I X f).range underlying34 rfl Yr ?_;exact p.out _ X rfl Ae f
    .go_simp;exact p.out _ X rfl Ae f
    .rw[show y 1=Yx (w.1.size+1) 3 from A ⟨1,dp⟩ Yu Yp]at p |-;obtain⟨c1,_⟩:=H X f 3 _ rfl;go_simp;exact p.out _ X rfl Ae f
    .refine wp_load_mid 42 _ rfl (w.1.size+1) 0 rfl (BW x) _ (H X f).range underlying42 rfl Yr ?_;exact p.out _ X rfl Ae f
    .go_simp;exact p.out _ X rfl Ae f
    .rw[show y 4=Yx w.1.size 4 from A ⟨4,dp⟩ Yu Yp]at p |-;refine wp_load_mid 30 _ rfl w.1.size 4 rfl (Eh v a) _ (zB X f) underlying30 rfl Yr ?_;exact p.out _ X rfl Ae f
    .rw[show y 3=ca (ee (BW x)) from A ⟨3,dp⟩ Yu Yp,show y 5=ca (ee (Eh v a)) from A ⟨5,dp⟩ Yu Yp]at p |-;go_simp;refine(JR x.N x.V x.pk x.tk x.Y x.T v.P v.G v.H v.E a.Z a.X a.j (ed v.ps) a.g (ed v.ls) a.e (HK X f).1 HO.2.2.2.2.1 zI.1 hw).ah ?_;rintro e X' ⟨rfl,s⟩;exact p.out _ X' rfl s (f.ag (s.ah f.size))
    rw[show y 0=ca (ee (BI v a)) from A ⟨0,dp⟩ Yu Yp,show y 2=C0 x.T from A ⟨2,dp⟩ Yu Yp,show y 6=C0 (Ds v.B x.pk v.P)from A ⟨6,dp⟩ Yu Yp]at p |-;go_simp;refine(Iw (.co x.T (Ds v.B x.pk v.P)) (C X f).1 hf (C X f).2 I4).ah ?_;rintro e X' ⟨d,S,U,T,P,L,Q,M,G,V,rfl,F,s⟩;exact p.out _ X' ⟨d,S,U,T,P,L,Q,M,G,rfl,V,F.ah f.size⟩ s (f.ag (s.ah f.size))
   intro y X f hT K p;simp only[Bt,Act.put,Zq,Zp,Zo];have N:=Yw (Z _ _ X f (.co Q2) (hT 7 Yq));have⟨D,E,b⟩:=N.o;have r:=Yw b;rw[E];clear hT b N;refine wp_store_mid 62 _ _ rfl (w.1.size+3) 0 (ee D) rfl rfl r.2.1 E8 (all_oneCell_toArray r.1.2) ?_;refine p.out _ _ ?_;clear p K;go_wp2_with fail;go_meet;exact⟨D,r.2.2⟩
  have yC:(x.N==2)=ba:=C9 q2;have N2:Hid (¬x.N=2):=q2;clear q2;by_cases q3:x.N=3
  .have yD:(x.N==3)=ay:=C9 q3;have Q3:Hid (x.N=3):=q3;clear q3;obtain⟨c3,_⟩:=H W Ae 3 _ rfl;have j:=Yw (Iw (.unpin x.T) (C W Ae).1 hf (C W Ae).2 I4);go_wp2_with (refine wpList_load_mid rfl 34 _ rfl w.1.size 0 rfl (BI v a) _ (I W Ae).range underlying34 rfl Yr ?_);refine j.Ak ?_;rintro o O ⟨d,S,U,T,P,L,Q,M,G,V,rfl,F,s⟩;obtain⟨D,E,b⟩:=Z _ _ O s (.unpin Q3) ⟨d,S,U,T,P,L,Q,M,G,rfl,V,F⟩;have r:=Yw b;rw[E];clear V F s b E j I zB H C HK Z;go_wp2_with (refine wpList_store_mid rfl 62 _ _ rfl (w.1.size+3) 0 (ee D) rfl rfl r.2.1 E8 (all_oneCell_toArray r.1.2) ?_);go_meet;exact⟨D,r.2.2⟩
  have yD:(x.N==3)=ba:=C9 q3;have N3:Hid (¬x.N=3):=q3;clear q3;by_cases q4:x.N=4
  .have yE:(x.N==4)=ay:=C9 q4
   have Q4:Hid (x.N=4):=q4;clear q4;go_upto_region 12 with fail;refine DA [47,48,49,50,51,52,53,54] 8 rfl _ rfl Yr Yr Yr Yr Yr Yq Yr (λ_ X=>Zz W X) (λi X z=>match i with
    |0=>z=ca (ee (BI v a))
    |1=>z=ca (ee (BW x))
    |2=>z=Yx w.1.size 4
    |3=>z=ca (ee (Eh v a))
    |4=>z=C0 (Ds v.B x.pk v.P)
    |5=>z=Yx (w.1.size+1) 5
    |6=>z=Zg x.tk
    |7=>GW v ⟨4,Ds v.B x.pk v.P,⟨#[]⟩,x.tk,⟨#[]⟩,[]⟩ W.1.size X z
    |_=>True) (λX Y=>Zz X Y) ?_ Ae.drew ?_ ?_
   .intro i X Y z zA hT;rcases i with _|_|_|_|_|_|_|_|_<;>first
     |exact hT
     |exact JS hT zA
     |exact GW.A hT zA
   .intro i o k y X hi ho hk f A K p;rcases(show i=0\/i=1\/i=2\/i=3\/i=4\/i=5\/i=6\/i=7 by omega)with rfl|rfl|rfl|rfl|rfl|rfl|rfl|rfl<;>cases ho<;>simp only[Bt,Act.put,Zq,Zp,Zo]at p |-
    .refine wp_load_mid 34 _ rfl w.1.size 0 rfl (BI v a) _ (I X f).range underlying34 rfl Yr ?_;exact p.out _ X rfl Ae f
    .refine wp_load_mid 42 _ rfl (w.1.size+1) 0 rfl (BW x) _ (H X f).range underlying42 rfl Yr ?_;exact p.out _ X rfl Ae f
    .go_simp;exact p.out _ X rfl Ae f
    .rw[show y 2=Yx w.1.size 4 from A ⟨2,dp⟩ Yu Yp]at p |-;refine wp_load_mid 30 _ rfl w.1.size 4 rfl (Eh v a) _ (zB X f) underlying30 rfl Yr ?_;exact p.out _ X rfl Ae f
    .rw[show y 1=ca (ee (BW x)) from A ⟨1,dp⟩ Yu Yp,show y 3=ca (ee (Eh v a)) from A ⟨3,dp⟩ Yu Yp]at p |-;go_simp;refine(JR x.N x.V x.pk x.tk x.Y x.T v.P v.G v.H v.E a.Z a.X a.j (ed v.ps) a.g (ed v.ls) a.e (HK X f).1 HO.2.2.2.2.1 zI.1 hw).ah ?_;rintro e X' ⟨rfl,s⟩;exact p.out _ X' rfl s (f.ag (s.ah f.size))
    .go_simp;exact p.out _ X rfl Ae f
    .rw[show y 5=Yx (w.1.size+1) 5 from A ⟨5,dp⟩ Yu Yp]at p |-;obtain⟨c1,_⟩:=H X f 5 _ rfl;go_simp;exact p.out _ X rfl Ae f
    rw[show y 0=ca (ee (BI v a)) from A ⟨0,dp⟩ Yu Yp,show y 4=C0 (Ds v.B x.pk v.P)from A ⟨4,dp⟩ Yu Yp,show y 6=Zg x.tk from A ⟨6,dp⟩ Yu Yp]at p |-;go_simp;refine(Iw (.ft (Ds v.B x.pk v.P) x.tk) (C X f).1 hf (C X f).2 (Aw _)).ah ?_;rintro e X' ⟨d,S,U,T,P,L,Q,M,G,V,rfl,F,s⟩;exact p.out _ X' ⟨d,S,U,T,P,L,Q,M,G,rfl,V,F.ah f.size⟩ s (f.ag (s.ah f.size))
   intro y X f hT K p;simp only[Bt,Act.put,Zq,Zp,Zo];have N:=Yw (Z _ _ X f (.ft Q4) (hT 7 Yq));have⟨D,E,b⟩:=N.o;have r:=Yw b;rw[E];clear hT b N;refine wp_store_mid 62 _ _ rfl (w.1.size+3) 0 (ee D) rfl rfl r.2.1 E8 (all_oneCell_toArray r.1.2) ?_;refine p.out _ _ ?_;clear p K;go_wp2_with fail;go_meet;exact⟨D,r.2.2⟩
  have yE:(x.N==4)=ba:=C9 q4;have N4:Hid (¬x.N=4):=q4;clear q4;by_cases q5:x.N=5
  .have yF:(x.N==5)=ay:=C9 q5
   have Q5:Hid (x.N=5):=q5;clear q5;go_upto_region 14 with fail;refine DA [57,58,59,60,61,62] 6 rfl _ rfl Yr Yr Yr Yr Yr Yq Yr (λ_ X=>Zz W X) (λi X z=>match i with
    |0=>z=ca (ee (BI v a))
    |1=>z=ca (ee (BW x))
    |2=>z=Yx w.1.size 4
    |3=>z=ca (ee (Eh v a))
    |4=>z=Zg (DN v.ls x.pk)
    |5=>GW v ⟨5,⟨#[]⟩,⟨#[]⟩,DN v.ls x.pk,⟨#[]⟩,[]⟩ W.1.size X z
    |_=>True) (λX Y=>Zz X Y) ?_ Ae.drew ?_ ?_
   .intro i X Y z zA hT;rcases i with _|_|_|_|_|_|_<;>first
     |exact hT
     |exact JS hT zA
     |exact GW.A hT zA
   .intro i o k y X hi ho hk f A K p;rcases(show i=0\/i=1\/i=2\/i=3\/i=4\/i=5 by omega)with rfl|rfl|rfl|rfl|rfl|rfl<;>cases ho<;>simp only[Bt,Act.put,Zq,Zp,Zo]at p |-
    .refine wp_load_mid 34 _ rfl w.1.size 0 rfl (BI v a) _ (I X f).range underlying34 rfl Yr ?_;exact p.out _ X rfl Ae f
    .refine wp_load_mid 42 _ rfl (w.1.size+1) 0 rfl (BW x) _ (H X f).range underlying42 rfl Yr ?_;exact p.out _ X rfl Ae f
    .go_simp;exact p.out _ X rfl Ae f
    .rw[show y 2=Yx w.1.size 4 from A ⟨2,dp⟩ Yu Yp]at p |-;refine wp_load_mid 30 _ rfl w.1.size 4 rfl (Eh v a) _ (zB X f) underlying30 rfl Yr ?_;exact p.out _ X rfl Ae f
    .rw[show y 1=ca (ee (BW x)) from A ⟨1,dp⟩ Yu Yp,show y 3=ca (ee (Eh v a)) from A ⟨3,dp⟩ Yu Yp]at p |-;go_simp;refine(MV x.N x.V x.pk x.tk x.Y x.T v.P v.G v.H v.E a.W a.Z (ed v.B) a.j (ed v.ps) a.g a.e (HK X f).2 HO.2.2.2.2.1 (C8 HO.2.2.2.2.2) zI.2).ah ?_;rintro e X' ⟨rfl,s⟩;exact p.out _ X' rfl s (f.ag (s.ah f.size))
    rw[show y 0=ca (ee (BI v a)) from A ⟨0,dp⟩ Yu Yp,show y 4=Zg (DN v.ls x.pk)from A ⟨4,dp⟩ Yu Yp]at p |-;go_simp;refine(Iw (.give (DN v.ls x.pk)) (C X f).1 hf (C X f).2 (Aw _)).ah ?_;rintro e X' ⟨d,S,U,T,P,L,Q,M,G,V,rfl,F,s⟩;exact p.out _ X' ⟨d,S,U,T,P,L,Q,M,G,rfl,V,F.ah f.size⟩ s (f.ag (s.ah f.size))
   intro y X f hT K p;simp only[Bt,Act.put,Zq,Zp,Zo];have N:=Yw (Z _ _ X f (.give Q5) (hT 5 Yq));have⟨D,E,b⟩:=N.o;have r:=Yw b;rw[E];clear hT b N;refine wp_store_mid 62 _ _ rfl (w.1.size+3) 0 (ee D) rfl rfl r.2.1 E8 (all_oneCell_toArray r.1.2) ?_;refine p.out _ _ ?_;clear p K;go_wp2_with fail;go_meet;exact⟨D,r.2.2⟩
  have yF:(x.N==5)=ba:=C9 q5;have N5:Hid (¬x.N=5):=q5;clear q5;by_cases q6:x.N=6
  .have yG:(x.N==6)=ay:=C9 q6;have Q6:Hid (x.N=6):=q6;clear q6;obtain⟨c5,_⟩:=H W Ae 5 _ rfl;have j:=Yw (Iw (.wait x.tk) (C W Ae).1 hf (C W Ae).2 (Aw _));go_wp2_with (refine wpList_load_mid rfl 34 _ rfl w.1.size 0 rfl (BI v a) _ (I W Ae).range underlying34 rfl Yr ?_);refine j.Ak ?_;rintro o O ⟨d,S,U,T,P,L,Q,M,G,V,rfl,F,s⟩;obtain⟨D,E,b⟩:=Z _ _ O s (.wait Q6) ⟨d,S,U,T,P,L,Q,M,G,rfl,V,F⟩;have r:=Yw b;rw[E];clear V F s b E j I zB H C HK Z;go_wp2_with (refine wpList_store_mid rfl 62 _ _ rfl (w.1.size+3) 0 (ee D) rfl rfl r.2.1 E8 (all_oneCell_toArray r.1.2) ?_);go_meet;exact⟨D,r.2.2⟩
  have yG:(x.N==6)=ba:=C9 q6;have N6:Hid (¬x.N=6):=q6;clear q6;by_cases q8:x.N=8
  .have yH:(x.N==8)=ay:=C9 q8;have Q8:Hid (x.N=8):=q8;clear q8;have j:=Yw (VJ (C W Ae).1 hf zX (C W Ae).2);go_wp2_with (refine wpList_load_mid rfl 34 _ rfl w.1.size 0 rfl (BI v a) _ (I W Ae).range underlying34 rfl Yr ?_);refine j.Ak ?_;rintro o O ⟨u,S,U,T,P,L,Q,M,G,V,rfl,F,s⟩;have hn:NV (n+40) u:=by
    rcases V with⟨h,_⟩|⟨_,rfl⟩
    .exact absurd zG.ok h
    exact zG.flush.ah Yv
   have⟨D,J⟩:=Ag (AV u S U T P L Q M);have r:=Yw (zC u _ _ _ _ _ _ _ G 0 D O J F (Tn.of s) (.inr ⟨C8 Q8.o,rfl,hn⟩));rw[<-J];clear J F s V hn j I zB H C HK Z zC;go_wp2_with (refine wpList_store_mid rfl 34 _ _ rfl (w.1.size+2) 0 (ee D) rfl rfl r.2.1 E8 (all_oneCell_toArray r.1.2) ?_);exact bodyPost_ret (Dz results6 _ _ (w.1.size+2) D _ rfl rfl (Aa.range r.2.2.1) underlying34 rfl G5) rfl r.2.2.2
  have yH:(x.N==8)=ba:=C9 q8;have N8:Hid (¬x.N=8):=q8;clear q8;by_cases q9:x.N=9
  .have yI:(x.N==9)=ay:=C9 q9;have Q9:Hid (x.N=9):=q9;clear q9;obtain⟨c4,_⟩:=H W Ae 4 _ rfl;have yL:x.pk.tmod 6=x.pk%6:=Int.tmod_eq_emod_of_nonneg HO.2.2.2.2.1;have j:=Yw (YJ (x.pk%6) (C W Ae).1 hf zX (C W Ae).2);go_wp2_with (refine wpList_load_mid rfl 34 _ rfl w.1.size 0 rfl (BI v a) _ (I W Ae).range underlying34 rfl Yr ?_);refine j.Ak ?_;rintro o O ⟨u,S,U,T,P,L,Q,M,G,V,rfl,F,s⟩;have hn:NV (n+40) u:=by
    rcases V with⟨h,_⟩|⟨_,c,ho⟩
    .exact absurd zG.ok h
    exact(zG.lose ho).ah Yv
   have⟨D,J⟩:=Ag (AV u S U T P L Q M);have r:=Yw (zC u _ _ _ _ _ _ _ G 0 D O J F (Tn.of s) (.inr ⟨C8 Q9.o,rfl,hn⟩));rw[<-J];clear J F s V hn j I zB H C HK Z zC;go_wp2_with (refine wpList_store_mid rfl 34 _ _ rfl (w.1.size+2) 0 (ee D) rfl rfl r.2.1 E8 (all_oneCell_toArray r.1.2) ?_);exact bodyPost_ret (Dz results6 _ _ (w.1.size+2) D _ rfl rfl (Aa.range r.2.2.1) underlying34 rfl G5) rfl r.2.2.2
  have yI:(x.N==9)=ba:=C9 q9;have N9:Hid (¬x.N=9):=q9;clear q9;obtain⟨c4,_⟩:=H W Ae 4 _ rfl;have j:=Yw (MY x.pk (C W Ae).1 hf (C W Ae).2);go_wp2_with (refine wpList_load_mid rfl 34 _ rfl w.1.size 0 rfl (BI v a) _ (I W Ae).range underlying34 rfl Yr ?_);refine j.Ak ?_;rintro o O ⟨y,cs,zU,rfl,hA,s⟩;have⟨N,hN⟩:∃N:Nat,x.pk=N:=⟨x.pk.toNat,C8 HO.2.2.2.2.1⟩;rw[hN]at zU;have yJ:N<40:=C8 HO.2.2.2.2.2;obtain⟨u,rfl,hn,_⟩:=zG.ix Yv zU;obtain⟨S,U,T,P,L,Q,M,G,E,zT,F,hE,_⟩:=hA;have⟨D,J⟩:=Ag (AV (DD v u) S U T P L Q M);have hl:ed cs=20/\∀y∈cs,y.oneCell'=ay:=by have⟨a',e',_⟩:=F.io;have⟨_,_,e2,_⟩:=hE.row;rw[zT,e',e2];exact⟨rfl,by simp[OF,AV,oneCell']⟩
  have⟨W5,zF⟩:=Du O Xi 45;have⟨W6,zK⟩:=Ag (W5.setCells O.1.size 0 (ee cs).toList);have x5:Aa W5 O.1.size (z20 0):=(Av (l:=z20 0) zF).2.2;have t6:Tn [O.1.size] W5 W6:=by rw[zK];exact Ap _ _ _ _
  have b6:Below O.1.size O W6:=(Av zF).1.ag (t6.A (Av zF).1.size Yu);have x6:Aa W6 O.1.size cs:=by rw[zK];exact x5.ax cs (by rw[hl.1];rfl)
  have⟨V,zE⟩:=Ag W6.drew;have b0:Below W6.1.size W6 V:=by rw[zE];exact Ae.drew
  have x0:=Aa.same x6 (b0.block _ (x6.gy hl.1));have yM:=s.size;obtain⟨r,X1,b⟩:=Yw (zC (DD v u) _ _ _ _ _ _ _ G 0 D V J ((F.A b6).A b0) (Tn.of (s.ag ((b6.ag (b0.ah b6.size)).ah s.size))) (.inr ⟨by have:=N1.o;have:=N2.o;have:=N3.o;have:=N4.o;have:=N5.o;have:=N6.o;omega,rfl,hn.ah Yv⟩)),Ag (V.setCells (w.1.size+2) 0 (ee D).toList);rw[<-b]at r;have zM:Hid (∀X,X=V\/X=X1->X.cell? (Zd (O.1.size) 0)=some Ze/\X.rangeAt O.1.size 1 D):=λX R=>by
   have h:Aa X O.1.size cs:=by
    rcases R with rfl|rfl
    .exact x0
    rw[b];exact Aa.same x0 ((Ap _ _ _ _).block _ (x0.gy hl.1) (by simp;have:=HB.o;omega))
   rw[zT,<-J]at h;exact⟨(h 0 _ rfl).1,Aa.fx [Ze] D [Zg (N:Int),E] h⟩
  have zJ:Hid (W5.there O.1.size 0 (ee cs).size/\ed cs=20/\∀y∈cs,y.oneCell'=ay):=⟨by rw[show (ee cs).size=20 from by rw[Az];exact hl.1];exact x5.there,hl⟩;obtain⟨zN,zV,zO,zP⟩:=Yw zF,Yw zK,Yw zE,Yw b;clear zF zK zE b x5 t6 b6 x6 b0 x0 hl zT F hE zU hn s J j I zB H C HK Z zC hN c4;go_upto_region 4 with(refine wpList_store_mid rfl 45 _ _ rfl O.1.size 0 (ee cs) rfl rfl (by rw[<-zN.o];exact zJ.1) (by rw[Az,zJ.2.1];kernel_rfl) (all_oneCell_toArray zJ.2.2) ?_);rw[<-zN.o,<-zV.o];clear zN zV zJ;generalize O.1.size=q at *
  refine Im [15,16,17,18] 5 _ rfl Yr Yr Yr Yr Yr Yq Yr [] Yr (λL X=>(L 4=ba->X=V)/\(L 4=ay->X=X1)) (λi X z=>match i with
   |0=>z=Yx q 1
   |1=>z=ca (ee D)
   |2=>z=Yy q
   |3=>z=Ze
   |_=>True) (λ_ _ _=>True) ?_ ⟨λ_=>zO.symm,λh=>by cases h⟩ ?_ ?_
  .intro j i X Y z zZ yA zY hE hT;rcases i with _|_|_|_|_<;>first|exact hT|exact trivial
  .intro i o' L y X hi ho O J f A K p;have zS:X=V\/X=X1:=by
    cases h4:L 4 with
    |false=>exact .inl (f.1 h4)
    |true=>exact .inr (f.2 h4)
   have⟨c0,hr⟩:=zM X zS;have HR:=Yw hr;have s:i≠4->(Dt L i 4=ba->X=V)/\(Dt L i 4=ay->X=X1):=λh=>by unfold Dt;rw[if_neg (Ne.symm h)];exact f
   clear hr;rcases(show i=0\/i=1\/i=2\/i=3\/i=4 by omega)with rfl|rfl|rfl|rfl|rfl<;>cases ho<;>simp only[Bt,Act.put,Zq,Zp,Zo]at p |-
   .go_simp;exact p.out _ X rfl trivial (s Yq)
   .rw[show y 0=Yx q 1 from A ⟨0,dp⟩ Yu Yp]at p |-;refine wp_load_mid 34 _ rfl q 1 rfl D _ HR underlying34 rfl G5 ?_;exact p.out _ X rfl trivial (s Yq)
   .go_simp;exact p.out _ X rfl trivial (s Yq)
   .rw[show y 2=Yy q from A ⟨2,dp⟩ Yu Yp]at p |-;go_simp;exact p.out _ X rfl trivial (s Yq)
   rw[show y 1=ca (ee D) from A ⟨1,dp⟩ Yu Yp]at p |-;rw[f.1 O];refine wp_store_mid 34 _ _ rfl (w.1.size+2) 0 (ee D) rfl rfl r.2.1 E8 (all_oneCell_toArray r.1.2) ?_;rw[<-zP.o];exact p.out undef _ trivial trivial ⟨λh=>by unfold Dt at h;simp at h,λ_=>rfl⟩
  intro L y X O f hT K p;have e3:=hT 3 Yq (λj=>Yu);rw[f.2 (O 4 Yq)];simp only[Bt,Act.put,Zq,Zp,Zo];rw[show y 3=Zg 0 from e3];clear hT e3 f O;go_simp;refine p.out _ _ ?_;clear p K;go_wp2;exact bodyPost_ret (Dz results6 _ _ (w.1.size+2) D _ rfl rfl (Aa.range r.2.2.1) underlying34 rfl G5) rfl r.2.2.2
 revert wc;intro wc hcut;have⟨D0,d,S,U,T,P,L,Q,M,G,e0,x,F,A,tW⟩:=hcut.o;clear hcut;obtain⟨⟨D,J⟩,V,zE⟩:=Ag (AV d.v S U T P L Q M),Ag wc.drew;have b0:Below wc.1.size wc V:=by rw[zE];exact Ae.drew
 have t0:Tn [w.1.size+3] W V:=tW.ag (Tn.of b0);have hl:ed D0=22:=by rw[e0];exact(Jt F).1
 obtain⟨x0,r,X1,b⟩:=Aa.same x (b0.block _ (x.gy hl)),Yw (zC d.v _ _ _ _ _ _ _ G d.c D V J (F.A b0) t0 A),Ag (V.setCells (w.1.size+2) 0 (ee D).toList);rw[<-b]at r;have zM:Hid (∀X,X=V\/X=X1->X.cell? (Zd (w.1.size+3) 0)=some (Zg d.c)/\X.rangeAt (w.1.size+3) 1 D):=λX R=>by
  have h:Aa X (w.1.size+3) D0:=by
   rcases R with rfl|rfl
   .exact x0
   rw[b];exact Aa.same x0 ((Ap _ _ _ _).block _ (x0.gy hl) Yu)
  rw[e0]at h;have h1:=Aff (d:=d) (vs:=D) (by rw[J];exact h) (by rw[J];rfl);exact⟨h1.1,h1.2.2.2.2.2⟩
 have zO:=Yw zE;have zP:=Yw b;clear zE b b0 t0 hl x0 x F A tW e0 J I zB H C HK Z zC;go_upto_region 21 with fail;refine Im [80,81,82,83] 5 _ rfl Yr Yr Yr Yr Yr Yq Yr [] Yr (λL X=>(L 4=ba->X=V)/\(L 4=ay->X=X1)) (λi X z=>match i with
  |0=>z=Yx (w.1.size+3) 1
  |1=>z=ca (ee D)
  |2=>z=Yy (w.1.size+3)
  |3=>z=Zg d.c
  |_=>True) (λ_ _ _=>True) ?_ ⟨λ_=>zO.symm,λh=>by cases h⟩ ?_ ?_
 .intro j i X Y z zZ yA zY hE hT;rcases i with _|_|_|_|_<;>first|exact hT|exact trivial
 .intro i o' L y X hi ho O J f A K p;have zS:X=V\/X=X1:=by
   cases h4:L 4 with
   |false=>exact .inl (f.1 h4)
   |true=>exact .inr (f.2 h4)
  have⟨c0,hr⟩:=zM X zS;have HR:=Yw hr;have s:i≠4->(Dt L i 4=ba->X=V)/\(Dt L i 4=ay->X=X1):=λh=>by unfold Dt;rw[if_neg (Ne.symm h)];exact f
  clear hr;rcases(show i=0\/i=1\/i=2\/i=3\/i=4 by omega)with rfl|rfl|rfl|rfl|rfl<;>cases ho<;>simp only[Bt,Act.put,Zq,Zp,Zo]at p |-
  .go_simp;exact p.out _ X rfl trivial (s Yq)
  .rw[show y 0=Yx (w.1.size+3) 1 from A ⟨0,dp⟩ Yu Yp]at p |-;refine wp_load_mid 34 _ rfl (w.1.size+3) 1 rfl D _ HR underlying34 rfl G5 ?_;exact p.out _ X rfl trivial (s Yq)
  .go_simp;exact p.out _ X rfl trivial (s Yq)
  .rw[show y 2=Yy (w.1.size+3) from A ⟨2,dp⟩ Yu Yp]at p |-;go_simp;exact p.out _ X rfl trivial (s Yq)
  rw[show y 1=ca (ee D) from A ⟨1,dp⟩ Yu Yp]at p |-;rw[f.1 O];refine wp_store_mid 34 _ _ rfl (w.1.size+2) 0 (ee D) rfl rfl r.2.1 E8 (all_oneCell_toArray r.1.2) ?_;rw[<-zP.o];exact p.out undef _ trivial trivial ⟨λh=>by unfold Dt at h;simp at h,λ_=>rfl⟩
 intro L y X O f hT K p;have e3:=hT 3 Yq (λj=>Yu);rw[f.2 (O 4 Yq)];simp only[Bt,Act.put,Zq,Zp,Zo];rw[show y 3=Zg d.c from e3];clear hT e3 f O;go_simp;refine p.out _ _ ?_;clear p K;go_wp2;exact bodyPost_ret (Dz results6 _ _ (w.1.size+2) D _ rfl rfl (Aa.range r.2.2.1) underlying34 rfl G5) rfl r.2.2.2
theorem Bo.fit{r:Rs}(h:Bo v r):DM v:=by have b:=h.fg;have e:=b.bn.len;have f:=b.np;have g:=b.nl;have c:=Dn.1 h.log;have a:=h.round.dy;have i:=a.nq;have j:=a.T;exact⟨Yv,Yv,λs a=>C8 (c.2 s (mem_append_left _ a)),λs a=>C8 (c.2 s (mem_append_right _ a)),⟨Yv,λk d=>C8 (b.dz k d),Yv,Yv⟩,⟨Yv,Yv⟩⟩
structure FG (w:Zh) (q:Nat) (A:Value) (L:List Ac) (n:Nat) (v:Vd) (D:Zj) (X:Zh):Prop where
 box:Aa X q D
 rows:∀Y,Tn [q] X Y->GL v Y.1.size Y D
 nv:NV n v
 gw:ej X 0 42 6 A (ed L) (Af BW L)
 aq:A.ownBlock≠some q
 cn:Below w.1.size w X
 lt:w.1.size<=q
theorem FG.le{A:Dg}(h:FG w q A L n v D X)(a:n<=m):FG w q A L m v D X:=⟨h.box,h.rows,h.nv.ah a,h.gw,h.aq,h.cn,h.lt⟩
theorem FG.len{A:Dg}(h:FG w q A L n v D X):ed D=17/\∀u∈D,u.oneCell'=ay:=Gs (h.rows X (Tn.of Ae))
theorem FG.br{A:Dg}(h:FG w q A L n v D X)(a:Zz X Y):FG w q A L n v D Y:=
 ⟨Aa.same h.box (a.block _ (h.box.gy h.len.1)),λZ b=>h.rows Z ((Tn.of a).ag b),h.nv,Ai h.gw a,h.aq,h.cn.ag (a.ah h.cn.size),h.lt⟩
theorem FG.arg{A:Dg}(h:FG w q A L n v D X):∃a,D=BI v a/\Bg X X.1.size a v/\Iu X a v/\DM v/\ed v.D<=a.d/\(1<=v.P/\v.P<=8):=by have⟨a,e,f,c⟩:=h.rows X (Tn.of Ae);have⟨r,b⟩:=h.nv.ok;have d:=b.wd;rw[b.same.1.1]at d;exact⟨a,e,f,c,b.fit,c.t.1,d⟩
theorem FG.put{A:Dg}{D':Zj}(h:FG w q A L n v D X)(f:Zz X Y)(d:∀Z,Tn [q] Y Z->GL u Z.1.size Z D')(i:NV m u):
 Y.there q 0 (ee D').size/\(ed D'=17/\∀u∈D',u.oneCell'=ay)/\FG w q A L m u D' (Y.setCells q 0 (ee D').toList):=by
 obtain⟨a,b,t⟩:=h.br f,Gs (d Y (Tn.of Ae)),Ap q D' 0 Y;refine⟨?_,b,a.box.ax D' (by rw[b.1,h.len.1]),λZ c=>d Z (t.ag c),i,?_,h.aq,a.cn.ag (t.A a.cn.size (C9 h.lt)),h.lt⟩
 .rw[show (ee D').size=ed D from by rw[Az,b.1,h.len.1]];exact Aa.du [] D [] (C9 a.box)
 exact Ar a.gw (λg c=>t.block g (Ab a.gw c).2 (λe=>h.aq (by rw[<-mem_singleton.1 e];exact c)))
theorem Ay.np{e:Nat}{S U T P L Q M:Dg}{g:Zj}(h:Ay X e S U T P L Q M g u)(d:q<e\/X.1.size<=q):∀Z,Tn [q] X Z->GL u Z.1.size Z (AV u S U T P L Q M):=λZ a=>by
 rcases d with d|d
 .exact(h.stays a (λb c f=>by have:=h.lo b f;simp at c;omega)).jh
 exact(h.stays (V:=[]) ⟨a.os,a.tape,a.output,a.size,λb c _=>a.block b c Yt⟩ Yu).jh
theorem KS.nv{c:Int}(h:KS n v x u c)(f:NV n v)(g:n<=2900):NV (n+40) u:=by
 rcases h with⟨e,d,b,a,rfl,_⟩|⟨_,_,h⟩
 .exact(f.cmd Yv (by cases b<;>simp) a).ah Yv
 exact h
theorem KS.code{c b:Int}(h:KS n v x u c)(k:(∃e d,EdA v x e/\Ex v e d/\b=d.c)\/(¬(1<=x.N/\x.N<=6)/\b=0)):c=b:=by
 have f:∀{e},EdA v x e->1<=x.N/\x.N<=6:=λa=>by cases a<;>omega
 rcases h with⟨e,d,a,i,_,rfl⟩|⟨j,rfl,_⟩<;>rcases k with⟨e',d',he',hd',rfl⟩|⟨hn',rfl⟩
 .have g:e=e':=by cases a<;>cases he'<;>first|rfl|omega
  subst g;rw[i.dq hd']
 .exact absurd (f a) hn'
 .exact absurd (f he') j
 rfl
theorem QN{k:Nat}{i:Nat}(h:ej X 0 42 6 (Yz g (ed L) k) (ed L) (Af BW L))(a:L[i]?=some x):X.rangeAt g (i *6) (BW x):=λj v b=>by have l:=(Zw a).1;have d:j<6:=(Zw b).1;have e:=Cy (c:=BW) (n:=6) (λ_=>rfl) a d;have f:=h.cellAt (i *6+j) Yv;rw[f,e,b]
