import Derived.Test.YtfehblndlffcmaaGreatDoorX25
import Derived.Test.YtfehblndlffcmaaGreatDoorX13
import Derived.Test.YtfehblndlffcmaaGreatDoorX15
set_option maxRecDepth 100000
set_option maxHeartbeats 16000000
open Option renaming some->an,none->ba
open Bool renaming true->bg,false->bq
open Go.RowKit renaming Below->bs
open Decidable renaming decide->bx
open Go.Obj renaming cells->ca
open Go.Value renaming slice->cr,agg->ct,pointer->ee,bool->ef,ownBlock->ej
open Or renaming inl->dp,inr->eb
open List renaming length->eh,toArray->ei
open Go.World renaming cell?->ek,frozen?->el,ownsRow->eo,setCell->ev
open Go renaming maxLen->ew
namespace Go.Proofs.YtfehblndlffcmaaGreatDoor
open ChangeShapes WideShapes ChangeAt RowKit _root_.Go.Proofs.Tryz List World Value
variable{g q p f c o j l i a b h t e k v:Int}{d m n R B N base:Nat}{O P L T S U Q M:Value}{r u:Da}{s x:Zi}{w V:Zh}
theorem Aav{g:Nat}{o:C9}{j:Db}(n:Zi)(h:DU w g d m O P L q p f c o j r)(t:∀k∈o,(k.sum.size:Int)=q)(l:AA o s)(z:eh j<=100)(i:j.Pairwise (λa b=>less a.name b.name=bg))(u:(∃x∈j,x.name=n)\/eh j<100):
 D8 136 #[Yy d,C4 n,C4 s] w λe v=>e=C5 (.tuple #[])/\∃y,DU v g d m O y L q p f c o (Bn j n s) r/\Tn (d::(ej P).toList) w v:=by
 by_cases hth:∃x∈j,x.name=n
 .exact ZM n h t l Yv i hth
 exact ZO n h t l gA i hth
theorem OB{g:Nat}{r:Int}{l:C9}{i:Db}{q:Da}(n B:Zi)(u:Int)(y:Zk)(A z:Nat)(h:DU w g d m O P L r j f c l i q)(C:∀k∈l,(k.sum.size:Int)=r)(t:AA l s)(E:eh i<=100)(p:i.Pairwise (λa b=>less a.name b.name=bg))(o:(∃x∈i,x.name=n)\/eh i<100):
 D8 97 #[Yy d,ct (Ye 2 s n u B y A z)] w λe v=>e=C5 (ct (ei z12))/\∃D,DU v g d m O D L r j f c l (Bn i n s) q/\Tn (d::(ej P).toList) w v:=
 GA s n B u y A z h 2 (λV=>V) (λ_=>L) j (Bn i n s) q (d::(ej P).toList) (λb v=>h.U.db b (by unfold vB;simp at v |-;rcases v with rfl|v<;>simp[*])) (dp ⟨rfl,λW D=>Aav n D C t E p o⟩)
theorem Mv{f:Nat}{G E:Int}{q:C9}{y:Db}(x C:Zi)(o:Int)(z:Zk)(B A:Nat)(j:Dr w f d m O P L G E c a q y u)(S:Fi G q)(hp:eh y<=100)(hl:eh u<=200)(T:AA q s)(r:¬(((∃p∈y,p.sum=s)\/∃l∈u,l.sum=s)\/∃k∈q,s∈k.D)):
 D8 97 #[Yy d,ct (Ye 7 s x o C z B A)] w λe g=>e=C5 (ct (ei z12))/\∃t,Dr g f d m t P L G E c a (Dk q s) y u/\ej t=ej O/\Tn (vB d m O P L) w g:=by
 have⟨W,g⟩:=Ag (((w.alloc (ca (Ye 7 s x o C z B A) 91)).alloc (ca Yd 42)).alloc (ca Yd 42));have R:=(BI g).1;have H:=(BI g).2.1;have Y:ek W (Zd (w.1.size) 0)=an (Zg 7):=N5;have Z:ek W (Zd (w.1.size) 1)=an (C4 s):=N5;have zR:Aa W (w.1.size+1) z12:=by have n:=Aa.new (w.alloc (ca (Ye 7 s x o C z B A) 91)) z12 42;rw[Ao]at n;rw[g];exact Aa.A (v:=Ze) n (Zy)
 have J:Aa W (w.1.size+2) z12:=by have n:=Aa.new ((w.alloc (ca (Ye 7 s x o C z B A) 91)).alloc (ca (ei z12) 42)) z12 42;rw[Ao,Ao]at n;rw[g];exact n
 have N:=Yw (j.A R);have F:Hid (∀b∈vB d m O P L,b<w.1.size):=by
  intro b i;unfold vB at i;simp only[Cf,Bw,By]at i;rcases i with rfl|rfl|i|i|i
  .exact j.box.lt
  .exact(j.map.choose_spec.choose_spec.2.1).lt
  .exact(Ac j.ord i).2
  .exact(Ac j.de i).2
  exact(Ac j.dh i).2
 have X:Hid (W.1[w.1.size+1]?=an (ca Yd 42)):=by show _=_;rw[g,Below.heap_alloc _ _ _ Yu];have:=heap_alloc_new (w.alloc (ca (Ye 7 s x o C z B A) 91)) (ca Yd 42);rw[Ao]at this;exact this
 have M:f<=w.1.size:=by have:=j.bd;have:=j.box.lt;omega
 obtain⟨I,Q,D⟩:=Yw g,Yw (Zn zR J),Yw H;clear g j zR J H;delta D8;go_in;go_upto_region 2 with fail;rw[<-I.o];clear I;go_wp2_with fail;refine(VX N S hp hl T r).ai ?_;rintro e K ⟨rfl,t,H,hO,g,_⟩;have J:=Aa.same Q.1 (g.block _ (Dl D.o) (λh=>Dl (F _ h)));obtain⟨I,⟨k,q0⟩,⟨l,q1⟩,⟨p,q2⟩,⟨y3,q3⟩,⟨y4,q4⟩,⟨y5,q5⟩,⟨y6,q6⟩,⟨y7,q7⟩,⟨y8,q8⟩,⟨y9,q9⟩,⟨U,zA⟩,V,zB⟩:=Aa.same Q.2 (g.block _ (Dl D.o) (λh=>Dl (F _ h))),Bv J;have⟨⟨v0,_⟩,⟨v1,_⟩,⟨v2,_⟩,⟨v3,_⟩,⟨v4,_⟩,⟨v5,_⟩,⟨v6,_⟩,⟨v7,_⟩,⟨v8,_⟩,⟨v9,_⟩,⟨zC,_⟩,zE,_⟩:=Bv I;have j:=Yw (Zn H (Zn hO g));clear H hO g J I Y Z N;go_wp2;have J:w.1.size+1∉vB d m t P L:=λh=>by
  have:w.1.size+1∈vB d m O P L:=by unfold vB at h |-;rw[j.2.1]at h;exact h
  have:=F _ this;omega
 have I:∀g H,K.1[w.1.size+1]?≠an (ca g 9 H):=λg H e=>by have n:=j.2.2.block (w.1.size+1) (Dl D.o) (λh=>Dl (F _ h));rw[e,X.o]at n;simp at n
 refine C1 (ct (ei z12)) (by simp[results,results97,go_sem,k,l,p,y3,y4,y5,y6,y7,y8,y9,U,V,z12]) ⟨rfl,t,Dr.apart j.1 (BB K _ _ _ _ _ _ _ _ _ _ _ _ _) Yv J I,j.2.1,Tn.fresh ((Tn.of R).ag j.2.2) (BB K _ _ _ _ _ _ _ _ _ _ _ _ _) Yv⟩
theorem LF{c:Nat}{r n:Int}{g:C9}{i:Db}{h:Da}(x B:Zi)(o:Int)(y:Zk)(A z:Nat)(u:Dr w c d m O P L r n b a g i h)(C:Fi r g)(G:eh i<=100)(F:eh h<=200)(D:AA g s)(j:((∃p∈i,p.sum=s)\/∃l∈h,l.sum=s)\/∃k∈g,s∈k.D):
 D8 97 #[Yy d,ct (Ye 7 s x o B y A z)] w λe f=>e=.panicked [{v:=Cq 6 ⟨#[]⟩ ⟨#[]⟩,recovered:=bq}]/\Zz w f:=by
 have⟨W,f⟩:=Ag (((w.alloc (ca (Ye 7 s x o B y A z) 91)).alloc (ca Yd 42)).alloc (ca Yd 42));have q:=(BI f).1;have H:ek W (Zd (w.1.size) 0)=an (Zg 7):=N6;have I:ek W (Zd (w.1.size) 1)=an (C4 s):=N6;have E:=Yw (u.A q);have t:=Yw f;clear f u;delta D8;go_in;go_upto_region 2 with fail;rw[<-t.o];clear t;go_wp2_with fail;refine(TZ E C G F D j).ai ?_;rintro e t ⟨rfl,f⟩;exact⟨rfl,rfl,q.ag (f.ai q.size)⟩
theorem Qd{c:Nat}{f:C9}{o:Db}{n:Da}(s:Zi)(l:Dr w c d m O P L j i b a f o n)(g:∀k∈f,(k.sum.size:Int)=j)(h:¬AA f s):
 D8 140 #[Yy d,C4 s] w λe p=>e=.panicked [{v:=Cq 2 ⟨#[]⟩ ⟨#[]⟩,recovered:=bq}]/\Zz w p:=by
 have HN:=Yw (KF s l g h);clear l g h;delta D8;go_in;go_wp2_with fail;refine HN.Aj ?_;rintro e h ⟨rfl,g⟩;go_wp2;exact⟨rfl,rfl,g⟩
theorem JU{c:Nat}{g:C9}{r:Db}{p:Da}(s q y:Zi)(i:Int)(t:Zk)(x u:Nat)(o:Dr w c d m O P L l h b a g r p)(z:∀k∈g,(k.sum.size:Int)=l)(A:¬AA g s):
 D8 97 #[Yy d,ct (Ye 7 s q i y t x u)] w λe f=>e=.panicked [{v:=Cq 2 ⟨#[]⟩ ⟨#[]⟩,recovered:=bq}]/\Zz w f:=by
 have⟨W,f⟩:=Ag (((w.alloc (ca (Ye 7 s q i y t x u) 91)).alloc (ca Yd 42)).alloc (ca Yd 42));have j:=(BI f).1;have C:ek W (Zd (w.1.size) 0)=an (Zg 7):=N6;have D:ek W (Zd (w.1.size) 1)=an (C4 s):=N6;have B:=Yw (o.A j);have n:=Yw f;clear f o;delta D8;go_in;go_upto_region 2 with fail;rw[<-n.o];clear n;go_wp2_with fail;refine(Qd s B z A).ai ?_;rintro e n ⟨rfl,f⟩;exact⟨rfl,rfl,j.ag (f.ai j.size)⟩
structure Rs where
 sm:Zi
 le:Int
 F:Int
 G:Int
 E:Int
 B:List Kd
 ps:List Pd
 ls:List Ld
def EI(wd now given births:Int)(ks:List Kd)(ps:List Pd)(ls:List Ld)(kd:Int)(s nm:Zi)(num:Int)(text:Zi)(refs:Zl)(r:Rs):Prop:=
 (kd=1/\(∀r∈refs,AA ks r)/\eh ls<200/\given<1000000000/\∃ks1 aj,CJ wd births ks text refs ks1 aj/\r=⟨Bm text refs wd,given+1,now,given+1,aj,ks1,ps,ls++[⟨given+1,Bm text refs wd,now+num⟩]⟩)\/
 (kd=2/\AA ks s/\((∃x∈ps,x.name=nm)\/eh ps<100)/\r=⟨⟨#[]⟩,0,now,given,births,ks,Bn ps nm s,ls⟩)\/
 (kd=3/\(∃x∈ps,x.name=nm)/\r=⟨⟨#[]⟩,0,now,given,births,ks,Bh ps nm,ls⟩)\/
 (kd=4/\AA ks s/\eh ls<200/\given<1000000000/\r=⟨⟨#[]⟩,given+1,now,given+1,births,ks,ps,ls++[⟨given+1,s,now+num⟩]⟩)\/
 (kd=5/\(∃x∈ls,x.R=num)/\r=⟨⟨#[]⟩,0,now,given,births,ks,ps,BD ls num⟩)\/
 (kd=6/\now+num<=1000000000/\r=⟨⟨#[]⟩,0,now+num,given,births,ks,ps,AT ls (now+num)⟩)\/
 (kd=7/\AA ks s/\¬Jn ps ls ks s/\r=⟨⟨#[]⟩,0,now,given,births,Dk ks s,ps,ls⟩)
def GR(wd now given births:Int)(ks:List Kd)(ps:List Pd)(ls:List Ld)(kd:Int)(s nm:Zi)(num:Int)(text:Zi)(refs:Zl)(c:Int)(a b:Zi):Prop:=
 (kd=1/\GI wd given births ks ls text refs c a b)\/
 (a=⟨#[]⟩/\b=⟨#[]⟩/\(
   (kd=2/\((¬AA ks s/\c=2)\/(AA ks s/\(¬∃x∈ps,x.name=nm)/\eh ps=100/\c=4)))\/
   (kd=3/\(¬∃x∈ps,x.name=nm)/\c=5)\/
   (kd=4/\((¬AA ks s/\c=2)\/(AA ks s/\(eh ls=200\/given=1000000000)/\c=4)))\/
   (kd=5/\(¬∃x∈ls,x.R=num)/\c=5)\/
   (kd=6/\1000000000<now+num/\c=4)\/
   (kd=7/\((¬AA ks s/\c=2)\/(AA ks s/\Jn ps ls ks s/\c=6)))))
structure IH (wd now given births:Int) (ks:List Kd) (ps:List Pd) (ls:List Ld) (kd num:Int) (text:Zi) (refs:Zl):Prop where
 bk:Fi wd ks
 w1:1<=wd
 np:eh ps<=100
 nl:eh ls<=200
 cg:ps.Pairwise (fun a b=>less a.name b.name=bg)
 du:ls.Pairwise (fun a b=>a.R<b.R)
 dm:0<=now
 dj:now<=1000000000
 bu:0<=given
 br:given<=1000000000
 ay:0<=births
 aj:births<=1000000000
 kg:1<=kd
 kh:kd<=7
 gq:0<=num
 gy:num<=1000000000
 cj:∀k∈ks,k.i.size<=ew
 kp:text.size<=ew
 kf:eh refs<=1000
theorem FM(b:Zi)(a:Zl)(c:Int)(h:1<=c):((Bm b a c).size:Int)=c:=Jl ⟨⟨#[]⟩,0,b,a⟩ c h
def Lm(base d m:Nat)(wd:Int)(r:Rs)(w:Zh):Prop:=∃O P L,Dr w base d m O P L wd r.F r.G r.E r.B r.ps r.ls
theorem Tu(k d m:Nat)(O P L:D4){z:Int}{t:C9}{p:Db}{H:Int}(s y:Zi){n:Int}{l:Zi}{j:Zl}(C:Zk)(D:Nat)(w:Zh)(h:DU w k d m O P L z o g f t p u)(i:IH z o g f t p u H n l j)(Y:Er w k (vB d m O P L) C j):
 D8 97 #[Yy d,ct (Ye H s y n l C (eh j) D)] w λe B=>(∃c a b,GR z o g f t p u H s y n l j c a b/\e=.panicked [{v:=Cq c a b,recovered:=bq}]/\Tn (vB d m O P L) w B)\/(∃A q,e=C5 (ct #[Ze,Ze,Ze,Ze,Ze,Zb,Zb,Zb,C4 A,Zg q,Zc,Zc])/\(∃r,EI z o g f t p u H s y n l j r/\r.sm=A/\r.le=q/\Lm k d m z r B)/\Tn (vB d m O P L) w B):=by
 have S:∀b∈d::(ej P).toList,b∈vB d m O P L:=J1;have R:∀b∈d::(ej L).toList,b∈vB d m O P L:=J1;have I:∀X,Zz w X->DU X k d m O P L z o g f t p u:=λX E=>h.A E;obtain rfl|rfl|rfl|rfl|rfl|rfl|rfl:H=1\/H=2\/H=3\/H=4\/H=5\/H=6\/H=7:=by have:=i.kg;have:=i.kh;omega
 .refine(Oz s y l n D h i.bk i.w1 i.cj (FM _ _ _ i.w1) i.kp i.kf i.ay i.aj Y i.nl i.bu i.br i.dm i.dj i.gq i.gy).ai ?_;rintro e B (⟨c,a,b,W,rfl,F⟩|⟨T,aj,M,Z,K,J,rfl,U,Q,G,F⟩)
  .exact dp ⟨c,a,b,dp ⟨rfl,W⟩,rfl,F⟩
  exact eb ⟨_,_,rfl,⟨_,dp ⟨rfl,M,K,J,T,aj,Z,rfl⟩,rfl,rfl,⟨_,_,_,G.U⟩⟩,F⟩
 .by_cases hth:AA t s
  .by_cases hroom:(∃x∈p,x.name=y)\/eh p<100
   .refine(OB y l n C (eh j) D h i.bk.sz hth i.np i.cg hroom).ai ?_;rintro e B ⟨rfl,V,G,F⟩;exact eb ⟨_,_,rfl,⟨_,eb (dp ⟨rfl,hth,hroom,rfl⟩),rfl,rfl,⟨_,_,_,G.U⟩⟩,F.ai S⟩
   have N:¬∃x∈p,x.name=y:=gA;have A:eh p=100:=(by have:=i.np;have r:¬eh p<100:=λe=>hroom (eb e);omega);refine(Kh d s y l n C (eh j) D 4 ⟨#[]⟩ ⟨#[]⟩ w (λX E=>Wj y (I X E) i.bk.sz hth A i.cg N)).ai ?_;rintro e B ⟨rfl,q⟩;exact dp ⟨4,_,_,eb ⟨rfl,rfl,dp ⟨rfl,eb ⟨hth,N,A,rfl⟩⟩⟩,rfl,Tn.of q⟩
  refine(Kh d s y l n C (eh j) D 2 ⟨#[]⟩ ⟨#[]⟩ w (λX E=>QM y s (I X E) i.bk.sz hth)).ai ?_;rintro e B ⟨rfl,q⟩;exact dp ⟨2,_,_,eb ⟨rfl,rfl,dp ⟨rfl,dp ⟨hth,rfl⟩⟩⟩,rfl,Tn.of q⟩
 .by_cases hth:∃x∈p,x.name=y
  .refine(Mc s y l n C (eh j) D h (Dl i.np) i.cg hth).ai ?_;rintro e B ⟨rfl,V,G,F⟩;exact eb ⟨_,_,rfl,⟨_,eb (eb (dp ⟨rfl,hth,rfl⟩)),rfl,rfl,⟨_,_,_,G.U⟩⟩,F.ai S⟩
  refine(MU d s y l n C (eh j) D 5 ⟨#[]⟩ ⟨#[]⟩ w (λX E=>Wh y (I X E) (Dl i.np) i.cg hth)).ai ?_;rintro e B ⟨rfl,q⟩;exact dp ⟨5,_,_,eb ⟨rfl,rfl,eb (dp ⟨rfl,hth,rfl⟩)⟩,rfl,Tn.of q⟩
 .by_cases hth:AA t s
  .by_cases A:eh u=200\/g=1000000000
   .refine(IW d s y l n C (eh j) D 4 ⟨#[]⟩ ⟨#[]⟩ w (λX E=>NA n (I X E) i.bk.sz hth A)).ai ?_;rintro e B ⟨rfl,q⟩;exact dp ⟨4,_,_,eb ⟨rfl,rfl,eb (eb (dp ⟨rfl,eb ⟨hth,A,rfl⟩⟩))⟩,rfl,Tn.of q⟩
   have K:eh u<200:=Dl i.nl;have J:g<1000000000:=Dl i.br;refine(Md y l n C (eh j) D h i.bk.sz hth K i.bu J i.dm i.dj i.gq i.gy).ai ?_;rintro e B ⟨rfl,Q,G,F⟩;exact eb ⟨_,_,rfl,⟨_,eb (eb (eb (dp ⟨rfl,hth,K,J,rfl⟩))),rfl,rfl,⟨_,_,_,G.U⟩⟩,F.ai R⟩
  refine(IW d s y l n C (eh j) D 2 ⟨#[]⟩ ⟨#[]⟩ w (λX E=>Pr s n (I X E) i.bk.sz hth)).ai ?_;rintro e B ⟨rfl,q⟩;exact dp ⟨2,_,_,eb ⟨rfl,rfl,eb (eb (dp ⟨rfl,dp ⟨hth,rfl⟩⟩))⟩,rfl,Tn.of q⟩
 .by_cases hth:∃x∈u,x.R=n
  .refine(MS s y l n C (eh j) D h i.nl i.du hth).ai ?_;rintro e B ⟨rfl,Q,G,F⟩;exact eb ⟨_,_,rfl,⟨_,eb (eb (eb (eb (dp ⟨rfl,hth,rfl⟩)))),rfl,rfl,⟨_,_,_,G.U⟩⟩,F.ai R⟩
  refine(Oh d s y l n C (eh j) D 5 ⟨#[]⟩ ⟨#[]⟩ w (λX E=>ZL n (I X E) i.nl i.du hth)).ai ?_;rintro e B ⟨rfl,q⟩;exact dp ⟨5,_,_,eb ⟨rfl,rfl,eb (eb (eb (dp ⟨rfl,hth,rfl⟩)))⟩,rfl,Tn.of q⟩
 .by_cases hs:o+n<=1000000000
  .refine(MT s y l n C (eh j) D h i.nl i.dm i.gq hs).ai ?_;rintro e B ⟨rfl,Q,G,F⟩;exact eb ⟨_,_,rfl,⟨_,eb (eb (eb (eb (eb (dp ⟨rfl,hs,rfl⟩))))),rfl,rfl,⟨_,_,_,G.U⟩⟩,F.ai R⟩
  refine(Oi d s y l n C (eh j) D 4 ⟨#[]⟩ ⟨#[]⟩ w (λX E=>Ud n (I X E) i.dm i.dj i.gq i.gy Yv)).ai ?_;rintro e B ⟨rfl,q⟩;exact dp ⟨4,_,_,eb ⟨rfl,rfl,eb (eb (eb (eb (dp ⟨rfl,Yv,rfl⟩))))⟩,rfl,Tn.of q⟩
 by_cases hth:AA t s
 .by_cases huse:Jn p u t s
  .refine(LF y l n C (eh j) D h.U i.bk i.np i.nl hth huse).ai ?_;rintro e B ⟨rfl,q⟩;exact dp ⟨6,_,_,eb ⟨rfl,rfl,eb (eb (eb (eb (eb ⟨rfl,eb ⟨hth,huse,rfl⟩⟩))))⟩,rfl,Tn.of q⟩
  refine(Mv y l n C (eh j) D h.U i.bk i.np i.nl hth huse).ai ?_;rintro e B ⟨rfl,U,G,_,F⟩;exact eb ⟨_,_,rfl,⟨_,eb (eb (eb (eb (eb (eb ⟨rfl,hth,huse,rfl⟩))))),rfl,rfl,⟨_,_,_,G⟩⟩,F⟩
 refine(JU s y l n C (eh j) D h.U i.bk.sz hth).ai ?_;rintro e B ⟨rfl,q⟩;exact dp ⟨2,_,_,eb ⟨rfl,rfl,eb (eb (eb (eb (eb ⟨rfl,dp ⟨hth,rfl⟩⟩))))⟩,rfl,Tn.of q⟩
section
theorem NV{A:Type}{R:A->A->Prop}(r:∀a b c,R a b->R b c->R a c){e:List A}(h:∀(j:Nat) p q,e[j]?=an p->e[j+1]?=an q->R p q):e.Pairwise R:=by
 have k:∀(d i:Nat) u v,e[i]?=an u->e[i+d+1]?=an v->R u v:=by
  intro d;induction d with
  |zero=>intro i u v g f;exact h i u v g f
  |succ d ih=>intro i u v g f;have o:=(Zw f).1;have s:e[i+d+1]?=an e[i+d+1]:=gA;exact gG
 rw[pairwise_iff_getElem];intro i j l m n;exact k (j -i -1) i _ _ (Zv l) (by rw[show i+(j -i -1)+1=j by omega];exact Zv m)
theorem IS.ak{d:Int}{c:C9}{l:Db}{j:Da}(h:IS d e b a c l j):∀k∈c,FE k.i k.D d:=λk g=>by have⟨i,f⟩:=A9 g;exact BC (h.th i k f).ok
theorem IS.bk{d:Int}{f:C9}{w:Db}{t:Da}(h:IS g o d c f w t):Fi g f:=by
 have x:∀k∈f,(k.sum.size:Int)=g:=λk e=>by have⟨i,r⟩:=A9 e;rw[(h.th i k r).sum];exact Jl k g h.gg.jy
 have l:(f.map (·.sum)).Pairwise (λa b=>less a b=bg):=by refine YG (λj p q m n=> ?_);rw[getElem?_map]at m n;obtain⟨u,s,rfl⟩:=Option.map_eq_some_iff.1 m;obtain⟨v,m,rfl⟩:=Option.map_eq_some_iff.1 n;exact(h.th (j+1) v m).up j u rfl s
 exact⟨Lc l,l,x,λk e=>⟨Dl (h.ak k e).D,NK (h.ak k e).all⟩,h.nth,h.gg.km⟩
theorem FN{e:Zi}{d:Int}{b:Zi}{a:Zl}(h:Cn c s e d b a f=bg):1<=c/\c<=7/\YB c.toNat s e d b a f:=by unfold Cn at h;simp only[Bool.and_eq_true,decide_eq_true_eq]at h;exact⟨h.1.1,h.1.2,GB h.2⟩
theorem Qe{g:Zi}{c:Zi}{a:Zl}(h:Cn f s g e c a i=bg):eh a<=30:=by
 unfold Cn at h;simp only[Bool.and_eq_true,decide_eq_true_eq]at h;have d:=h.2;unfold De at d;simp only[Bool.and_eq_true,decide_eq_true_eq]at d;have b:=d.2.2.2.2;unfold IN at b;split at b
 .exact(BC b).D
 have j:=(of_decide_eq_true b).2;omega
theorem IH.of{r d:Int}{x:C9}{z:Db}{y:Da}(h:IS r l f d x z y){w:Int}{E:Zi}{m:Int}{g:Zi}{i:Zl}(v:Cn w s E m g i r=bg)(B:g.size<=ew):IH r l f d x z y w m g i:=by
 have⟨C,D,e⟩:=FN v;refine⟨h.bk,h.gg.jy,h.np,h.nl,?_,?_,h.gg.dj,h.gg.now2,h.gg.br,h.gg.given2,h.gg.aj,h.gg.gu,C,D,e.n0,e.n1,λk A=> ?_,B,Dl (Qe v)⟩
 .exact NV (R:=λ(a b:Pd)=>less a.name b.name=bg) (λa b c t u=>Cx t u) (λj p q n o=>(h.de (j+1) q o).up j p rfl n)
 .exact NV (R:=λ(a b:Ld)=>a.R<b.R) (λa b c t u=>Yv) (λj p q n o=>(h.iq (j+1) q o).up j p rfl n)
 have:=(h.ak k A).i;unfold ew;omega
theorem NW(b:C9)(x:Kd):(DP b x).Perm (x::b):=by unfold DP;have c:(b.filter (λk=>less k.sum x.sum)++b.filter (λk=> !(less k.sum x.sum))).Perm b:=filter_append_perm _ _;rw[append_assoc];exact(perm_middle (a:=x) (l₁:=b.filter (λk=>less k.sum x.sum)) (l₂:=b.filter (λk=> !(less k.sum x.sum)))).ag (c.cons x)
theorem Ln(a:Db)(n s:Zi):eh (Bn a n s)<=eh a+1/\((∃x∈a,x.name=n)->eh (Bn a n s)<=eh a):=by
 have h:∀(l:Db),eh (l.filter (λx=>less x.name n))+eh (l.filter (λx=> !(less x.name n)&& !bx (x.name=n)))+eh (l.filter (λx=>decide (x.name=n)))=eh l:=by
  intro l;induction l with
  |nil=>rfl
  |cons x l ih=>
   by_cases hn:x.name=n
   .simp[hn,Ct];omega
   cases hl:less x.name n<;>simp[hl,hn]<;>omega
 have b:=h a;unfold Bn;rw[Am,Am];refine⟨Yt,λ⟨x,hx,hxn⟩=> ?_⟩;have c:0<eh (a.filter (λx=>decide (x.name=n))):=Yt;simp;omega
theorem GR.code{d:Int}{l:C9}{o:Db}{m:Da}{n:Zi}{g:Zi}{f:Zl}{a b:Zi}(h:GR p i e d l o m k s n j g f c a b):2<=c/\c<=6:=by rcases h with⟨_,⟨_,rfl,_⟩|⟨_,⟨_,_,_,_,rfl,_⟩|⟨_,_,rfl,_⟩|⟨_,_,rfl,_⟩⟩⟩|⟨_,_,⟨_,⟨_,rfl⟩|⟨_,_,_,rfl⟩⟩|⟨_,_,rfl⟩|⟨_,⟨_,rfl⟩|⟨_,_,rfl⟩⟩|⟨_,_,rfl⟩|⟨_,_,rfl⟩|⟨_,⟨_,rfl⟩|⟨_,_,rfl⟩⟩⟩<;>omega
theorem Dr.fe{j:Nat}{u:Int}{r:C9}{t:Db}{s:Da}(h:Dr w j d m O P L u o g b r t s){l:Array Value}(i:w.1[R]?=an (ca l 42))(q:R≠d):R∉vB d m O P L:=by
 unfold vB;simp only[Cf,Bw,By,not_or];refine⟨q,?_,?_,?_,?_⟩
 .rintro rfl;have⟨n,f,_,p,_⟩:=h.map;obtain⟨D,⟨v,clock,k,_⟩,_⟩:=p;rw[i]at k;cases k
 .intro e;have⟨c,a⟩:=BL h.ord e;rw[i]at a;simp at a
 .intro e;have⟨c,a⟩:=BL h.de e;rw[i]at a;simp at a
 intro e;have⟨c,a⟩:=BL h.dh e;rw[i]at a;simp at a
theorem Lm.stays{a:Nat}{r:Rs}{g:Zh}{j:Array Value}(h:Lm a d m i r w)(f:w.1[R]?=an (ca j 42))(k:a<=R)(l:R≠d)(n:Tn [R] w g):Lm a d m i r g:=by obtain⟨O,P,L,b⟩:=h;exact⟨O,P,L,b.apart n k (b.fe f l) (λc o e=>by rw[f]at e;simp at e)⟩
end
section
theorem CJ.di{h:C9}{c:Zi}{b:Zl}{f g:C9}{d:Int}(l:CJ i a h c b f d)(m:CJ i a h c b g e):f=g/\d=e:=by
 rcases l with⟨k,n,o,_,rfl,rfl⟩|⟨j,_,_,rfl,rfl⟩<;>rcases m with⟨k',hk',hs',_,rfl,rfl⟩|⟨hno',_,_,rfl,rfl⟩
 .exact gA
 .exact absurd ⟨k,n,o⟩ hno'
 .exact absurd ⟨k',hk',hs'⟩ j
 exact gA
theorem GI.di{d:Int}{n:C9}{B:Da}{f:Zi}{e:Zl}(r:(n.map (·.sum)).Nodup){x:Int}{a b v w:Zi}(t:GI j g d n B f e c a b)(u:GI j g d n B f e x v w):c=x/\a=v/\b=w:=by
 have D:∀k∈n,k.sum=Bm f e j->AG k.i k.D j≠AG f e j->∀p s,¬CJ j d n f e p s:=by
  intro k l m y p s z;rcases z with⟨A,h,i,q,_⟩|⟨o,_⟩
  .have:=Gs r l h (m.ag i.symm);subst this;exact y q
  exact o ⟨k,l,m⟩
 rcases t with⟨E,rfl,rfl,rfl⟩|⟨C,t⟩<;>rcases u with⟨hn',rfl,rfl,rfl⟩|⟨hall',u⟩
 .exact gA
 .exact gA
 .exact gA
 rcases t with⟨k,l,m,y,rfl,rfl,rfl⟩|⟨o,_,rfl,rfl,rfl⟩|⟨⟨p,s,z⟩,_,rfl,rfl,rfl⟩<;>rcases u with⟨A,h,i,q,rfl,rfl,rfl⟩|⟨hno',_,rfl,rfl,rfl⟩|⟨⟨ks2,b2,hy'⟩,_,rfl,rfl,rfl⟩
 .have:=Gs r l h (m.ag i.symm);subst this;exact gA
 .exact absurd ⟨k,l,m⟩ hno'
 .exact gG
 .exact absurd ⟨A,h,i⟩ o
 .exact gA
 .exact gA
 .exact gG
 .exact gA
 exact gA
theorem GI.not{u d:Int}{m:C9}{t:Da}{g:Zi}{f:Zl}(w:(m.map (·.sum)).Nodup){a b:Zi}(y:GI u e d m t g f c a b){B:C9}{x:Int}(o:CJ u d m g f B x)(n:∀r∈f,AA m r)(F:eh t<200)(E:e<1000000000):False:=by
 rcases y with⟨A,_⟩|⟨_,⟨k,p,q,z,_⟩|⟨j,h,_⟩|⟨_,h,_⟩⟩
 .exact A n
 .rcases o with⟨s,i,l,v,_⟩|⟨j,_⟩
  .have:=Gs w p i (q.ag l.symm);subst this;exact z v
  exact j ⟨k,p,q⟩
 .rcases o with⟨s,i,l,_⟩|⟨_,C,D,_⟩
  .exact j ⟨s,i,l⟩
  omega
 omega
theorem GR.di{m:C9}{u:Db}{t:Zi}{i:Zi}{h:Zl}(x:(m.map (·.sum)).Nodup){a b n o:Zi}(d:GR v k g f m u r q s t l i h c a b)(e:GR v k g f m u r q s t l i h p n o):c=p/\a=n/\b=o:=by
 rcases d with⟨y,d⟩|⟨rfl,rfl,d⟩<;>rcases e with⟨hk',e⟩|⟨rfl,rfl,e⟩
 .exact d.di x e
 .omega
 .omega
 refine⟨?_,rfl,rfl⟩;rcases d with⟨j,⟨d,rfl⟩|⟨d,w,z,rfl⟩⟩|⟨j,d,rfl⟩|⟨j,⟨d,rfl⟩|⟨d,w,rfl⟩⟩|⟨j,d,rfl⟩|⟨j,d,rfl⟩|⟨j,⟨d,rfl⟩|⟨d,w,rfl⟩⟩<;>rcases e with⟨k2,⟨e,rfl⟩|⟨e,x2,y2,rfl⟩⟩|⟨k2,e,rfl⟩|⟨k2,⟨e,rfl⟩|⟨e,x2,rfl⟩⟩|⟨k2,e,rfl⟩|⟨k2,e,rfl⟩|⟨k2,⟨e,rfl⟩|⟨e,x2,rfl⟩⟩<;>first|rfl|omega|exact absurd e d|exact absurd d e
theorem EI.di{n:Int}{i:C9}{l:Db}{j:Da}{k:Zi}{d:Zi}{c:Zl}{r m:Rs}(o:EI n f b a i l j h s k g d c r)(p:EI n f b a i l j h s k g d c m):r=m:=by rcases o with⟨e,_,_,_,t,u,q,rfl⟩|⟨e,_,_,rfl⟩|⟨e,_,rfl⟩|⟨e,_,_,_,rfl⟩|⟨e,_,rfl⟩|⟨e,_,rfl⟩|⟨e,_,_,rfl⟩<;>rcases p with⟨k2,_,_,_,ks2,b2,y2,rfl⟩|⟨k2,_,_,rfl⟩|⟨k2,_,rfl⟩|⟨k2,_,_,_,rfl⟩|⟨k2,_,rfl⟩|⟨k2,_,rfl⟩|⟨k2,_,_,rfl⟩<;>first|rfl|omega|(obtain⟨rfl,rfl⟩:=q.di y2;rfl)
theorem GR.not{m:Int}{o:C9}{u:Db}{q:Da}{t:Zi}{n:Int}{i:Zi}{h:Zl}(w:(o.map (·.sum)).Nodup){a b:Zi}{r:Rs}(d:GR v m f e o u q p s t n i h c a b)(x:EI v m f e o u q p s t n i h r):False:=by rcases x with⟨k,l,z,y,B,C,A,_⟩|⟨k,j,g,_⟩|⟨k,j,_⟩|⟨k,j,g,D,_⟩|⟨k,j,_⟩|⟨k,j,_⟩|⟨k,j,g,_⟩<;>rcases d with⟨k1,d⟩|⟨_,_,⟨k1,⟨d,_⟩|⟨d,x1,z1,_⟩⟩|⟨k1,d,_⟩|⟨k1,⟨d,_⟩|⟨d,x1,_⟩⟩|⟨k1,d,_⟩|⟨k1,d,_⟩|⟨k1,⟨d,_⟩|⟨d,x1,_⟩⟩⟩<;>first|omega|exact absurd j d|exact absurd x1 g|exact d.not w A l z y|(rcases g with g|g;exact x1 g;omega)
end
section
structure Gn (wd now given births:Int) (ks:List Kd) (ps:List Pd) (ls:List Ld):Prop where
 bk:Fi wd ks
 w1:1<=wd
 np:eh ps<=100
 nl:eh ls<=200
 cg:ps.Pairwise (fun a b=>less a.name b.name=bg)
 du:ls.Pairwise (fun a b=>a.R<b.R)
 dm:0<=now
 dj:now<=1000000000
 bu:0<=given
 br:given<=1000000000
 ay:0<=births
 aj:births<=1000000000
 cj:∀k∈ks,k.i.size<=2000
 cz:∀k∈ks,eh k.D<=30
 gm:∀x∈ls,x.R<=given
theorem Gn.zero(b:1<=a)(c:a<=8):Gn a 0 0 0 [] [] []:=
 ⟨⟨Yu,Yu,Yu,by intro k d;simp at d,Yu,c⟩,b,Yu,Yu,Yu,Yu,Yv,Yv,Yv,Yv,Yv,Yv,Yu,Yu,Yu⟩
theorem Gn.jt{m:C9}{o:Db}{n:Da}{u:Zi}{c:Zi}{d:Zl}(h:Gn i f b a m o n)(j:Cn l s u g c d i=bg)(q:c.size<=ew):IH i f b a m o n l g c d:=by have⟨r,t,e⟩:=FN j;exact⟨h.bk,h.w1,h.np,h.nl,h.cg,h.du,h.dm,h.dj,h.bu,h.br,h.ay,h.aj,r,t,e.n0,e.n1,λk p=>by have:=h.cj k p;unfold ew;omega,q,Dl (Qe j)⟩
theorem Qf{g:Zi}{a:Zi}{c:Zl}(h:Cn f s g e a c i=bg):a.size<=2000:=by
 unfold Cn at h;simp only[Bool.and_eq_true,decide_eq_true_eq]at h;have d:=h.2;unfold De at d;simp only[Bool.and_eq_true,decide_eq_true_eq]at d;have b:=d.2.2.2.2;unfold IN at b;split at b
 .exact(BC b).i
 have j:=(of_decide_eq_true b).1;omega
theorem Rg{g:Db}(n s:Zi)(h:g.Pairwise (λa b=>less a.name b.name=bg)):(Bn g n s).Pairwise (λa b=>less a.name b.name=bg):=by
 unfold Bn;rw[pairwise_append,pairwise_append];have e:∀y∈g.filter (λx=> !(less x.name n)&& !bx (x.name=n)),less n y.name=bg:=λy d=>by have f:=(B6.1 d).2;simp only[Bool.and_eq_true,Bool.not_eq_true',decide_eq_false_iff_not]at f;exact OU f.1 f.2
 refine⟨⟨h.filter _,Yu,λx c y d=> ?_⟩,h.filter _,λx c y d=> ?_⟩
 .rw[mem_singleton]at d;subst d;exact(B6.1 c).2
 rcases Bw.1 c with c|c
 .exact Cx (B6.1 c).2 (e y d)
 rw[mem_singleton]at c;subst c;exact e y d
theorem Rh{f:C9}{x:Kd}(h:(f.map (·.sum)).Pairwise (λa b=>less a b=bg))(j:¬AA f x.sum):((DP f x).map (·.sum)).Pairwise (λa b=>less a b=bg):=by
 rw[pairwise_map]at h |-;unfold DP;rw[pairwise_append,pairwise_append];have g:∀y∈f.filter (λk=> !(less k.sum x.sum)),less x.sum y.sum=bg:=λy c=>by have⟨l,i⟩:=B6.1 c;simp only[Bool.not_eq_true']at i;exact OU i (λe=>j ⟨y,l,e⟩)
 refine⟨⟨h.filter _,Yu,λy c z d=> ?_⟩,h.filter _,λy c z d=> ?_⟩
 .rw[mem_singleton]at d;subst d;exact(B6.1 c).2
 rcases Bw.1 c with c|c
 .exact Cx (B6.1 c).2 (g z d)
 rw[mem_singleton]at c;subst c;exact g z d
theorem Fi.drop{d:Int}{b:C9}(h:Fi d b)(t:Zi):Fi d (Dk b t):=by have a:(Dk b t).Sublist b:=filter_sublist;exact⟨h.nd.sublist (a.map _),h.dz.sublist (a.map _),λk c=>h.sz k (a.subset c),λk c=>h.D k (a.subset c),Zm a.length_le h.len,h.w8⟩
theorem Gn.step{d:Int}{v:C9}{D:Db}{w:Da}{F:Int}{B:Zi}{g:Zi}{f:Zl}(h:Gn o p c d v D w)(K:Cn F s B q g f o=bg){r:Rs}(n:EI o p c d v D w F s B q g f r):Gn o r.F r.G r.E r.B r.ps r.ls:=by
 obtain⟨W,X,e⟩:=FN K;have Q:=e.n0;have R:=e.n1;have m:∀x:Ld,x.R=c+1->(w++[x]).Pairwise (λa b=>a.R<b.R)/\∀y∈w++[x],y.R<=c+1:=λx A=>by
  refine⟨?_,λy n=> ?_⟩
  .rw[pairwise_append];refine⟨h.du,Yu,λy n z i=> ?_⟩;rw[mem_singleton]at i;subst i;have:=h.gm y n;omega
  rcases Bw.1 n with n|n
  .have:=h.gm y n;omega
  rw[mem_singleton]at n;subst n;omega
 rcases n with⟨rfl,_,M,L,S,T,n,rfl⟩|⟨_,_,l,rfl⟩|⟨_,_,rfl⟩|⟨_,_,M,L,rfl⟩|⟨_,_,rfl⟩|⟨_,N,rfl⟩|⟨_,_,_,rfl⟩
 .have C:eh (w++[(⟨c+1,Bm g f o,p+q⟩:Ld)])<=200:=Yt;obtain⟨t,G,u⟩:=m ⟨c+1,Bm g f o,p+q⟩ rfl,h.bu,BC (e.fh rfl);rcases n with⟨_,_,_,_,rfl,rfl⟩|⟨I,P,U,rfl,rfl⟩
  .exact⟨h.bk,h.w1,h.np,C,h.cg,t.1,h.dm,h.dj,by show 0<=c+1;omega,by show c+1<=_;omega,h.ay,h.aj,h.cj,h.cz,t.2⟩
  have V:=NW v ⟨Bm g f o,d+1,g,f⟩;have O:=h.ay;have j:∀k∈DP v ⟨Bm g f o,d+1,g,f⟩,k=⟨Bm g f o,d+1,g,f⟩\/k∈v:=gG;have H:Fi o (DP v ⟨Bm g f o,d+1,g,f⟩):=by
   have E:=Rh (x:=⟨Bm g f o,d+1,g,f⟩) h.bk.dz I;refine⟨Lc E,E,λk i=> ?_,λk i=> ?_,by rw[Qc];omega,h.bk.w8⟩
   .rcases j k i with rfl|i
    .exact FM _ _ _ h.w1
    exact h.bk.sz k i
   rcases j k i with rfl|i
   .exact⟨by have:=u.D;show eh f<=_;omega,NK u.all⟩
   exact h.bk.D k i
  refine⟨H,h.w1,h.np,C,h.cg,t.1,h.dm,h.dj,by show 0<=c+1;omega,by show c+1<=_;omega,by show 0<=d+1;omega,by show d+1<=_;omega,λk i=> ?_,λk i=> ?_,t.2⟩
  .rcases j k i with rfl|i
   .exact u.i
   exact h.cj k i
  rcases j k i with rfl|i
  .exact u.D
  exact h.cz k i
 .have J:=Ln D B s;refine⟨h.bk,h.w1,?_,h.nl,Rg B s h.cg,h.du,h.dm,h.dj,h.bu,h.br,h.ay,h.aj,h.cj,h.cz,h.gm⟩;rcases l with l|l
  .exact Zm (J.2 l) h.np
  exact gG
 .exact⟨h.bk,h.w1,Zm (length_filter_le _ _) h.np,h.nl,h.cg.filter _,h.du,h.dm,h.dj,h.bu,h.br,h.ay,h.aj,h.cj,h.cz,h.gm⟩
 .have t:=m ⟨c+1,s,p+q⟩ rfl;have G:=h.bu;exact⟨h.bk,h.w1,h.np,Yt,h.cg,t.1,h.dm,h.dj,by show 0<=c+1;omega,by show c+1<=_;omega,h.ay,h.aj,h.cj,h.cz,t.2⟩
 .exact⟨h.bk,h.w1,h.np,Zm (length_filter_le _ _) h.nl,h.cg,h.du.filter _,h.dm,h.dj,h.bu,h.br,h.ay,h.aj,h.cj,h.cz,λx A=>h.gm x (B6.1 A).1⟩
 .have:=h.dm;exact⟨h.bk,h.w1,h.np,Zm (length_filter_le _ _) h.nl,h.cg,h.du.filter _,by show 0<=p+q;omega,N,h.bu,h.br,h.ay,h.aj,h.cj,h.cz,λx A=>h.gm x (B6.1 A).1⟩
 exact⟨h.bk.drop s,h.w1,h.np,h.nl,h.cg,h.du,h.dm,h.dj,h.bu,h.br,h.ay,h.aj,λk i=>h.cj k (B6.1 i).1,λk i=>h.cz k (B6.1 i).1,h.gm⟩
end
theorem LG(w:Zh)(a:Nat):Be w a Zb Zb Zb [] [] [] []:=
 ⟨rfl,⟨rfl,dp ⟨rfl,rfl⟩⟩,λi k r b=>(by simp at b),⟨rfl,dp ⟨rfl,rfl⟩⟩,⟨rfl,dp ⟨rfl,rfl⟩⟩,nodup_nil⟩
structure An where
 code:Int
 wd:Int
 F:Int
 G:Int
 E:Int
 le:Int
 sm:Zi
 a:Zi
 b:Zi
 B:List Kd
 ps:List Pd
 ls:List Ld
def r0:Rs:=⟨⟨#[]⟩,0,0,0,0,[],[],[]⟩
def Lo(wd:Int)(r:Rs)(x:Zi)(r':Rs):Prop:=(AK x wd).ok=bg/\EI wd r.F r.G r.E r.B r.ps r.ls (AK x wd).k (AK x wd).sum (AK x wd).name (AK x wd).n (AK x wd).t (AK x wd).ss r'
def Bad(wd:Int)(r:Rs)(x:Zi):Prop:=(AK x wd).ok=bq\/∃c a b,GR wd r.F r.G r.E r.B r.ps r.ls (AK x wd).k (AK x wd).sum (AK x wd).name (AK x wd).n (AK x wd).t (AK x wd).ss c a b
def Cp(wd:Int):Rs->Zl->Rs->Prop
 |r,[],r'=>r'=r
 |r,x::xs,r'=>∃r1,Lo wd r x r1/\Cp wd r1 xs r'
def DD(wd:Int)(xs:Zl)(n:Nat):Prop:=∃k r x,n=k+1/\xs[k]?=an x/\Cp wd r0 (xs.take k) r/\Bad wd r x
def Rs.ok(wd:Int)(r:Rs):Prop:=Gn wd r.F r.G r.E r.B r.ps r.ls
theorem Cp.snoc{a b:Rs}(d:Lo c a x b):∀{xs:Zl} {r:Rs},Cp c r xs a->Cp c r (xs++[x]) b
 |[],r,h=>by obtain rfl:a=r:=h;exact⟨b,d,rfl⟩
 |y::ys,r,h=>by obtain⟨g,e,f⟩:=h;exact⟨g,e,Cp.snoc d f⟩
theorem Lo.di{r a b:Rs}(h:Lo c r x a)(k:Lo c r x b):a=b:=h.2.di k.2
theorem Lo.ok{r b:Rs}(h:Lo a r x b)(c:r.ok a):b.ok a:=Gn.step c (GN h.1).1 h.2
theorem Lo.not{d:Int}{r g:Rs}(h:Lo d r x g)(f:r.ok d):¬Bad d r x:=by
 rintro(e|⟨c,a,b,e⟩)
 .rw[h.1]at e;cases e
 exact e.not f.bk.nd h.2
theorem Cp.di:∀{xs:Zl} {r a b:Rs},Cp e r xs a->Cp e r xs b->a=b
 |[],r,a,b,h,k=>by have c:=h;have d:=k;rw[c,d]
 |x::xs,r,a,b,h,k=>by obtain⟨i,c,d⟩:=h;obtain⟨j,f,g⟩:=k;obtain rfl:=c.di f;exact Cp.di d g
theorem Cp.ok:∀{xs:Zl} {r r':Rs},Cp a r xs r'->r.ok a->r'.ok a
 |[],r,r',h,hr=>by obtain rfl:r'=r:=h;exact hr
 |x::xs,r,r',h,hr=>by obtain⟨d,b,c⟩:=h;exact Cp.ok c (b.ok hr)
theorem Cp.at{wd:Int}:∀{xs:Zl} {r r':Rs},Cp wd r xs r'->∀{k:Nat} {x:Zi},xs[k]?=an x->∃a b,Cp wd r (xs.take k) a/\Lo wd a x b
 |[],r,r',h,k,x,hx=>by simp at hx
 |y::ys,r,r',h,k,x,hx=>by
  obtain⟨d,c,e⟩:=h;cases k with
  |zero=>simp at hx;subst hx;exact⟨r,d,rfl,c⟩
  |succ k=>obtain⟨a,b,f,g⟩:=Cp.at e (k:=k) (x:=x) gA;exact⟨a,b,⟨d,c,f⟩,g⟩
theorem DH(b:1<=a)(c:a<=8):r0.ok a:=Gn.zero b c
theorem DD.not{c:Zl}{r:Rs}(d:1<=a)(i:a<=8)(h:DD a c n):¬Cp a r0 c r:=λj=>by obtain⟨k,m,x,rfl,l,b,e⟩:=h;have⟨o,p,f,g⟩:=j.at l;obtain rfl:=b.di f;exact g.not (b.ok (DH d i)) e
theorem DD.le{d:Zl}(e:1<=a)(l:a<=8)(h:DD a d n)(k:DD a d m):m<=n:=by
 obtain⟨i,u,x,rfl,r,b,f⟩:=h;obtain⟨j,v,y,rfl,s,o,t⟩:=k;rcases Cg i j with q|p
 .obtain⟨w,z,c,g⟩:=o.at (k:=i) (x:=x) gA;rw[take_take,Nat.min_eq_left Yv]at c;obtain rfl:=b.di c;exact absurd f (g.not (b.ok (DH e l)))
 omega
theorem DD.di{d:Zl}(b:1<=a)(c:a<=8)(h:DD a d n)(k:DD a d m):n=m:=Nat.le_antisymm (k.le b c h) (h.le b c k)
def Mw(wd:Int)(xs:Zl)(x:An):Prop:=
 (¬((1<=wd/\wd<=8)/\eh xs<=4000)/\x=⟨1,0,0,0,0,0,⟨#[]⟩,⟨#[]⟩,⟨#[]⟩,[],[],[]⟩)\/
 (((1<=wd/\wd<=8)/\eh xs<=4000)/\(
   (∃n:Nat,DD wd xs n/\x=⟨7,0,0,0,0,n,⟨#[]⟩,⟨#[]⟩,⟨#[]⟩,[],[],[]⟩)\/
   (∃r,Cp wd r0 xs r/\x=⟨0,wd,r.F,r.G,r.E,0,⟨#[]⟩,⟨#[]⟩,⟨#[]⟩,r.B,r.ps,r.ls⟩)))
theorem Mw.di{c:Zl}{x y:An}(h:Mw b c x)(k:Mw b c y):x=y:=by
 rcases h with⟨d,rfl⟩|⟨a,h⟩<;>rcases k with⟨n2,rfl⟩|⟨g2,k⟩
 .rfl
 .omega
 .omega
 rcases h with⟨n,h,rfl⟩|⟨r,h,rfl⟩<;>rcases k with⟨m,k,rfl⟩|⟨q,k,rfl⟩
 .obtain rfl:=h.di a.1.1 a.1.2 k;rfl
 .exact absurd k (h.not a.1.1 a.1.2)
 .exact absurd h (k.not a.1.1 a.1.2)
 obtain rfl:=h.di k;rfl
structure Vd where
 wd:Int
 lim:Int
 ss:Zl
 C:Zl
 J:Int
 F:Int
 G:Int
 E:Int
 B:List Kd
 ps:List Pd
 ls:List Ld
 I:Int
 H:Zl
 ms:Zl
 N:Int
 M:Int
 ro:Int
structure Va where
 Y:Zk
 sc:Nat
 V:Zk
 T:Nat
 Q:Zk
 W:Nat
 L:Zk
 P:Nat
 K:Zk
 O:Nat
 Z:Zk
 y:Nat
 g:Zk
 j:Nat
abbrev Xq(v:Vd)(a:Va):Array Value:=#[.int .i64 v.wd,.int .i64 v.lim,cr a.Y (eh v.ss) a.sc,cr a.V (eh v.C) a.T,.int .i64 v.J,.int .i64 v.F,.int .i64 v.G,.int .i64 v.E,cr a.Q (eh v.B) a.W,cr a.L (eh v.ps) a.P,cr a.K (eh v.ls) a.O,.int .i64 v.I,cr a.Z (eh v.H) a.y,cr a.g (eh v.ms) a.j,.int .i64 v.N,.int .i64 v.M,.int .i64 v.ro]
abbrev Xp(v:Vd)(a:Va):List Value:=[.int .i64 v.wd,.int .i64 v.lim,cr a.Y (eh v.ss) a.sc,cr a.V (eh v.C) a.T,.int .i64 v.J,.int .i64 v.F,.int .i64 v.G,.int .i64 v.E,cr a.Q (eh v.B) a.W,cr a.L (eh v.ps) a.P,cr a.K (eh v.ls) a.O,.int .i64 v.I,cr a.Z (eh v.H) a.y,cr a.g (eh v.ms) a.j,.int .i64 v.N,.int .i64 v.M,.int .i64 v.ro]
abbrev Xm(v:Vd)(a:Option Addr)(b:Nat)(c:Option Addr)(d:Nat)(e:Option Addr)(f:Nat)(g:Option Addr)(h:Nat)(i:Option Addr)(j:Nat)(k:Option Addr)(l:Nat)(m:Option Addr)(n:Nat):List Value:=[.int .i64 v.wd,.int .i64 v.lim,cr a (eh v.ss) b,cr c (eh v.C) d,.int .i64 v.J,.int .i64 v.F,.int .i64 v.G,.int .i64 v.E,cr e (eh v.B) f,cr g (eh v.ps) h,cr i (eh v.ls) j,.int .i64 v.I,cr k (eh v.H) l,cr m (eh v.ms) n,.int .i64 v.N,.int .i64 v.M,.int .i64 v.ro]
abbrev Xl(v:Vd)(a:Option Addr)(b:Nat)(c:Option Addr)(d:Nat)(e:Option Addr)(f:Nat)(g:Option Addr)(h:Nat)(i:Option Addr)(j:Nat)(k:Option Addr)(l:Nat)(m:Option Addr)(n:Nat):Array Value:=#[.int .i64 v.wd,.int .i64 v.lim,cr a (eh v.ss) b,cr c (eh v.C) d,.int .i64 v.J,.int .i64 v.F,.int .i64 v.G,.int .i64 v.E,cr e (eh v.B) f,cr g (eh v.ps) h,cr i (eh v.ls) j,.int .i64 v.I,cr k (eh v.H) l,cr m (eh v.ms) n,.int .i64 v.N,.int .i64 v.M,.int .i64 v.ro]
structure Bc (w:Zh) (B:Nat) (a:Va) (v:Vd):Prop where
 s:Ab w B a.Y v.ss
 t:Ab w B a.V v.C
 st:Bo w B a.Q a.L a.K v.B v.ps v.ls
 q:Ab w B a.Z v.H
 m:Ab w B a.g v.ms
theorem Bc.ah{c:Zh}{a:Va}{v:Vd}(h:Bc w B a v)(b:bs B w c):Bc c B a v:=
 ⟨h.s.A b,h.t.A b,h.st.ah b,h.q.A b,h.m.A b⟩
theorem Bc.mono{B':Nat}{a:Va}{v:Vd}(h:Bc w B a v)(b:B<=B'):Bc w B' a v:=
 ⟨h.s.ai b,h.t.ai b,h.st.ai b,h.q.ai b,h.m.ai b⟩
abbrev Bc.ai:=@Bc.mono
theorem Bc.X{b:Zh}{a:Va}{v:Vd}(h:Bc w w.1.size a v)(c:Zz w b):Bc b b.1.size a v:=(h.ah c).ai c.size
structure Kv (a:Va) (v:Vd):Prop where
 s:a.Y=ba->eh v.ss=0/\a.sc=0
 t:a.V=ba->eh v.C=0/\a.T=0
 m:eh v.ms<=a.j
structure Dz (v:Vd):Prop where
 s:eh v.ss<=1048576
 t:eh v.C<=1048576
 ss:∀s∈v.ss,s.size<=1048576
 C:∀s∈v.C,s.size<=1048576
 st:OR v.B v.ps v.ls
 r:IL v.H v.ms
structure BZ (v:Vd) (r:Rs):Prop where
 wd:1<=v.wd/\v.wd<=8
 lim:0<=v.lim/\v.lim<=1000000
 log:BG v.ss v.C=bg
 run:Cp v.wd r0 (v.ss++v.C) r
 same:(v.wd=v.J/\r.F=v.F/\r.G=v.G/\r.E=v.E)/\r.B=v.B/\r.ps=v.ps/\r.ls=v.ls
 round:Ba v.wd v.E v.I v.N v.M v.ro v.H v.ms
def BW(v:Vd):Prop:=∃r,BZ v r
theorem DQ{a b:Zl}(h:BG a b=bg):eh (a++b)<=4000:=by unfold BG at h;simp at h;rw[Am];exact h.1
theorem Jb{b:Nat}{j k l m n o p q r s a c d e f g i:D4}(h:Aa w b [j,k,l,m,n,o,p,q,r,s,a,c,d,e,f,g,i]):ek w (Zd b 0)=an j/\ek w (Zd b 1)=an k/\ek w (Zd b 2)=an l/\ek w (Zd b 3)=an m/\ek w (Zd b 4)=an n/\ek w (Zd b 5)=an o/\ek w (Zd b 6)=an p/\ek w (Zd b 7)=an q/\ek w (Zd b 8)=an r/\ek w (Zd b 9)=an s/\ek w (Zd b 10)=an a/\ek w (Zd b 11)=an c/\ek w (Zd b 12)=an d/\ek w (Zd b 13)=an e/\ek w (Zd b 14)=an f/\ek w (Zd b 15)=an g/\ek w (Zd b 16)=an i:=
 ⟨(h 0 _ rfl).1,(h 1 _ rfl).1,(h 2 _ rfl).1,(h 3 _ rfl).1,(h 4 _ rfl).1,(h 5 _ rfl).1,(h 6 _ rfl).1,(h 7 _ rfl).1,(h 8 _ rfl).1,(h 9 _ rfl).1,(h 10 _ rfl).1,(h 11 _ rfl).1,(h 12 _ rfl).1,(h 13 _ rfl).1,(h 14 _ rfl).1,(h 15 _ rfl).1,(h 16 _ rfl).1⟩
theorem MM.ah{f:Zh}{c g p l:Nat}{b:C9}{e:Db}{d:Da}(h:MM w c g p l b e d)(a:Zz w f):MM f c g p l b e d:=⟨h.k.ah a,h.p.ah a,h.l.ah a⟩
def XA(w:Zh)(lo:Nat)(a:Va)(v:Vd):Prop:=
 ∃(g k g3 q3 r3 g5 k5 lo1 lo2:Nat) (w2:Zh),a=⟨an ⟨g,0,ba⟩,eh v.ss,an ⟨k,0,ba⟩,eh v.C,an ⟨g3,0,ba⟩,eh v.B,an ⟨q3,0,ba⟩,eh v.ps,an ⟨r3,0,ba⟩,eh v.ls,an ⟨g5,0,ba⟩,eh v.H,an ⟨k5,0,ba⟩,eh v.ms⟩/\
  g<k/\k<lo1/\lo<=lo1/\lo1<=lo2/\lo2<=w.1.size/\g5<k5/\
  eo w lo 9 1 (cr (an ⟨g,0,ba⟩) (eh v.ss) (eh v.ss)) (eh v.ss) (v.ss.map Value.string)/\eo w lo 9 1 (cr (an ⟨k,0,ba⟩) (eh v.C) (eh v.C)) (eh v.C) (v.C.map Value.string)/\
  MM w2 lo1 g3 q3 r3 v.B v.ps v.ls/\w2.1.size<=lo2/\(∀b,lo1<=b->b<w2.1.size->w.1[b]?=w2.1[b]?)/\
  eo w lo2 9 1 (cr (an ⟨g5,0,ba⟩) (eh v.H) (eh v.H)) (eh v.H) (v.H.map Value.string)/\eo w lo2 9 1 (cr (an ⟨k5,0,ba⟩) (eh v.ms) (eh v.ms)) (eh v.ms) (v.ms.map Value.string)
theorem XA.ah{m:Zh}{l:Nat}{a:Va}{v:Vd}(h:XA w l a v)(G:w.1.size<=m.1.size)(d:∀b,l<=b->b<w.1.size->m.1[b]?=w.1[b]?):XA m l a v:=by obtain⟨g,k,t,I,J,u,H,r,s,K,x,y,z,A,B,C,D,i,j,E,n,o,e,f⟩:=h;refine⟨g,k,t,I,J,u,H,r,s,K,x,y,z,A,B,Zm C G,D,Ar i (λq c=>d q (Ac i c).1 (Ac i c).2),Ar j (λq c=>d q (Ac j c).1 (Ac j c).2),E,n,λb F p=>(d b Yv Yv).ag (o b F p),Ar e (λq c=>d q (Dl (Ac e c).1) (Ac e c).2),Ar f (λq c=>d q (Dl (Ac f c).1) (Ac f c).2)⟩
structure Knd (n kmax feq fmark:Nat) (R:Nat->Zh->Zj->Prop) (O:Nat->Nat->Zh->Zj->Prop) (M:Nat->Nat->Zh->Zj->Nat->Prop):Prop where
 eq:∀(X:Zh) (cs ds:Zj),R X.1.size X cs->R X.1.size X ds->Calls prog feq #[ct (ei cs),ct (ei ds)] X fun e X'=>e=.returned (ef bg)/\Zz X X'
 mark:∀(lo N:Nat) (X:Zh) (cs:Zj) (k:Nat),O lo N X cs->1<=k->k<=kmax->Calls prog fmark #[ct (ei cs),Zg k] X fun e X'=>(∃K:Nat,e=.returned (Zg K)/\1<=K/\K<=90000000/\M lo N X' cs K)/\bs lo X X'/\∀q,N<=q->q<X.1.size->X'.1[q]?=X.1[q]?
 keepR:∀(L:Nat) (X X':Zh) (cs:Zj),R L X cs->bs L X X'->R L X' cs
 monoR:∀(L L':Nat) (X:Zh) (cs:Zj),R L X cs->L<=L'->R L' X cs
 keepO:∀(lo N:Nat) (X X':Zh) (cs:Zj),O lo N X cs->X.1.size<=X'.1.size->(∀q,lo<=q->q<N->X'.1[q]?=X.1[q]?)->O lo N X' cs
 keepM:∀(lo N:Nat) (X X':Zh) (cs:Zj) (K:Nat),M lo N X cs K->X.1.size<=X'.1.size->(∀q,lo<=q->q<N->X'.1[q]?=X.1[q]?)->M lo N X' cs K
 ofO:∀(lo N:Nat) (X:Zh) (cs:Zj),O lo N X cs->N<=X.1.size/\R X.1.size X cs
 lenR:∀(L:Nat) (X:Zh) (cs:Zj),R L X cs->eh cs=n/\∀u∈cs,u.oneCell'=bg
structure L1 (RA:Nat->Zh->Zj->Prop) (w X:Zh) (A sc:Zj) (pS L:Nat):Prop where
 cn:bs w.1.size w X
 bA:Aa X w.1.size A
 bS:Aa X pS sc
 rS:RA L X sc
 l0:w.1.size<L
 l1:pS<L
 le:L<=X.1.size
theorem L1.ah{c i a:Nat}{d:Nat->Zh->Zj->Prop}{l:Nat->Nat->Zh->Zj->Prop}{j:Nat->Nat->Zh->Zj->Nat->Prop}(k:Knd n c i a d l j){X e:Zh}{A g:Zj}{f L:Nat}(h:L1 d w X A g f L)(b:bs L X e):L1 d w e A g f L:=
 ⟨h.cn.ag (b.ai (Dl h.l0)),Aa.same h.bA (b.block _ h.l0),Aa.same h.bS (b.block _ h.l1),k.keepR _ _ _ _ h.rS b,h.l0,h.l1,Zm h.le b.size⟩
structure L2 (OX:Nat->Nat->Zh->Zj->Prop) (X:Zh) (xc:Zj) (L pX N:Nat):Prop where
 bX:Aa X pX xc
 oX:OX L N X xc
 l1:N<=pX
 le:pX<X.1.size
theorem L2.ah{c i a:Nat}{RX:Nat->Zh->Zj->Prop}{d:Nat->Nat->Zh->Zj->Prop}{j:Nat->Nat->Zh->Zj->Nat->Prop}(k:Knd n c i a RX d j){X e:Zh}{g:Zj}{L f:Nat}(h:L2 d X g L f N)(b:Zz X e):L2 d e g L f N:=
 ⟨Aa.same h.bX (b.block _ h.le),k.keepO _ _ _ _ _ h.oX b.size (λq _ l=>b.block q (by have:=h.l1;have:=h.le;omega)),h.l1,Zr h.le b.size⟩
structure L3 (P:Nat->Nat->Zh->Zj->Prop) (X:Zh) (gc:Zj) (lo pG N:Nat):Prop where
 bG:Aa X pG gc
 oG:P lo N X gc
 l1:N<=pG
 le:pG<X.1.size
theorem L3.stays{P:Nat->Nat->Zh->Zj->Prop}(k:∀(b N:Nat) (X a:Zh) (d:Zj),P b N X d->X.1.size<=a.1.size->(∀q,b<=q->q<N->a.1[q]?=X.1[q]?)->P b N a d){X a:Zh}{e:Zj}{b c:Nat}(h:L3 P X e b c N)(l:B<=b)(i:B<=c)(g:X.1.size<=a.1.size)(f:∀q,B<=q->q<X.1.size->a.1[q]?=X.1[q]?):L3 P a e b c N:=
 ⟨Aa.same h.bG (f _ i h.le),k _ _ _ _ _ h.oG g (λq j j=>f q Yv (by have:=h.l1;have:=h.le;omega)),h.l1,Zr h.le g⟩
theorem L3.ah{P:Nat->Nat->Zh->Zj->Prop}(k:∀(b N:Nat) (X a:Zh) (c:Zj),P b N X c->X.1.size<=a.1.size->(∀q,b<=q->q<N->a.1[q]?=X.1[q]?)->P b N a c){X a:Zh}{d:Zj}{b f:Nat}(h:L3 P X d b f N)(e:Zz X a):L3 P a d b f N:=
 h.stays (B:=0) k (Aq _) (Aq _) e.size (λq _ g=>e.block q g)
theorem boxed{X:Zh}{cs z:Zj}{T:TypeId}(b:eh cs=eh z):Aa ((X.alloc (ca (ei z) T)).setCells X.1.size 0 cs) X.1.size cs/\Zz X ((X.alloc (ca (ei z) T)).setCells X.1.size 0 cs)/\((X.alloc (ca (ei z) T)).setCells X.1.size 0 cs).1.size=X.1.size+1:=by have a:=Aa.new X z T;have c:=AD X.1.size cs 0 (X.alloc (ca (ei z) T));refine⟨a.aw cs b,(Zy).ag (c.A Yu Yu),?_⟩;rw[GK];simp
theorem EA{P:Program}{c:Array Oper}{rest:List Oper}{f:Oper}{a:Act}{Q:Exit->Act->Zh->Prop}(p:Region.wanted f (yielded c a.tmps)=bg)(g:TypeId)(x:Operand)(m:f.op=.load g x)(b o:Nat)(q:a.eval x=Yx b o)(e:Zj)(d:TypeDesc)(j:w.rangeAt b o e)(n:P.underlying g=an d)(k:d.isRow=bg)(l:(P.info? g).map (·.size)=an (eh e))(h:wpList P c Q rest (a.put f.dst (ct (ei e))) w):wpList P c Q (f::rest) a w:=
 wpList_step λ_ i=>by rw[if_pos p];exact wp_load_mid g x m b o q e d j n k l (i _ _ h)
theorem Be.db{b:Nat}{e:Zj}{j:C9}{l:Db}{k:Da}(h:Be w b T P L e j l k):∀g∈BP T P L e,g<w.1.size:=by
 intro g a;unfold BP at a;simp only[Bw,By,mem_filterMap]at a;rcases a with a|a|a|⟨r,f,a⟩
 .exact(Ac h.ak a).2
 .exact(Ac h.pins a).2
 .exact(Ac h.ax a).2
 obtain⟨i,c⟩:=A9 f;have d:=(Zw c).1;rw[h.len]at d;exact(Ac (h.D i _ r (Zv d) c) a).2
theorem Be.apart{l:Zh}{f:Zj}{n:C9}{p:Db}{o:Da}(h:Be w d T P L f n p o){V:List Nat}(s:Tn V w l)(q:∀b∈V,b∉BP T P L f):Be l d T P L f n p o:=by
 have c:∀g,g∈BP T P L f->g<w.1.size->l.1[g]?=w.1[g]?:=λg a j=>s.block g j (λe=>q g e a);refine⟨h.len,Ar h.ak (λg a=>c g K7 (Ac h.ak a).2),λi k r m j=>Ar (h.D i k r m j) (λg a=>c g (by unfold BP;simp only[Bw,mem_filterMap];exact eb (eb (eb ⟨r,Zs j,a⟩))) (Ac (h.D i k r m j) a).2),Ar h.pins (λg a=>c g K7 (Ac h.pins a).2),Ar h.ax (λg a=>c g K7 (Ac h.ax a).2),h.nd⟩
theorem Be.rows{a:Zj}{b:List Kd}{t:List Pd}(h:Be w n T P L a b t r):∃m u l s f q,T=cr m (eh b) u/\P=cr l (eh t) s/\L=cr f (eh r) q/\Bo w w.1.size m l f b t r:=by
 obtain⟨m,u,rfl⟩:=Au h.ak;obtain⟨l,s,rfl⟩:=Au h.pins;obtain⟨f,q,rfl⟩:=Au h.ax;refine⟨m,u,l,s,f,q,rfl,rfl,rfl,⟨?_,AS.own h.pins,AR.own h.ax⟩⟩;rcases h.ak.2 with⟨_,p⟩|⟨g,E,F,e,I,z,_⟩
 .exact dp (length_eq_zero_iff.1 p)
 cases e;refine eb ⟨g,0,rfl,(A6.1 z).1,λi k o=> ?_⟩;have J:=(Zw o).1;have hlen:=h.len;have A:a[i]?=an a[i]:=gA;have B:(b.zip a)[i]?=an (k,a[i]):=gA;have G:eh (b.zip a)=eh b:=Yt;have c:∀j,j<4->ek w (Zd g (i *4+j))=(kC (k,a[i]))[j]?:=λj d=>(h.ak.cellAt (i *4+j) Yv).ag (BU CB B d);have d:=h.D i k _ o A;have⟨C,D,o⟩:=Au d;rw[Ay];refine⟨by simpa [kC]using c 0 Yq,by simpa [kC]using c 1 Yq,by simpa [kC]using c 2 Yq,C,D,?_,?_⟩
 .exact(show ek w (Zd g (i *4+3))=an a[i] by simpa [kC]using c 3 Yq).ag (congrArg an o)
 rw[o]at d;rcases d.2 with⟨_,p⟩|⟨H,v,x,y,_⟩
 .exact dp (B8 p)
 cases y;exact Ab.own d
theorem Be.same{c:Zh}{m:Zj}{f:C9}{l:Db}{j:Da}(h:Be w base T P L m f l j)(p:∀b,base<=b->b<w.1.size->c.1[b]?=w.1[b]?):Be c base T P L m f l j:=by have a:∀{e:TypeId} {size:Nat} {v:D4} {n:Nat} {xs:Zj},eo w base e size v n xs->eo c base e size v n xs:=λh=>Ar h (λg d=>p g (Ac h d).1 (Ac h d).2);exact⟨h.len,a h.ak,λi k r d o=>a (h.D i k r d o),a h.pins,a h.ax,h.nd⟩
theorem EY.A{c:Zh}{g:Nat}{b:C9}(h:EY w ⟨g,0,ba⟩ b)(e:Zz w c):EY c ⟨g,0,ba⟩ b:=by intro i k f;have⟨d,j,a⟩:=h i k f;exact⟨d,j,(e.cell (p:=⟨g,0+i *4+3,ba⟩) (Bf w _ a)).ag a⟩
def Df(S U T P L Q M:Value)(rs:Zj):List Nat:=((Al S).toList++(Al U).toList)++(BP T P L rs++((Al Q).toList++(Al M).toList))
structure AF (w:Zh) (base:Nat) (S U T P L Q M:Value) (rs:Zj) (v:Vd):Prop where
 s:Ak w base S v.ss
 u:Ak w base U v.C
 st:Be w base T P L rs v.B v.ps v.ls
 q:Ak w base Q v.H
 m:Ak w base M v.ms
 nd:(Df S U T P L Q M rs).Nodup
theorem AF.lo{b:Nat}{c:Zj}{v:Vd}(h:AF w b S U T P L Q M c v):∀g∈Df S U T P L Q M c,b<=g:=by
 intro g a;unfold Df at a;simp only[Bw,By]at a;rcases a with(a|a)|a|a|a
 .exact(h.s.bh a).1
 .exact(h.u.bh a).1
 .exact h.st.lo g a
 .exact(h.q.bh a).1
 exact(h.m.bh a).1
theorem AF.db{b:Nat}{c:Zj}{v:Vd}(h:AF w b S U T P L Q M c v):∀g∈Df S U T P L Q M c,g<w.1.size:=by
 intro g a;unfold Df at a;simp only[Bw,By]at a;rcases a with(a|a)|a|a|a
 .exact(h.s.bh a).2
 .exact(h.u.bh a).2
 .exact h.st.db g a
 .exact(h.q.bh a).2
 exact(h.m.bh a).2
theorem AF.stays{i:Zh}{c:Nat}{f:Zj}{v:Vd}(h:AF w c S U T P L Q M f v){V:List Nat}(d:Tn V w i)(l:∀b∈V,b∉Df S U T P L Q M f):AF i c S U T P L Q M f v:=by have e:∀b∈Df S U T P L Q M f,b∉V:=gG;unfold Df at e;simp only[Bw,By]at e;exact⟨h.s.S d (λg a=>e g (dp (dp a))),h.u.S d (λg a=>e g (dp (eb a))),h.st.apart d (λb j k=>e b (eb (dp k)) j),h.q.S d (λg a=>e g (eb (eb (dp a)))),h.m.S d (λg a=>e g (eb (eb (eb a)))),h.nd⟩
theorem AF.A{b:Zh}{a:Zj}{v:Vd}(h:AF w base S U T P L Q M a v)(c:Zz w b):AF b base S U T P L Q M a v:=
 h.stays (V:=[]) (Tn.of c) Yu
theorem AF.mono{base':Nat}{b:Zj}{v:Vd}(h:AF w base S U T P L Q M b v)(a:base'<=base):AF w base' S U T P L Q M b v:=
 ⟨h.s.ai a,h.u.ai a,h.st.ai a,h.q.ai a,h.m.ai a,h.nd⟩
abbrev AF.ai:=@AF.mono
theorem AF.same{e:Zh}{f:Zj}{v:Vd}(h:AF w base S U T P L Q M f v)(d:w.1.size<=e.1.size)(c:∀b,base<=b->b<w.1.size->e.1[b]?=w.1[b]?):AF e base S U T P L Q M f v:=
 ⟨h.s.stays d (λg a=>c g (h.s.bh a).1 (h.s.bh a).2),h.u.stays d (λg a=>c g (h.u.bh a).1 (h.u.bh a).2),h.st.same c,h.q.stays d (λg a=>c g (h.q.bh a).1 (h.q.bh a).2),h.m.stays d (λg a=>c g (h.m.bh a).1 (h.m.bh a).2),h.nd⟩
theorem AF.of{c n1 n2:Nat}{j:Zj}{v:Vd}(z:Ak w c S v.ss)(A:Ak w c U v.C)(p:∀g,Al S=an g->Al U≠an g)(r:∀g,Al S=an g\/Al U=an g->g<n1)(i:Be w n1 T P L j v.B v.ps v.ls)(d:c<=n1)(t:∀g∈BP T P L j,g<n2)(y:Ak w c Q v.H)(x:Ak w c M v.ms)(k:∀g,Al Q=an g\/Al M=an g->n2<=g)(D:n1<=n2)(n:∀g,Al Q=an g->Al M≠an g):AF w c S U T P L Q M j v:=by
 refine⟨z,A,i.ai d,y,x,?_⟩;have l:=i.nd;rw[FG]at l;have gx:=i.lo;unfold Df;generalize BP T P L j=B at *
 generalize Al S=s at *
 generalize Al U=u at *
 generalize Al Q=q at *
 generalize Al M=m at *
 have h:∀o:Option Nat,o.toList.Nodup:=gG;simp only[nodup_append,Bw,By];refine⟨⟨h _,h _,λa f b d e=>p a f (e▸d)⟩,⟨l,⟨h _,h _,λa f b d e=>n a f (e▸d)⟩,λa f b d e=> ?_⟩,λa f b d e=> ?_⟩
 .have C:=t a f;have E:=k b d;omega
 have C:=r a f;rcases d with d|d
 .have:=gx b d;omega
 have:=k b d;omega
def Acw(v:Vd):Nat:=eh v.ss+eh v.C+Acv v.B v.ps v.ls+eh v.H+eh v.ms
def Bd(v:Vd)(S U T P L Q M:Value):Zj:=[Zg v.wd,Zg v.lim,S,U,Zg v.J,Zg v.F,Zg v.G,Zg v.E,T,P,L,Zg v.I,Q,M,Zg v.N,Zg v.M,Zg v.ro]
def VRa(v:Vd)(L:Nat)(X:Zh)(cs:Zj):Prop:=
 ∃a:Va,cs=Bd v (cr a.Y (eh v.ss) a.sc) (cr a.V (eh v.C) a.T) (cr a.Q (eh v.B) a.W) (cr a.L (eh v.ps) a.P) (cr a.K (eh v.ls) a.O) (cr a.Z (eh v.H) a.y) (cr a.g (eh v.ms) a.j)/\Bc X L a v
def VOa(v u:Vd)(lo N:Nat)(X:Zh)(cs:Zj):Prop:=
 (N<=X.1.size/\lo<=X.1.size)/\∃S U T P L Q M rs,cs=Bd v S U T P L Q M/\AF X lo S U T P L Q M rs u/\∀g∈Df S U T P L Q M rs,g<N
theorem AF.jl{X:Zh}{a:Nat}{p:Zj}{v:Vd}(h:AF X a S U T P L Q M p v):VRa v X.1.size X (Bd v S U T P L Q M):=by obtain⟨q,r,rfl,b⟩:=h.s.row;obtain⟨u,w,rfl,c⟩:=h.u.row;obtain⟨s,t,l,m,g,i,rfl,rfl,rfl,d⟩:=h.st.rows;obtain⟨n,o,rfl,e⟩:=h.q.row;obtain⟨j,k,rfl,f⟩:=h.m.row;exact⟨⟨q,r,u,w,s,t,l,m,g,i,n,o,j,k⟩,rfl,⟨b,c,d,e,f⟩⟩
theorem Be.at{w':Zh}{c:Zj}{e:C9}{j:Db}{f:Da}(h:Be w base T P L c e j f)(b:∀g∈BP T P L c,w'.1[g]?=w.1[g]?):Be w' base T P L c e j f:=
 ⟨h.len,Ar h.ak (λg a=>b g K7),λi k r l d=>Ar (h.D i k r l d) (λg a=>b g (by unfold BP;simp only[Bw,mem_filterMap];exact eb (eb (eb ⟨r,Zs d,a⟩)))),Ar h.pins (λg a=>b g K7),Ar h.ax (λg a=>b g K7),h.nd⟩
theorem AF.ah{X c:Zh}{h:Nat}{d:Zj}{u:Vd}(b:AF X h S U T P L Q M d u)(i:∀g∈Df S U T P L Q M d,g<N)(f:X.1.size<=c.1.size)(k:∀q,h<=q->q<N->c.1[q]?=X.1[q]?):AF c h S U T P L Q M d u:=by
 have e:∀g∈Df S U T P L Q M d,c.1[g]?=X.1[g]?:=λg a=>k g (b.lo g a) (i g a);have j:∀g∈BP T P L d,c.1[g]?=X.1[g]?:=λg a=>e g (by unfold Df;simp only[Bw];exact eb (dp a));unfold Df at e;simp only[Bw,By]at e;exact⟨b.s.stays f (λg a=>e g (dp (dp a))),b.u.stays f (λg a=>e g (dp (eb a))),b.st.at j,b.q.stays f (λg a=>e g (eb (eb (dp a)))),b.m.stays f (λg a=>e g (eb (eb (eb a)))),b.nd⟩
theorem VOa.ah{v u:Vd}{c:Nat}{X a:Zh}{d:Zj}(h:VOa v u c N X d)(b:X.1.size<=a.1.size)(i:∀q,c<=q->q<N->a.1[q]?=X.1[q]?):VOa v u c N a d:=by obtain⟨f,S,U,T,P,L,Q,M,j,rfl,g,e⟩:=h;exact⟨⟨Zm f.1 b,Zm f.2 b⟩,S,U,T,P,L,Q,M,j,rfl,g.ah e b i,e⟩
theorem Dz.jg{v:Vd}(h:Dz v)(a:YA v.B<=1048576):1000+Acw v<=90000000:=by unfold Acw Acv;have:=h.s;have:=h.t;have:=h.st.k;have:=h.st.p;have:=h.st.l;have:=h.r.q;have:=h.r.m;omega
theorem Ri(j:Nat){a:Zk}(x:Nat){c:Zl}{g:Nat}(n:ek w (Zd j 0)=an (C3 a (eh c) x))(G:j<g)(f:Ab w g a c)(y:g<=w.1.size)(C:eh c<=ew):
 EQ prog 61 (λl=> #[.func (.yield l) #[] #[],Yy j]) c g w:=by
 intro l J I W t M D u z m;unfold ew at C;have d:=f.A (t.ai y);have E:=(t.cell (p:=⟨j,0,ba⟩) Yt).ag n;refine callsIn_of_wp func61 rfl trivial ?_ rfl;simp only[ntmps61,A0,length_cons,length_nil,Nat.reduceAdd,Nat.reduceSub,Array.replicate_succ,Array.replicate_zero,push_toArray,append_toArray,nil_append,cons_append]
 gi_wp2
 gi_loopw [7] (λi wr=>∃k:Nat,k<=eh c/\i=Zg k/\J k wr/\bs g W wr/\W.1.size<=wr.1.size)
  (λi _=>eh c -(intOf i).toNat)
 case atStart=>exact⟨0,Aq _,rfl,z,Ae,Zx⟩
 obtain⟨k,O,rfl,o,q,r⟩:=hrel;by_cases hlt:k<eh c
 .obtain⟨b,H,B,N,v⟩:=(d.A q).at hlt;subst B;obtain⟨F,L,tmps,assign,body,P,A⟩:=v k c[k] (Zv hlt),u k wr c[k] (Zv hlt) o r (m -1);clear v f d u;generalize c[k]=s at *
  gi_wp2
  refine⟨λh=>by simp[Fence.wide]at h,A.ai ?_⟩;rintro e K ⟨v,(⟨rfl,f,u⟩|⟨rfl,d⟩)⟩
  .gi_wp2
   go_roundw
   case rel=>exact⟨k+1,Yv,Yu,f,q.ag u,Zm r v.size⟩
   simp[intOf];omega
  .gi_wp2
   refine bodyPost_ret (results_none rfl _ _ _) rfl ?_;exact⟨⟨_,rfl⟩,eb ⟨_,d⟩⟩
 obtain rfl:k=eh c:=Yv
 gi_wp2
 go_end0;exact⟨⟨_,rfl⟩,dp o⟩
theorem Dr.gj{n:Zh}{f:Nat}{p:C9}{s:Db}{q:Da}(h:Dr V f d m O P L t k b a p s q)(z:d<B)(A:m<B)(y:f<=B){l:Option Nat}(u:V.grownBy n l)(v:∀r,l=an r->B<=r/\∃o,V.1[r]?=an o/\Bz o=bg):Dr n f d m O P L t k b a p s q:=by
 refine(DU.S ⟨h⟩ (Du u) (λr g=> ?_)).U;obtain⟨x,o,i,j⟩:=v r gA;refine⟨Yv,λg=> ?_,λw w e=> ?_⟩
 .unfold vB at g;simp only[Cf,Bw,By]at g;rcases g with e|e|e|e|e
  .omega
  .omega
  .obtain⟨c,g⟩:=BL h.ord e;rw[i]at g;cases g;simp[Bz]at j
  .obtain⟨c,g⟩:=BL h.de e;rw[i]at g;cases g;simp[Bz]at j
  obtain⟨c,g⟩:=BL h.dh e;rw[i]at g;cases g;simp[Bz]at j
 rw[i]at e;cases e;simp[Bz]at j
theorem Dr.cf{k b:Nat}{q:C9}{s:Db}(h:Dr V k d m O P L t l g f q s r){o:Obj}(j:V.1[b]?=an o)(i:Bz o=bg)(n:b≠d)(p:b≠m):b∉vB d m O P L/\NS V b:=by
 refine⟨λa=> ?_,λu u e=> ?_⟩
 .unfold vB at a;simp only[Cf,Bw,By]at a;rcases a with e|e|e|e|e
  .exact n e
  .exact p e
  .obtain⟨c,a⟩:=BL h.ord e;rw[j]at a;cases a;simp[Bz]at i
  .obtain⟨c,a⟩:=BL h.de e;rw[j]at a;cases a;simp[Bz]at i
  obtain⟨c,a⟩:=BL h.dh e;rw[j]at a;cases a;simp[Bz]at i
 rw[j]at e;cases e;simp[Bz]at i
theorem Dr.rebase{e b:Nat}{k:Db}{j:Da}(h:Dr V e d m O P L l i c a [] k j)(g:b<=e):Dr V b d m O P L l i c a [] k j:=by
 have⟨n,f,o,p,q⟩:=h.map;refine⟨h.box,⟨n,f,o,p,λs r=> ?_⟩,h.ord.ai g,h.de.ai g,h.dh.ai g,Zm g h.bd,Zm g h.bm,h.ap⟩;rcases q s r with h|⟨u,_,_,t,_⟩
 .exact dp h
 simp at t
theorem Dr.ic{l:Zh}{j:Nat}{q:C9}{s:Db}(h:Dr V j d m O P L t p g f q s r)(u:d<B)(v:m<B)(n:Tn (vB d m O P L) V l):BF B V l:=by
 refine⟨n.size,λb o a i k=>(n.block b (A6.1 i).1 (λa=> ?_)).ag i⟩;unfold vB at a;simp only[Cf,Bw,By]at a;rcases a with e|e|e|e|e
 .omega
 .omega
 .obtain⟨c,a⟩:=BL h.ord e;rw[i]at a;cases a;simp[Bz]at k
 .obtain⟨c,a⟩:=BL h.de e;rw[i]at a;cases a;simp[Bz]at k
 obtain⟨c,a⟩:=BL h.dh e;rw[i]at a;cases a;simp[Bz]at k
theorem BF.ke{W d:Zh}{c:Option Nat}(f:W.grownBy d c)(a:∀j,c=an j->j<B):BF B W d:=
 ⟨f.size,λb _ g h _=>(f.block b (A6.1 h).1 (λe=>Dl (a b e.symm))).ag h⟩
theorem BF.A{a:Zh}(h:Zz V a):BF B V a:=⟨h.size,λb _ _ c _=>(h.block b (A6.1 c).1).ag c⟩
section
attribute [local go_sem] Oper.semAt_some
theorem RQ{z:Nat}{T U:TypeId}{v:D4}(g:Boxed V (z+1) T (.pointer ba))(d:Boxed V (z+1+1) U v)(h:z+1+1<B)(u:D4):BF B V (ev (ev V (Zd (z+1) 0) (.pointer ba)) (Zd (z+1+1) 0) u)/\bs z V (ev (ev V (Zd (z+1) 0) (.pointer ba)) (Zd (z+1+1) 0) u)/\Boxed (ev (ev V (Zd (z+1) 0) (.pointer ba)) (Zd (z+1+1) 0) u) (z+1) T (.pointer ba)/\Boxed (ev (ev V (Zd (z+1) 0) (.pointer ba)) (Zd (z+1+1) 0) u) (z+1+1) U u:=by
 obtain⟨b,c,a⟩:=grownBy_setCell' V (z+1) (.pointer ba),grownBy_setCell' (ev V (Zd (z+1) 0) (.pointer ba)) (z+1+1) u,g.set (.pointer ba);have f:Boxed (ev V (Zd (z+1) 0) (.pointer ba)) (z+1+1) U v:=(b.block _ (A6.1 d).1 (λe=>Dl (A8 e))).ag d;refine⟨(BF.ke b (λj e=>by cases e;omega)).ag (BF.ke c (λj e=>by cases e;omega)),(Below.setCell (Below.setCell Ae (show z<=z+1 by omega) _) (show z<=z+1+1 by omega) _),(c.block _ (A6.1 a).1 (λe=>Dl (A8 e))).ag a,f.set u⟩
theorem JA(f:Int)(gf:Nat)(pre lb:Array Value)(xs:Zl)(h1:1<=f)(h8:f<=8)(hx:eh xs<=100000)(hs:∀s∈xs,s.size<=1048576)(J:Env w)(eg:∀args w,(callFunc gf args).run prog w=.ok (.enter gf args) w)(zN:∀W,Zz w W->EQ prog gf (λl=>pre++ #[.func (.yield l) #[] #[]]++lb) xs w.1.size W):
 D8 30 #[Zg f,.func (.func gf) pre lb] w λe t=>Zz w t/\((∃n:Nat,DD f xs n/\e=C5 (.tuple #[ee ba,Zg n]))\/(∃r d m O P L o,Cp f r0 xs r/\e=C5 (.tuple #[Yy d,Ze])/\Dr t o d m O P L f r.F r.G r.E r.B r.ps r.ls/\(w.1.size<=o/\o+4<=m))):=by
 refine(callsIn_wide (n:=3)).1 ?_;refine callsIn_of_wp_marks func30 rfl trivial ?_ rfl;simp only[ntmps30,A0,length_cons,length_nil,Nat.reduceAdd,Nat.reduceSub,Array.replicate_succ,Array.replicate_zero,push_toArray,append_toArray,nil_append,cons_append];have⟨W0,t⟩:=Ag (((w.alloc (ca #[Zg f] 3)).alloc (ca #[ee ba] 62)).alloc (ca #[Ze] 3));have H:=(BI t).1;have z0:=(BI t).2.1;have I:=Yw (Ka f 0 0 0 ba ba ba 0 0 0 [] [] [] W0 ⟨dp rfl,dp rfl,dp rfl⟩ Yu Yu Yu Yu h8);have F:=Yw t
 gi_wp2_with fail
 refine⟨trivial,?_⟩;rw[<-F.o];refine(callsIn_wide.2 I).ai ?_;rintro e o ⟨d,m,O,P,L,rfl,y,_,_,C⟩;obtain⟨E,u,A⟩:=H.ag (C.ai H.size),Ag ((o.alloc (ca #[Yy d] 62)).alloc (ca #[Ze] 3));have G:=Yw A;have z:=(AQ A).1;have zB:bs w.1.size w u:=E.ag (z.ai E.size);have z2:=(AQ A).2.1;have yI:w.1.size+3<=o.1.size:=Dl C.size;have x2:Boxed u w.1.size 3 (Zg f):=by show u.1[w.1.size]?=_;rw[z.block _ Yv,C.block _ Yv,t,Below.heap_alloc _ _ _ Yt,Below.heap_alloc _ _ _ Yu];exact heap_alloc_new w _
 have x4:Boxed u (w.1.size+1) 62 (.pointer ba):=by show u.1[w.1.size+1]?=_;rw[z.block _ Yv,C.block _ Yv,t,Below.heap_alloc _ _ _ Yu];have:=heap_alloc_new (w.alloc (ca #[Zg f] 3)) (ca #[ee ba] 62);rw[Ao]at this;exact this
 have x5:Boxed u (w.1.size+1+1) 3 Ze:=by show u.1[w.1.size+1+1]?=_;rw[z.block _ Yv,C.block _ Yv,t];have:=heap_alloc_new ((w.alloc (ca #[Zg f] 3)).alloc (ca #[ee ba] 62)) (ca #[Ze] 3);rw[Ao,Ao]at this;exact this
 have x6:Boxed u o.1.size 62 (Yy d):=by show u.1[o.1.size]?=_;rw[A,Below.heap_alloc _ _ _ Yu];exact heap_alloc_new o _
 have x7:Boxed u (o.1.size+1) 3 Ze:=by show u.1[o.1.size+1]?=_;rw[A];have:=heap_alloc_new (o.alloc (ca #[Yy d] 62)) (ca #[Ze] 3);rw[Ao]at this;exact this
 have zH:d<o.1.size:=y.db d N1;have zI:m<o.1.size:=y.db m N1;have yD:=y.bd;have yF:=y.bm;have zX:Dr u w.1.size d m O P L f 0 0 0 [] [] []:=(y.A z).rebase Yv;have HE:Hid (∀V,Zz w V->Env V):=λV M=>J.A M;clear I F t A y C z E H J
 gi_wp2_with fail
 rw[<-G.o];clear G;have N:∀(b:Nat) (T:TypeId) (v:D4),b<u.1.size->Co u.1.size (λ_ V=>Boxed V b T v):=λb T v C=>CZ (ca #[v] T) C;refine Il (gf:=gf) (pre:=pre) (lb:=lb) rfl eg (xs:=xs) (n0:=w.1.size) (zN u zB) zB.size rfl
  (λk V=>Zz w V/\Boxed V w.1.size 3 (Zg f)/\Boxed V (w.1.size+1) 62 (.pointer ba)/\Boxed V (w.1.size+1+1) 3 Ze/\Boxed V o.1.size 62 (Yy d)/\Boxed V (o.1.size+1) 3 (Zg k)/\∃r O P L,Cp f r0 (xs.take k) r/\Dr V w.1.size d m O P L f r.F r.G r.E r.B r.ps r.ls)
  (λ_ V=>Zz w V/\∃n:Nat,DD f xs n/\Boxed V (w.1.size+1) 62 (.pointer ba)/\Boxed V (w.1.size+1+1) 3 (Zg n))
  ?stI ?stX ⟨zB,x2,x4,x5,x6,x7,r0,O,P,L,rfl,zX⟩
  (λs=>{tmps:= #[Zg f,.func (.func gf) pre lb,Yy w.1.size,undef,Yy (w.1.size+1),Yy (w.1.size+1+1),Yy o.1.size,Yy (o.1.size+1),C4 s,undef,undef,Zg f,ct #[Zg f,Ze,Ze,Ze,Zb,Zb,Zb],Yy d,.func (.func gf) pre lb,C4 s,undef,undef,undef,undef,undef,undef,undef,undef,undef,undef,undef,undef,undef,undef,undef,undef,undef,undef,undef],defers:=[]}) ?assign ?body ?done ?stop
 case stI=>
  refine λk V A t F E y=> ?_;obtain⟨q1,q2,q3,q4,q5,q6,r,O,P,L,q7,q8⟩:=F;exact⟨Ec w (Zx) zB.size k V A t q1 E y,N _ _ _ Yv k V A t q2 E y,N _ _ _ Yv k V A t q3 E y,N _ _ _ Yv k V A t q4 E y,N _ _ _ Yv k V A t q5 E y,N _ _ _ Yv k V A t q6 E y,r,O,P,L,q7,q8.gj (B:=u.1.size) Yv Yv Yv E y⟩
 case stX=>
  refine λk V A t F E y=> ?_;obtain⟨q1,n,q2,q3,q4⟩:=F;exact⟨Ec w (Zx) zB.size k V A t q1 E y,n,q2,N _ _ _ Yv k V A t q3 E y,N _ _ _ Yv k V A t q4 E y⟩
 case assign=>
  intro l2 m2 s V K S
  gi_wp2
  exact S
 case body=>
  rintro l2 m2 k s V zC ⟨W,y2,y4,y5,y6,y7,r,O,P,L,y,Di⟩ zU;have yA:k<eh xs:=(Zw zC).1;have⟨F,t⟩:=D7 V (o.1.size+1) 0 (Zg ((k:Int)+1));have A:V.grownBy F (an (o.1.size+1)):=by rw[t];exact grownBy_setCell' V _ _
  have yN:F.1.size=V.1.size:=by rw[t];simp
  have zG:bs w.1.size w F:=by rw[t];exact W.setCell (p:=⟨o.1.size+1,0,ba⟩) (by show w.1.size<=o.1.size+1;omega) _
  have u7:Boxed F (o.1.size+1) 3 (Zg ((k:Int)+1)):=by rw[t];exact y7.set _
  have ou:∀{b:Nat} {T:TypeId} {v:D4},Boxed V b T v->b≠o.1.size+1->Boxed F b T v:=λ{b T v} C hne=>(A.block b (A6.1 C).1 (λe=>hne (A8 e))).ag C;have u2:=ou y2 Yv;have u4:=ou y4 Yv;have u5:=ou y5 Yv;have u6:=ou y6 Yv;obtain⟨zF,HR,c7,f7,c2⟩:=Di.gj (B:=o.1.size) zH zI Yv A (λq e=>by cases e;exact⟨Yv,_,y7,by simp[Bz]⟩),Yw (SH s f (hs s (Zs zC)) (HE F zG)),y7.cell,y7.frozen,y2.cell;have yH:¬w.1.size=o.1.size+1:=Yv;have G:=Yw t;clear t
  gi_wp2_with fail
  rw[<-G.o];clear G;refine⟨trivial,λh=>by simp[Fence.wide]at h,?_⟩;refine(callsIn_wide.2 HR).ai ?_;rintro e V2 ⟨v,rfl,D,z⟩;obtain⟨ra,rc,rfl⟩:=Au D;have⟨M,G⟩:=D6 V2 (Ye ((AK s f).k) ((AK s f).sum) ((AK s f).name) ((AK s f).n) ((AK s f).t) ra (eh (AK s f).ss) rc) 91;have zE:=(Ax G).1;have q:bs F.1.size F M:=z.ag (zE.ai z.size);have zA:bs w.1.size w M:=zG.ag (q.ai zG.size);have o3:∀{b:Nat} {T:TypeId} {v:D4},Boxed F b T v->Boxed M b T v:=λ{b T v} C=>(q.block b (A6.1 C).1).ag C;obtain⟨t2,Z,l,t6,t7,t,e3⟩:=o3 u2,o3 u4,o3 u5,o3 u6,o3 u7,zF.A q,(Ax G).2.2;have zK:BF u.1.size V M:=(BF.ke A (λj e=>by cases e;omega)).ag (BF.A q);have zM:bs w.1.size V M:=(show bs w.1.size V F from⟨A.os,A.tape,A.output,A.size,λb C=>A.block b (Dl W.size) (λe=>Dl (A8 e))⟩).ag (q.ai zG.size);have T:=Yw G;have yM:w.1.size+3<=V2.1.size:=by have h1:=z.size;have h2:=zU;omega
  have yL:o.1.size+1<V2.1.size:=by have h1:=z.size;have h2:=zU;omega
  clear G;cases hok:(AK s f).ok with
  |false=>
   have j:DD f xs (k+1):=⟨k,r,s,rfl,zC,y,dp hok⟩;obtain⟨zW,f5,f4,d4,d5⟩:=t7.cell,l.frozen,Z.frozen,Z.cell,l.cell;clear c7 c2 f7 e3 HR D;have J:=Yw (RQ (B:=u.1.size) Z l Yv (Zg ((k:Int)+1)))
   gi_wp2_with fail
   rw[<-T.o];refine⟨trivial,?_⟩
   gi_wp2_with fail
   gi_region
   all_goals gi_wp2_with fail
   all_goals exact⟨zK.ag ⟨J.1.size,J.1.same⟩,zA.ag J.2.1.drew,k+1,j,J.2.2.1,J.2.2.2⟩
  |true=>
   have zS:=(GN hok).1;have I:IH f r.F r.G r.E r.B r.ps r.ls (AK s f).k (AK s f).n (AK s f).t (AK s f).ss:=Gn.jt (y.ok (DH h1 h8)) zS (by have:=Qf zS;unfold ew;omega);have zJ:=Ah D zE;have H:=zF.db;have Q:Er M w.1.size (vB d m O P L) ra (AK s f).ss:=by
    rcases zJ.2 with⟨_,h0⟩|⟨g,yC,zO,hv,yE,E,_⟩
    .exact dp (B8 h0)
    cases hv;refine eb ⟨g,0,rfl,(A6.1 E).1,λG=>Dl (H g G),eb ⟨Yv,zO,E⟩,λi x hx=> ?_⟩;rcases Ab.own zJ with h|⟨b',yB,e',_,hc⟩
    .rw[h]at hx;simp at hx
    cases e';exact hc i x hx
   have HA:Hid _:=Rf d (vB d m O P L) (AK s f).k (AK s f).sum (AK s f).name (AK s f).t (AK s f).n ra (eh (AK s f).ss) rc (λc a b=>GR f r.F r.G r.E r.B r.ps r.ls (AK s f).k (AK s f).sum (AK s f).name (AK s f).n (AK s f).t (AK s f).ss c a b) (λsm le X=>∃Y,EI f r.F r.G r.E r.B r.ps r.ls (AK s f).k (AK s f).sum (AK s f).name (AK s f).n (AK s f).t (AK s f).ss Y/\Y.sm=sm/\Y.le=le/\Lm w.1.size d m f Y X) M t.db (λsm le X a R zO q1 q2 q3 q4=>by
    obtain⟨Y,A,a,g3,g4⟩:=q1;have yJ:=q.size;exact⟨Y,A,a,g3,g4.stays q2 Yv Yv q4⟩) (λX x=>Tu w.1.size d m O P L (AK s f).sum (AK s f).name ra rc X (DU.A ⟨t⟩ x) I (Q.move (U:=[]) (Tn.of x) Yu (λb C=> dp C)))
   have d6:ek V2 (Zd (o.1.size) 0)=an (Yy d):=(z.cell (p:=⟨o.1.size,0,ba⟩) (by show o.1.size<_;omega)).ag u6.cell;have yK:o.1.size<V2.1.size:=Yv;have zV:Hid (xs.take (k+1)=xs.take k++[s]):=(by have hq:=Zu yA;rw[(Zw zC).2]at hq;exact hq);clear c7 c2 f7 HR D zJ Q I H e3
   gi_wp2_with fail
   rw[<-T.o];clear T;refine⟨trivial,λh=>by simp[Fence.wide]at h,?_⟩;refine(callsIn_wide.2 HA).ai ?_;intro e Q zY;obtain⟨c,a',b',T,rfl,H⟩|⟨sm,le,rfl,⟨Y,hy,_,_,⟨O',P',L',zP⟩⟩,H⟩:=zY
   .have yG:(c !=0)=bg:=(by have:=T.code;simp;omega);have j:DD f xs (k+1):=⟨k,r,s,rfl,zC,y,eb ⟨c,a',b',T⟩⟩;have I:=t.ic (B:=o.1.size) zH zI H;have x:bs w.1.size M Q:=H.A zA.size (λb G=>by
     have:=t;unfold vB at G;simp only[Cf,Bw,By]at G;rcases G with h|h|h|h|h
     .rw[h];exact this.bd
     .rw[h];exact this.bm
     .exact(Ac this.ord h).1
     .exact(Ac this.de h).1
     exact(Ac this.dh h).1)
    have s7:Boxed Q (o.1.size+1) 3 (Zg ((k:Int)+1)):=I.same _ _ Yv t7 L9;have D:Boxed Q (w.1.size+1) 62 (.pointer ba):=(H.block _ (A6.1 Z).1 (t.cf Z L9 Yv Yv).1).ag Z;have s5:Boxed Q (w.1.size+1+1) 3 Ze:=(H.block _ (A6.1 l).1 (t.cf l L9 Yv Yv).1).ag l;obtain⟨J,zW,f5,f4,d4,d5⟩:=Yw (RQ (B:=u.1.size) D s5 Yv (Zg ((k:Int)+1))),s7.cell,s5.frozen,D.frozen,D.cell,s5.cell;have K4:=Yw (Zn (I.ai (B':=u.1.size) Yv) x);clear I x H T d6 HA;have zZ:∀X:Zh,(Instr.field 42 (ct #[Zg c,Ze,Ze,Ze,Ze,Zb,Zb,Zb,Zc,Ze,C4 a',C4 b']) 0).run prog X=.ok (Zg c) X:=λ_=>Yr;have zT:ei (Cr c a' b')= #[Zg c,Ze,Ze,Ze,Ze,Zb,Zb,Zb,Zc,Ze,C4 a',C4 b']:=rfl;rw[zT];clear zT
    gi_wp2_with fail
    gi_region
    all_goals gi_wp2_with fail
    all_goals exact⟨(zK.ag K4.1).ag ⟨J.1.size,J.1.same⟩,(zA.ag K4.2).ag J.2.1.drew,k+1,j,J.2.2.1,J.2.2.2⟩
   have I:=t.ic (B:=o.1.size) zH zI H;have x:bs w.1.size M Q:=H.A zA.size (λb G=>by
    have:=t;unfold vB at G;simp only[Cf,Bw,By]at G;rcases G with h|h|h|h|h
    .rw[h];exact this.bd
    .rw[h];exact this.bm
    .exact(Ac this.ord h).1
    .exact(Ac this.de h).1
    exact(Ac this.dh h).1)
   have s7:Boxed Q (o.1.size+1) 3 (Zg ((k:Int)+1)):=I.same _ _ Yv t7 L9;have s6:Boxed Q o.1.size 62 (Yy d):=I.same _ _ Yv t6 L9;have s2:Boxed Q w.1.size 3 (Zg f):=(H.block _ (A6.1 t2).1 (t.cf t2 L9 Yv Yv).1).ag t2;have D:Boxed Q (w.1.size+1) 62 (.pointer ba):=(H.block _ (A6.1 Z).1 (t.cf Z L9 Yv Yv).1).ag Z;have s5:Boxed Q (w.1.size+1+1) 3 Ze:=(H.block _ (A6.1 l).1 (t.cf l L9 Yv Yv).1).ag l;have G:Cp f r0 (xs.take (k+1)) Y:=(by rw[zV.o];exact y.snoc ⟨hok,hy⟩);have K4:=Yw (Zn (I.ai (B':=u.1.size) Yv) x);have HF:=Yw (Zn s7 (Zn s6 (Zn s2 (Zn D (Zn s5 (Zn G zP))))));clear I x H d6 HA s7 s6 s2 D s5 G zP hy;have zZ:∀X:Zh,(Instr.field 42 (ct #[Ze,Ze,Ze,Ze,Ze,Zb,Zb,Zb,C4 sm,Zg le,Zc,Zc]) 0).run prog X=.ok Ze X:=λ_=>Yr
   gi_wp2_with fail
   exact⟨zK.ag K4.1,⟨zA.ag K4.2,HF.2.2.1,HF.2.2.2.1,HF.2.2.2.2.1,HF.2.1,HF.1,Y,O',P',L',HF.2.2.2.2.2.1,HF.2.2.2.2.2.2⟩,zM.ag K4.2⟩
 case done=>
  rintro D V hD ⟨W,y2,y4,y5,y6,y7,r,O,P,L,y,Di⟩ S;rw[Zt (Zx)]at y;obtain⟨c6,f4,d4,f5,d5,A,a,R1,G⟩:=y6.cell,y4.frozen,y4.cell,y5.frozen,y5.cell,grownBy_setCell' V (w.1.size+1) (Yy d),grownBy_setCell' (ev V (Zd (w.1.size+1) 0) (Yy d)) (w.1.size+1+1) Ze,D7 V (w.1.size+1) 0 (Yy d);have⟨x,H⟩:=D7 R1 (w.1.size+1+1) 0 Ze;rw[<-G]at A a;rw[<-H]at a;have p4:Boxed R1 (w.1.size+1) 62 (Yy d):=by rw[G];exact y4.set _
  have p5:Boxed R1 (w.1.size+1+1) 3 Ze:=(A.block _ (A6.1 y5).1 (λe=>Dl (A8 e))).ag y5;have q5:Boxed x (w.1.size+1+1) 3 Ze:=by rw[H];exact p5.set _
  have q4:Boxed x (w.1.size+1) 62 (Yy d):=(a.block _ (A6.1 p4).1 (λe=>Dl (A8 e))).ag p4;have I:x.1[D]?=an (.deferred (an [])):=(a.block _ (by have:=A.size;have:=(A6.1 S).1;omega) (λe=>Dl (A8 e))).ag ((A.block _ (A6.1 S).1 (λe=>Dl (A8 e))).ag S);have R:=DU.S ⟨Di⟩ (Du A) (λb C=>by
   obtain rfl:b=w.1.size+1:=D2 C;exact⟨Yv,Di.cf y4 L9 Yv Yv⟩)
  have X:=DU.S R (Du a) (λb C=>by
   obtain rfl:b=w.1.size+1+1:=D2 C;exact⟨Yv,R.U.cf p5 L9 Yv Yv⟩)
  have C:=X.U.gj (B:=u.1.size) Yv Yv Yv (grownBy_putObj' x D (.deferred ba)) (λr e=>by cases e;exact⟨hD,_,I,rfl⟩);have e4:=cell_kept q4.cell (grownBy_putObj' _ D (.deferred ba)) (λr e=>by cases e;exact⟨_,I,rfl⟩);have e5:=cell_kept q5.cell (grownBy_putObj' _ D (.deferred ba)) (λr e=>by cases e;exact⟨_,I,rfl⟩);have b:bs w.1.size w x:=by rw[H,G];exact(W.setCell (p:=⟨w.1.size+1,0,ba⟩) (by show _<=_+1;omega) _).setCell (p:=⟨w.1.size+1+1,0,ba⟩) (by show _<=_+1+1;omega) _
  have HR:=Yw (Zn G H);clear A a G H p4 p5 q4 q5 R X Di
  gi_wp2_with fail
  rw[<-HR.1,<-HR.2];refine⟨Yu,dp ⟨_,_,rfl,run_takeDeferred I,?_⟩⟩;refine⟨.tuple #[Yy d,Ze],by simp[results,results30,go_sem,e4,e5],?_,eb ⟨r,d,m,O,P,L,w.1.size,y,rfl,C,Zx,Yv⟩⟩;exact b.ag ⟨rfl,rfl,rfl,Yu,λi A=>putObj_heap_other Yv⟩
 rintro D k V hD ⟨W,n,T,y4,y5⟩ S;have d4:=cell_kept y4.cell (grownBy_putObj' _ D (.deferred ba)) (λr e=>by cases e;exact⟨_,S,rfl⟩);have d5:=cell_kept y5.cell (grownBy_putObj' _ D (.deferred ba)) (λr e=>by cases e;exact⟨_,S,rfl⟩)
 gi_wp2
 refine⟨Yu,dp ⟨_,_,rfl,run_takeDeferred S,?_⟩⟩;refine⟨.tuple #[ee ba,Zg n],by simp[results,results30,go_sem,d4,d5],?_,dp ⟨n,T,rfl⟩⟩;exact W.ag ⟨rfl,rfl,rfl,Yu,λi A=>putObj_heap_other Yv⟩
end
def Acy(wd:Int)(xs:Zl)(w:Zh)(e:Ending)(w':Zh):Prop:=
 ∃(x:An) (T P L:Value) (rs:Zj),Mw wd xs x/\e=.returned (ct #[Zg x.code,Zg x.wd,Zg x.F,Zg x.G,Zg x.E,T,P,L,.string x.sm,Zg x.le,.string x.a,.string x.b])/\Be w' w.1.size T P L rs x.B x.ps x.ls/\Zz w w'
theorem Tv(a:Zk)(n c:Nat)(w:Zh):
 D8 35 #[C3 a n c] w λe b=>e=C5 (.func (.func 61) #[] #[Yy w.1.size])/\b=w.alloc (ca #[C3 a n c] 23):=by
 delta D8;go_in;go_wp2;go_ret;exact⟨rfl,rfl⟩
theorem Rj(o:Int){a:Zk}(K:Nat){c:Zl}(zB:Ab w w.1.size a c)(hl:eh c<=1048576)(hs:∀s∈c,s.size<=1048576)(hE:Env w):
 D8 10 #[Zg o,C3 a (eh c) K] w (Acy o c w):=by
 have⟨W,b⟩:=D6 w Yd 42;obtain⟨J,zW,xW,HW⟩:=(Ax b).1,(Ax b).2.1,(Ax b).2.2,Yw b;obtain⟨zF,u,⟨x,U⟩,⟨y,X⟩,⟨z,Y⟩,⟨A,Z⟩,⟨B,s⟩,⟨C,q5⟩,⟨D,q6⟩,⟨E,q7⟩,⟨F,q8⟩,⟨G,q9⟩,⟨g,M⟩,i,N⟩:=Yw xW,Jk o W,Bv xW;clear b;by_cases hwd:1<=o/\o<=8
 case neg=>
  rw[decide_eq_false hwd]at u;have f:=Yw u;clear u;delta D8;go_in;go_wp2_with fail;rw[<-HW.o];refine f.Aj ?_;rintro e w1 ⟨rfl,b⟩;replace b:=b.symm;subst b;clear f;go_wp2;refine C1 (ct (Yc 1)) F9 ?_;exact⟨⟨1,0,0,0,0,0,⟨#[]⟩,⟨#[]⟩,⟨#[]⟩,[],[],[]⟩,_,_,_,[],dp ⟨λh=>hwd h.1,rfl⟩,rfl,LG _ _,J.ag ((BB W w.1.size _ _ _ _ _ _ _ _ _ _ _ _).A J.size Yu)⟩
 rw[decide_eq_true hwd]at u;by_cases hlen:eh c<=4000
 case neg=>
  have zH:bx ((4000:Int)<eh c)=bg:=Yt;have f:=Yw u;clear u;delta D8;go_in;go_wp2_with fail;rw[<-HW.o];refine f.Aj ?_;rintro e w1 ⟨rfl,b⟩;replace b:=b.symm;subst b;clear f;go_wp2;refine C1 (ct (Yc 1)) F9 ?_;exact⟨⟨1,0,0,0,0,0,⟨#[]⟩,⟨#[]⟩,⟨#[]⟩,[],[],[]⟩,_,_,_,[],dp ⟨λh=>hlen h.2,rfl⟩,rfl,LG _ _,J.ag ((BB W w.1.size _ _ _ _ _ _ _ _ _ _ _ _).A J.size Yu)⟩
 have zH:bx ((4000:Int)<eh c)=bq:=Yt;have f:=Yw u;clear u;delta D8;go_in;go_wp2_with fail;rw[<-HW.o];refine f.Aj ?_;rintro e w1 ⟨rfl,b⟩;replace b:=b.symm;subst b;clear f;go_wp2_with fail;refine(Tv a (eh c) K W).ai ?_;rintro e R ⟨rfl,l⟩;have Q:bs W.1.size W R:=by rw[l];exact Zy
 have z2:R.1.size=W.1.size+1:=by rw[l];simp
 have t:ek R (Zd (w.1.size+1) 0)=an (C2 a c K):=by rw[l,<-zW];simp
 have j:=J.ag (Q.ai J.size);have T:Hid _:=JA o 61 #[] #[Yy (w.1.size+1)] c hwd.1 hwd.2 Yv hs (hE.A j) (enters_of func61 Yr rfl) (λV q=>by
  have h1:=Ri (w.1.size+1) K ((q.cell (p:=⟨w.1.size+1,0,ba⟩) (by show w.1.size+1<_;omega)).ag t) Yv (Ab.A (Ab.ai (Ab.A zB j) j.size) q) q.size Yo;simpa using h1)
 clear t l;go_wp2_with fail;refine T.Aj ?_;rintro e V ⟨q,⟨n,l,rfl⟩|⟨r,d,m,O,P,L,zA,t,rfl,Di,zG⟩⟩
 .have H:=j.ag (q.ai j.size);have S:=Aa.A (v:=Ze) zF (Q.ag (q.ai Q.size));have zI:0<(n:Int):=by obtain⟨k,_,_,rfl,_⟩:=l;omega
  obtain⟨I,HN,h⟩:=Yw H,Yw l,Su S (Zg 7) Ze Ze Ze Ze Zb Zb Zb Zc (Zg n) Zc Zc;clear x y z A B C D E F G g i U X Y Z s q5 q6 q7 q8 q9 M N h q H l T;have⟨⟨x,U⟩,⟨y,X⟩,⟨z,Y⟩,⟨A,Z⟩,⟨B,s⟩,⟨C,q5⟩,⟨D,q6⟩,⟨E,q7⟩,⟨F,q8⟩,⟨G,q9⟩,⟨g,M⟩,i,N⟩:=Bv S;go_wp2;refine C1 (ct #[Zg 7,Ze,Ze,Ze,Ze,Zb,Zb,Zb,Zc,Zg n,Zc,Zc]) F9 ?_;exact⟨⟨7,0,0,0,0,n,⟨#[]⟩,⟨#[]⟩,⟨#[]⟩,[],[],[]⟩,_,_,_,[],eb ⟨⟨hwd,hlen⟩,dp ⟨n,HN,rfl⟩⟩,rfl,LG _ _,I.ag ((BB V w.1.size _ _ _ _ _ _ _ _ _ _ _ _).A I.size Yu)⟩
 obtain⟨H,S,l⟩:=j.ag (q.ai j.size),Aa.A (v:=Ze) zF (Q.ag (q.ai Q.size)),t.ok (DH hwd.1 hwd.2);obtain⟨zC,I,HN⟩:=Yw (Iy zA d m O P L o r.F r.G r.E r.B r.ps r.ls V Di l.bk.nd l.bk.sz l.bk.len l.np l.nl l.cz),Yw H,Yw t;have zE:Hid (Aa V w.1.size z12):=S;clear x y z A B C D E F G g i U X Y Z s q5 q6 q7 q8 q9 M N S q H t Di l T;go_wp2_with fail;refine zC.Aj ?_;rintro e t ⟨T,P',L',rs,rfl,hS,l⟩;obtain⟨ta,tc,rfl⟩:=Au hS.ak;obtain⟨pa,pc,rfl⟩:=Au hS.pins;obtain⟨S,lc,rfl⟩:=Au hS.ax;have h:Aa t w.1.size z12:=Aa.A (v:=Ze) zE l;have H:w.1.size<V.1.size:=zE.lt;obtain⟨q,⟨x,U⟩,⟨y,X⟩,⟨z,Y⟩,⟨A,Z⟩,⟨B,s⟩,⟨C,q5⟩,⟨D,q6⟩,⟨E,q7⟩,⟨F,q8⟩,⟨G,q9⟩,⟨g,M⟩,i,N⟩:=Yw (Zn hS l),Bv h;clear hS l zC h;go_wp2;refine C1 (ct #[Ze,Zg o,Zg r.F,Zg r.G,Zg r.E,C2 ta r.B tc,C2 pa r.ps pc,C2 S r.ls lc,Zc,Ze,Zc,Zc]) F9 ?_;refine⟨⟨0,o,r.F,r.G,r.E,0,⟨#[]⟩,⟨#[]⟩,⟨#[]⟩,r.B,r.ps,r.ls⟩,_,_,_,rs,eb ⟨⟨hwd,hlen⟩,eb ⟨r,HN,rfl⟩⟩,rfl,(q.1.S (BB t w.1.size _ _ _ _ _ _ _ _ _ _ _ _) (by simp;exact H)).ai I.size,?_⟩;exact(I.ag (q.2.ai I.size)).ag ((BB t w.1.size _ _ _ _ _ _ _ _ _ _ _ _).A (Zm I.size q.2.size) Yu)
theorem YP{b:Nat}{d e f g i j k l m n a c:D4}(h:Aa w b [d,e,f,g,i,j,k,l,m,n,a,c]):(ek w (Zd b 0)=an d/\el w ⟨b,0,ba⟩=bq)/\(ek w (Zd b 1)=an e/\el w ⟨b,1,ba⟩=bq)/\(ek w (Zd b 2)=an f/\el w ⟨b,2,ba⟩=bq)/\(ek w (Zd b 3)=an g/\el w ⟨b,3,ba⟩=bq)/\(ek w (Zd b 4)=an i/\el w ⟨b,4,ba⟩=bq)/\(ek w (Zd b 5)=an j/\el w ⟨b,5,ba⟩=bq)/\(ek w (Zd b 6)=an k/\el w ⟨b,6,ba⟩=bq)/\(ek w (Zd b 7)=an l/\el w ⟨b,7,ba⟩=bq)/\(ek w (Zd b 8)=an m/\el w ⟨b,8,ba⟩=bq)/\(ek w (Zd b 9)=an n/\el w ⟨b,9,ba⟩=bq)/\(ek w (Zd b 10)=an a/\el w ⟨b,10,ba⟩=bq)/\ek w (Zd b 11)=an c/\el w ⟨b,11,ba⟩=bq:=
 ⟨h 0 _ rfl,h 1 _ rfl,h 2 _ rfl,h 3 _ rfl,h 4 _ rfl,h 5 _ rfl,h 6 _ rfl,h 7 _ rfl,h 8 _ rfl,h 9 _ rfl,h 10 _ rfl,h 11 _ rfl⟩
theorem c6{b:Nat}{a c d e f g:D4}(h:Aa w b [a,c,d,e,f,g]):(ek w (Zd b 0)=an a/\el w ⟨b,0,ba⟩=bq)/\(ek w (Zd b 1)=an c/\el w ⟨b,1,ba⟩=bq)/\(ek w (Zd b 2)=an d/\el w ⟨b,2,ba⟩=bq)/\(ek w (Zd b 3)=an e/\el w ⟨b,3,ba⟩=bq)/\(ek w (Zd b 4)=an f/\el w ⟨b,4,ba⟩=bq)/\ek w (Zd b 5)=an g/\el w ⟨b,5,ba⟩=bq:=
 ⟨h 0 _ rfl,h 1 _ rfl,h 2 _ rfl,h 3 _ rfl,h 4 _ rfl,h 5 _ rfl⟩
def RdS(n:Nat)(w:Zh)(ta pa la:Zk)(ks:List Kd)(ps:List Pd)(ls:List Ld):Prop:=∀V w',(∀b∈V,b<n)->Tn V w w'->Bo w' w'.1.size ta pa la ks ps ls
theorem Be.rdS{a:Nat}{g f e:Zk}{r p o:Nat}{q:Zj}{b:C9}{d:Db}{c:Da}(h:Be w a (C3 g (eh b) r) (C3 f (eh d) p) (C3 e (eh c) o) q b d c):RdS a w g f e b d c:=λV i l n=>by have⟨_,_,_,_,_,_,i,j,k,m⟩:=(h.S n l).rows;cases i;cases j;cases k;exact m
theorem Be.get{a:Nat}{g f e:Zk}{l j i:Nat}{k:Zj}{b:C9}{d:Db}{c:Da}(h:Be w a (C3 g (eh b) l) (C3 f (eh d) j) (C3 e (eh c) i) k b d c):Bo w w.1.size g f e b d c:=
 h.rdS [] w Yu (Tn.of Ae)
structure RS (x:An):Prop where
 B:eh x.B<=600
 D:∀k∈x.B,eh k.D<=30
 ps:eh x.ps<=100
 ls:eh x.ls<=200
theorem RS.fit{x:An}(h:RS x):OR x.B x.ps x.ls:=
 ⟨Dl h.B,λk a=>Dl (h.D k a),Dl h.ps,Dl h.ls⟩
theorem Aa.dq(a c d:Zj)(h:Aa w B (a++(c++d))):w.rangeAt B (eh a) c:=λj v b=>by refine(h (eh a+j) v ?_).1;rw[getElem?_append_right Yv,Nat.add_sub_cancel_left,getElem?_append_left (Zw b).1];exact b
theorem Mx(n:Int)(w:Zh):
 D8 28 #[Zg n] w λe a=>e=C5 (ef (bx (0<=n/\n<=1000000)))/\a=w:=by
 by_cases h1:0<=n
 .by_cases h2:n<=1000000
  .delta D8;go_in;go_wp2;go_ret;exact⟨AH Yt,rfl⟩
  have b:bx (n<=1000000)=bq:=Yt;delta D8;go_in;go_wp2;go_ret;exact⟨rfl,rfl⟩
 have a:bx (0<=n)=bq:=Yt;delta D8;go_in;go_wp2;go_ret;exact⟨rfl,rfl⟩
structure Afh (w:Zh) (lo k d m base:Nat) (O P L:Value) (v:Vd) (a:Va) (r:Rs):Prop where
 box:Aa w k [.int .i32 0,.int .u32 0,Zg v.wd,Zg v.lim,cr a.Y (eh v.ss) a.sc,cr a.V (eh v.C) a.T,Zg v.J,Zg v.F,Zg v.G,Zg v.E,cr a.Q (eh v.B) a.W,cr a.L (eh v.ps) a.P,cr a.K (eh v.ls) a.O,Zg v.I,cr a.Z (eh v.H) a.y,cr a.g (eh v.ms) a.j,Zg v.N,Zg v.M,Zg v.ro,ee (an ⟨d,0,ba⟩)]
 U:Dr w base d m O P L v.wd r.F r.G r.E r.B r.ps r.ls
 gx:lo<=base
 ig:lo<=k
 lt:∀b∈vB d m O P L,b<k
 co:base+4<=m
 ty:∃cur,w.1[k]?=an (ca cur 112)
def Rpl(w w':Zh)(v:Vd)(p:Value)(n:Int):Prop:=
 (∃k:Nat,DD v.wd (v.ss++v.C) k/\p=ee ba/\n=k)\/(∃r d m O P L base,Cp v.wd r0 (v.ss++v.C) r/\p=ee (an ⟨d,0,ba⟩)/\n=0/\Dr w' base d m O P L v.wd r.F r.G r.E r.B r.ps r.ls/\(w.1.size<=base/\base+4<=m))
theorem Tw{v:Vd}{a:Va}(f:Bc w w.1.size a v)(Z:Dz v)(G:Env w):
 D8 24 #[ct (Xq v a)] w λe l=>Zz w l/\((¬BW v/\e=C5 (.tuple #[ee ba,ef bq]))\/(∃r k d m O P L g,BZ v r/\e=C5 (.tuple #[Yy k,ef bg])/\Afh l w.1.size k d m g O P L v a r)):=by
 have⟨W,c⟩:=D6 w (Xq v a) 34;obtain⟨bW,zW,i⟩:=(Ax c).1,(Ax c).2.1,(Ax c).2.2;have HX:Hid (Aa W _ _):=(Ax c).2.2;obtain⟨HR,HW,zA,zC,zG,M,N,Q,R,y4,y5,y6,y7,y8,y9,q,t,x,y,z,A,B⟩:=Yw f,Yw c,Yw (Jk v.wd W),Yw (Mx v.lim W),Yw (Ha a.sc a.T (f.s.X bW) (f.t.X bW) Z.s Z.t Z.ss Z.C),Jb i;clear c i f;by_cases hwd:1<=v.wd/\v.wd<=8
 case neg=>rw[decide_eq_false hwd]at zA;delta D8;go_in;go_wp2_with fail;rw[<-HW.o];refine zA.Aj ?_;rintro e w1 ⟨rfl,c⟩;replace c:=c.symm;subst c;clear M N Q R y4 y5 y6 y7 y8 y9 q t x y z A B;go_wp2;refine C1 (.tuple #[ee ba,ef bq]) Gb ?_;exact⟨bW,dp ⟨λ⟨r,h⟩=>hwd h.wd,rfl⟩⟩
 rw[decide_eq_true hwd]at zA;by_cases hlim:0<=v.lim/\v.lim<=1000000
 case neg=>
  rw[decide_eq_false hlim]at zC;delta D8;go_in;go_wp2_with fail;rw[<-HW.o];refine zA.Aj ?_;rintro e w1 ⟨rfl,c⟩;replace c:=c.symm;subst c;go_wp2_with fail;refine zC.Aj ?_;rintro e w1 ⟨rfl,c⟩;replace c:=c.symm;subst c;clear M N Q R y4 y5 y6 y7 y8 y9 q t x y z A B;go_wp2;refine C1 (.tuple #[ee ba,ef bq]) Gb ?_;exact⟨bW,dp ⟨λ⟨r,h⟩=>hlim h.lim,rfl⟩⟩
 rw[decide_eq_true hlim]at zC;cases hlog:BG v.ss v.C with
 |true=>
  rw[hlog]at zG;have yE:=DQ hlog;have yS:eh v.ss<=4000:=by rw[Am]at yE;omega
  have yT:eh v.C<=4000:=by rw[Am]at yE;omega
  have U:Hid (∀X,D8 31 #[ct #[C2 a.Y v.ss a.sc,C2 a.V v.C a.T]] X λe l=>e=C5 (ct #[C2 a.Y v.ss a.sc,C2 a.V v.C a.T])/\Zz X l):=λX=>Hm a.Y a.V (eh v.ss) (eh v.C) a.sc a.T X;have Y:Hid (∀X,Zz w X->D8 30 #[Zg v.wd,.func (.func 32) #[ct #[C2 a.Y v.ss a.sc,C2 a.V v.C a.T]] #[]] X λe l=>∃p n,e=C5 (.tuple #[p,Zg n])/\Hid (Rpl X l v p n)/\Zz X l):=λX f=>by
   refine(JA v.wd 32 #[ct #[C2 a.Y v.ss a.sc,C2 a.V v.C a.T]] #[] (v.ss++v.C) hwd.1 hwd.2 Yv (λs c=>by rcases Bw.1 c with h|h;exact Z.ss s h;exact Z.C s h) (G.A f) (enters_of func32 Yr rfl) (λV c=>by
    have hb:=f.ag (c.ai f.size);have h1:=Jv a.Y a.V a.sc a.T v.ss v.C X.1.size V ((HR.s.A hb).ai f.size) ((HR.t.A hb).ai f.size) c.size Yo Yo;simpa using h1)).ai ?_
   rintro e l ⟨hb,⟨n,i,rfl⟩|⟨r,d,m,O,P,L,g,F,rfl,Di,o⟩⟩
   .exact⟨_,_,rfl,dp ⟨n,i,rfl,rfl⟩,hb⟩
   exact⟨_,_,rfl,eb ⟨r,d,m,O,P,L,g,F,rfl,rfl,Di,o⟩,hb⟩
  clear G;delta D8;go_in;go_wp2_with fail;rw[<-HW.o];refine zA.Aj ?_;rintro e w1 ⟨rfl,c⟩;replace c:=c.symm;subst c;go_wp2_with fail;refine zC.Aj ?_;rintro e w1 ⟨rfl,c⟩;replace c:=c.symm;subst c;go_wp2_with fail;refine zG.Aj ?_;rintro e w2 ⟨rfl,zE⟩;have G:=Aa.A HX zE;have z2:w.1.size+1<=w2.1.size:=Dl zE.size;have yB:=Yw G;have zN:=Yw (bW.ag (zE.ai bW.size));clear M N Q R y4 y5 y6 y7 y8 y9 q t x y z A B zA zC zG zE HW;have⟨M,N,Q,R,_⟩:=Jb G;clear G;go_upto_region 3 with fail;generalize (ct (Xq v a):D4)=dv0;go_cut [4,5] (λp u K=>∃n:Int,u=Zg n/\Hid (Rpl w K v p n/\Zz w2 K))
  case first=>
   go_region_with (first
    |(go_at_call 31;refine(U w2.drew).ai ?_;rintro e w3 ⟨rfl,yJ⟩;have zO:bs w2.1.size w2 w3:=(Below.refl w2.1.size w2).drew.ag yJ;have⟨u0,u1,u2,u3,_⟩:=Jb (Aa.A yB zO);have yD:=zN.ag (zO.ai zN.size))
    |(go_at_call 30;refine(Y w3 yD).ai ?_;rintro e w4 ⟨p,n,rfl,yH,yK⟩;have yG:=zO.ag (yK.ai zO.size)))
   all_goals
    go_wp2_with fail;go_meet;refine⟨n,rfl,?_,yG⟩;rcases yH.o with h|⟨r,d,m,O,P,L,g,q1,q2,q3,q4,q5⟩
    .exact dp h
    exact eb ⟨r,d,m,O,P,L,g,q1,q2,q3,q4,Zm yD.size q5.1,q5.2⟩
  clear M N Q R U Y;obtain⟨n,rfl,U⟩:=hcut;have yC:=Yw (Aa.A yB U.2);have G:=Yw (zN.ag (U.2.ai zN.size));rcases U.1 with⟨k,i,hp,hn⟩|⟨r,d,m,O,P,L,g,F,hp,hn,Di,o⟩
  .subst hp hn;have yU:0<(k:Int):=(by obtain⟨j,_,_,rfl,_⟩:=i;omega);have yI:0<k:=Yv;have yV:=decide_eq_true yI;have zH:Hid (¬BW v):=λ⟨r,h⟩=>DD.not hwd.1 hwd.2 i h.run;clear i U;go_upto_region 4 with fail
   go_region
   all_goals go_wp2
   all_goals refine C1 (.tuple #[ee ba,ef bq]) Gb ?_
   all_goals exact⟨G.drew,dp ⟨zH,rfl⟩⟩
  subst hp hn;have i:=F.ok (DH hwd.1 hwd.2);have zF:=Yw F;have zS:Hid (∀X,Zz wc X->Dr X g d m O P L v.wd r.F r.G r.E r.B r.ps r.ls):=λX f=>Di.A f;have zB:=Yw o;have zV:Hid (∀X,Zz wc X->D8 34 #[Yy d] X λe l=>∃(E:Zk) (J:Nat) (D:Zk) (I:Nat) (C:Zk) (H:Nat),e=C5 (ct (C8 v.wd r.F r.G r.E E r.B J D r.ps I C r.ls H))/\Bo l l.1.size E D C r.B r.ps r.ls/\Zz X l):=λX f=>by refine(Iy g d m O P L v.wd r.F r.G r.E r.B r.ps r.ls X (Di.A f) i.bk.nd i.bk.sz i.bk.len i.np i.nl i.cz).ai ?_;rintro e l ⟨T,P',L',rs,rfl,hS,hb⟩;obtain⟨E,J,D,I,C,H,rfl,rfl,rfl,hg⟩:=hS.rows;exact⟨E,J,D,I,C,H,rfl,hg,hb⟩
  have zU:Hid (∀(X:Zh) (E D C:Zk) (J I H:Nat),Zz w X->Bo X X.1.size E D C r.B r.ps r.ls->D8 49 #[ct (C8 v.wd r.F r.G r.E E r.B J D r.ps I C r.ls H),ct (C8 v.J v.F v.G v.E a.Q v.B a.W a.L v.ps a.P a.K v.ls a.O)] X λe l=>Av ((v.wd=v.J/\r.F=v.F/\r.G=v.G/\r.E=v.E)/\r.B=v.B/\r.ps=v.ps/\r.ls=v.ls) X l e):=λX E D C J I H f hS=>On v.wd r.F r.G r.E v.J v.F v.G v.E E D C a.Q a.L a.K J I H a.W a.P a.O r.B v.B r.ps v.ps r.ls v.ls X hS ((HR.st.ah f).ai f.size) ⟨Dl i.bk.len,Dl i.np,Dl i.nl⟩ ⟨Z.st.k,Z.st.p,Z.st.l⟩ (λk Y=>Dl (i.cz k Y)) Z.st.r;have yA:Hid (∀X,Zz w X->D8 50 #[ct (Xy v.I a.Z (eh v.H) a.y a.g (eh v.ms) a.j v.N v.M v.ro),Zg v.wd,Zg r.E] X λe l=>Av (Ba v.wd r.E v.I v.N v.M v.ro v.H v.ms) X l e):=λX f=>MY v.I v.N v.M v.ro v.wd r.E a.y a.j (HR.q.X f) (HR.m.X f) Z.r hwd.2 i.aj;clear F Di o i U;have⟨M,N,Q,R,y4,y5,y6,y7,y8,y9,q,t,x,y,z,A,B⟩:=Jb yC;have zP:Hid (∀X,Zz wc X->Aa X w.1.size (Xp v a)):=λX f=>Aa.A yC f;have F:Hid (∀X,Zz wc X->ek X (Zd (w.1.size) 4)=an (Zg v.J)/\ek X (Zd (w.1.size) 5)=an (Zg v.F)/\ek X (Zd (w.1.size) 6)=an (Zg v.G)/\ek X (Zd (w.1.size) 7)=an (Zg v.E)/\ek X (Zd (w.1.size) 8)=an (C2 a.Q v.B a.W)/\ek X (Zd (w.1.size) 9)=an (C2 a.L v.ps a.P)/\ek X (Zd (w.1.size) 10)=an (C2 a.K v.ls a.O)/\ek X (Zd (w.1.size) 11)=an (Zg v.I)/\ek X (Zd (w.1.size) 12)=an (C2 a.Z v.H a.y)/\ek X (Zd (w.1.size) 13)=an (C2 a.g v.ms a.j)/\ek X (Zd (w.1.size) 14)=an (Zg v.N)/\ek X (Zd (w.1.size) 15)=an (Zg v.M)/\ek X (Zd (w.1.size) 16)=an (Zg v.ro)/\ek X (Zd d 0)=an (Zg v.wd)/\ek X (Zd d 4)=an (Zg r.E)):=λX f=>by
   have⟨n0,n1,n2,n3,n4,n5,n6,n7,n8,n9,yL,yM,yN,yO,yP,yQ,yR⟩:=Jb (zP X f);exact⟨n4,n5,n6,n7,n8,n9,yL,yM,yN,yO,yP,yQ,yR,((zS X f).box 0 _ rfl).1,((zS X f).box 4 _ rfl).1⟩
  have HL:Hid (∀X,Zz wc X->Zz w X):=λX f=>G.ag (f.ai G.size);have D0:bs wc.1.size wc wc.drew:=Ae.drew;by_cases hP:(v.wd=v.J/\r.F=v.F/\r.G=v.G/\r.E=v.E)/\r.B=v.B/\r.ps=v.ps/\r.ls=v.ls
  case neg=>
   have zH:Hid (¬BW v):=λ⟨r',h⟩=>by obtain rfl:=zF.di h.run;exact hP h.same
   have zI:=Yw hP;clear hP;go_upto_region 4 with fail;generalize (ct (Xq v a):D4)=dv0;go_cut [56] (λu K=>u=ef bg/\Hid (Zz wc K))
   case first=>
    clear M N Q R y4 y5 y6 y7 y8 y9 q t x y z A B;have b:Hid (∀X,Zz wc X->X.rangeAt w.1.size 4 (C7 v.J v.F v.G v.E a.Q v.B a.W a.L v.ps a.P a.K v.ls a.O)):=λX f=>Aa.dq [Zg v.wd,Zg v.lim,C2 a.Y v.ss a.sc,C2 a.V v.C a.T] (C7 v.J v.F v.G v.E a.Q v.B a.W a.L v.ps a.P a.K v.ls a.O) (Xu v.I a.Z (eh v.H) a.y a.g (eh v.ms) a.j v.N v.M v.ro) (zP X f);refine wp_region_held_drew (S:=λX=>X.rangeAt w.1.size 4 (C7 v.J v.F v.G v.E a.Q v.B a.W a.L v.ps a.P a.K v.ls a.O)) Yr (b _ D0) (λhS=> ?_);refine Cb 0 Ze ?_;refine Cb 1 (ef bq) ?_;try simp only[Act.put,Zq,Zp,Zo]
    refine Cb 2 (ef bq) ?_;refine Cb 3 (Yy d) ?_;try simp only[Act.put,Zq,Zp,Zo]
    refine Cb 5 (Yx w.1.size 4) ?_;refine Gd 6 (ct (C8 v.J v.F v.G v.E a.Q v.B a.W a.L v.ps a.P a.K v.ls a.O)) rfl (by exact yieldsIf_load_mid Yp 30 _ rfl w.1.size 4 rfl (C7 v.J v.F v.G v.E a.Q v.B a.W a.L v.ps a.P a.K v.ls a.O) _ (λX h=>h) underlying30 rfl Yr) ?_;try simp only[Act.put,Zq,Zp,Zo]
    refine CX 4 (λK f=> ?_);go_simp;refine Calls.mono (zV wc.drew D0) ?_;rintro e w5 ⟨E,J,D,I,C,H,rfl,U,zK⟩;have i:=D0.ag zK;try go_simp
    refine f.out _ _ (b w5 i) (λu=> ?_);clear f K;refine CX 7 (λK f=> ?_);go_simp;refine Calls.mono (zU w5 E D C J I H (HL _ i) U) ?_;rintro e w6 ⟨bb,rfl,Y,zM⟩;have o:=i.ag (zM.ai i.size);obtain rfl:bb=bq:=(by cases bb with|false=>rfl|true=>exact absurd (Y.1 rfl) zI);clear Y U;try go_simp
    refine f.out _ _ (b w6 o) (λU=> ?_);clear f K;refine Cb 8 (ef bg) ?_;refine Cb 9 (ef bg) ?_;try simp only[Act.put,Zq,Zp,Zo]
    refine Cb 10 (ef bg) ?_;refine Gc 11 ?_;try simp only[Act.put,Zq,Zp,Zo]
    refine Gc 12 ?_;refine Gc 13 ?_;try simp only[Act.put,Zq,Zp,Zo]
    refine Gc 14 ?_;refine Gc 15 ?_;try simp only[Act.put,Zq,Zp,Zo]
    refine Gc 16 ?_;refine Gc 17 ?_;try simp only[Act.put,Zq,Zp,Zo]
    refine Gc 18 ?_;refine Gc 19 ?_;try simp only[Act.put,Zq,Zp,Zo]
    refine Gc 20 ?_;refine Gc 21 ?_;try simp only[Act.put,Zq,Zp,Zo]
    refine Gc 22 ?_;refine Gc 23 ?_;try simp only[Act.put,Zq,Zp,Zo]
    refine Cb 24 (ef bg) ?_;refine wpAnyH_done Yr ?_ _;go_wp2_with fail;go_meet;exact⟨rfl,o⟩
   clear M N Q R y4 y5 y6 y7 y8 y9 q t x y z A B;obtain⟨rfl,s⟩:=hcut;have V:bs w.1.size w _:=G.ag (s.ai G.size);go_wp2;refine C1 (.tuple #[ee ba,ef bq]) Gb ?_;exact⟨V,dp ⟨zH,rfl⟩⟩
  by_cases hQ:Ba v.wd r.E v.I v.N v.M v.ro v.H v.ms
  .have yF:Hid (BZ v r):=⟨hwd,hlim,hlog,zF,hP,hP.1.2.2.2▸hQ⟩;have zI:=Yw hP;have zT:=Yw hQ;clear hP hQ;go_upto_region 4 with fail;generalize (ct (Xq v a):D4)=dv0;go_cut [56] (λu K=>u=ef bq/\Hid (Zz wc K))
   case first=>
    clear M N Q R y4 y5 y6 y7 y8 y9 q t x y z A B;go_region_held3 (λX=>ek X (Zd (w.1.size) 4)=an (Zg v.J)/\ek X (Zd (w.1.size) 5)=an (Zg v.F)/\ek X (Zd (w.1.size) 6)=an (Zg v.G)/\ek X (Zd (w.1.size) 7)=an (Zg v.E)/\ek X (Zd (w.1.size) 8)=an (C2 a.Q v.B a.W)/\ek X (Zd (w.1.size) 9)=an (C2 a.L v.ps a.P)/\ek X (Zd (w.1.size) 10)=an (C2 a.K v.ls a.O)/\ek X (Zd (w.1.size) 11)=an (Zg v.I)/\ek X (Zd (w.1.size) 12)=an (C2 a.Z v.H a.y)/\ek X (Zd (w.1.size) 13)=an (C2 a.g v.ms a.j)/\ek X (Zd (w.1.size) 14)=an (Zg v.N)/\ek X (Zd (w.1.size) 15)=an (Zg v.M)/\ek X (Zd (w.1.size) 16)=an (Zg v.ro)/\ek X (Zd d 0)=an (Zg v.wd)/\ek X (Zd d 4)=an (Zg r.E))
     (first
       |with_reducible exact F.o _ D0
       |with_reducible exact F.o _ i
       |with_reducible exact F.o _ o
       |with_reducible exact F.o _ B7)
     (first
       |(go_at_call 34;refine Calls.mono (zV wc.drew D0) ?_;rintro e w5 ⟨E,J,D,I,C,H,rfl,U,zK⟩;have i:bs wc.1.size wc w5:=D0.ag zK)
       |(go_at_call 49;refine Calls.mono (zU w5 E D C J I H (HL _ i) U) ?_;rintro e w6 ⟨bb,rfl,Y,zM⟩;have o:=i.ag (zM.ai i.size);clear U;obtain rfl:bb=bg:=Y.2 zI;clear Y)
       |(go_at_call 50;refine Calls.mono (yA w6 (HL _ o)) ?_;rintro e w7 ⟨cc,rfl,zJ,zX⟩;have B7:=o.ag (zX.ai o.size);obtain rfl:cc=bg:=zJ.2 zT;clear zJ))
    all_goals (go_wp2_with fail;go_meet;exact⟨rfl,B7⟩)
   clear M N Q R y4 y5 y6 y7 y8 y9 q t x y z A B;obtain⟨rfl,s⟩:=hcut;have V:bs w.1.size w _:=G.ag (s.ai G.size);have zY:=Yw ((zP _ s).range);have zZ:=Yw (zS _ s);go_wp2_with (refine wpList_load_mid rfl 34 _ rfl w.1.size 0 rfl (Xp v a) _ zY underlying34 rfl Yr ?_);refine C1 (.tuple #[Yy wc.1.size,ef bg]) Gb ?_;refine⟨V.alloc V.size _,eb ⟨r,_,d,m,O,P,L,g,yF,rfl,Aa.new _ [.int .i32 0,.int .u32 0,Zg v.wd,Zg v.lim,C2 a.Y v.ss a.sc,C2 a.V v.C a.T,Zg v.J,Zg v.F,Zg v.G,Zg v.E,C2 a.Q v.B a.W,C2 a.L v.ps a.P,C2 a.K v.ls a.O,Zg v.I,C2 a.Z v.H a.y,C2 a.g v.ms a.j,Zg v.N,Zg v.M,Zg v.ro,Yy d] 112,(zZ.o).A (Zy),zB.1,V.size,λb hb=>zZ.db b hb,zB.2,_,heap_alloc_new _ _⟩⟩
  have zH:Hid (¬BW v):=λ⟨r',h⟩=>by obtain rfl:=zF.di h.run;exact hQ (by rw[hP.1.2.2.2];exact h.round)
  have zI:=Yw hP;have zT:=Yw hQ;clear hP hQ;go_upto_region 4 with fail;generalize (ct (Xq v a):D4)=dv0;go_cut [56] (λu K=>u=ef bg/\Hid (Zz wc K))
  case first=>
   clear M N Q R y4 y5 y6 y7 y8 y9 q t x y z A B;go_region_held3 (λX=>ek X (Zd (w.1.size) 4)=an (Zg v.J)/\ek X (Zd (w.1.size) 5)=an (Zg v.F)/\ek X (Zd (w.1.size) 6)=an (Zg v.G)/\ek X (Zd (w.1.size) 7)=an (Zg v.E)/\ek X (Zd (w.1.size) 8)=an (C2 a.Q v.B a.W)/\ek X (Zd (w.1.size) 9)=an (C2 a.L v.ps a.P)/\ek X (Zd (w.1.size) 10)=an (C2 a.K v.ls a.O)/\ek X (Zd (w.1.size) 11)=an (Zg v.I)/\ek X (Zd (w.1.size) 12)=an (C2 a.Z v.H a.y)/\ek X (Zd (w.1.size) 13)=an (C2 a.g v.ms a.j)/\ek X (Zd (w.1.size) 14)=an (Zg v.N)/\ek X (Zd (w.1.size) 15)=an (Zg v.M)/\ek X (Zd (w.1.size) 16)=an (Zg v.ro)/\ek X (Zd d 0)=an (Zg v.wd)/\ek X (Zd d 4)=an (Zg r.E))
    (first
      |with_reducible exact F.o _ D0
      |with_reducible exact F.o _ i
      |with_reducible exact F.o _ o
      |with_reducible exact F.o _ B7)
    (first
      |(go_at_call 34;refine Calls.mono (zV wc.drew D0) ?_;rintro e w5 ⟨E,J,D,I,C,H,rfl,U,zK⟩;have i:bs wc.1.size wc w5:=D0.ag zK)
      |(go_at_call 49;refine Calls.mono (zU w5 E D C J I H (HL _ i) U) ?_;rintro e w6 ⟨bb,rfl,Y,zM⟩;have o:=i.ag (zM.ai i.size);clear U;obtain rfl:bb=bg:=Y.2 zI;clear Y)
      |(go_at_call 50;refine Calls.mono (yA w6 (HL _ o)) ?_;rintro e w7 ⟨cc,rfl,zJ,zX⟩;have B7:=o.ag (zX.ai o.size);obtain rfl:cc=bq:=(by cases cc with|false=>rfl|true=>exact absurd (zJ.1 rfl) zT);clear zJ))
   all_goals (go_wp2_with fail;go_meet;exact⟨rfl,B7⟩)
  clear M N Q R y4 y5 y6 y7 y8 y9 q t x y z A B;obtain⟨rfl,s⟩:=hcut;have V:bs w.1.size w _:=G.ag (s.ai G.size);go_wp2;refine C1 (.tuple #[ee ba,ef bq]) Gb ?_;exact⟨V,dp ⟨zH,rfl⟩⟩
 |false=>
  rw[hlog]at zG;have f:BG v.ss v.C=bg->False:=λh=>by rw[hlog]at h;cases h
  delta D8;go_in;go_wp2_with fail;rw[<-HW.o];refine zA.Aj ?_;rintro e w1 ⟨rfl,c⟩;replace c:=c.symm;subst c;go_wp2_with fail;refine zC.Aj ?_;rintro e w1 ⟨rfl,c⟩;replace c:=c.symm;subst c;go_wp2_with fail;refine zG.Aj ?_;rintro e w2 ⟨rfl,zE⟩;have U:=bW.ag (zE.ai bW.size);clear M N Q R y4 y5 y6 y7 y8 y9 q t x y z A B;go_wp2;refine C1 (.tuple #[ee ba,ef bq]) Gb ?_;exact⟨U,dp ⟨λ⟨r,h⟩=>f h.log,rfl⟩⟩
theorem Gi{v:Vd}{a:Va}(s:Bc w w.1.size a v)(q:Dz v)(p:Env w):
 D8 6 #[ct (Xq v a)] w λe b=>Av (BW v) w b e:=by
 have⟨W,c⟩:=D6 w (Xq v a) 34;obtain⟨b,t,f⟩:=(Ax c).1,(Ax c).2.2,Yw c;obtain⟨G,u,x,y,z,A,B,C,D,E,F,g,h,i,j,l,n,o⟩:=Yw (Tw (s.X b) q (p.A b)),Jb t;clear c t s p q;delta D8;go_in;go_upto_region 1 with fail;rw[<-f.o];clear f;go_wp2_with fail;refine G.Aj ?_;rintro e t ⟨c,⟨q,rfl⟩|⟨r,k,d,m,O,P,L,s,f,rfl,_⟩⟩
 .clear u x y z A B C D E F g h i j l n o;go_wp2;go_ret;exact Av.no q (b.ag (c.ai b.size))
 have p:Hid (BW v):=⟨r,f⟩;clear u x y z A B C D E F g h i j l n o f;go_wp2;go_ret;exact Av.yes p (b.ag (c.ai b.size))
def v0:Vd:=⟨0,0,[],[],0,0,0,0,[],[],[],0,[],[],0,0,0⟩
def Bq(wd lim:Int)(ss tt:Zl)(r:Rs):Vd:=⟨wd,lim,ss,tt,wd,r.F,r.G,r.E,r.B,r.ps,r.ls,0,[],[],0,0,0⟩
def Dp(wd lim:Int)(ss tt:Zl)(c:Int)(v:Vd):Prop:=
 (¬((1<=wd/\wd<=8)/\(0<=lim/\lim<=1000000)/\BG ss tt=bg)/\c=1/\v=v0)\/
 (((1<=wd/\wd<=8)/\(0<=lim/\lim<=1000000)/\BG ss tt=bg)/\(((∃n,DD wd (ss++tt) n)/\c=2/\v=v0)\/(∃r,Cp wd r0 (ss++tt) r/\c=0/\v=Bq wd lim ss tt r)))
theorem Dp.di{d e:Zl}{v f:Vd}(h:Dp i a d e c v)(k:Dp i a d e b f):c=b/\v=f:=by
 rcases h with⟨j,rfl,rfl⟩|⟨g,h⟩<;>rcases k with⟨k1,rfl,rfl⟩|⟨g',k⟩
 .exact gA
 .exact gA
 .exact gA
 rcases h with⟨⟨n,h⟩,rfl,rfl⟩|⟨r,h,rfl,rfl⟩<;>rcases k with⟨⟨m,k⟩,rfl,rfl⟩|⟨q,k,rfl,rfl⟩
 .exact gA
 .exact absurd k (h.not g.1.1 g.1.2)
 .exact absurd h (k.not g.1.1 g.1.2)
 obtain rfl:=h.di k;exact gA
theorem AF.nil(w:Zh)(a:Nat):AF w a Zb Zb Zb Zb Zb Zb Zb [] v0:=
 ⟨Ak.nil _ _,Ak.nil _ _,⟨rfl,⟨rfl,dp ⟨rfl,rfl⟩⟩,(λi k r h=>by cases i<;>cases h),⟨rfl,dp ⟨rfl,rfl⟩⟩,⟨rfl,dp ⟨rfl,rfl⟩⟩,nodup_nil⟩,Ak.nil _ _,Ak.nil _ _,nodup_nil⟩
def Acz(wd lim:Int)(ss tt:Zl)(w:Zh)(e:Ending)(w':Zh):Prop:=
 ∃(c:Int) (v:Vd) (S U T P L Q M:Value) (rs:Zj),Dp wd lim ss tt c v/\e=.returned (.tuple #[ct #[Zg v.wd,Zg v.lim,S,U,Zg v.J,Zg v.F,Zg v.G,Zg v.E,T,P,L,Zg v.I,Q,M,Zg v.N,Zg v.M,Zg v.ro],Zg c])/\AF w' w.1.size S U T P L Q M rs v/\Zz w w'
theorem NX(p q:Int){a:Zk}(b:Zk)(c d:Nat){f:Zl}(i:Zl)(o:Ab w w.1.size a f)(l:Ab w w.1.size b i)(hl:eh f<=1048576)(zM:eh i<=1048576)(t:∀s∈f,s.size<=1048576)(u:∀s∈i,s.size<=1048576)(z:Env w):
 D8 9 #[Zg p,Zg q,ct #[C3 a (eh f) c,C3 b (eh i) d]] w (Acz p q f i w):=by
 have⟨W,k⟩:=Ag ((w.alloc (ca #[C2 a f c,C2 b i d] 25)).alloc (ca Xo 34));obtain⟨K,zW,A⟩:=(AQ k).1,(AQ k).2.1,(AQ k).2.2.1;have B:Aa W (w.1.size+1) Xn:=G8;have HX:Hid (Aa W _ _):=(AQ k).2.2.1;have U:Hid (Aa W (w.1.size+1) Xn):=B;have g:Hid (∀X,Zz w X->Ab X X.1.size a f/\Ab X X.1.size b i):=λX M=>⟨o.X M,l.X M⟩;obtain⟨HW,H,R,zA⟩:=Yw k,Yw (Jk p W),Yw (Mx q W),Yw (Ha c d (o.X K) (l.X K) hl zM t u);obtain⟨Y,Z⟩:=Aa.c2 A 0 1;clear k A B o l;by_cases hwd:1<=p/\p<=8
 case neg=>
  rw[decide_eq_false hwd]at H;have I:Hid (Dp p q f i 1 v0):=dp ⟨λh=>hwd h.1,rfl,rfl⟩;delta D8;go_in;go_wp2_with fail;rw[<-HW.o];refine H.Aj ?_;rintro e w1 ⟨rfl,k⟩;replace k:=k.symm;subst k;clear Y Z HX;have l:(Xo:Array Value).all (·.oneCell')=bg:=G3;have u:W.there (w.1.size+1) 0 17:=(U.o).there;obtain⟨t,C,o⟩:=Yw (Zn l u),Ag (W.setCells (w.1.size+1) 0 Xn);have Q:Aa C (w.1.size+1) Xn:=by rw[o];exact(U.o).aw _ rfl
  have N:bs w.1.size w C:=(K).ag (by rw[o];exact(AD _ _ _ _).A (K).size Yu);have F:=Yw o;clear l u o;go_wp2_with (refine wpList_store_mid rfl 34 _ _ rfl (w.1.size+1) 0 Xo rfl rfl t.2 Yr t.1 ?_);rw[<-F.o];refine bodyPost_ret (Eh results9 _ _ (w.1.size+1) Xn _ rfl rfl Q.range underlying34 rfl Yr) rfl ?_;exact⟨1,v0,_,_,_,_,_,_,_,[],I,rfl,AF.nil _ _,N⟩
 rw[decide_eq_true hwd]at H;by_cases hlim:0<=q/\q<=1000000
 case neg=>
  rw[decide_eq_false hlim]at R;have I:Hid (Dp p q f i 1 v0):=dp ⟨λh=>hlim h.2.1,rfl,rfl⟩;delta D8;go_in;go_wp2_with fail;rw[<-HW.o];refine H.Aj ?_;rintro e w1 ⟨rfl,k⟩;replace k:=k.symm;subst k;go_wp2_with fail;refine R.Aj ?_;rintro e w1 ⟨rfl,k⟩;replace k:=k.symm;subst k;clear Y Z HX;have l:(Xo:Array Value).all (·.oneCell')=bg:=G3;have u:W.there (w.1.size+1) 0 17:=(U.o).there;obtain⟨t,C,o⟩:=Yw (Zn l u),Ag (W.setCells (w.1.size+1) 0 Xn);have Q:Aa C (w.1.size+1) Xn:=by rw[o];exact(U.o).aw _ rfl
  have N:bs w.1.size w C:=(K).ag (by rw[o];exact(AD _ _ _ _).A (K).size Yu);have F:=Yw o;clear l u o;go_wp2_with (refine wpList_store_mid rfl 34 _ _ rfl (w.1.size+1) 0 Xo rfl rfl t.2 Yr t.1 ?_);rw[<-F.o];refine bodyPost_ret (Eh results9 _ _ (w.1.size+1) Xn _ rfl rfl Q.range underlying34 rfl Yr) rfl ?_;exact⟨1,v0,_,_,_,_,_,_,_,[],I,rfl,AF.nil _ _,N⟩
 rw[decide_eq_true hlim]at R;cases hlog:BG f i with
 |true=>
  rw[hlog]at zA;have zN:=DQ hlog;have zS:eh f<=4000:=by rw[Am]at zN;omega
  have zT:eh i<=4000:=by rw[Am]at zN;omega
  have HP:Hid (∀X,Zz w X->D8 30 #[Zg p,.func (.func 32) #[ct #[C2 a f c,C2 b i d]] #[]] X λe y=>Zz X y/\((∃n:Nat,DD p (f++i) n/\e=C5 (.tuple #[ee ba,Zg n]))\/(∃r d m O P L E,Cp p r0 (f++i) r/\e=C5 (.tuple #[Yy d,Ze])/\Dr y E d m O P L p r.F r.G r.E r.B r.ps r.ls/\(X.1.size<=E/\E+4<=m)))):=λX M=>
   JA p 32 #[ct #[C2 a f c,C2 b i d]] #[] (f++i) hwd.1 hwd.2 Yv (λs k=>by rcases Bw.1 k with h|h;exact t s h;exact u s h) (z.A M) (enters_of func32 Yr rfl) (λV k=>by
    have hb:=M.ag (k.ai M.size);have h1:=Jv a b c d f i X.1.size V (((g X M).1).A k) (((g X M).2).A k) k.size Yo Yo;simpa using h1)
  have HG:=Yw (Za hwd (Za hlim hlog));clear z t u;delta D8;go_in;go_wp2_with fail;rw[<-HW.o];refine H.Aj ?_;rintro e w1 ⟨rfl,k⟩;replace k:=k.symm;subst k;go_wp2_with fail;refine R.Aj ?_;rintro e w1 ⟨rfl,k⟩;replace k:=k.symm;subst k;go_wp2_with fail;refine zA.Aj ?_;rintro e w2 ⟨rfl,l⟩;have z:=Aa.A HX l;have t:=Yw z;have u:Hid (Aa w2 (w.1.size+1) Xn):=Aa.A (v:=Ze) U l;have z2:w.1.size+2<=w2.1.size:=Dl l.size;have o:Hid (Zz w w2):=K.ag (l.ai K.size);clear Y Z H R zA l HW HX U;obtain⟨Y,Z⟩:=Aa.c2 z 0 1;clear z;go_wp2_with fail;refine(Hm a b (eh f) (eh i) c d w2).ai ?_;rintro e w3 ⟨rfl,l⟩;have V:Hid (Aa w3 w.1.size [C2 a f c,C2 b i d]):=Aa.A t l;have s:Hid (Aa w3 (w.1.size+1) Xn):=Aa.A (v:=Ze) u l;have z3:=l.size;have D:Hid (Zz w w3):=o.ag (l.ai o.size);clear Y Z l t u o;go_wp2_with fail;refine(HP w3 D).ai ?_;rintro e z ⟨B,⟨n,l,rfl⟩|⟨r,dd,m,O,P,L,E,S,rfl,Di,x⟩⟩
  .have G:Hid (Aa z (w.1.size+1) Xn):=Aa.A (v:=Ze) s B;have A:Hid (Zz w z):=D.ag (B.ai D.size);have zU:0<(n:Int):=(by obtain⟨j,_,_,rfl,_⟩:=l;omega);have I:Hid (Dp p q f i 2 v0):=eb ⟨HG,dp ⟨⟨n,l⟩,rfl,rfl⟩⟩;clear l V s D HP g B;have l:(Xo:Array Value).all (·.oneCell')=bg:=G3;have u:z.there (w.1.size+1) 0 17:=(G.o).there;obtain⟨t,C,o⟩:=Yw (Zn l u),Ag (z.setCells (w.1.size+1) 0 Xn);have Q:Aa C (w.1.size+1) Xn:=(by rw[o];exact(G.o).aw _ rfl);have N:bs w.1.size w C:=(A.o).ag (by rw[o];exact(AD _ _ _ _).A (A.o).size Yu);have F:=Yw o;clear l u o;go_wp2_with (refine wpList_store_mid rfl 34 _ _ rfl (w.1.size+1) 0 Xo rfl rfl t.2 Yr t.1 ?_);rw[<-F.o];refine bodyPost_ret (Eh results9 _ _ (w.1.size+1) Xn _ rfl rfl Q.range underlying34 rfl Yr) rfl ?_;exact⟨2,v0,_,_,_,_,_,_,_,[],I,rfl,AF.nil _ _,N⟩
  have zJ:Hid (Aa z w.1.size [C2 a f c,C2 b i d]):=Aa.A V B;have G:Hid (Aa z (w.1.size+1) Xn):=Aa.A (v:=Ze) s B;have A:Hid (Zz w z):=D.ag (B.ai D.size);have J:=S.ok (DH hwd.1 hwd.2);have zG:Hid (Dp p q f i 0 (Bq p q f i r)):=eb ⟨HG,eb ⟨r,S,rfl,rfl⟩⟩;have zI:Hid (∀X,Zz z X->D8 34 #[Yy dd] X λe y=>∃T P' L' rs,e=C5 (ct #[Zg p,Zg r.F,Zg r.G,Zg r.E,T,P',L'])/\Be y X.1.size T P' L' rs r.B r.ps r.ls/\Zz X y):=λX M=>
   Iy E dd m O P L p r.F r.G r.E r.B r.ps r.ls X (Di.A M) J.bk.nd J.bk.sz J.bk.len J.np J.nl J.cz
  have HC:=Yw (JQ c d (g z A).1 (g z A).2 hl zM);have z4:=B.size;obtain⟨Y,Z⟩:=Aa.c2 zJ 0 1;clear S Di J x B V s D HP g HG;go_wp2_with fail;refine HC.Aj ?_;rintro e w5 ⟨x,s,y,V,rfl,zF,M,zB,S⟩;clear Y Z HC;go_wp2_with fail;refine(zI w5 S).ai ?_;rintro e w6 ⟨T,P',L',rs,rfl,zC,J⟩;have z5:=S.size;have z6:=J.size;obtain⟨ta,tc,pa,pc,la,lc,rfl,rfl,rfl,_⟩:=zC.rows;have zE:AF w6 z.1.size (C2 x f s) (C2 y i V) (C2 ta r.B tc) (C2 pa r.ps pc) (C2 la r.ls lc) Zb Zb rs (Bq p q f i r):=
   AF.of (Ak.own (Ah zF J)) (Ak.own (Ah M J)) (λg h1=>zB g h1) (n1:=w5.1.size) (λg D=>by rcases D with D|D;exact(Ac zF D).2;exact(Ac M D).2) zC z5 (n2:=w6.1.size) zC.db (Ak.nil _ _) (Ak.nil _ _) (λg D=>by rcases D with D|D<;>cases D) z6 (λg D=>by cases D)
  have zH:Hid (Zz w w6):=(A.ag (S.ai A.size)).ag (J.ai (Zm A.size z5));have zK:Hid (Aa w6 (w.1.size+1) Xn):=Aa.A (v:=Ze) (Aa.A (v:=Ze) G S) J;have l:(#[Zg p,Zg q,C2 x f s,C2 y i V,Zg p,Zg r.F,Zg r.G,Zg r.E,C2 ta r.B tc,C2 pa r.ps pc,C2 la r.ls lc,Ze,Zb,Zb,Ze,Ze,Ze]:Array Value).all (·.oneCell')=bg:=G3;have u:w6.there (w.1.size+1) 0 17:=zK.there;obtain⟨t,C,o⟩:=Yw (Zn l u),Ag (w6.setCells (w.1.size+1) 0 [Zg p,Zg q,C2 x f s,C2 y i V,Zg p,Zg r.F,Zg r.G,Zg r.E,C2 ta r.B tc,C2 pa r.ps pc,C2 la r.ls lc,Ze,Zb,Zb,Ze,Ze,Ze]);have Q:Aa C (w.1.size+1) [Zg p,Zg q,C2 x f s,C2 y i V,Zg p,Zg r.F,Zg r.G,Zg r.E,C2 ta r.B tc,C2 pa r.ps pc,C2 la r.ls lc,Ze,Zb,Zb,Ze,Ze,Ze]:=by rw[o];exact zK.aw _ rfl
  have t9:Tn [w.1.size+1] w6 C:=by rw[o];exact AD _ _ _ _
  have N:bs w.1.size w C:=zH.ag (t9.A zH.size Yu);have zO:Hid (AF C w.1.size (C2 x f s) (C2 y i V) (C2 ta r.B tc) (C2 pa r.ps pc) (C2 la r.ls lc) Zb Zb rs (Bq p q f i r)):=(zE.stays t9 (λg D zP=>by have:=zE.lo g zP;simp at D;omega)).ai Yv;have F:=Yw o;clear l u o zE zC zF M zB S J t9 zI G zJ A;go_wp2_with (refine wpList_store_mid rfl 34 _ _ rfl (w.1.size+1) 0 #[Zg p,Zg q,C2 x f s,C2 y i V,Zg p,Zg r.F,Zg r.G,Zg r.E,C2 ta r.B tc,C2 pa r.ps pc,C2 la r.ls lc,Ze,Zb,Zb,Ze,Ze,Ze] rfl rfl t.2 Yr t.1 ?_);rw[<-F.o]
  refine bodyPost_ret (Eh results9 _ _ (w.1.size+1) [Zg p,Zg q,C2 x f s,C2 y i V,Zg p,Zg r.F,Zg r.G,Zg r.E,C2 ta r.B tc,C2 pa r.ps pc,C2 la r.ls lc,Ze,Zb,Zb,Ze,Ze,Ze] _ rfl rfl Q.range underlying34 rfl Yr) rfl ?_;exact⟨0,Bq p q f i r,_,_,_,_,_,_,_,rs,zG,rfl,zO,N⟩
 |false=>
  rw[hlog]at zA;have I:Hid (Dp p q f i 1 v0):=dp ⟨λh=>by rw[hlog]at h;exact absurd h.2.2 Yu,rfl,rfl⟩;delta D8;go_in;go_wp2_with fail;rw[<-HW.o];refine H.Aj ?_;rintro e w1 ⟨rfl,k⟩;replace k:=k.symm;subst k;go_wp2_with fail;refine R.Aj ?_;rintro e w1 ⟨rfl,k⟩;replace k:=k.symm;subst k;go_wp2_with fail;refine zA.Aj ?_;rintro e z ⟨rfl,B⟩;have G:Hid (Aa z (w.1.size+1) Xn):=Aa.A (v:=Ze) U B;have A:Hid (Zz w z):=K.ag (B.ai K.size);clear Y Z B HX U;have l:(Xo:Array Value).all (·.oneCell')=bg:=G3;have u:z.there (w.1.size+1) 0 17:=(G.o).there;obtain⟨t,C,o⟩:=Yw (Zn l u),Ag (z.setCells (w.1.size+1) 0 Xn);have Q:Aa C (w.1.size+1) Xn:=by rw[o];exact(G.o).aw _ rfl
  have N:bs w.1.size w C:=(A.o).ag (by rw[o];exact(AD _ _ _ _).A (A.o).size Yu);have F:=Yw o;clear l u o;go_wp2_with (refine wpList_store_mid rfl 34 _ _ rfl (w.1.size+1) 0 Xo rfl rfl t.2 Yr t.1 ?_);rw[<-F.o];refine bodyPost_ret (Eh results9 _ _ (w.1.size+1) Xn _ rfl rfl Q.range underlying34 rfl Yr) rfl ?_;exact⟨1,v0,_,_,_,_,_,_,_,[],I,rfl,AF.nil _ _,N⟩
structure Ada (ss C:Zl):Prop where
 s:eh ss<=1048576
 t:eh C<=1048576
 ss:∀s∈ss,s.size<=1048576
 C:∀s∈C,s.size<=1048576
theorem Ak.ia{b c:Nat}{a:Zk}{d:Zl}(h:Ak w b (C3 a n c) d):Ab w w.1.size a d:=by have⟨g,i,e,f⟩:=h.row;cases e;exact f
theorem Kw:Dz v0:=⟨by simp[v0],by simp[v0],by simp[v0],by simp[v0],⟨by simp[v0],by simp[v0],by simp[v0],by simp[v0]⟩,⟨by simp[v0],by simp[v0]⟩⟩
theorem Hp{a b:Zl}(e:∀s∈a,s.size<=1048576)(f:∀s∈b,s.size<=1048576):eh (Ap a b k)<=1048576/\∀s∈Ap a b k,s.size<=1048576:=by
 unfold Ap;split
 .next h=>
  have c:=DQ h;rw[Am]at c;refine⟨?_,λs d=> ?_⟩
  .rw[Am,C0];omega
  rcases Bw.1 d with h|h
  .exact e s h
  exact gG
 exact gA
theorem RT{u:D4}{l:Zl}(h:eo w n 9 1 u (eh l) (l.map string)):∃a c,u=C3 a (eh l) c/\Ab w w.1.size a l/\(a=ba->eh l=0/\c=0):=by
 obtain⟨a,c,rfl,b⟩:=(Ak.own h).row;refine⟨a,c,rfl,b,λe=> ?_⟩;subst e;rcases h.2 with⟨e,_⟩|⟨g,d,f,e,_⟩
 .injection e with _ e2 e3;exact⟨e2,e3⟩
 injection e with e1;cases e1
theorem Dp.fit{m:Int}{d e:Zl}{v:Vd}(h:Dp m f d e c v)(a:Ada d e):Dz v:=by
 rcases h with⟨_,_,rfl⟩|⟨g,⟨_,_,rfl⟩|⟨r,l,_,rfl⟩⟩
 .exact Kw
 .exact Kw
 have b:=l.ok (DH g.1.1 g.1.2);obtain⟨n,o,p,i⟩:=b.bk.len,b.np,b.nl,b.cz;exact⟨a.s,a.t,a.ss,a.C,⟨by show eh r.B<=_;omega,λk j=>Dl (i k j),by show eh r.ps<=_;omega,by show eh r.ls<=_;omega⟩,⟨by simp[Bq],by simp[Bq]⟩⟩
structure Ed where
 kd:Int
 s:Zi
 nm:Zi
 R:Int
 tx:Zi
 rf:Zl
def Ed.ok(e:Ed)(wd:Int):Bool:=Cn e.kd e.s e.nm e.R e.tx e.rf wd
def Ed.cj(e:Ed)(wd:Int):Zi:=Cv e.kd e.s e.nm e.R e.tx e.rf wd
def Ed.no(e:Ed)(v:Vd)(c:Int)(a b:Zi):Prop:=GR v.wd v.F v.G v.E v.B v.ps v.ls e.kd e.s e.nm e.R e.tx e.rf c a b
def Ed.yes(e:Ed)(v:Vd)(r:Rs):Prop:=EI v.wd v.F v.G v.E v.B v.ps v.ls e.kd e.s e.nm e.R e.tx e.rf r
def Ed.ft(e:Ed)(v:Vd)(r:Rs):Bool:=bx (e.kd=1)&&bx (v.lim<Ey v.wd r.B)
def Ed.jo(e:Ed)(v:Vd)(r:Rs):Prop:=e.ft v r=bg
def Ed.held(e:Ed)(r:Rs):Zi:=if e.kd=1 then r.sm else e.s
structure Dd where
 c:Int
 v:Vd
 s:Zi
 n:Int
 a:Zi
 b:Zi
def Fv(c:Int)(v:Vd)(a b:Zi):Dd:=⟨c,v,⟨#[]⟩,0,a,b⟩
noncomputable def doV (v:Vd) (e:Ed) (r:Rs):Vd:={v with C:=v.C++[e.cj v.wd],F:=r.F,G:=r.G,E:=r.E,B:=r.B,ps:=r.ps,ls:=r.ls,H:=shQ v.I r.B v.H v.ms (e.held r)}
noncomputable def dyes (v:Vd) (e:Ed) (r:Rs):Dd:=⟨0,doV v e r,r.sm,r.le,⟨#[]⟩,⟨#[]⟩⟩
def RU(v:Vd)(e:Ed)(c:Int)(a b:Zi):Prop:=
 (e.ok v.wd=bq/\c=1/\a=⟨#[]⟩/\b=⟨#[]⟩)\/(e.ok v.wd=bg/\(e.no v c a b\/(a=⟨#[]⟩/\b=⟨#[]⟩/\∃r,e.yes v r/\((e.jo v r/\c=8)\/(¬e.jo v r/\eh v.ss+eh v.C=4000/\c=9)))))
def XB(v:Vd)(e:Ed)(r:Rs):Prop:=e.ok v.wd=bg/\e.yes v r/\¬e.jo v r/\¬eh v.ss+eh v.C=4000
def Gj(v:Vd)(e:Ed)(d:Dd):Prop:=(¬BW v/\d=Fv 1 v0 ⟨#[]⟩ ⟨#[]⟩)\/(BW v/\((∃c a b,RU v e c a b/\d=Fv c v a b)\/∃r,XB v e r/\d=dyes v e r))
theorem BZ.dx{v:Vd}{r:Rs}(h:BZ v r):Gn v.wd v.F v.G v.E v.B v.ps v.ls:=by have a:Gn v.wd r.F r.G r.E r.B r.ps r.ls:=h.run.ok (DH h.wd.1 h.wd.2);have⟨⟨_,b,c,d⟩,e,f,g⟩:=h.same;rw[b,c,d,e,f,g]at a;exact a
theorem RU.di{v:Vd}{r:Rs}(m:BZ v r){e:Ed}{a b g i:Zi}(h:RU v e c a b)(k:RU v e j g i):c=j/\a=g/\b=i:=by
 have f:=m.dx.bk.nd;rcases h with⟨d,rfl,rfl,rfl⟩|⟨d,h|⟨rfl,rfl,n,l,h⟩⟩<;>rcases k with⟨k1,rfl,rfl,rfl⟩|⟨k1,k|⟨rfl,rfl,r2,ky,k⟩⟩
 .exact gA
 .rw[d]at k1;cases k1
 .rw[d]at k1;cases k1
 .rw[d]at k1;cases k1
 .exact GR.di f h k
 .exact(GR.not f h ky).elim
 .rw[d]at k1;cases k1
 .exact(GR.not f k l).elim
 obtain rfl:=EI.di l ky;rcases h with⟨h,rfl⟩|⟨h,_,rfl⟩<;>rcases k with⟨k,rfl⟩|⟨k,_,rfl⟩
 .exact gA
 .exact gA
 .exact gA
 exact gA
theorem RU.not{v:Vd}{r:Rs}(g:BZ v r){e:Ed}{a b:Zi}(h:RU v e c a b){n:Rs}(k:XB v e n):False:=by
 obtain⟨d,f,l,m⟩:=k;rcases h with⟨i,_⟩|⟨_,h|⟨_,_,o,j,h⟩⟩
 .rw[i]at d;cases d
 .exact GR.not g.dx.bk.nd h f
 obtain rfl:=EI.di j f;rcases h with⟨h,_⟩|⟨_,h,_⟩
 .exact l h
 exact m h
theorem Gj.di{v:Vd}{e:Ed}{d g:Dd}(h:Gj v e d)(k:Gj v e g):d=g:=by
 rcases h with⟨h,rfl⟩|⟨⟨r,h⟩,i⟩<;>rcases k with⟨k,rfl⟩|⟨k,kk⟩
 .rfl
 .exact gA
 .exact absurd ⟨r,h⟩ k
 rcases i with⟨c,a,b,f,rfl⟩|⟨j,f,rfl⟩<;>rcases kk with⟨c',a',b',k1,rfl⟩|⟨r2,k1,rfl⟩
 .obtain⟨rfl,rfl,rfl⟩:=f.di h k1;rfl
 .exact(f.not h k1).elim
 .exact(k1.not h f).elim
 rw[EI.di f.2.1 k1.2.1]
theorem Ed.dv{e:Ed}(h:e.ok b=bg):(e.cj b).size<=5000:=by
 obtain⟨_,_,p⟩:=FN h;unfold Ed.cj Cv;rw[if_pos (show Cn e.kd e.s e.nm e.R e.tx e.rf b=bg from h)];show(ei (Ev e.kd.toNat e.s e.nm e.R e.tx e.rf)).size<=5000;have d:=p.sum;have f:=p.name;have g:eh (if e.kd.toNat=1 then BX e.tx e.rf else [])<=3000:=by
  split
  .next hk=>
   have a:=BC (p.fh hk);have c:=a.bn;have i:=a.i;rw[BX,length_cons,Am,DK];simp only[Array.length_toList];have j:e.tx.data.size=e.tx.size:=rfl;omega
  simp
 rw[A0];unfold Ev Di;simp only[Am,length_cons,length_nil,Array.length_toList];have a:e.s.data.size=e.s.size:=rfl;have c:e.nm.data.size=e.nm.size:=rfl;omega
theorem Gj.fit{v:Vd}{e:Ed}{d:Dd}(h:Gj v e d)(g:Dz v):Dz d.v:=by
 rcases h with⟨_,rfl⟩|⟨⟨r,j⟩,⟨c,a,b,_,rfl⟩|⟨i,m,rfl⟩⟩
 .exact Kw
 .exact g
 have l:=j.dx.step m.1 m.2.1;obtain⟨o,p,q,n⟩:=l.bk.len,l.np,l.nl,DQ j.log;rw[Am]at n;have t:=Ed.dv m.1;refine⟨g.s,?_,g.ss,?_,⟨by show eh i.B<=_;omega,λk f=>Dl (l.cz k f),by show eh i.ps<=_;omega,by show eh i.ls<=_;omega⟩,⟨?_,g.r.m⟩⟩
 .show eh (v.C++[e.cj v.wd])<=_;rw[Am,length_singleton];omega
 .intro s f;rcases Bw.1 f with f|f
  .exact g.C s f
  rw[mem_singleton]at f;subst f;omega
 show eh (shQ v.I i.B v.H v.ms (e.held i))<=_;have u:=j.round.dw.nq;unfold shQ;split
 .rw[Am,length_singleton];omega
 omega
theorem DI(g:Int)(z:Nat)(args:Array Value)(t f c a:Int)(p m j:Zk)(r q o n l k:Nat)(s u d:Zi)(i:Int)(B:Zk)(D C:Nat)(w:Zh)(V:List Nat)(Q:Zh->Ending->Zh->Prop)(S:Ending->Zh->Prop)(hk:(g=1/\z=76/\args= #[ct (Yg t f c a p r q m o n j l k),ct (Ye g s u i d B D C)])\/(g=2/\z=77/\args= #[ct (Yg t f c a p r q m o n j l k),ct (Ye g s u i d B D C)])\/(g=3/\z=78/\args= #[ct (Yg t f c a p r q m o n j l k),C4 u])\/(g=5/\z=81/\args= #[ct (Yg t f c a p r q m o n j l k),Zg i])\/(g=6/\z=82/\args= #[ct (Yg t f c a p r q m o n j l k),Zg i])\/(g=7/\z=83/\args= #[ct (Yg t f c a p r q m o n j l k),C4 s]))(h:∀b∈V,b<w.1.size)(hc:∀X,Zz w X->w.1.size+3<=X.1.size->D8 z args X (Q X))(hf:∀X e x,Q X e x->Tn V X x/\∃(Y Z c2 c3 c4:Int) (N:Zk) (P O:Nat) (J:Zk) (L K:Nat) (F:Zk) (I G:Nat) (M:Zi) (H:Int) (T U:Zi),e=C5 (ct #[Zg Y,Zg Z,Zg c2,Zg c3,Zg c4,C3 N P O,C3 J L K,C3 F I G,C4 M,Zg H,C4 T,C4 U]))(hq:∀X e x y,Zz w X->w.1.size+3<=X.1.size->Q X e x->Tn [w.1.size+2] x y->S e y):
 D8 45 #[ct (Yg t f c a p r q m o n j l k),ct (Ye g s u i d B D C)] w S:=by
 have⟨W,A⟩:=Ag (((w.alloc (ca (Yg t f c a p r q m o n j l k) 30)).alloc (ca (Ye g s u i d B D C) 91)).alloc (ca Yd 42));obtain⟨R,zC,x0⟩:=(BI A).1,(BI A).2.1,(BI A).2.2.1;have xe:Aa W (w.1.size+1) (Xz g s u i d B D C):=by have E:=Aa.new (w.alloc (ca (Yg t f c a p r q m o n j l k) 30)) (Xz g s u i d B D C) 91;rw[Ao]at E;rw[A];exact Aa.A E (Zy)
 have x1:Aa W (w.1.size+2) z12:=by have E:=Aa.new ((w.alloc (ca (Yg t f c a p r q m o n j l k) 30)).alloc (ca (Ye g s u i d B D C) 91)) z12 42;rw[Ao,Ao]at E;rw[A];exact E
 have X:=Yw (hc W R Yv);have HQ:Hid (∀e x y,Q W e x->Tn [w.1.size+2] x y->S e y):=gD;have HF:=Yw (hf W);have y:Hid (Aa W (w.1.size+2) z12):=x1;have HV:Hid (∀b∈V,b<w.1.size):=h;have x:=Yw A;obtain⟨v0,v1,v2,v3,v4,v5,v6⟩:=Aa.c7 x0 0 1 2 3 4 5 6;obtain⟨e0,e1,e2,e3,e4,e5⟩:=Aa.c6 xe 0 1 2 3 4 5;clear A x0 xe x1 hc hq hf h R;rcases hk with⟨rfl,rfl,rfl⟩|⟨rfl,rfl,rfl⟩|⟨rfl,rfl,rfl⟩|⟨rfl,rfl,rfl⟩|⟨rfl,rfl,rfl⟩|⟨rfl,rfl,rfl⟩
 all_goals
  delta D8;go_in;go_upto_region 1 with fail;rw[<-x.o];clear x;go_wp2_with fail;refine X.Aj ?_;intro e b x;obtain⟨A,Y,Z,c2,c3,c4,N,P,O,J,L,K,F,I,G,M,H,T,U,rfl⟩:=HF e b x;have R:Aa b (w.1.size+2) z12:=Aa.same y (A.block _ y.lt (λh=>Dl (HV _ h)));have⟨⟨y0,q0⟩,⟨y1,q1⟩,⟨y2,q2⟩,⟨y3,q3⟩,⟨y4,q4⟩,⟨y5,q5⟩,⟨y6,q6⟩,⟨y7,q7⟩,⟨y8,q8⟩,⟨y9,q9⟩,⟨zA,zE⟩,zB,zF⟩:=Bv R;have h:=Yw x;clear x R A v0 v1 v2 v3 v4 v5 v6 e0 e1 e2 e3 e4 e5 X HF;go_wp2;refine C1 (ct #[Zg Y,Zg Z,Zg c2,Zg c3,Zg c4,C3 N P O,C3 J L K,C3 F I G,C4 M,Zg H,C4 T,C4 U]) (by simp[results,results45,go_sem,y0,y1,y2,y3,y4,y5,y6,y7,y8,y9,zA,zB]) ?_;exact HQ _ _ _ h (BB b (w.1.size+2) _ _ _ _ _ _ _ _ _ _ _ _)
theorem OC(h c b a:Int)(o l i:Zk)(q p n m k j:Nat)(s H d:Zi)(g:Int)(I:Zk)(K J:Nat)(w:Zh)(G:Int)(Q:Zh->Ending->Zh->Prop)(Q':Ending->Zh->Prop)(t:∀X,Zz w X->D8 79 #[ct (Yg h c b a o q p l n m i k j),C4 s] X λe f=>e=C5 (Zg G)/\Zz X f)(r:0<=G->∀X,Zz w X->w.1.size+3<=X.1.size->D8 46 #[ct (Yg h c b a o q p l n m i k j)] X λe f=>(∃D F E A C B x z y,e=C5 (ct (Yg h c b a D F E A C B x z y))/\∀Y,Zz f Y->D8 80 #[ct (Yg h c b a D F E A C B x z y),C4 s,Zg g] Y (Q X))/\Zz X f)(O:∀X e f,Zz w X->Q X e f->Zz X f/\∃(c0 c1 c2 c3 c4:Int) (D:Zk) (F E:Nat) (A:Zk) (C B:Nat) (x:Zk) (z y:Nat) (S:Zi) (R:Int) (a' b':Zi),e=C5 (ct #[Zg c0,Zg c1,Zg c2,Zg c3,Zg c4,C3 D F E,C3 A C B,C3 x z y,C4 S,Zg R,C4 a',C4 b']))(u:G<0->∀f,Zz w f->Q' (.returned (ct (ei (Cr 2 ⟨#[]⟩ ⟨#[]⟩)))) f)(P:0<=G->∀X e f L,Zz w X->w.1.size+3<=X.1.size->Q X e f->Tn [w.1.size+2] f L->Q' e L):
 D8 45 #[ct (Yg h c b a o q p l n m i k j),ct (Ye 4 s H g d I K J)] w Q':=by
 have⟨W,f⟩:=Ag (((w.alloc (ca (Yg h c b a o q p l n m i k j) 30)).alloc (ca (Ye 4 s H g d I K J) 91)).alloc (ca Yd 42));obtain⟨M,zO,x0⟩:=(BI f).1,(BI f).2.1,(BI f).2.2.1;have xe:Aa W (w.1.size+1) (Xz 4 s H g d I K J):=by have N:=Aa.new (w.alloc (ca (Yg h c b a o q p l n m i k j) 30)) (Xz 4 s H g d I K J) 91;rw[Ao]at N;rw[f];exact Aa.A N (Zy)
 have x1:Aa W (w.1.size+2) z12:=by have N:=Aa.new ((w.alloc (ca (Yg h c b a o q p l n m i k j) 30)).alloc (ca (Ye 4 s H g d I K J) 91)) z12 42;rw[Ao,Ao]at N;rw[f];exact N
 have zE:=Yw (t W M);have L:Hid (∀X,Zz W X->Aa X w.1.size (Yh h c b a o q p l n m i k j)/\Aa X (w.1.size+1) (Xz 4 s H g d I K J)/\Aa X (w.1.size+2) z12/\Zz w X):=gD;obtain⟨HW,zC,HF,zG,HQ⟩:=Yw f,Yw r,Yw O,Yw u,Yw P;obtain⟨v0,v1,v2,v3,v4,v5,v6⟩:=Aa.c7 x0 0 1 2 3 4 5 6;obtain⟨e0,e1,e2,e3,e4,e5⟩:=Aa.c6 xe 0 1 2 3 4 5;clear f x0 xe x1 t r O u P M;delta D8;go_in;go_upto_region 1 with fail;rw[<-HW.o];go_wp2_with fail;refine zE.Aj ?_;rintro e r ⟨rfl,zJ⟩;have O:Hid (Zz W r):=zJ;have⟨x0,xe,x1,zK⟩:=L r O;by_cases hneg:G<0
 .obtain⟨⟨y0,q0⟩,⟨y1,q1⟩,⟨y2,q2⟩,⟨y3,q3⟩,⟨y4,q4⟩,⟨y5,q5⟩,⟨y6,q6⟩,⟨y7,q7⟩,⟨y8,q8⟩,⟨y9,q9⟩,⟨T,zM⟩,U,zN⟩:=Bv x1;have Z:=Yw zK;go_wp2;refine C1 (ct (ei (Cr 2 ⟨#[]⟩ ⟨#[]⟩))) (by simp[results,results45,go_sem,y0,y1,y2,y3,y4,y5,y6,y7,y8,y9,T,U,Cr]) ?_;exact zG hneg _ (Z.ag (Tn.A (BB r (w.1.size+2) _ _ _ _ _ _ _ _ _ _ _ _) Z.size gA))
 have h0:0<=G:=Yv;have D1:bs r.1.size r r.drew:=gB;have bd:=O.ag (D1.ai O.size);have t:=(L _ bd).2.2.2;have zA:w.1.size+3<=r.drew.1.size:=gB;have zB:=Yw (zC h0 r.drew t zA);have u:=Yw bd;have HS:Hid (∀X,Zz W X->ek X (Zd (w.1.size) 0)=an (Zg h)/\ek X (Zd (w.1.size) 1)=an (Zg c)/\ek X (Zd (w.1.size) 2)=an (Zg b)/\ek X (Zd (w.1.size) 3)=an (Zg a)/\ek X (Zd (w.1.size) 4)=an (C3 o q p)/\ek X (Zd (w.1.size) 5)=an (C3 l n m)/\ek X (Zd (w.1.size) 6)=an (C3 i k j)/\ek X (Zd (w.1.size+1) 1)=an (C4 s)/\ek X (Zd (w.1.size+1) 3)=an (Zg g)):=λX P=>by
  have⟨f,M,_⟩:=L X P;exact⟨(f 0 _ rfl).1,(f 1 _ rfl).1,(f 2 _ rfl).1,(f 3 _ rfl).1,(f 4 _ rfl).1,(f 5 _ rfl).1,(f 6 _ rfl).1,(M 1 _ rfl).1,(M 3 _ rfl).1⟩
 have zI:Hid (∀X Y,Zz W X->Tn [w.1.size+1+1] X Y->ek Y (Zd (w.1.size) 0)=an (Zg h)/\ek Y (Zd (w.1.size) 1)=an (Zg c)/\ek Y (Zd (w.1.size) 2)=an (Zg b)/\ek Y (Zd (w.1.size) 3)=an (Zg a)/\ek Y (Zd (w.1.size) 4)=an (C3 o q p)/\ek Y (Zd (w.1.size) 5)=an (C3 l n m)/\ek Y (Zd (w.1.size) 6)=an (C3 i k j)/\ek Y (Zd (w.1.size+1) 1)=an (C4 s)/\ek Y (Zd (w.1.size+1) 3)=an (Zg g)):=λX Y P V=>by
  have⟨z0,z1,_⟩:=L X P;have f:=Aa.same z0 (V.block _ z0.lt Yt);have M:=Aa.same z1 (V.block _ z1.lt Yu);exact⟨(f 0 _ rfl).1,(f 1 _ rfl).1,(f 2 _ rfl).1,(f 3 _ rfl).1,(f 4 _ rfl).1,(f 5 _ rfl).1,(f 6 _ rfl).1,(M 1 _ rfl).1,(M 3 _ rfl).1⟩
 have Y:=hneg;go_upto_region 11 with fail;go_region_held3 (λX=>ek X (Zd (w.1.size) 0)=an (Zg h)/\ek X (Zd (w.1.size) 1)=an (Zg c)/\ek X (Zd (w.1.size) 2)=an (Zg b)/\ek X (Zd (w.1.size) 3)=an (Zg a)/\ek X (Zd (w.1.size) 4)=an (C3 o q p)/\ek X (Zd (w.1.size) 5)=an (C3 l n m)/\ek X (Zd (w.1.size) 6)=an (C3 i k j)/\ek X (Zd (w.1.size+1) 1)=an (C4 s)/\ek X (Zd (w.1.size+1) 3)=an (Zg g))
  (first|with_reducible exact HS.o _ u.o|with_reducible exact HS.o _ B2|with_reducible exact HS.o _ X|with_reducible exact zI.o _ _ X (BB _ _ _ _ _ _ _ _ _ _ _ _ _ _))
  (first
    |(go_at_call 46;refine zB.Aj ?_;rintro e w2 ⟨⟨D,F,E,A,C,B,x,z,y,rfl,V⟩,P⟩;have B2:bs W.1.size W w2:=u.ag (P.ai u.size);have zF:=Yw (V w2 Ae);clear V P)
    |(go_at_call 80;refine zF.Aj ?_;intro e V P;obtain⟨hb3,c0,c1,c2,c3,c4,ua',un',uc',va',vn',vc',xa',xn',xc',S,R,a',b',rfl⟩:=HF r.drew e V t P;have X:bs W.1.size W V:=u.ag (hb3.ai u.size);have zH:=Yw P;have⟨_,_,zz1,_⟩:=L V X;have⟨⟨y0,q0⟩,⟨y1,q1⟩,⟨y2,q2⟩,⟨y3,q3⟩,⟨y4,q4⟩,⟨y5,q5⟩,⟨y6,q6⟩,⟨y7,q7⟩,⟨y8,q8⟩,⟨y9,q9⟩,⟨T,zM⟩,U,zN⟩:=Bv zz1;clear P hb3 zz1))
 go_wp2;refine C1 (ct #[Zg c0,Zg c1,Zg c2,Zg c3,Zg c4,C3 ua' un' uc',C3 va' vn' vc',C3 xa' xn' xc',C4 S,Zg R,C4 a',C4 b']) (by simp[results,results45,go_sem,y0,y1,y2,y3,y4,y5,y6,y7,y8,y9,T,U]) ?_;exact HQ h0 r.drew _ _ _ t zA zH (BB V (w.1.size+2) _ _ _ _ _ _ _ _ _ _ _ _)
def AU:Zj:=[Ze,Ze,Zb,Zb,Ze,Ze,Ze,Ze,Zb,Zb,Zb,Ze,Zb,Zb,Ze,Ze,Ze]
