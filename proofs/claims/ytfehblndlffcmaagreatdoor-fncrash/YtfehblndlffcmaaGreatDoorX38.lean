import Derived.Test.YtfehblndlffcmaaGreatDoorX17
import Derived.Test.YtfehblndlffcmaaGreatDoorX18
import Derived.Deep.CutBlock
set_option maxRecDepth 100000
set_option maxHeartbeats 16000000
open Option renaming some->an,none->ba
open Bool renaming true->bg,false->bq
open Go.RowKit renaming Below->bs
open Go.Obj renaming cells->ca
open Go.Value renaming slice->cr,agg->ct,ownBlock->ej
open Or renaming inl->dp,inr->eb
open Go.Ground renaming data->ed
open List renaming length->eh,toArray->ei
open Go.World renaming cell?->ek,frozen?->el,ownsRow->eo,grownBy->ep,setCell->ev
open Go renaming maxLen->ew
namespace Go.Proofs.YtfehblndlffcmaaGreatDoor
open ChangeShapes WideShapes ChangeAt RowKit _root_.Go.Proofs.Tryz List World Value
variable{w X Y:Zh}{c a b g n m q size:Nat}{d f l e j u K:Int}{v:Vd}{o:An}{k:Db}{s:Zi}{r:Rs}{i:Da}{V:List Nat}{U T P L Q M:Value}{z:Kd×Value}
theorem KA(s:Zi)(a:Int)(w:Zh)(d:s.size<=100000):D8 64 #[C4 s,Zg a] w λe b=>∃t,e=C5 (C4 t)/\t.size<=8/\Zz w b:=by
 by_cases h:1<=a/\a<=8
 .refine(Jh s a w Yo h.1 h.2).ai ?_;rintro e b ⟨rfl,c⟩;exact⟨_,rfl,by rw[Ks];omega,c⟩
 refine(YT s a w Yv).ai ?_;rintro e b ⟨rfl,rfl⟩;exact⟨_,rfl,Yq,Ae⟩
theorem LH(a:Int)(n:Nat)(h:0<=a):a.tmod (n:Int)=((a.toNat%n:Nat):Int):=by
 rw[Int.tmod_eq_emod_of_nonneg h];have:a=(a.toNat:Int):=Yv;rw[this];simp
theorem MI(u C j D:Int)(E z:Zi)(o n g d:Int){a:Zk}(p l:Zk)(q B A y v:Nat){c:List Kd}{w:Zh}(K:Br w w.1.size a c)(H:0<=j)(_:j<=1000)(O:eh c<=1048576):
 D8 105 #[ct #[.int .i64 u,.string E,.int .i64 C,.string z,.int .i64 j,.int .i64 D],ct #[.int .i64 o,.int .i64 n,.int .i64 g,.int .i64 d,cr a (eh c) q,cr p B A,cr l y v]] w λe f=>∃s,e=.returned (.string s)/\((∀k∈c,k.sum.size<=8)->s.size<=8)/\Zz w f:=by
 have f:bs w.1.size w ((w.alloc (ca #[.int .i64 u,.string E,.int .i64 C,.string z,.int .i64 j,.int .i64 D] 133)).alloc (ca #[.int .i64 o,.int .i64 n,.int .i64 g,.int .i64 d,cr a (eh c) q,cr p B A,cr l y v] 30)):=gB;delta D8;go_in;by_cases hz:eh c=0
 .have F:((eh c:Int)==0)=bg:=gA;clear hz;go_wp2_with fail;refine(KA _ o _ H9).ai ?_;rintro e Q ⟨t,rfl,L,r⟩;go_wp2;go_ret;exact⟨t,rfl,λ_=>L,f.ag (r.ai f.size)⟩
 have F:((eh c:Int)==0)=bq:=gA;have P:=LH j (eh c) H;have m:j.toNat%eh c<eh c:=Nat.mod_lt _ D9;obtain⟨b,M,rfl,r,I⟩:=K.at m;generalize j.toNat%eh c=i at *
 have J:=Zv m;obtain⟨N,_⟩:=I i _ J;have G:Hid (c[i]∈c):=gH;generalize c[i]=x at *
 go_wp2;go_quiet (fail);go_wp2;go_ret;exact⟨x.sum,rfl,λh=>h x G,⟨f.os,f.tape,f.output,f.size,f.block⟩⟩
theorem Qp(s z h B:Int)(C u:Zi)(A k f c:Int)(a p:Zk){l:Zk}(o m y v t:Nat){d:Da}(F:AR w w.1.size l d)(E:0<=h)(I:h<=1000)(K:eh d<=1048576):
 D8 109 #[ct #[Zg s,C4 C,Zg z,C4 u,Zg h,Zg B],ct (Yg A k f c a o m p y v l (eh d) t)] w λe g=>∃n,e=C5 (Zg n)/\Zz w g:=by
 have g:bs w.1.size w ((w.alloc (ca #[Zg s,C4 C,Zg z,C4 u,Zg h,Zg B] 133)).alloc (ca (Yg A k f c a o m p y v l (eh d) t) 30)):=gB;delta D8;go_in;by_cases hz:eh d=0
 .have D:((eh d:Int)==0)=bg:=gA;clear hz;go_wp2;go_ret;exact⟨_,rfl,g⟩
 have D:((eh d:Int)==0)=bq:=gA;have L:=LH h (eh d) E;have j:h.toNat%eh d<eh d:=Nat.mod_lt _ Yv;clear hz;obtain⟨b,G,rfl,J,q⟩:=F.at j;generalize h.toNat%eh d=i at *
 have r:=Zv j;obtain⟨H,_⟩:=q i _ r;generalize d[i]=x at *
 clear q r;go_wp2;go_quiet (fail);go_wp2;go_ret;exact⟨x.R,rfl,⟨g.os,g.tape,g.output,g.size,g.block⟩⟩
theorem VA{b:Zh}{a:Zl}{u1 u2 u3:D4}(d:Zz w b)(e:eo b n 9 1 (Yz g (eh a) c) (eh a) (a.map string))(f:w.1.size+4<=n):
 eo (ev (ev (ev b (Zd (w.1.size+1+1+1) 1) u1) (Zd (w.1.size+1+1) 0) u2) (Zd (w.1.size+1+1) 1) u3) w.1.size 9 1 (Yz g (eh a) c) (eh a) (a.map string)/\Zz w (ev (ev (ev b (Zd (w.1.size+1+1+1) 1) u1) (Zd (w.1.size+1+1) 0) u2) (Zd (w.1.size+1+1) 1) u3):=by
 have t:Tn [w.1.size+1+1+1,w.1.size+1+1] b (ev (ev (ev b (Zd (w.1.size+1+1+1) 1) u1) (Zd (w.1.size+1+1) 0) u2) (Zd (w.1.size+1+1) 1) u3):=((Tn.set _ _ _ _ Yu).ag (Tn.set _ _ _ _ Yu)).ag (Tn.set _ _ _ _ Yu);exact⟨(Dw e t Yt).ai Yv,d.ag (t.A d.size Yt)⟩
theorem Qq(P r q Y:Int)(t S:Zi)(V C n m:Int){a:Zk}(p l:Zk)(N U T R Q:Nat){f:C9}{w:Zh}(F:Br w w.1.size a f)(h0:0<=q)(h1:q<=1000)(zJ:0<=r)(zK:r<=1000)(hl:eh f<=1048576):
 D8 103 #[ct #[Zg P,C4 t,Zg r,C4 S,Zg q,Zg Y],ct #[Zg V,Zg C,Zg n,Zg m,C3 a (eh f) N,C3 p U T,C3 l R Q]] w λe o=>∃(g c:Nat) (d:Zl),e=C5 (ct #[C4 t,C3 (an ⟨g,0,ba⟩) (eh d) c])/\eo o w.1.size 9 1 (C3 (an ⟨g,0,ba⟩) (eh d) c) (eh d) (d.map string)/\eh d<=4/\((eh d:Int)<=r/2/\∀s∈d,∃k∈f,k.sum=s)/\Zz w o:=by
 obtain⟨⟨i0,hi,zB,zC,zE⟩,W,o⟩:=info_parts Ck,Ag ((((w.alloc (ca #[Zg P,C4 t,Zg r,C4 S,Zg q,Zg Y] 133)).alloc (ca #[Zg V,Zg C,Zg n,Zg m,C3 a (eh f) N,C3 p U T,C3 l R Q] 30)).alloc (ca #[Zc,Zb] 76)).alloc (ca #[C4 t,Zb] 76));have⟨bW,A,D,G,E,H⟩:=al4 o;have B:Hid (∀X,Zz W X->Aa X w.1.size [Zg P,C4 t,Zg r,C4 S,Zg q,Zg Y]/\Aa X (w.1.size+1) [Zg V,Zg C,Zg n,Zg m,C3 a (eh f) N,C3 p U T,C3 l R Q]/\Aa X (w.1.size+1+1) [Zc,Zb]/\Aa X (w.1.size+1+1+1) [C4 t,Zb]/\Zz w X):=gD;have M:Hid (W.1.size=w.1.size+4):=A;have z:eo (W.alloc (ca #[] 9)) W.1.size 9 1 (C3 (an ⟨W.1.size,0,ba⟩) 0 0) 0 (([]:Zl).map string):=ownsRow_lit W #[] 0 D9 J5 rfl;have L:Hid (eo (W.alloc (ca #[] 9)) W.1.size 9 1 (C3 (an ⟨W.1.size,0,ba⟩) (eh ([]:Zl)) 0) (eh ([]:Zl)) (([]:Zl).map string)):=z;have y:Hid _:=o;clear o D G E H A z;delta D8;go_in;go_upto_region 2 with fail;rw[<-y.o];clear y;obtain⟨Z,_⟩:=(B (W.alloc (ca #[] 9)) (Zy)).2.1 4 _ rfl;go_upto_region 3 with fail;by_cases hz:eh f=0
 case' neg=>
  have K:0<eh f:=D9;clear hz;go_wp2;go_loopw [6,7] (λy k wr=>∃(j g c:Nat) (d:Zl),k=Zg j/\((j:Int)<=r/2/\j<=4)/\y=C3 (an ⟨g,0,ba⟩) (eh d) c/\eh d=j/\Hid (eo wr W.1.size 9 1 (C3 (an ⟨g,0,ba⟩) (eh d) c) (eh d) (d.map string)/\Zz W wr/\∀s∈d,∃k∈f,k.sum=s)) (λ_ k _=>4 -(intOf k).toNat)
  case atStart=>exact⟨0,W.1.size,0,[],rfl,by omega,rfl,rfl,L,Zy,by simp⟩
  case' round=>
   obtain⟨j,g,c,d,rfl,hj,rfl,rfl,A⟩:=hrel;have o:=(B wr A.2.1);obtain⟨z2,_⟩:=o.1 2 _ rfl;by_cases hc1:(eh d:Int)<r/2
   case' pos=>
    by_cases hc2:eh d<4
    case' pos=>
     have zG:eh d<=3:=D9;have zI:¬eh f=0:=D9;have zH:((eh f:Int)==0)=bq:=gA;have hm:=LH (q+5 *(eh d:Int)) (eh f) D9;have I:(q+5 *(eh d:Int)).toNat%eh f<eh f:=Nat.mod_lt _ K;have e1:IntKind.i64.wrap (5 *(eh d:Int))=5 *(eh d:Int):=Cl D9 D9;have e2:IntKind.i64.wrap (q+5 *(eh d:Int))=q+5 *(eh d:Int):=Cl D9 D9;obtain⟨b,zM,rfl,hb,z⟩:=(Br.A F o.2.2.2.2).at I;have zF:b<wr.1.size:=gB;generalize (q+5 *(eh d:Int)).toNat%eh f=i at *
     have D:=Zv I;obtain⟨X,_⟩:=z i _ D;have J:Hid (f[i]∈f):=gH;generalize f[i]=x at *
     obtain⟨⟨Z,_⟩,⟨z4,_⟩,E⟩:=o.2.1 4 _ rfl,o.1 4 _ rfl,A.1;have zA:=E.lt g rfl;have y:Hid (eo wr W.1.size 9 1 (C3 (an ⟨g,0,ba⟩) (eh d) c) (eh d) (d.map string)/\Zz W wr/\∀s∈d,∃k∈f,k.sum=s):=A;clear z D o E A F;go_upto_region 7 with fail
     go_region_law (first
      |(refine step_append_lies (wr.drew.alloc (ca #[C4 x.sum] 9)) F1 (.tmp 27) (.tmp 42) 23 F1 W.1.size 9 i0 Zc 1 16 underlying23 hi zB zC zE rfl H9 (C3 (an ⟨g,0,ba⟩) (eh d) c) (eh d) (d.map string) F1 (by exact y.1.alloc _) ⟨wr.1.size,0,ba⟩ 1 1 [C4 x.sum] F1 rfl (by exact cell_one_new wr.drew _ 9) (λu z=>by simp at z;subst z;rfl) D9 J5 D9 E8 _ rfl ?_;intro u z w4 H G D E))
     all_goals
      have HN:Hid (eo w4 W.1.size 9 1 (C3 (an ⟨u,0,ba⟩) (eh (d++[x.sum])) z) (eh (d++[x.sum])) ((d++[x.sum]).map string)/\Zz W w4/\∀s∈d++[x.sum],∃k∈f,k.sum=s):=by
       refine⟨D2 H,((y.2.1.drew.alloc y.2.1.size _).grown G E8 (λk F=>by cases F;exact zA.1)),λs O=> ?_⟩;rcases Bw.1 O with h|h
       .exact y.2.2 s h
       exact⟨x,J,(mem_singleton.1 h).symm⟩
      clear H G D E y B M L J X Z z4 z2 hm e1 e2;go_wp2;exact⟨⟨eh d+1,u,z,d++[x.sum],by go_num,by omega,by simp,by simp,HN⟩,by simp[intOf];omega⟩
   all_goals
    clear o;have o:Hid (Zz W wr/\∀s∈d,∃k∈f,k.sum=s):=gD;go_wp2_with fail;refine(Mk c (Ab.own A.1) D9).ai ?_;clear A
 case' pos=>
  have K:¬0<eh f:=D9;have hj:((eh ([]:Zl):Nat):Int)<=r/2/\eh ([]:Zl)<=4:=E8;have o:Hid (Zz W (W.alloc (ca #[] 9))/\∀s∈([]:Zl),∃k∈f,k.sum=s):=gD;clear hz;go_wp2_with fail;refine(Mk 0 (Ab.own L) E7).ai ?_;generalize ([]:Zl)=d at *
  generalize W.alloc (ca #[] 9)=wr at *
 all_goals
  rintro e X ⟨E,D,rfl,J,H⟩;have A:=o.1.ag (H.ai o.1.size);have Z:Hid _:=VA (u1:=C3 (an ⟨E,0,ba⟩) (eh (Cy d)) D) (u2:=C4 t) (u3:=C3 (an ⟨E,0,ba⟩) (eh (Cy d)) D) (B X A).2.2.2.2 J (by have:=M.o;have:=o.1.size;omega);have G:Hid (eh (Cy d)<=4/\((eh (Cy d):Int)<=r/2/\∀s∈Cy d,∃k∈f,k.sum=s)):=by have:=Kp d;exact⟨by omega,by omega,λs O=>o.2 s (UM O)⟩
  have y:Hid _:=B X A;obtain⟨⟨⟨r0,_⟩,O,_⟩,⟨k,_⟩,s,_⟩:=Zn (y.2.2.1 0 _ rfl) (y.2.2.1 1 _ rfl),Zn (y.2.2.2.1 0 _ rfl) (y.2.2.2.1 1 _ rfl);clear B M y o A H J;go_wp2;exact C1 (ct #[C4 t,C3 (an ⟨E,0,ba⟩) (eh (Cy d)) D]) (by simp[results,results103,go_sem,r0,O]) ⟨E,D,_,rfl,Z.1,G.1,G.2,Z.2⟩
theorem Adi{e:TypeId}{v:D4}{c:Zj}(h:eo w b e size v n c)(k:∀g,ej v=an g->a<=g):eo w a e size v n c:=by
 refine⟨h.1,?_⟩;rcases h.2 with i|⟨g,d,f,rfl,_,j⟩
 .exact dp i
 exact eb ⟨g,d,f,rfl,k g rfl,j⟩
structure Ow (X:Zh) (base q:Nat) (e:TypeId) (size:Nat) (v:Value) (n:Nat) (xs:Zj):Prop where
 o:eo X base e size v n xs
 q:ej v≠an q
theorem Ow.S{e:TypeId}{v:D4}{i:Zj}(h:Ow X a q e size v n i)(o:Tn V X Y)(m:∀g∈V,g<a\/g=q\/X.1.size<=g\/∃d f,f≠e/\X.1[g]?=an (ca d f)):Ow Y a q e size v n i:=
 ⟨Ar h.o (λg c=>o.block g (Ac h.o c).2 (λj=>by
  have p:=Ac h.o c;rcases m g j with b|b|b|⟨d,f,k,b⟩
  .omega
  .exact h.q (b▸c)
  .omega
  obtain⟨j,l⟩:=BL h.o c;rw[l]at b;cases b;exact k rfl)),h.q⟩
structure Cz (X:Zh) (base q:Nat) (T P L:Value) (zs:List (Kd×Value)) (ps:List Pd) (ls:List Ld):Prop where
 t:Ow X base q 78 4 T (eh zs) (Ad kC zs)
 r:∀z∈zs,Ow X base q 9 1 z.2 (eh z.1.D) (z.1.D.map Value.string)
 p:Ow X base q 81 2 P (eh ps) (Ad pC ps)
 l:Ow X base q 83 3 L (eh ls) (Ad lC ls)
 w:Vu (zs.map (·.1)) ps ls
theorem Cz.S{j:List (Kd×Value)}{i:Db}{d:Da}(h:Cz X a q T P L j i d)(b:Tn V X Y)(l:∀g∈V,g<a\/g=q\/X.1.size<=g):Cz Y a q T P L j i d:=
 have f:∀{e:TypeId},∀g∈V,g<a\/g=q\/X.1.size<=g\/∃k c,c≠e/\X.1[g]?=an (ca k c):=λg c=>by
  rcases l g c with h|h|h
  .exact dp h
  .omega
  omega
 ⟨h.t.S b f,λz c=>(h.r z c).S b f,h.p.S b f,h.l.S b f,h.w⟩
theorem Cz.A{base:Nat}{c:List (Kd×Value)}{b:Db}{a:Da}(h:Cz X base q T P L c b a)(d:Zz X Y):Cz Y base q T P L c b a:=h.S (V:=[]) (Tn.of d) Yu
theorem Cz.sdc{f:Nat}{m:List (Kd×Value)}{p:Db}{o:Da}(h:Cz X f q T P L m p o)(s j b a:Int):SDc X [Zg s,Zg j,Zg b,Zg a,T,P,L]:=by
 obtain⟨B,C,rfl⟩:=Au h.t.o;obtain⟨w,x,rfl⟩:=Au h.p.o;obtain⟨u,v,rfl⟩:=Au h.l.o;refine⟨s,j,b,a,B,C,w,x,u,v,m.map (·.1),p,o,by rw[B0],⟨XN h.t.o (λz d=> ?_),AS.own h.p.o,AR.own h.l.o⟩,h.w,λA l i k t r n=> ?_,DF h.p.o,DF h.l.o⟩
 .have c:=(h.r z d).o;have⟨y,r,e⟩:=Au c;rw[e]at c;exact⟨y,r,e,Qn c⟩
 obtain⟨z,d,rfl⟩:∃z,m[i]?=an z/\z.1=k:=D2 t;have E:=(Zw d).1;rcases h.t.o.2 with⟨e,_⟩|⟨g,t,D,e,_⟩
 .injection e with e1;rw[l]at e1;cases e1
 cases e;cases l;have c:=h.t.o.cellAt (i *4+3) Yv;rw[BU CB d Yq]at c;have l:an z.2=an _:=(c.symm.ag (D2 n));injection l with l;have n:=(h.r z (Zs d)).o;rw[l]at n;exact DF n rfl
theorem Be.kb{o:Nat}{c:Zj}{d:C9}{l:Db}{k:Da}(h:Be X o T P L c d l k)(m:∀g∈BP T P L c,b<=g/\g≠q)(w:Vu d l k):Cz X b q T P L (d.zip c) l k:=by
 have u:(d.zip c).map (·.1)=d:=map_fst_zip (by rw[h.len];exact Zx);have t:eh (d.zip c)=eh d:=gG;have j:∀{e:TypeId} {s:Nat} {v:D4} {n:Nat} {xs:Zj},eo X o e s v n xs->(∀g,ej v=an g->g∈BP T P L c)->Ow X b q e s v n xs:=λf a=>
  ⟨Adi f (λg f=>(m g (a g f)).1),λf=>(m q (a q f)).2 rfl⟩
 have a:∀v∈T::P::L::c,∀g,ej v=an g->g∈BP T P L c:=λv a g f=>by rw[<-FG];exact mem_filterMap.2 ⟨v,a,f⟩
 refine⟨by rw[t];exact j h.ak (a T Yu),λz f=> ?_,j h.pins (a P Yu),j h.ax (a L Yu),by rw[u];exact w⟩;have⟨i,p⟩:=A9 f;have⟨r,f⟩:=getElem?_zip_eq_some.1 p;exact j (h.D i z.1 z.2 r f) (a z.2 (by simp[Zs f]))
theorem MnP.kb{c:Zh}{e:Ending}(h:MnP w n e c)(x:n<=1000)(y:q<w.1.size+2):∃g i d,e=C5 (ct #[Zg 8,Ze,Ze,Zg n,C3 g (eh d) i,Zb,Zb])/\Cz c (w.1.size+2) q (C3 g (eh d) i) Zb Zb d [] []/\Zz w c:=by
 obtain⟨T,d,rfl,b,a,u,l⟩:=h.ex;obtain⟨g,i,rfl⟩:=Au b;have f:∀{e:TypeId} {s:Nat} {v:D4} {n:Nat} {xs:Zj},eo c (w.1.size+2) e s v n xs->Ow c (w.1.size+2) q e s v n xs:=λb=>⟨b,λj=>Dl (Ac b j).1⟩;refine⟨g,i,d,rfl,⟨f b,λz j=>f (a z j).row,f (ownsRow_nil _ _ _ _),f (ownsRow_nil _ _ _ _),⟨λk o=> ?_,by rw[B0];omega,Yu,Aq _,Yu,Aq _⟩⟩,l⟩;obtain⟨z,j,rfl⟩:=mem_map.1 o;have a:=a z j;obtain⟨p,r,t⟩:=a.sm,a.tx,a.rl;have m:(1048576:Nat)<=ew:=Yo;exact⟨Yv,Yv,Yv,λs o=>Dl (a.rs s o),Aaz a.bo.1 (Dl a.bo.2)⟩
theorem Afj{A:Type}{c:A->Zj}{d bytes:Nat}{m e:TypeId}{k:TypeInfo}{p:D4}(hlen:∀x,eh (c x)=d)(K:prog.underlying m=an (.slice e))(H:prog.info? e=an k)(y:k.zero=an p)(z:k.size=d)(B:k.bytes=bytes)(C:p.cells.size=d)(t:0<d)(r:bytes<=64)(w:Zh)(a:Nat)(v:D4)(b:List A)(x:A)(I:eo w a e d v (eh b) (Ad c b))(q:Nat)(G:Aa w q (c x))(D:∀u∈c x,u.oneCell'=bg)(M:eh b<=1000000)(h:a<=w.1.size)(o:TypeId):
 ∃g f l,(Builtin.append_ #[m,m] o #[v,Yz q 1 1]).run prog w=.ok (Yz g (eh b+1) f) l/\eo l a e d (Yz g (eh b+1) f) (eh (b++[x])) (Ad c (b++[x]))/\ep w l (ej v)/\(ej v=an g\/g=w.1.size):=by
 have s:Ad c [x]=c x:=by simp[Ad]
 obtain⟨N,l,J,n,E,F,i⟩:=run_append_own_at (P:=prog) w a m o e k _ d bytes K H y z B C t v (eh b) (Ad c b) I ⟨q,0,ba⟩ 1 1 (c x) gA (λj u L=>by rw[A7,Ay];exact(G j u L).1) D Yo (Zm (Nat.mul_le_mul_left _ r) Yv) h;obtain⟨g,f,rfl,_,_⟩:=BK n (λe=>Dl (F.1 e).2);refine⟨g,f,l,J,by rw[Fp,s,Am];exact n,E,?_⟩;rcases i with i|i
 .exact dp i.symm
 exact eb (by simpa [ownBlock]using i)
theorem Adj(a:Nat)(v:D4)(b:Db)(x:Pd)(m:eo w a 81 2 v (eh b) (Ad pC b))(j:Aa w q [C4 x.name,C4 x.sum])(l:eh b<=1000000)(d:a<=w.1.size)(h:TypeId):
 ∃g e f,(Builtin.append_ #[27,27] h #[v,Yz q 1 1]).run prog w=.ok (Yz g (eh b+1) e) f/\eo f a 81 2 (Yz g (eh b+1) e) (eh (b++[x])) (Ad pC (b++[x]))/\ep w f (ej v)/\(ej v=an g\/g=w.1.size):=by
 have⟨n,k,e,f,i⟩:=info_parts Hq;exact Afj (c:=pC) EC underlying27 k e f i rfl Yq Yq w a v b x m q j (by simp[pC,oneCell']) l d h
theorem Qr:∀{zs:List (Kd×Value)} {i:Nat} {z:Kd×Value},zs[i]?=an z->∀(t:Zi) (ss:Zl) (rv:D4),((Ad kC zs).set (i *4+2) (C4 t)).set (i *4+3) rv=Ad kC (zs.set i (⟨z.1.sum,z.1.born,t,ss⟩,rv))
 |[],i,_,h,_,_,_=>by simp at h
 |z::zs,0,x,h,t,ss,rv=>by simp at h;subst h;simp[Ad,kC]
 |z::zs,i+1,x,h,t,ss,rv=>by
  have b:zs[i]?=an x:=D2 h;have c:=Qr b t ss rv;have e:Ad kC (z::zs)=kC z++Ad kC zs:=by simp[Ad]
  have a:Ad kC ((z::zs).set (i+1) (⟨x.1.sum,x.1.born,t,ss⟩,rv))=kC z++Ad kC (zs.set i (⟨x.1.sum,x.1.born,t,ss⟩,rv)):=by simp[Ad]
  rw[e,a,<-c,show(i+1) *4+2=eh (kC z)+(i *4+2) by rw[CB];omega,show(i+1) *4+3=eh (kC z)+(i *4+3) by rw[CB];omega];rw[set_append_right _ _ Yv,Nat.add_sub_cancel_left,set_append_right _ _ Yv,Nat.add_sub_cancel_left]
theorem Abb{A:Type}{l:List A}{i:Nat}{x y:A}(h:y∈l.set i x):y∈l\/y=x:=by
 rcases mem_or_eq_of_mem_set h with h|h
 .exact dp h
 exact eb h
theorem Ow.other{e d:TypeId}{v f:D4}{r:Nat}{i l:Zj}(h:Ow X a q e size v n i)(m:Ow X a q d c f r l)(k:d≠e)(p:Tn (ej f).toList X Y):Ow Y a q e size v n i:=
 h.S p (λb j=>by
  obtain⟨j,o⟩:=BL m.o (g:=b) gA;exact eb (eb (eb ⟨j,_,k,o⟩)))
theorem Cz.ak{T':D4}{g c:List (Kd×Value)}{f:Db}{e:Da}(h:Cz X a q T P L g f e)(hT:Tn (ej T).toList X Y)(i:Ow Y a q 78 4 T' (eh c) (Ad kC c))(d:∀z∈c,z∈g\/Ow X a q 9 1 z.2 (eh z.1.D) (z.1.D.map string)/\YR z.1)(l:eh c<=1048576):Cz Y a q T' P L c f e:=by
 refine⟨i,λy b=> ?_,h.p.other h.t Yq hT,h.l.other h.t Yq hT,⟨λk j=> ?_,by rw[B0];exact l,h.w.p,h.w.pn,h.w.l,h.w.ln⟩⟩
 .rcases d y b with b|b
  .exact(h.r y b).other h.t Yq hT
  exact b.1.other h.t Yq hT
 obtain⟨y,b,rfl⟩:=mem_map.1 j;rcases d y b with b|b
 .exact h.w.k _ (mem_map.2 ⟨y,b,rfl⟩)
 exact b.2
theorem Cz.pins{c:D4}{f:List (Kd×Value)}{e b:Db}{d:Da}(h:Cz X a q T P L f e d)(hT:Tn (ej P).toList X Y)(g:Ow Y a q 81 2 c (eh b) (Ad pC b))(k:∀p∈b,p∈e\/p.name.size<=ew/\p.sum.size<=ew)(i:eh b<=1048576):Cz Y a q T c L f b d:=
 ⟨h.t.other h.p Yq hT,λy j=>(h.r y j).other h.p Yq hT,g,h.l.other h.p Yq hT,⟨h.w.k,h.w.kn,λp j=>(k p j).elim (h.w.p p) id,i,h.w.l,h.w.ln⟩⟩
theorem Cz.ax{d:D4}{g:List (Kd×Value)}{f:Db}{e b:Da}(h:Cz X a q T P L g f e)(hT:Tn (ej L).toList X Y)(i:Ow Y a q 83 3 d (eh b) (Ad lC b))(k:∀l∈b,l∈e\/l.sum.size<=ew)(c:eh b<=1048576):Cz Y a q T P d g f b:=
 ⟨h.t.other h.l Yq hT,λy j=>(h.r y j).other h.l Yq hT,h.p.other h.l Yq hT,i,⟨h.w.k,h.w.kn,h.w.p,h.w.pn,λl c=>(k l c).elim (h.w.l l) id,c⟩⟩
theorem Cz.setT{f:List (Kd×Value)}{p:Db}{o:Da}(h:Cz X a q (Yz g n c) P L f p o){i:Nat}(k:f[i]?=an z){t:Zi}{b:Zl}{rv:D4}(v:Ow X a q 9 1 rv (eh b) (b.map string))(x:t.size<=ew)(u:eh b<=1048576)(w:∀s∈b,s.size<=ew):
 Cz (ev (ev X (Zd g (i *4+2)) (C4 t)) (Zd g (i *4+3)) rv) a q (Yz g n c) P L (f.set i (⟨z.1.sum,z.1.born,t,b⟩,rv)) p o:=by
 have l:=h.t.o;have⟨B,A,e,_,_⟩:=BK l (λe=>by cases e);cases e;have j:=((l.stored (i *4+2) (C4 t)).1.stored (i *4+3) rv).1;rw[Qr k t b rv]at j;have m:=h.w.k z.1 (mem_map.2 ⟨z,Zs k,rfl⟩);have r:=h.w.kn;rw[B0]at r;refine h.ak (Tn.ag (AX X g _ _) (AX _ g _ _)) ⟨by rw[length_set];exact j,h.t.q⟩ (λy d=> ?_) Yt;rcases Abb d with d|d
 .exact dp d
 rw[d];exact eb ⟨v,m.s,x,u,w,m.b⟩
theorem Cz.setB{i:List (Kd×Value)}{o:Db}{m:Da}(h:Cz X a q (Yz g n c) P L (z::i) o m){b:Int}(p:(Lit.int .i64 b).wf=bg):
 Cz (ev X (Zd g 1) (Zg b)) a q (Yz g n c) P L ((⟨z.1.sum,b,z.1.i,z.1.D⟩,z.2)::i) o m:=by
 have l:=h.t.o;have⟨s,r,e,_,_⟩:=BK l (λe=>by cases e);cases e;have j:=(l.stored 1 (Zg b)).1;rw[show(Ad kC (z::i)).set 1 (Zg b)=Ad kC ((⟨z.1.sum,b,z.1.i,z.1.D⟩,z.2)::i)from by simp[Ad,kC]]at j;have f:=h.w.k z.1 (mem_map.2 ⟨z,Yu,rfl⟩);have k:=h.w.kn;rw[B0]at k;refine h.ak (AX X g _ _) ⟨j,h.t.q⟩ (λy d=> ?_) k;rcases Cf.1 d with d|d
 .rw[d];exact eb ⟨h.r z Yu,f.s,f.t,f.n,f.r,p⟩
 exact gA
theorem Cz.jh{j:List (Kd×Value)}{i:Db}{l:Ld}{a:Da}(h:Cz X b q T P (Yz g n c) j i (l::a))(x:Int):
 Cz (ev X (Zd g 2) (Zg x)) b q T P (Yz g n c) j i (⟨l.R,l.sum,x⟩::a)/\Cz (ev X (Zd g 0) (Zg x)) b q T P (Yz g n c) j i (⟨x,l.sum,l.bj⟩::a):=by
 have f:=h.l.o;have⟨u,t,e,_,_⟩:=BK f (λe=>by cases e);cases e;have m:=(f.stored 2 (Zg x)).1;have o:=(f.stored 0 (Zg x)).1;rw[show(Ad lC (l::a)).set 2 (Zg x)=Ad lC (⟨l.R,l.sum,x⟩::a)from by simp[Ad,lC]]at m;rw[show(Ad lC (l::a)).set 0 (Zg x)=Ad lC (⟨x,l.sum,l.bj⟩::a)from by simp[Ad,lC]]at o;have r:=h.w.l l Yu;have p:∀y:Ld,y.sum=l.sum->∀k∈y::a,k∈l::a\/k.sum.size<=ew:=λy s k d=>by
  rcases Cf.1 d with d|d
  .rw[d,s];exact eb r
  exact gA
 exact⟨h.ax (AX X g _ _) ⟨m,h.l.q⟩ (p _ rfl) h.w.ln,h.ax (AX X g _ _) ⟨o,h.l.q⟩ (p _ rfl) h.w.ln⟩
structure Em (w:Zh) (b:Nat) (a:Zk) (n c:Nat) (p K:Int) (q:Nat) (X:Zh):Prop where
 ex:∃wd now given births T P L zs ps ls,Aa X q [Zg wd,Zg now,Zg given,Zg births,T,P,L]/\Cz X (w.1.size+2) q T P L zs ps ls
 z:Aa X (w.1.size+1) z7
 rd:∃p',AB X b a n c p'/\p<=p'/\p'<=p+K
 gr:ep w X (an b)
structure SDn (w:Zh) (b:Nat) (a:Zk) (n c:Nat) (p K:Int) (e:Ending) (w':Zh):Prop where
 ex:∃cs,e=.returned (ct (ei cs))/\∀V Y,(∀g∈V,g<w.1.size)->Tn V w' Y->SDc Y cs
 U:GF w w' b a n c p K
theorem Cs(h:ep w X (an b))(a:Tn V X Y)(f:∀g∈V,w.1.size<=g\/g=b):ep w Y (an b):=
 ⟨a.os.ag h.os,a.tape.ag h.tape,a.output.ag h.output,Zm h.size a.size,λi d c=>(a.block i (Zr d h.size) (λe=>by rcases f i e with h|h;omega;exact c N0)).ag (h.block i d c)⟩
theorem Cz.fin{a:Zk}{p:Int}{e r:Nat}{k:Int}{v:List (Kd×Value)}{t:Db}{s:Da}(hS:Cz X e q T P L v t s)(o:∃h,AB X b a n c h/\p<=h/\h<=p+K)(i:ep w X (an b))(z:b<w.1.size)(j:Tn [r] X Y)(x:w.1.size<=r)(y:r<e):SDn w b a n c p K (.returned (ct #[Zg u,Zg k,Zg f,Zg d,T,P,L])) Y:=by refine⟨⟨_,rfl,λV Z l hT=>((hS.S j Yt).S hT (λg i=> dp (Dl (l g i)))).sdc _ _ _ _⟩,?_,Cs i j Yt⟩;obtain⟨h,l,m⟩:=o;exact⟨h,l.S j Yt Yt,m⟩
theorem Em.fin{a:Zk}{p:Int}{m:List (Kd×Value)}{j:Da}(h:Em w b a n c p K q X)(hS:Cz X (w.1.size+2) q T P L m k j)(g:b<w.1.size)(i:Tn [w.1.size+1] X Y):SDn w b a n c p K (.returned (ct #[Zg l,Zg f,Zg e,Zg d,T,P,L])) Y:=by exact hS.fin h.rd h.gr g i Yv Yv
structure KB (w:Zh) (b:Nat) (a:Zk) (n c:Nat) (p:Int) (q:Nat) (wd now given births:Int) (T P L:Value) (zs:List (Kd×Value)) (ps:List Pd) (ls:List Ld) (X:Zh):Prop where
 box:Aa X q [Zg wd,Zg now,Zg given,Zg births,T,P,L]
 st:Cz X (w.1.size+2) q T P L zs ps ls
 z:Aa X (w.1.size+1) z7
 rd:AB X b a n c p
 gr:ep w X (an b)
 q:w.1.size+2<=q
theorem KB.go{a:Zk}{p:Int}{g:Int}{m:List (Kd×Value)}(h:KB w b a n c p q l g e d T P L m k i X)(f:ep X Y (an b))(r:AB Y b a n c j)(s:b<w.1.size):KB w b a n c j q l g e d T P L m k i Y:=by have o:=h.q;exact⟨h.box.au f Yv,h.st.S (Tn.grown (V:=[b]) f Yu) Yt,h.z.au f Yv,r,Ai h.gr f,o⟩
theorem KB.R{a:Zk}{p:Int}{g:Int}{zs:List (Kd×Value)}(h:KB w b a n c p q l g e d T P L zs k i X)(r:b<w.1.size)(j:Nat)(s:j<4)(x:Int):Em w b a n c p 0 q (ev X (Zd q j) (Zg x)):=by
 have t:=h.q;have f:=AX X q j (Zg x);refine⟨?_,Aa.same h.z (f.block _ h.z.lt Yt),⟨p,h.rd.S f Yt Yt,Yv,Yv⟩,Cs h.gr f Yt⟩;have m:=h.box.set j (Zg x);have o:=h.st.S f Yu;rcases(show j=0\/j=1\/j=2\/j=3 by omega)with rfl|rfl|rfl|rfl
 .exact gG
 .exact gG
 .exact gG
 exact gG
theorem Em.more{a:Zk}{p:Int}(h:Em w b a n c p K q X)(l:d<=p)(m:p+K<=d+e):Em w b a n c d e q X:=by obtain⟨i,j,⟨k,g,o,r⟩,f⟩:=h;exact⟨i,j,⟨k,g,Yv,Yv⟩,f⟩
theorem RY{j:Nat}{l:Zj}(h:Aa X q l)(d:∀i,i<eh l->∃s:Zi,s.size<=3/\l[i]?=an (C4 s))(c:j<eh l):∃s:Zi,s.size<=3/\ek X (Zd q j)=an (C4 s):=by have⟨s,a,b⟩:=d j c;exact⟨s,a,(h j _ b).1⟩
theorem KR(s:Zi)(a:Int)(w:Zh)(b:s.size<=100000):D8 64 #[C4 s,Zg a] w λe c=>∃t,e=C5 (C4 t)/\t.size<=ew/\Zz w c:=
 (KA s a w b).ai λ_ _ ⟨t,h1,h2,h3⟩=>⟨t,h1,Yo,h3⟩
theorem Eg{j:Nat}{l:Zj}(h:Aa X q l)(b:∀u∈l,∃x,u=Zg x)(a:j<eh l):∃x,ek X (Zd q j)=an (Zg x):=by obtain⟨x,c⟩:=b _ (getElem_mem a);exact⟨x,(h j _ (Zv a)).1.ag (by rw[c])⟩
theorem KC{e:TypeId}{f:Zj}(h:eo w a e size (Yz g n b) n f)(j:Nat):el w ⟨g,j,ba⟩=bq:=by
 rcases h.2 with⟨e,_⟩|⟨k,c,i,e,_,d,_⟩
 .cases e
 cases e;simp[frozen?,d]
theorem Qs{e:TypeId}{d:Zj}(h:eo w a e size (Yz g n c) n d)(j:Nat)(b:j<n *size):∃u,ek w (Zd g j)=an u:=by rw[h.cellAt j b];exact⟨_,Zv (by rw[h.1];exact b)⟩
theorem KB.rows{a:Zk}{p:Int}{r:Int}{s l:List (Kd×Value)}{o:Db}{m:Da}(h:KB w b a n c p q r j e d T P L s o m X)(u:b<w.1.size)(f:Tn [g] X Y)(v:w.1.size+2<=g)(t:g≠q)(hS:Cz Y (w.1.size+2) q T P L l k i):Em w b a n c p 0 q Y:=
 ⟨⟨_,_,_,_,_,_,_,_,_,_,Aa.same h.box (f.block _ h.box.lt Yt),hS⟩,Aa.same h.z (f.block _ h.z.lt Yt),⟨p,h.rd.S f Yt Yt,Yv,Yv⟩,Cs h.gr f Yt⟩
theorem KB.same{a:Zk}{p:Int}{k:List (Kd×Value)}{i:Db}{g:Da}(h:KB w b a n c p q j f e d T P L k i g X):Em w b a n c p 0 q X:=
 ⟨⟨_,_,_,_,_,_,_,_,_,_,h.box,h.st⟩,h.z,⟨p,h.rd,Yv,Yv⟩,h.gr⟩
