import Derived.Test.YtoglnpagihdhpaaGreatDoorX18
import Derived.Test.YtoglnpagihdhpaaGreatDoorX19
set_option maxRecDepth 100000
set_option maxHeartbeats 16000000
namespace Go.Proofs.YtoglnpagihdhpaaGreatDoor
open ChangeShapes WideShapes ChangeAt RowKit _root_.Go.Proofs.Tryz
def XW(w w':Zh)(e:Ending)(wd now given births:Int)(T P L:Value)(ls:List Ld)(s:Zi)(hold:Int)(base:Nat):Prop:=
 Tn L.ownBlock.toList w w'/\(((200<=ls.length\/1000000000<=given)/\e=.returned (.agg #[Zg 4,Ze,Ze,Ze,Ze,Zb,Zb,Zb,Zc,Ze,Zc,Zc]))\/
  ((ls.length<200/\given<1000000000)/\∃g c,e=.returned (.agg #[Ze,Zg wd,Zg now,Zg (given+1),Zg births,T,P,.slice (some ⟨g,0,none⟩) (ls.length+1) c,Zc,Zg (given+1),Zc,Zc])/\w'.ownsRow base 71 3 (.slice (some ⟨g,0,none⟩) (ls.length+1) c) (ls++[(⟨given+1,s,now+hold⟩:Ld)]).length (Ab lC (ls++[(⟨given+1,s,now+hold⟩:Ld)]))/\(L.ownBlock=some g\/w.heap.size<=g)))
theorem Il(u now a d:Int)(o m j:Zk)(t r pn n k i:Nat)(f:List Ld)(s:Zi)(hold:Int)(w:Zh)(L:w.ownsRow i 71 3 (.slice j f.length k) f.length (Ab lC f))(zA:i<=w.heap.size)(hl:f.length<=1000)(zO:0<=a)(zP:a<=1000000000)(zG:0<=now)(zH:now<=1000000000)(zI:0<=hold)(zJ:hold<=1000000000):
 Calls prog 50 #[.agg (Yg u now a d o t r m pn n j f.length k),.string s,Zg hold] w fun e w'=>XW w w' e u now a d (.slice o t r) (.slice m pn n) (.slice j f.length k) f s hold i:=by
 obtain⟨W,l⟩:=Af ((w.alloc (.cells (Yg u now a d o t r m pn n j f.length k) 30)).alloc (.cells Xy 32));have D:=(Bb l).1;have U:=(Bb l).2.1;have B:=(Bb l).2.2.1;have P:Aa W (w.heap.size+1) z12:=by have h1:=Aa.new (w.alloc (.cells (Yg u now a d o t r m pn n j f.length k) 30)) z12 32;rw[World.size_alloc]at h1;rw[l];exact h1
 have J:=Yw l;have HB:=Yw D;by_cases hfull:200<=f.length\/1000000000<=a
 .obtain⟨⟨y0,q0⟩,⟨y1,q1⟩,⟨y2,q2⟩,⟨y3,q3⟩,⟨y4,q4⟩,⟨y5,q5⟩,⟨y6,q6⟩,⟨y7,q7⟩,⟨y8,q8⟩,⟨y9,q9⟩,⟨H,zK⟩,I,zM⟩:=AS P;obtain⟨v0,v1,v2,v3,v4,v5,v6,v7⟩:=AQ B;have HF:=Yw hfull;have E:(decide ((200:Int)<=(f.length:Int))=true)\/(decide ((200:Int)<=(f.length:Int))=false/\decide ((1000000000:Int)<=a)=true):=by
   by_cases h:200<=f.length
   .left;simp;omega
   .right;refine⟨Yt,?_⟩;rcases hfull with Z|Z
    .exact absurd Z h
    .simpa using Z
  clear l B P D U hfull L;rcases E with E|⟨E,zN⟩
  all_goals
   go_enter func50,ntmps50;go_upto_region 1 with fail;rw[<-J.o];clear J;go_wp2;refine bodyPost_ret (v:=.agg (Xx 4)) (by simp[results,results50,go_sem,y0,y1,y2,y3,y4,y5,y6,y7,y8,y9,H,I]) rfl ?_;exact⟨Tn.of (HB.o.trans (Tn.below (Ba W (w.heap.size+1) _ _ _ _ _ _ _ _ _ _ _ _) HB.o.size (by intro v hv;simp at hv;omega))),.inl ⟨HF.o,rfl⟩⟩
 .have zF:f.length<200/\a<1000000000:=Yv
  obtain⟨X,K⟩:=Af (W.setCell (Zd (w.heap.size) 2) (Zg (a+1)));have M:Tn [w.heap.size] W X:=by rw[K];exact Bl _ _ _ _
  have N:Aa X w.heap.size (Yh u now (a+1) d o t r m pn n j f.length k):=by rw[K];exact B.set 2 _
  have u1:=Aa.same P (M.block _ Yv Yu);have F:=D.trans (M.below D.size Yu);have z:∀g,(Value.slice j f.length k).ownBlock=some g->g<w.heap.size:=fun g hg=>(Ac L hg).2;have T:=Ag L F;have zV:w.heap.size+2<=X.heap.size:=by have:=M.size;omega
  obtain⟨g,c,O,G,S,y,R⟩:=Om X i _ f T (⟨a+1,s,now+hold⟩:Ld) Yv Yv 28;dsimp only at G;have Y:=Aa.same N (y.block _ N.lt (fun e=>by have:=z _ e.symm;omega));have e1:=Aa.same u1 (y.block _ Yv (fun e=>by have:=z _ e.symm;omega));obtain⟨c2,f2⟩:=B 2 _ rfl;obtain⟨c6,_⟩:=B 6 _ rfl;obtain⟨d1,d2,d6⟩:=Aa.c3 N 1 2 6;obtain⟨i0,i1,i2,i3,i4,i5,i6,i7⟩:=AQ Y
  obtain⟨⟨y0,q0⟩,⟨y1,q1⟩,⟨y2,q2⟩,⟨y3,q3⟩,⟨y4,q4⟩,⟨y5,q5⟩,⟨y6,q6⟩,⟨y7,q7⟩,⟨y8,q8⟩,⟨y9,q9⟩,⟨H,zK⟩,I,zM⟩:=AS e1;have k6:=(Y 6 _ rfl).2;have zU:=Hd zG zH zI zJ;have zS:¬((200:Int)<=(f.length:Int)):=Yv
  have zT:¬((1000000000:Int)<=a):=Yv
  have Q:=Yw K;have C:=Yw (Za S (Za y R));have zB:=Yw F;have zE:=Yw z;have zC:=Yw zF;clear l K B P N u1 M Y e1 D U T L S y R F z hfull;go_enter func50,ntmps50;go_upto_region 1 with fail;rw[<-J.o];clear J;go_upto_region 4 with fail;rw[<-Q.o];clear Q c2 f2 c6;go_wp2_with (at_builtin;refine wpList_append_run rfl _ _ 28 28 rfl rfl rfl G ?_);clear G d1 d2 d6;go_wp2
  refine bodyPost_ret (v:=.agg #[Ze,Zg u,Zg now,Zg (a+1),Zg d,.slice o t r,.slice m pn n,Yz g (f.length+1) c,Zc,Zg (a+1),Zc,Zc]) (by simp[results,results50,go_sem,y0,y1,y2,y3,y4,y5,y6,y7,y8,y9,H,I]) rfl ?_
  have x:=(Tn.set (V:=[w.heap.size,w.heap.size+1]) O w.heap.size 6 (Yz g (f.length+1) c) Yu).trans (Tn.mono (Ba (O.setCell (Zd (w.heap.size) 6) (Yz g (f.length+1) c)) (w.heap.size+1) Ze (Zg u) (Zg now) (Zg (a+1)) (Zg d) (.slice o t r) (.slice m pn n) (Yz g (f.length+1) c) Zc (Zg (a+1)) Zc Zc) Yu);have A:=(Tn.of zB.o).trans (Di C.o.2.1);have zR:g<w.heap.size\/w.heap.size+2<=g:=by
   rcases C.o.2.2 with e|e
   .exact .inl (zE.o g e)
   .exact .inr Yv
  refine⟨⟨x.os.trans A.os,x.tape.trans A.tape,x.output.trans A.output,Zm A.size x.size,fun b hb hv=>(x.block b (Zr hb A.size) Yt).trans (A.block b hb hv)⟩,.inr ⟨zC.o,g,c,rfl,Ak C.o.1 (fun q hq=>x.block q (Ac C.o.1 hq).2 ?_),?_⟩⟩
  .obtain rfl:g=q:=by simpa [Value.ownBlock]using hq
   simp;omega
  .rcases C.o.2.2 with e|e
   .exact .inl e
   .exact .inr Yv
theorem KO(d:Nat)(V:List Nat)(t:Int)(s u A:Zi)(l:Int)(x:Zk)(z y:Nat)(G:Int->Zi->Zi->Prop)(D:Zi->Int->Zh->Prop)(w:Zh)(hV:∀b∈V,b<w.heap.size)(M:∀g le X X' R zE,D g le X->X.heap[R]?=some (.cells zE 32)->w.heap.size<=R->Tn [R] X X'->D g le X')(h:∀X,Zz w X->Calls prog 77 #[Yy d,.agg (Xz t s u l A x z y)] X fun e n=>(∃c a b,G c a b/\e=.panicked [{v:=Cj c a b,recovered:=false}]/\Tn V X n)\/(∃g le,e=.returned (.agg #[Ze,Ze,Ze,Ze,Ze,Zb,Zb,Zb,.string g,Zg le,Zc,Zc])/\D g le n/\Tn V X n)):
 Calls prog 30 #[Yy d,.agg (Xz t s u l A x z y)] w fun e n=>(∃c a b,G c a b/\e=.returned (.agg (BB c a b).toArray)/\Tn V w n)\/(∃g le,e=.returned (.agg #[Ze,Ze,Ze,Ze,Ze,Zb,Zb,Zb,.string g,Zg le,Zc,Zc])/\D g le n/\Tn V w n):=by
 suffices hs:∀Q:Ending->Zh->Prop,(∀c a b i,G c a b->Tn V w i->Q (.returned (.agg (BB c a b).toArray)) i)->(∀g le i,D g le i->Tn V w i->Q (.returned (.agg #[Ze,Ze,Ze,Ze,Ze,Zb,Zb,Zb,.string g,Zg le,Zc,Zc])) i)->Calls prog 30 #[Yy d,.agg (Xz t s u l A x z y)] w Q from
  hs _ (fun c a b i q S=> .inl ⟨c,a,b,q,rfl,S⟩) (fun g le i q S=> .inr ⟨g,le,rfl,q,S⟩)
 intro Q H I;have zA:=Yw H;have zB:=Yw I;clear H I;have zG:∀(fn:Fn) (first cap:Array Value) (w:Zh),(Instr.makeFunc fn first cap).run prog w=.ok (.func fn first cap) w:=fun _ _ _ _=>rfl;obtain⟨W,m⟩:=Af ((w.alloc (.cells (Xz t s u l A x z y) 38)).alloc (.cells Xy 32));have T:=(Bb m).1;have N:=(Bb m).2.1;have xE:=(Bb m).2.2.1;have zR:Aa W (w.heap.size+1) z12:=by have q:=Aa.new (w.alloc (.cells (Xz t s u l A x z y) 38)) z12 32;rw[World.size_alloc]at q;rw[m];exact q
 have K:W.heap[w.heap.size+1]?=some (.cells Xy 32):=by have:=heap_alloc_new (w.alloc (.cells (Xz t s u l A x z y) 38)) (.cells Xy 32);rw[World.size_alloc]at this;rw[m];exact this
 obtain⟨e0,e1,e2,e3,e4,e5⟩:=Aa.c6 xE 0 1 2 3 4 5;have P:=Yw (h W T);have HW:=Yw m;have o:=Yw (Za zR (Za K (Za T N)));have HV:=Yw hV;have zC:=Yw M;clear m zR N xE h K T hV M
 go_enter_defers func30,ntmps30
 go_upto_region 1 with fail;rw[<-HW.o];clear HW;go_wp2_with fail;refine P.Ah ?_;intro e w1 zF;have zz:=o.o.2.2.2;have r:w.heap.size+1∉V:=fun h=>by have:=HV.o _ h;omega
 obtain⟨c,a,b,L,rfl,k⟩|⟨g,le,rfl,hy,k⟩:=zF
 .have B:=Aa.same o.o.1 (k.block _ Yv r);clear e0 e1 e2 e3 e4 e5 P;refine leaves_cons (f:=76) (args:= #[Yy (w.heap.size+1)]) Yu (by simp[go_sem]) ?_;refine(Qj (w.heap.size+1) c a b w1 B).mono ?_;rintro e u' i ⟨rfl,rfl,j,ht⟩;have U:=(j 0 _ rfl).1;have Y:=(j 1 _ rfl).1;have Z:=(j 2 _ rfl).1;have y3:=(j 3 _ rfl).1;have y4:=(j 4 _ rfl).1;have y5:=(j 5 _ rfl).1;have y6:=(j 6 _ rfl).1
  have y7:=(j 7 _ rfl).1;have y8:=(j 8 _ rfl).1;have y9:=(j 9 _ rfl).1;have E:=(j 10 _ rfl).1;have F:=(j 11 _ rfl).1;have C:Hid (G c a b/\Tn V w i):=⟨L,Tn.fresh ((Tn.of o.o.2.2.1).trans k) ht Yv⟩;clear j ht L;simp[Leaves,settle,results,results30,go_sem,U,Y,Z,y3,y4,y5,y6,y7,y8,y9,E,F];exact zA.o c a b _ C.o.1 C.o.2
 .have B:=Aa.same o.o.1 (k.block _ Yv r);have J:=(k.block _ Yv r).trans o.o.2.1;have O:=Yw (Zn hy (Zn k J));obtain⟨⟨U,q0⟩,⟨Y,q1⟩,⟨Z,q2⟩,⟨y3,q3⟩,⟨y4,q4⟩,⟨y5,q5⟩,⟨y6,q6⟩,⟨y7,q7⟩,⟨y8,q8⟩,⟨y9,q9⟩,⟨E,zH⟩,F,zI⟩:=AS B;clear hy k B J e0 e1 e2 e3 e4 e5 P zz r;go_wp2;refine leaves_cons (f:=76) (args:= #[Yy (w.heap.size+1)]) Yu (by simp[go_sem]) ?_
  refine(Sc ⟨w.heap.size+1,0,none⟩ _).mono ?_;rintro e u' i ⟨rfl,rfl,rfl⟩;have HT:=Yw (Ba w1 (w.heap.size+1) Ze Ze Ze Ze Ze Zb Zb Zb (.string g) (Zg le) Zc Zc);have C:=Yw (Zn (zC.o g le _ _ _ _ O.o.1 O.o.2.2 Yv HT.o) (Tn.fresh ((Tn.of o.o.2.2.1).trans O.o.2.1) HT.o Yv));simp[Leaves,settle,results,results30,go_sem,U,Y,Z,y3,y4,y5,y6,y7,y8,y9,E,F];exact zB.o g le _ C.o.1 C.o.2
theorem St{a:List Ld}{k:Nat}{x:Ld}(n:Int)(c:a[k]?=some x):AK (a.take (k+1)) n=AK (a.take k) n++(if x.R<=n then []else [x]):=by obtain⟨b,rfl⟩:=Zw c;unfold AK;rw[Zu b,List.filter_append];by_cases h:a[k].R<=n<;>simp[h]
def Ud(w w':Zh)(e:Ending)(wd now given births:Int)(T P:Value)(ls:List Ld)(ticks:Int):Prop:=
 Below w.heap.size w w'/\((1000000000<now+ticks/\e=.returned (.agg #[Zg 4,Ze,Ze,Ze,Ze,Zb,Zb,Zb,Zc,Ze,Zc,Zc]))\/
  (now+ticks<=1000000000/\∃g c,e=.returned (.agg #[Ze,Zg wd,Zg (now+ticks),Zg given,Zg births,T,P,.slice (some ⟨g,0,none⟩) (AK ls (now+ticks)).length c,Zc,Ze,Zc,Zc])/\w'.ownsRow w.heap.size 71 3 (.slice (some ⟨g,0,none⟩) (AK ls (now+ticks)).length c) (AK ls (now+ticks)).length (Ab lC (AK ls (now+ticks)))))
theorem Su(t now d b:Int)(o m A:Zk)(s r pn n D:Nat)(f:List Ld)(a:Int)(w:Zh)(l:AM w w.heap.size A f)(hl:f.length<=1000)(zF:0<=now)(zG:now<=1000000000)(zI:0<=a)(zJ:a<=1000000000):
 Calls prog 52 #[.agg (Yg t now d b o s r m pn n A f.length D),Zg a] w fun e w'=>Ud w w' e t now d b (.slice o s r) (.slice m pn n) f a:=by
 obtain⟨W,u⟩:=Af ((w.alloc (.cells (Yg t now d b o s r m pn n A f.length D) 30)).alloc (.cells Xy 32));have C:=(Bb u).1;have zA:=(Bb u).2.1;have E:=(Bb u).2.2.1;have M:Aa W (w.heap.size+1) z12:=by have h1:=Aa.new (w.alloc (.cells (Yg t now d b o s r m pn n A f.length D) 30)) z12 32;rw[World.size_alloc]at h1;rw[u];exact h1
 have zS:=Hd zF zG zI zJ;have I:=Yw u;by_cases hbig:1000000000<now+a
 .obtain⟨⟨y0,q0⟩,⟨y1,q1⟩,⟨y2,q2⟩,⟨y3,q3⟩,⟨y4,q4⟩,⟨y5,q5⟩,⟨y6,q6⟩,⟨y7,q7⟩,⟨y8,q8⟩,⟨y9,q9⟩,⟨G,zK⟩,H,zM⟩:=AS M;obtain⟨c1,_⟩:=E 1 _ rfl;have HB:=Yw C;have j:=Yw hbig;clear u E M l C zA;go_enter func52,ntmps52;go_upto_region 1 with fail;rw[<-I.o];clear I;go_wp2;refine bodyPost_ret (v:=.agg (Xx 4)) (by simp[results,results52,go_sem,y0,y1,y2,y3,y4,y5,y6,y7,y8,y9,G,H]) rfl ?_
  exact⟨HB.o.trans (Tn.below (Ba W (w.heap.size+1) _ _ _ _ _ _ _ _ _ _ _ _) HB.o.size (by intro v hv;simp at hv;omega)),.inl ⟨j.o,rfl⟩⟩
 .obtain⟨X,J⟩:=Af (W.setCell (Zd (w.heap.size) 1) (Zg (now+a)));have L:Tn [w.heap.size] W X:=by rw[J];exact Bl _ _ _ _
  have F:w.heap.size+2<=X.heap.size:=by have:=L.size;omega
  have u0:Aa X w.heap.size (Yh t (now+a) d b o s r m pn n A f.length D):=by rw[J];exact E.set 1 _
  have u1:=Aa.same M (L.block _ Yv Yu);have HX:Hid (∀Y,Below (w.heap.size+2) X Y->Aa Y w.heap.size (Yh t (now+a) d b o s r m pn n A f.length D)/\Aa Y (w.heap.size+1) z12):=fun Y hY=>⟨Aa.same u0 (hY.block _ Yv),Aa.same u1 (hY.block _ Yv)⟩;have S:=Yw J;have HR:=Yw l;have zC:=Yw (C.trans (L.below C.size Yu));have j:=Yw (Int.not_lt.1 hbig)
  have bA:Below X.heap.size X (X.alloc (.cells #[] 71)):=Zy;have Q:Hid ((X.alloc (.cells #[] 71)).ownsRow (w.heap.size+2) 71 3 (Yz X.heap.size 0 0) 0 []):=World.ownsRow_lit (base:=w.heap.size+2) (e:=71) (size:=3) X #[] 0 F Yo rfl;have N:Hid (Below (w.heap.size+2) X (X.alloc (.cells #[] 71))):=bA.mono F;obtain⟨c1,f1⟩:=E 1 _ rfl;clear u J zA E M u0 u1 l C bA L
  go_enter func52,ntmps52;go_upto_region 1 with fail;rw[<-I.o];clear I;go_upto_region 4 with fail;rw[<-S.o];clear S c1 f1;go_wp2
  go_loopw [5,6] (fun v i wr=>∃(k g c:Nat),k<=f.length/\i=Zg k/\v=Yz g (AK (f.take k) (now+a)).length c/\Hid (wr.ownsRow (w.heap.size+2) 71 3 (Yz g (AK (f.take k) (now+a)).length c) (AK (f.take k) (now+a)).length (Ab lC (AK (f.take k) (now+a)))/\Below (w.heap.size+2) X wr)) (fun _ i _=>f.length -(intOf i).toNat)
  case atStart=>exact⟨0,X.heap.size,0,Nat.zero_le _,rfl,by simp[AK],⟨by simpa [AK,Ab]using Q.o,N.o⟩⟩
  case round=>
   clear Q N;obtain⟨k,g,c,hk,rfl,rfl,h⟩:=hrel;have z:=zC.o.trans (h.o.2.mono Yv);have zB:=Zm F h.o.2.size;obtain⟨v0,v1,v2,v3,v4,v5,v6,v7⟩:=AQ (HX.o _ h.o.2).1;by_cases hlt:k<f.length
   .obtain⟨b',zT,ha,hb,T⟩:=(AM.below HR.o z).at hlt;subst ha;have HG:=Yw (Zv hlt);obtain⟨c0,c1,c2⟩:=T k _ HG.o;have R:=Yw (St (now+a) HG.o);have zP:(AK (f.take k) (now+a)).length<=1000:=by have:=List.length_filter_le (fun x:Ld=> !decide (x.R<=(now+a))) (f.take k);unfold AK;rw[List.length_take]at this;omega
    have zN:b'<wr.heap.size:=by have:=z.size;omega
    have zR:(k:Int)<f.length:=Yv
    clear T;generalize f[k]=x at *
    generalize hGk:AK (f.take k) (now+a)=gk at *
    have zO:=Yw hGk;clear hGk;by_cases hxn:x.R<=(now+a)
    .have K:decide ((now+a)<x.R)=false:=Yt
     have B:Hid (AK (f.take (k+1)) (now+a)=gk):=by show _=_;rw[R.o,if_pos hxn,List.append_nil]
     clear hxn;have O:Hid (wr.drew.ownsRow (w.heap.size+2) 71 3 (Yz g gk.length c) gk.length (Ab lC gk)/\Below (w.heap.size+2) X wr.drew):=⟨Ag h.o.1 (Ae.drew),h.o.2.drew⟩;clear h;go_upto_region 8 with fail;go_region_with fail
     all_goals
      go_wp2;exact⟨⟨k+1,g,c,Yv,Yn,by rw[B.o],⟨by rw[B.o];exact O.o.1,O.o.2⟩⟩,Ys⟩
    .have K:decide ((now+a)<x.R)=true:=Yt
     have B:Hid (AK (f.take (k+1)) (now+a)=gk++[x]):=by show _=_;rw[R.o,if_neg hxn]
     clear hxn;obtain⟨g8,y,w8,zH,Z,U,zE⟩:=Om wr.drew (w.heap.size+2) _ gk (Ag h.o.1 (Ae.drew)) x Yv zB 28;have b8:=Ae.grown U zB (fun q e=>(Ac h.o.1 e).1);have H8:Hid (w8.ownsRow (w.heap.size+2) 71 3 (Yz g8 (gk.length+1) y) (gk++[x]).length (Ab lC (gk++[x]))/\Below (w.heap.size+2) X w8):=⟨Z,h.o.2.drew.trans b8⟩;clear Z U zE b8 h;go_upto_region 8 with fail
     go_region_with fail
     all_goals
      go_wp2_with (at_builtin;first|(refine wpList_append_run rfl _ _ 28 28 rfl rfl rfl zH ?_));go_wp2;exact⟨⟨k+1,g8,y,Yv,Yn,by rw[B.o,List.length_append];rfl,⟨by rw[B.o,List.length_append];exact List.length_append▸H8.o.1,H8.o.2⟩⟩,Ys⟩
   .obtain rfl:k=f.length:=Yv
    have hO:=h.o.1;rw[Zt (Zx)]at hO |-;have HO:=Yw hO;have P:=Yw z;obtain⟨⟨y0,q0⟩,⟨y1,q1⟩,⟨y2,q2⟩,⟨y3,q3⟩,⟨y4,q4⟩,⟨y5,q5⟩,⟨y6,q6⟩,⟨y7,q7⟩,⟨y8,q8⟩,⟨y9,q9⟩,⟨G,zK⟩,H,zM⟩:=AS (HX.o _ h.o.2).2;have f6:=((HX.o _ h.o.2).1 6 _ rfl).2;clear hO z h;go_wp2
    refine bodyPost_ret (v:=.agg #[Ze,Zg t,Zg (now+a),Zg d,Zg b,.slice o s r,.slice m pn n,Yz g (AK f (now+a)).length c,Zc,Ze,Zc,Zc]) (by simp[results,results52,go_sem,y0,y1,y2,y3,y4,y5,y6,y7,y8,y9,G,H]) rfl ?_
    have T':=(Tn.set (V:=[w.heap.size,w.heap.size+1]) wr w.heap.size 6 (Yz g (AK f (now+a)).length c) Yu).trans (Tn.mono (Ba (wr.setCell (Zd (w.heap.size) 6) (Yz g (AK f (now+a)).length c)) (w.heap.size+1) Ze (Zg t) (Zg (now+a)) (Zg d) (Zg b) (.slice o s r) (.slice m pn n) (Yz g (AK f (now+a)).length c) Zc Ze Zc Zc) Yu)
    exact⟨P.o.trans (T'.below P.o.size (by intro v hv;simp at hv;omega)),.inr ⟨j.o,g,c,rfl,(Ak HO.o (fun q K=>T'.block q (Ac HO.o K).2 (by have:=(Ac HO.o K).1;simp;omega))).mono Yv⟩⟩
end Go.Proofs.YtoglnpagihdhpaaGreatDoor
