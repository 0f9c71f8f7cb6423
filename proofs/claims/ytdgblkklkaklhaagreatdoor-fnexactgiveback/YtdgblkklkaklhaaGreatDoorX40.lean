import Derived.Test.YtdgblkklkaklhaaGreatDoorX16
import Derived.Test.YtdgblkklkaklhaaGreatDoorX15
set_option maxRecDepth 100000
set_option maxHeartbeats 16000000
namespace Go.Proofs.YtdgblkklkaklhaaGreatDoor
open Go.ChangeShapes Go.WideShapes Go.ChangeAt Go.RowKit _root_.Go.Proofs.Tryz
theorem LL(m c given ae:Int)(a p l:Zk)(k j i h g:Nat)(b:List Kd)(s:Zi)(w:Zh)(o:BH w w.heap.size a b)(Z:b.length<=1000)(q:¬Ax b s):
 Calls prog 82 #[.agg (Ys m c given ae a b.length k p j i l h g),.string s] w fun e L=>e=.returned (.agg (BW 2 ⟨#[]⟩ ⟨#[]⟩).toArray)/\Zz w L:=by
 obtain⟨W,d⟩:∃W,W=(w.alloc (.cells (Ys m c given ae a b.length k p j i l h g) 40)).alloc (.cells Yr 82):=⟨_,rfl⟩;have f:=(AW d).1;have y:=(AW d).2.2.1;have z:Aa W (w.heap.size+1) z12:=by have u:=Aa.new (w.alloc (.cells (Ys m c given ae a b.length k p j i l h g) 40)) z12 82;rw[World.size_alloc]at u;rw[d];exact u
 have r:=Yx (FE m c given ae a k (.slice p j i) (.slice l h g) b s W w.heap.size (BH.below o f) f.size (by omega));have Y:=Io q;have t:=Yx d;have A:=Yx z;obtain⟨v0,E,F,G,H,I,J,K⟩:=Bw y;clear d y z o q;go_enter func82,ntmps82;go_upto_region 1 with fail;rw[←t.o];clear t;go_wp2_with fail;refine Calls.mono r.o ?_;rintro e M ⟨rfl,n⟩
 obtain⟨⟨N,q0⟩,⟨O,q1⟩,⟨P,q2⟩,⟨Q,q3⟩,⟨R,q4⟩,⟨S,q5⟩,⟨T,q6⟩,⟨U,q7⟩,⟨V,q8⟩,⟨X,q9⟩,⟨B,zA⟩,C,zB⟩:=AT (Aa.below (v:=Zf) A.o n);have x:=f.trans (n.mono f.size);generalize CE b s=fi at *
 clear v0 E F G H I J K r;go_wp2;refine bodyPost_ret (v:=.agg (BW 2 ⟨#[]⟩ ⟨#[]⟩).toArray) (by simp[results,results82,go_sem,N,O,P,Q,R,S,T,U,V,X,B,C,BW]) rfl ?_;exact⟨rfl,x.trans (Tn.below (Bh M (w.heap.size+1) _ _ _ _ _ _ _ _ _ _ _ _) x.size (by intro v D;simp at D;omega))⟩
theorem Dj(c:Int)(t:Nat)(args:Array Value)(q a given ae:Int)(n k g:Zk)(tn o m l j i:Nat)(s r text:Zi)(d:Int)(y:Zk)(A z:Nat)(w:Zh)(V:List Nat)(Q:Zh->Ending->Zh->Prop)(R:Ending->Zh->Prop)
 (hk:(c=1/\t=75/\args= #[.agg (Ys q a given ae n tn o k m l g j i),.agg (Yp c s r d text y A z)])∨(c=2/\t=76/\args= #[.agg (Ys q a given ae n tn o k m l g j i),.agg (Yp c s r d text y A z)])∨(c=3/\t=77/\args= #[.agg (Ys q a given ae n tn o k m l g j i),.string r])∨(c=5/\t=80/\args= #[.agg (Ys q a given ae n tn o k m l g j i),Zg d])∨(c=6/\t=81/\args= #[.agg (Ys q a given ae n tn o k m l g j i),Zg d])∨(c=7/\t=82/\args= #[.agg (Ys q a given ae n tn o k m l g j i),.string s]))
 (hV:∀b∈V,b<w.heap.size)
 (hc:∀X,Zz w X->w.heap.size+3<=X.heap.size->Calls prog t args X (Q X))
 (hf:∀X e p,Q X e p->Tn V X p/\∃(Y Z c2 c3 c4:Int) (K:Zk) (M L:Nat) (G:Zk) (I H:Nat) (C:Zk) (F D:Nat) (J:Zi) (E:Int) (S T:Zi),e=.returned (.agg #[Zg Y,Zg Z,Zg c2,Zg c3,Zg c4,.slice K M L,.slice G I H,.slice C F D,.string J,Zg E,.string S,.string T]))
 (hq:∀X e p f,Zz w X->w.heap.size+3<=X.heap.size->Q X e p->Tn [w.heap.size+2] p f->R e f):
 Calls prog 36 #[.agg (Ys q a given ae n tn o k m l g j i),.agg (Yp c s r d text y A z)] w R:=by
 obtain⟨W,x⟩:∃W,W=((w.alloc (.cells (Ys q a given ae n tn o k m l g j i) 40)).alloc (.cells (Yp c s r d text y A z) 60)).alloc (.cells Yr 82):=⟨_,rfl⟩;have U:=(Bm x).1;have zE:=(Bm x).2.1;have x0:=(Bm x).2.2.1;have xe:Aa W (w.heap.size+1) (Yo c s r d text y A z):=by have u:=Aa.new (w.alloc (.cells (Ys q a given ae n tn o k m l g j i) 40)) (Yo c s r d text y A z) 60;rw[World.size_alloc]at u;rw[x];exact Aa.below u (Zy)
 have x1:Aa W (w.heap.size+2) z12:=by have u:=Aa.new ((w.alloc (.cells (Ys q a given ae n tn o k m l g j i) 40)).alloc (.cells (Yp c s r d text y A z) 60)) z12 82;rw[World.size_alloc,World.size_alloc]at u;rw[x];exact u
 have HC:=Yx (hc W U (by omega));have HQ:Hid (∀e p f,Q W e p->Tn [w.heap.size+2] p f->R e f):=fun e p f u h2=>hq W e p f U (by omega) u h2;have HF:=Yx (hf W);have N:Hid (Aa W (w.heap.size+2) z12):=x1;have HV:Hid (∀b∈V,b<w.heap.size):=hV;have HW:=Yx x;obtain⟨v0,v1,v2,v3,v4,v5,v6⟩:=Aa.c7 x0 0 1 2 3 4 5 6;obtain⟨e0,e1,e2,e3,e4,e5⟩:=Aa.c6 xe 0 1 2 3 4 5;clear x x0 xe x1 hc hq hf hV U
 rcases hk with⟨rfl,rfl,rfl⟩|⟨rfl,rfl,rfl⟩|⟨rfl,rfl,rfl⟩|⟨rfl,rfl,rfl⟩|⟨rfl,rfl,rfl⟩|⟨rfl,rfl,rfl⟩
 all_goals
  go_enter func36,ntmps36;go_upto_region 1 with fail;rw[←HW.o];clear HW;go_wp2_with fail;refine Calls.mono HC.o ?_;intro e w1 B;obtain⟨O,Y,Z,c2,c3,c4,K,M,L,G,I,H,C,F,D,J,E,S,T,rfl⟩:=HF.o e w1 B;have P:Aa w1 (w.heap.size+2) z12:=Aa.same N.o (O.block _ N.o.lt (fun h=>by have:=HV.o _ h;omega));obtain⟨⟨y0,q0⟩,⟨y1,q1⟩,⟨y2,q2⟩,⟨y3,q3⟩,⟨y4,q4⟩,⟨y5,q5⟩,⟨y6,q6⟩,⟨y7,q7⟩,⟨y8,q8⟩,⟨y9,q9⟩,⟨zB,zF⟩,zC,zG⟩:=AT P
  have zA:=Yx B;clear B P O v0 v1 v2 v3 v4 v5 v6 e0 e1 e2 e3 e4 e5 HC HF;go_wp2;refine bodyPost_ret (v:=.agg #[Zg Y,Zg Z,Zg c2,Zg c3,Zg c4,.slice K M L,.slice G I H,.slice C F D,.string J,Zg E,.string S,.string T]) (by simp[results,results36,go_sem,y0,y1,y2,y3,y4,y5,y6,y7,y8,y9,zB,zC]) rfl ?_;exact HQ.o _ _ _ zA.o (Bh w1 (w.heap.size+2) _ _ _ _ _ _ _ _ _ _ _ _)
theorem Nf(g b given ae:Int)(o l i:Zk)(tn p n m k j:Nat)(s J text:Zi)(c:Int)(K:Zk)(M L:Nat)(w:Zh)(I:Int)(Q:Zh->Ending->Zh->Prop)(Q':Ending->Zh->Prop)
 (zM:∀X,Zz w X->Calls prog 78 #[.agg (Ys g b given ae o tn p l n m i k j),.string s] X fun e f=>e=.returned (Zg I)/\Zz X f)
 (zK:0<=I->∀X,Zz w X->w.heap.size+3<=X.heap.size->Calls prog 37 #[.agg (Ys g b given ae o tn p l n m i k j)] X fun e f=>(∃D F E A C B x z y,e=.returned (.agg (Ys g b given ae D F E A C B x z y))/\∀Y,Zz f Y->Calls prog 79 #[.agg (Ys g b given ae D F E A C B x z y),.string s,Zg c] Y (Q X))/\Zz X f)
 (hf:∀X e f,Zz w X->Q X e f->Zz X f/\∃(c0 c1 c2 c3 c4:Int) (D:Zk) (F E:Nat) (A:Zk) (C B:Nat) (x:Zk) (z y:Nat) (V:Zi) (U:Int) (a' b':Zi),e=.returned (.agg #[Zg c0,Zg c1,Zg c2,Zg c3,Zg c4,.slice D F E,.slice A C B,.slice x z y,.string V,Zg U,.string a',.string b']))
 (zO:I<0->∀f,Zz w f->Q' (.returned (.agg (BW 2 ⟨#[]⟩ ⟨#[]⟩).toArray)) f)
 (hq:0<=I->∀X e f zR,Zz w X->w.heap.size+3<=X.heap.size->Q X e f->Tn [w.heap.size+2] f zR->Q' e zR):
 Calls prog 36 #[.agg (Ys g b given ae o tn p l n m i k j),.agg (Yp 4 s J c text K M L)] w Q':=by
 obtain⟨W,G⟩:∃W,W=((w.alloc (.cells (Ys g b given ae o tn p l n m i k j) 40)).alloc (.cells (Yp 4 s J c text K M L) 60)).alloc (.cells Yr 82):=⟨_,rfl⟩;have bW:=(Bm G).1;have zX:=(Bm G).2.1;have h:=(Bm G).2.2.1;have t:Aa W (w.heap.size+1) (Yo 4 s J c text K M L):=by have P:=Aa.new (w.alloc (.cells (Ys g b given ae o tn p l n m i k j) 40)) (Yo 4 s J c text K M L) 60;rw[World.size_alloc]at P;rw[G];exact Aa.below P (Zy)
 have N:Aa W (w.heap.size+2) z12:=by have P:=Aa.new ((w.alloc (.cells (Ys g b given ae o tn p l n m i k j) 40)).alloc (.cells (Yp 4 s J c text K M L) 60)) z12 82;rw[World.size_alloc,World.size_alloc]at P;rw[G];exact P
 have zF:=Yx (zM W bW);have H:Hid (∀X,Zz W X->Aa X w.heap.size (Yt g b given ae o tn p l n m i k j)/\Aa X (w.heap.size+1) (Yo 4 s J c text K M L)/\Aa X (w.heap.size+2) z12/\Zz w X):=fun X r=>⟨Aa.below h r,Aa.below t r,Aa.below (v:=Zf) N r,bW.trans (r.mono bW.size)⟩;have HW:=Yx G;have zE:=Yx zK;have HF:=Yx hf;have zT:=Yx zO;have HQ:=Yx hq;obtain⟨v0,v1,v2,v3,v4,v5,v6⟩:=Aa.c7 h 0 1 2 3 4 5 6
 obtain⟨e0,e1,e2,e3,e4,e5⟩:=Aa.c6 t 0 1 2 3 4 5;clear G h t N zM zK hf zO hq bW;go_enter func36,ntmps36;go_upto_region 1 with fail;rw[←HW.o];clear HW;go_wp2_with fail;refine Calls.mono zF.o ?_;rintro e a ⟨rfl,zI⟩;have R:Hid (Zz W a):=zI;clear v0 v1 v2 v3 v4 v5 v6 e0 e1 e2 e3 e4 e5 zF zI;obtain⟨h,t,N,T⟩:=H.o a R.o;by_cases hneg:I<0
 ·obtain⟨⟨y0,q0⟩,⟨y1,q1⟩,⟨y2,q2⟩,⟨y3,q3⟩,⟨y4,q4⟩,⟨y5,q5⟩,⟨y6,q6⟩,⟨y7,q7⟩,⟨y8,q8⟩,⟨y9,q9⟩,⟨Z,zV⟩,zA,zW⟩:=AT N;have zB:=Yx T;clear h t N T H;go_wp2;refine bodyPost_ret (v:=.agg (BW 2 ⟨#[]⟩ ⟨#[]⟩).toArray) (by simp[results,results36,go_sem,y0,y1,y2,y3,y4,y5,y6,y7,y8,y9,Z,zA,BW]) rfl ?_
  exact zT.o hneg _ (zB.o.trans (Tn.below (Bh a (w.heap.size+2) _ _ _ _ _ _ _ _ _ _ _ _) zB.o.size (by intro v hv;simp at hv;omega)))
 ·have h0:0<=I:=by omega
  have D1:Below a.heap.size a a.drew:=(Below.refl _ _).drew;have bd:=R.o.trans (D1.mono R.o.size);have q:=(H.o _ bd).2.2.2;have zP:w.heap.size+3<=a.drew.heap.size:=by have:=bd.size;omega
  have zC:=Yx (zE.o h0 a.drew q zP);have u:=Yx bd
  have P1:a.drew.cell? (Ze (w.heap.size) 0)=some (Zg g)/\a.drew.cell? (Ze (w.heap.size) 1)=some (Zg b)/\a.drew.cell? (Ze (w.heap.size) 2)=some (Zg given)/\a.drew.cell? (Ze (w.heap.size) 3)=some (Zg ae)/\a.drew.cell? (Ze (w.heap.size) 4)=some (.slice o tn p)/\a.drew.cell? (Ze (w.heap.size) 5)=some (.slice l n m)/\a.drew.cell? (Ze (w.heap.size) 6)=some (.slice i k j)/\a.drew.cell? (Ze (w.heap.size+1) 1)=some (.string s)/\a.drew.cell? (Ze (w.heap.size+1) 3)=some (Zg c):=⟨(h 0 _ rfl).1,(h 1 _ rfl).1,(h 2 _ rfl).1,(h 3 _ rfl).1,(h 4 _ rfl).1,(h 5 _ rfl).1,(h 6 _ rfl).1,(t 1 _ rfl).1,(t 3 _ rfl).1⟩
  have HS:Hid (∀X,Zz W X->X.cell? (Ze (w.heap.size) 0)=some (Zg g)/\X.cell? (Ze (w.heap.size) 1)=some (Zg b)/\X.cell? (Ze (w.heap.size) 2)=some (Zg given)/\X.cell? (Ze (w.heap.size) 3)=some (Zg ae)/\X.cell? (Ze (w.heap.size) 4)=some (.slice o tn p)/\X.cell? (Ze (w.heap.size) 5)=some (.slice l n m)/\X.cell? (Ze (w.heap.size) 6)=some (.slice i k j)/\X.cell? (Ze (w.heap.size+1) 1)=some (.string s)/\X.cell? (Ze (w.heap.size+1) 3)=some (Zg c)):=fun X r=>by
   obtain⟨d,O,_⟩:=H.o X r;exact⟨(d 0 _ rfl).1,(d 1 _ rfl).1,(d 2 _ rfl).1,(d 3 _ rfl).1,(d 4 _ rfl).1,(d 5 _ rfl).1,(d 6 _ rfl).1,(O 1 _ rfl).1,(O 3 _ rfl).1⟩
  have zH:Hid (∀X Y,Zz W X->Tn [w.heap.size+1+1] X Y->Y.cell? (Ze (w.heap.size) 0)=some (Zg g)/\Y.cell? (Ze (w.heap.size) 1)=some (Zg b)/\Y.cell? (Ze (w.heap.size) 2)=some (Zg given)/\Y.cell? (Ze (w.heap.size) 3)=some (Zg ae)/\Y.cell? (Ze (w.heap.size) 4)=some (.slice o tn p)/\Y.cell? (Ze (w.heap.size) 5)=some (.slice l n m)/\Y.cell? (Ze (w.heap.size) 6)=some (.slice i k j)/\Y.cell? (Ze (w.heap.size+1) 1)=some (.string s)/\Y.cell? (Ze (w.heap.size+1) 3)=some (Zg c)):=fun X Y r hY=>by
   obtain⟨z0,z1,_⟩:=H.o X r;have d:=Aa.same z0 (hY.block _ z0.lt (by simp;omega));have O:=Aa.same z1 (hY.block _ z1.lt (by simp));exact⟨(d 0 _ rfl).1,(d 1 _ rfl).1,(d 2 _ rfl).1,(d 3 _ rfl).1,(d 4 _ rfl).1,(d 5 _ rfl).1,(d 6 _ rfl).1,(O 1 _ rfl).1,(O 3 _ rfl).1⟩
  have zS:=hneg;clear h t N T bd P1;go_upto_region 11 with fail
  go_region_held3 (fun X=>X.cell? (Ze (w.heap.size) 0)=some (Zg g)/\X.cell? (Ze (w.heap.size) 1)=some (Zg b)/\X.cell? (Ze (w.heap.size) 2)=some (Zg given)/\X.cell? (Ze (w.heap.size) 3)=some (Zg ae)/\X.cell? (Ze (w.heap.size) 4)=some (.slice o tn p)/\X.cell? (Ze (w.heap.size) 5)=some (.slice l n m)/\X.cell? (Ze (w.heap.size) 6)=some (.slice i k j)/\X.cell? (Ze (w.heap.size+1) 1)=some (.string s)/\X.cell? (Ze (w.heap.size+1) 3)=some (Zg c))
   (first|with_reducible exact HS.o _ u.o|with_reducible exact HS.o _ B2|with_reducible exact HS.o _ B3|with_reducible exact zH.o _ _ B3 (Bh _ _ _ _ _ _ _ _ _ _ _ _ _ _))
   (first
     |(go_at_call 37;refine Calls.mono zC.o ?_;rintro e w2 ⟨⟨D,F,E,A,C,B,x,z,y,rfl,zN⟩,zJ⟩;have B2:Below W.heap.size W w2:=u.o.trans (zJ.mono u.o.size);have zG:=Yx (zN w2 (Below.refl _ _));clear zN zJ)
     |(go_at_call 79;refine Calls.mono zG.o ?_;intro e w3 S;obtain⟨hb3,c0,c1,c2,c3,c4,ua',un',uc',va',vn',vc',xa',xn',xc',V,U,a',b',rfl⟩:=HF.o a.drew e w3 q S;have B3:Below W.heap.size W w3:=u.o.trans (hb3.mono u.o.size);have zU:=Yx S;obtain⟨_,_,zz1,_⟩:=H.o w3 B3;obtain⟨⟨y0,q0⟩,⟨y1,q1⟩,⟨y2,q2⟩,⟨y3,q3⟩,⟨y4,q4⟩,⟨y5,q5⟩,⟨y6,q6⟩,⟨y7,q7⟩,⟨y8,q8⟩,⟨y9,q9⟩,⟨Z,zV⟩,zA,zW⟩:=AT zz1;clear S hb3 zz1))
  clear zG zC HS zH zE HF;go_wp2;refine bodyPost_ret (v:=.agg #[Zg c0,Zg c1,Zg c2,Zg c3,Zg c4,.slice ua' un' uc',.slice va' vn' vc',.slice xa' xn' xc',.string V,Zg U,.string a',.string b']) (by simp[results,results36,go_sem,y0,y1,y2,y3,y4,y5,y6,y7,y8,y9,Z,zA]) rfl ?_;exact HQ.o h0 a.drew _ _ _ q zP zU.o (Bh w3 (w.heap.size+2) _ _ _ _ _ _ _ _ _ _ _ _)
theorem RQ{a:List Ld}{k:Nat}{x:Ld}(n:Int)(c:a[k]?=some x):AK (a.take (k+1)) n=AK (a.take k) n++(if x.bf<=n then []else [x]):=by obtain⟨b,rfl⟩:=Zw c;unfold AK;rw[Zu b,List.filter_append];by_cases h:a[k].bf<=n<;>simp[h]
def TT(w w':Zh)(e:Ending)(wd now given ae:Int)(T P:Value)(ls:List Ld)(ticks:Int):Prop:=
 Below w.heap.size w w'/\((1000000000<now+ticks/\e=.returned (.agg #[Zg 4,Zf,Zf,Zf,Zf,Zc,Zc,Zc,Zd,Zf,Zd,Zd]))∨
  (now+ticks<=1000000000/\∃g c,e=.returned (.agg #[Zf,Zg wd,Zg (now+ticks),Zg given,Zg ae,T,P,.slice (some ⟨g,0,none⟩) (AK ls (now+ticks)).length c,Zd,Zf,Zd,Zd])/\w'.ownsRow w.heap.size 139 3 (.slice (some ⟨g,0,none⟩) (AK ls (now+ticks)).length c) (AK ls (now+ticks)).length (Ab lC (AK ls (now+ticks)))))
theorem RR(r b given ae:Int)(o l y:Zk)(tn p n m B:Nat)(d:List Ld)(a:Int)(w:Zh)(j:AU w w.heap.size y d)(hl:d.length<=1000)(zC:0<=b)(zE:b<=1000000000)(zG:0<=a)(zH:a<=1000000000):
 Calls prog 81 #[.agg (Ys r b given ae o tn p l n m y d.length B),Zg a] w fun e w'=>TT w w' e r b given ae (.slice o tn p) (.slice l n m) d a:=by
 obtain⟨W,s⟩:∃W,W=(w.alloc (.cells (Ys r b given ae o tn p l n m y d.length B) 40)).alloc (.cells Yr 82):=⟨_,rfl⟩;have A:=(AW s).1;have U:=(AW s).2.1;have C:=(AW s).2.2.1;have K:Aa W (w.heap.size+1) z12:=by have h1:=Aa.new (w.alloc (.cells (Ys r b given ae o tn p l n m y d.length B) 40)) z12 82;rw[World.size_alloc]at h1;rw[s];exact h1
 have zP:=GO zC zE zG zH;have G:=Yx s;by_cases hbig:1000000000<b+a
 ·obtain⟨⟨y0,q0⟩,⟨y1,q1⟩,⟨y2,q2⟩,⟨y3,q3⟩,⟨y4,q4⟩,⟨y5,q5⟩,⟨y6,q6⟩,⟨y7,q7⟩,⟨y8,q8⟩,⟨y9,q9⟩,⟨E,zI⟩,F,zJ⟩:=AT K;obtain⟨c1,_⟩:=C 1 _ rfl;have HB:=Yx A;have h:=Yx hbig;clear s C K j A U;go_enter func81,ntmps81;go_upto_region 1 with fail;rw[←G.o];clear G;go_wp2;refine bodyPost_ret (v:=.agg (Yq 4)) (by simp[results,results81,go_sem,y0,y1,y2,y3,y4,y5,y6,y7,y8,y9,E,F]) rfl ?_
  exact⟨HB.o.trans (Tn.below (Bh W (w.heap.size+1) _ _ _ _ _ _ _ _ _ _ _ _) HB.o.size (by intro v hv;simp at hv;omega)),.inl ⟨h.o,rfl⟩⟩
 ·obtain⟨X,H⟩:∃X,X=W.setCell (Ze (w.heap.size) 1) (Zg (b+a)):=⟨_,rfl⟩;have J:Tn [w.heap.size] W X:=by rw[H];exact En _ _ _ _
  have D:w.heap.size+2<=X.heap.size:=by have:=J.size;omega
  have u0:Aa X w.heap.size (Yt r (b+a) given ae o tn p l n m y d.length B):=by rw[H];exact C.set 1 _
  have u1:=Aa.same K (J.block _ (by omega) (by simp));have HX:Hid (∀Y,Below (w.heap.size+2) X Y->Aa Y w.heap.size (Yt r (b+a) given ae o tn p l n m y d.length B)/\Aa Y (w.heap.size+1) z12):=fun Y hY=>⟨Aa.same u0 (hY.block _ (by omega)),Aa.same u1 (hY.block _ (by omega))⟩;have Q:=Yx H;have HR:=Yx j;have zA:=Yx (A.trans (J.below A.size (by simp)));have h:=Yx (Int.not_lt.1 hbig)
  have bA:Below X.heap.size X (X.alloc (.cells #[] 139)):=Zy;have O:Hid ((X.alloc (.cells #[] 139)).ownsRow (w.heap.size+2) 139 3 (Za X.heap.size 0 0) 0 []):=World.ownsRow_lit (base:=w.heap.size+2) (e:=139) (size:=3) X #[] 0 D (by unfold maxLen;omega) rfl;have L:Hid (Below (w.heap.size+2) X (X.alloc (.cells #[] 139))):=bA.mono D;obtain⟨c1,f1⟩:=C 1 _ rfl;clear s H U C K u0 u1 j A bA J
  go_enter func81,ntmps81;go_upto_region 1 with fail;rw[←G.o];clear G;go_upto_region 4 with fail;rw[←Q.o];clear Q c1 f1;go_wp2
  go_loopw [5,6] (fun v i wr=>∃(k g c:Nat),k<=d.length/\i=Zg k/\v=Za g (AK (d.take k) (b+a)).length c/\Hid (wr.ownsRow (w.heap.size+2) 139 3 (Za g (AK (d.take k) (b+a)).length c) (AK (d.take k) (b+a)).length (Ab lC (AK (d.take k) (b+a)))/\Below (w.heap.size+2) X wr)) (fun _ i _=>d.length -(intOf i).toNat)
  case atStart=>exact⟨0,X.heap.size,0,Nat.zero_le _,rfl,by simp[AK],⟨by simpa [AK,Ab]using O.o,L.o⟩⟩
  case round=>
   clear O L;obtain⟨k,g,c,hk,rfl,rfl,f⟩:=hrel;have u:=zA.o.trans (f.o.2.mono (by omega));have Z:=Zm D f.o.2.size;obtain⟨v0,v1,v2,v3,v4,v5,v6,v7⟩:=Bw (HX.o _ f.o.2).1;by_cases hlt:k<d.length
   ·obtain⟨b',zR,ha,hb,R⟩:=(AU.below HR.o u).at hlt;subst ha;have HG:=Yx (Zv hlt);obtain⟨c0,c1,c2⟩:=R k _ HG.o;have P:=Yx (RQ (b+a) HG.o);have zN:(AK (d.take k) (b+a)).length<=1000:=by have:=List.length_filter_le (fun x:Ld=> !decide (x.bf<=(b+a))) (d.take k);unfold AK;rw[List.length_take]at this;omega
    have zK:b'<wr.heap.size:=by have:=u.size;omega
    have zO:(k:Int)<d.length:=by omega
    clear R;generalize d[k]=x at *
    generalize hGk:AK (d.take k) (b+a)=gk at *
    have zM:=Yx hGk;clear hGk;by_cases hxn:x.bf<=(b+a)
    ·have I:decide ((b+a)<x.bf)=false:=by simp;omega
     have z:Hid (AK (d.take (k+1)) (b+a)=gk):=by show _=_;rw[P.o,if_pos hxn,List.append_nil]
     clear hxn;have M:Hid (wr.drew.ownsRow (w.heap.size+2) 139 3 (Za g gk.length c) gk.length (Ab lC gk)/\Below (w.heap.size+2) X wr.drew):=⟨Ae f.o.1 ((Below.refl _ _).drew),f.o.2.drew⟩;clear f;go_upto_region 8 with fail;go_region_with fail
     all_goals
      go_wp2;exact⟨⟨k+1,g,c,by omega,by go_num,by rw[z.o],⟨by rw[z.o];exact M.o.1,M.o.2⟩⟩,by simp[intOf];omega⟩
    ·have I:decide ((b+a)<x.bf)=true:=by simp;omega
     have z:Hid (AK (d.take (k+1)) (b+a)=gk++[x]):=by show _=_;rw[P.o,if_neg hxn]
     clear hxn;obtain⟨g8,t,w8,zF,T,S,zB⟩:=Nj wr.drew (w.heap.size+2) _ gk (Ae f.o.1 ((Below.refl _ _).drew)) x (by omega) Z 38;have b8:=(Below.refl _ _).grown S Z (fun q e=>(Ac f.o.1 e).1);have H8:Hid (w8.ownsRow (w.heap.size+2) 139 3 (Za g8 (gk.length+1) t) (gk++[x]).length (Ab lC (gk++[x]))/\Below (w.heap.size+2) X w8):=⟨T,f.o.2.drew.trans b8⟩;clear T S zB b8 f;go_upto_region 8 with fail
     go_region_with fail
     all_goals
      go_wp2_with (at_builtin;first|(refine wpList_append_run rfl _ _ 38 38 rfl rfl rfl zF ?_));go_wp2;exact⟨⟨k+1,g8,t,by omega,by go_num,by rw[z.o,List.length_append];rfl,⟨by rw[z.o,List.length_append];exact List.length_append▸H8.o.1,H8.o.2⟩⟩,by simp[intOf];omega⟩
   ·obtain rfl:k=d.length:=by omega
    have hO:=f.o.1;rw[Zt (Zx)]at hO ⊢;have HO:=Yx hO;have N:=Yx u;obtain⟨⟨y0,q0⟩,⟨y1,q1⟩,⟨y2,q2⟩,⟨y3,q3⟩,⟨y4,q4⟩,⟨y5,q5⟩,⟨y6,q6⟩,⟨y7,q7⟩,⟨y8,q8⟩,⟨y9,q9⟩,⟨E,zI⟩,F,zJ⟩:=AT (HX.o _ f.o.2).2;have f6:=((HX.o _ f.o.2).1 6 _ rfl).2;clear hO u f;go_wp2
    refine bodyPost_ret (v:=.agg #[Zf,Zg r,Zg (b+a),Zg given,Zg ae,.slice o tn p,.slice l n m,Za g (AK d (b+a)).length c,Zd,Zf,Zd,Zd]) (by simp[results,results81,go_sem,y0,y1,y2,y3,y4,y5,y6,y7,y8,y9,E,F]) rfl ?_
    have T':=(Tn.set (V:=[w.heap.size,w.heap.size+1]) wr w.heap.size 6 (Za g (AK d (b+a)).length c) (by simp)).trans (Tn.mono (Bh (wr.setCell (Ze (w.heap.size) 6) (Za g (AK d (b+a)).length c)) (w.heap.size+1) Zf (Zg r) (Zg (b+a)) (Zg given) (Zg ae) (.slice o tn p) (.slice l n m) (Za g (AK d (b+a)).length c) Zd Zf Zd Zd) (by simp))
    exact⟨N.o.trans (T'.below N.o.size (by intro v hv;simp at hv;omega)),.inr ⟨h.o,g,c,rfl,(Ai HO.o (fun q I=>T'.block q (Ac HO.o I).2 (by have:=(Ac HO.o I).1;simp;omega))).mono (by omega)⟩⟩
end Go.Proofs.YtdgblkklkaklhaaGreatDoor
