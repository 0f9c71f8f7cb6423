import Derived.Test.YtlhhpofjkgmbeaaGreatDoorX28
import Derived.Test.YtlhhpofjkgmbeaaGreatDoorX13
set_option maxRecDepth 100000
set_option maxHeartbeats 16000000
namespace Go.Proofs.YtlhhpofjkgmbeaaGreatDoor
open Go.ChangeShapes Go.WideShapes Go.ChangeAt Go.RowKit _root_.Go.Proofs.Tryz
theorem Dj(a:Int)(g:Nat)(args:Array Value)(wd now given ae:Int)(ta pa la:Zk)(tn tc f pc d lc:Nat)(s nm text:Zi)(num:Int)(ra:Zk)(k rc:Nat)(w:Zh)(V:List Nat)(Q:Zh->Ending->Zh->Prop)(D:Ending->Zh->Prop)
 (hk:(a=1/\g=75/\args= #[.agg (Ys wd now given ae ta tn tc pa f pc la d lc),.agg (Yp a s nm num text ra k rc)])∨(a=2/\g=76/\args= #[.agg (Ys wd now given ae ta tn tc pa f pc la d lc),.agg (Yp a s nm num text ra k rc)])∨(a=3/\g=77/\args= #[.agg (Ys wd now given ae ta tn tc pa f pc la d lc),.string nm])∨(a=5/\g=80/\args= #[.agg (Ys wd now given ae ta tn tc pa f pc la d lc),Zg num])∨(a=6/\g=81/\args= #[.agg (Ys wd now given ae ta tn tc pa f pc la d lc),Zg num])∨(a=7/\g=82/\args= #[.agg (Ys wd now given ae ta tn tc pa f pc la d lc),.string s]))
 (N:∀b∈V,b<w.heap.size)
 (O:∀X,Zz w X->w.heap.size+3<=X.heap.size->Calls prog g args X (Q X))
 (P:∀X e w',Q X e w'->Tn V X w'/\∃(H I c2 c3 c4:Int) (x:Zk) (z y:Nat) (q:Zk) (t r:Nat) (m:Zk) (p n:Nat) (u:Zi) (o:Int) (E F:Zi),e=.returned (.agg #[Zg H,Zg I,Zg c2,Zg c3,Zg c4,.slice x z y,.slice q t r,.slice m p n,.string u,Zg o,.string E,.string F]))
 (R:∀X e w' c,Zz w X->w.heap.size+3<=X.heap.size->Q X e w'->Tn [w.heap.size+2] w' c->D e c):
 Calls prog 36 #[.agg (Ys wd now given ae ta tn tc pa f pc la d lc),.agg (Yp a s nm num text ra k rc)] w D:=by
 obtain⟨W,j⟩:∃W,W=((w.alloc (.cells (Ys wd now given ae ta tn tc pa f pc la d lc) 40)).alloc (.cells (Yp a s nm num text ra k rc) 60)).alloc (.cells Yr 82):=⟨_,rfl⟩;have G:=(Bm j).1;have zB:=(Bm j).2.1;have S:=(Bm j).2.2.1;have U:Aa W (w.heap.size+1) (Yo a s nm num text ra k rc):=by have i:=Aa.new (w.alloc (.cells (Ys wd now given ae ta tn tc pa f pc la d lc) 40)) (Yo a s nm num text ra k rc) 60;rw[World.size_alloc]at i;rw[j];exact Aa.below i (Zy)
 have T:Aa W (w.heap.size+2) z12:=by have i:=Aa.new ((w.alloc (.cells (Ys wd now given ae ta tn tc pa f pc la d lc) 40)).alloc (.cells (Yp a s nm num text ra k rc) 60)) z12 82;rw[World.size_alloc,World.size_alloc]at i;rw[j];exact i
 have K:=Yx (O W G (by omega));have HQ:Hid (∀e w' c,Q W e w'->Tn [w.heap.size+2] w' c->D e c):=fun e w' c i h2=>R W e w' c G (by omega) i h2;have L:=Yx (P W);have A:Hid (Aa W (w.heap.size+2) z12):=T;have HV:Hid (∀b∈V,b<w.heap.size):=N;have M:=Yx j;obtain⟨v0,v1,v2,v3,v4,v5,v6⟩:=Aa.c7 S 0 1 2 3 4 5 6;obtain⟨e0,e1,e2,e3,e4,e5⟩:=Aa.c6 U 0 1 2 3 4 5;clear j S U T O R P N G
 rcases hk with⟨rfl,rfl,rfl⟩|⟨rfl,rfl,rfl⟩|⟨rfl,rfl,rfl⟩|⟨rfl,rfl,rfl⟩|⟨rfl,rfl,rfl⟩|⟨rfl,rfl,rfl⟩
 all_goals
  go_enter func36,ntmps36;go_upto_region 1 with fail;rw[←M.o];clear M;go_wp2_with fail;refine Calls.mono K.o ?_;intro e J l;obtain⟨B,H,I,c2,c3,c4,x,z,y,q,t,r,m,p,n,u,o,E,F,rfl⟩:=L.o e J l;have C:Aa J (w.heap.size+2) z12:=Aa.same A.o (B.block _ A.o.lt (fun h=>by have:=HV.o _ h;omega));obtain⟨⟨y0,q0⟩,⟨y1,q1⟩,⟨y2,q2⟩,⟨y3,q3⟩,⟨y4,q4⟩,⟨y5,q5⟩,⟨y6,q6⟩,⟨y7,q7⟩,⟨y8,q8⟩,⟨y9,q9⟩,⟨Z,zC⟩,zA,zE⟩:=AT C
  have Y:=Yx l;clear l C B v0 v1 v2 v3 v4 v5 v6 e0 e1 e2 e3 e4 e5 K L;go_wp2;refine bodyPost_ret (v:=.agg #[Zg H,Zg I,Zg c2,Zg c3,Zg c4,.slice x z y,.slice q t r,.slice m p n,.string u,Zg o,.string E,.string F]) (by simp[results,results36,go_sem,y0,y1,y2,y3,y4,y5,y6,y7,y8,y9,Z,zA]) rfl ?_;exact HQ.o _ _ _ Y.o (Bh J (w.heap.size+2) _ _ _ _ _ _ _ _ _ _ _ _)
theorem Nf(wd now given ae:Int)(ta pa la:Zk)(tn tc g pc f lc:Nat)(s nm text:Zi)(num:Int)(ra:Zk)(A rc:Nat)(w:Zh)(z:Int)(Q:Zh->Ending->Zh->Prop)(Q':Ending->Zh->Prop)
 (zC:∀X,Zz w X->Calls prog 78 #[.agg (Ys wd now given ae ta tn tc pa g pc la f lc),.string s] X fun e w'=>e=.returned (Zg z)/\Zz X w')
 (zB:0<=z->∀X,Zz w X->w.heap.size+3<=X.heap.size->Calls prog 37 #[.agg (Ys wd now given ae ta tn tc pa g pc la f lc)] X fun e w'=>(∃r u t o q p l n m,e=.returned (.agg (Ys wd now given ae r u t o q p l n m))/\∀Y,Zz w' Y->Calls prog 79 #[.agg (Ys wd now given ae r u t o q p l n m),.string s,Zg num] Y (Q X))/\Zz X w')
 (hf:∀X e w',Zz w X->Q X e w'->Zz X w'/\∃(c0 c1 c2 c3 c4:Int) (r:Zk) (u t:Nat) (o:Zk) (q p:Nat) (l:Zk) (n m:Nat) (I:Zi) (H:Int) (a' b':Zi),e=.returned (.agg #[Zg c0,Zg c1,Zg c2,Zg c3,Zg c4,.slice r u t,.slice o q p,.slice l n m,.string I,Zg H,.string a',.string b']))
 (zF:z<0->∀w',Zz w w'->Q' (.returned (.agg (BW 2 ⟨#[]⟩ ⟨#[]⟩).toArray)) w')
 (hq:0<=z->∀X e w' zH,Zz w X->w.heap.size+3<=X.heap.size->Q X e w'->Tn [w.heap.size+2] w' zH->Q' e zH):
 Calls prog 36 #[.agg (Ys wd now given ae ta tn tc pa g pc la f lc),.agg (Yp 4 s nm num text ra A rc)] w Q':=by
 obtain⟨W,x⟩:∃W,W=((w.alloc (.cells (Ys wd now given ae ta tn tc pa g pc la f lc) 40)).alloc (.cells (Yp 4 s nm num text ra A rc) 60)).alloc (.cells Yr 82):=⟨_,rfl⟩;have M:=(Bm x).1;have zO:=(Bm x).2.1;have d:=(Bm x).2.2.1;have j:Aa W (w.heap.size+1) (Yo 4 s nm num text ra A rc):=by have D:=Aa.new (w.alloc (.cells (Ys wd now given ae ta tn tc pa g pc la f lc) 40)) (Yo 4 s nm num text ra A rc) 60;rw[World.size_alloc]at D;rw[x];exact Aa.below D (Zy)
 have B:Aa W (w.heap.size+2) z12:=by have D:=Aa.new ((w.alloc (.cells (Ys wd now given ae ta tn tc pa g pc la f lc) 40)).alloc (.cells (Yp 4 s nm num text ra A rc) 60)) z12 82;rw[World.size_alloc,World.size_alloc]at D;rw[x];exact D
 have T:=Yx (zC W M);have y:Hid (∀X,Zz W X->Aa X w.heap.size (Yt wd now given ae ta tn tc pa g pc la f lc)/\Aa X (w.heap.size+1) (Yo 4 s nm num text ra A rc)/\Aa X (w.heap.size+2) z12/\Zz w X):=fun X i=>⟨Aa.below d i,Aa.below j i,Aa.below (v:=Zf) B i,M.trans (i.mono M.size)⟩;have HW:=Yx x;have S:=Yx zB;have HF:=Yx hf;have zJ:=Yx zF;have HQ:=Yx hq;obtain⟨v0,v1,v2,v3,v4,v5,v6⟩:=Aa.c7 d 0 1 2 3 4 5 6
 obtain⟨e0,e1,e2,e3,e4,e5⟩:=Aa.c6 j 0 1 2 3 4 5;clear x d j B zC zB hf zF hq M;go_enter func36,ntmps36;go_upto_region 1 with fail;rw[←HW.o];clear HW;go_wp2_with fail;refine Calls.mono T.o ?_;rintro e a ⟨rfl,Z⟩;have E:Hid (Zz W a):=Z;clear v0 v1 v2 v3 v4 v5 v6 e0 e1 e2 e3 e4 e5 T Z;obtain⟨d,j,B,G⟩:=y.o a E.o;by_cases hneg:z<0
 ·obtain⟨⟨y0,q0⟩,⟨y1,q1⟩,⟨y2,q2⟩,⟨y3,q3⟩,⟨y4,q4⟩,⟨y5,q5⟩,⟨y6,q6⟩,⟨y7,q7⟩,⟨y8,q8⟩,⟨y9,q9⟩,⟨J,zM⟩,K,zN⟩:=AT B;have P:=Yx G;clear d j B G y;go_wp2;refine bodyPost_ret (v:=.agg (BW 2 ⟨#[]⟩ ⟨#[]⟩).toArray) (by simp[results,results36,go_sem,y0,y1,y2,y3,y4,y5,y6,y7,y8,y9,J,K,BW]) rfl ?_
  exact zJ.o hneg _ (P.o.trans (Tn.below (Bh a (w.heap.size+2) _ _ _ _ _ _ _ _ _ _ _ _) P.o.size (by intro v hv;simp at hv;omega)))
 ·have h0:0<=z:=by omega
  have D1:Below a.heap.size a a.drew:=(Below.refl _ _).drew;have N:=E.o.trans (D1.mono E.o.size);have h:=(y.o _ N).2.2.2;have zG:w.heap.size+3<=a.drew.heap.size:=by have:=N.size;omega
  have R:=Yx (S.o h0 a.drew h zG);have k:=Yx N
  have P1:a.drew.cell? (Ze (w.heap.size) 0)=some (Zg wd)/\a.drew.cell? (Ze (w.heap.size) 1)=some (Zg now)/\a.drew.cell? (Ze (w.heap.size) 2)=some (Zg given)/\a.drew.cell? (Ze (w.heap.size) 3)=some (Zg ae)/\a.drew.cell? (Ze (w.heap.size) 4)=some (.slice ta tn tc)/\a.drew.cell? (Ze (w.heap.size) 5)=some (.slice pa g pc)/\a.drew.cell? (Ze (w.heap.size) 6)=some (.slice la f lc)/\a.drew.cell? (Ze (w.heap.size+1) 1)=some (.string s)/\a.drew.cell? (Ze (w.heap.size+1) 3)=some (Zg num):=⟨(d 0 _ rfl).1,(d 1 _ rfl).1,(d 2 _ rfl).1,(d 3 _ rfl).1,(d 4 _ rfl).1,(d 5 _ rfl).1,(d 6 _ rfl).1,(j 1 _ rfl).1,(j 3 _ rfl).1⟩
  have L:Hid (∀X,Zz W X->X.cell? (Ze (w.heap.size) 0)=some (Zg wd)/\X.cell? (Ze (w.heap.size) 1)=some (Zg now)/\X.cell? (Ze (w.heap.size) 2)=some (Zg given)/\X.cell? (Ze (w.heap.size) 3)=some (Zg ae)/\X.cell? (Ze (w.heap.size) 4)=some (.slice ta tn tc)/\X.cell? (Ze (w.heap.size) 5)=some (.slice pa g pc)/\X.cell? (Ze (w.heap.size) 6)=some (.slice la f lc)/\X.cell? (Ze (w.heap.size+1) 1)=some (.string s)/\X.cell? (Ze (w.heap.size+1) 3)=some (Zg num)):=fun X i=>by
   obtain⟨c,C,_⟩:=y.o X i;exact⟨(c 0 _ rfl).1,(c 1 _ rfl).1,(c 2 _ rfl).1,(c 3 _ rfl).1,(c 4 _ rfl).1,(c 5 _ rfl).1,(c 6 _ rfl).1,(C 1 _ rfl).1,(C 3 _ rfl).1⟩
  have V:Hid (∀X Y,Zz W X->Tn [w.heap.size+1+1] X Y->Y.cell? (Ze (w.heap.size) 0)=some (Zg wd)/\Y.cell? (Ze (w.heap.size) 1)=some (Zg now)/\Y.cell? (Ze (w.heap.size) 2)=some (Zg given)/\Y.cell? (Ze (w.heap.size) 3)=some (Zg ae)/\Y.cell? (Ze (w.heap.size) 4)=some (.slice ta tn tc)/\Y.cell? (Ze (w.heap.size) 5)=some (.slice pa g pc)/\Y.cell? (Ze (w.heap.size) 6)=some (.slice la f lc)/\Y.cell? (Ze (w.heap.size+1) 1)=some (.string s)/\Y.cell? (Ze (w.heap.size+1) 3)=some (Zg num)):=fun X Y i hY=>by
   obtain⟨z0,z1,_⟩:=y.o X i;have c:=Aa.same z0 (hY.block _ z0.lt (by simp;omega));have C:=Aa.same z1 (hY.block _ z1.lt (by simp));exact⟨(c 0 _ rfl).1,(c 1 _ rfl).1,(c 2 _ rfl).1,(c 3 _ rfl).1,(c 4 _ rfl).1,(c 5 _ rfl).1,(c 6 _ rfl).1,(C 1 _ rfl).1,(C 3 _ rfl).1⟩
  have zI:=hneg;clear d j B G N P1;go_upto_region 11 with fail
  go_region_held3 (fun X=>X.cell? (Ze (w.heap.size) 0)=some (Zg wd)/\X.cell? (Ze (w.heap.size) 1)=some (Zg now)/\X.cell? (Ze (w.heap.size) 2)=some (Zg given)/\X.cell? (Ze (w.heap.size) 3)=some (Zg ae)/\X.cell? (Ze (w.heap.size) 4)=some (.slice ta tn tc)/\X.cell? (Ze (w.heap.size) 5)=some (.slice pa g pc)/\X.cell? (Ze (w.heap.size) 6)=some (.slice la f lc)/\X.cell? (Ze (w.heap.size+1) 1)=some (.string s)/\X.cell? (Ze (w.heap.size+1) 3)=some (Zg num))
   (first|with_reducible exact L.o _ k.o|with_reducible exact L.o _ B2|with_reducible exact L.o _ B3|with_reducible exact V.o _ _ B3 (Bh _ _ _ _ _ _ _ _ _ _ _ _ _ _))
   (first
     |(go_at_call 37;refine Calls.mono R.o ?_;rintro e w2 ⟨⟨r,u,t,o,q,p,l,n,m,rfl,zE⟩,zA⟩;have B2:Below W.heap.size W w2:=k.o.trans (zA.mono k.o.size);have U:=Yx (zE w2 (Below.refl _ _));clear zE zA)
     |(go_at_call 79;refine Calls.mono U.o ?_;intro e O F;obtain⟨hb3,c0,c1,c2,c3,c4,ua',un',uc',va',vn',vc',xa',xn',xc',I,H,a',b',rfl⟩:=HF.o a.drew e O h F;have B3:Below W.heap.size W O:=k.o.trans (hb3.mono k.o.size);have zK:=Yx F;obtain⟨_,_,zz1,_⟩:=y.o O B3;obtain⟨⟨y0,q0⟩,⟨y1,q1⟩,⟨y2,q2⟩,⟨y3,q3⟩,⟨y4,q4⟩,⟨y5,q5⟩,⟨y6,q6⟩,⟨y7,q7⟩,⟨y8,q8⟩,⟨y9,q9⟩,⟨J,zM⟩,K,zN⟩:=AT zz1;clear F hb3 zz1))
  clear U R L V S HF;go_wp2;refine bodyPost_ret (v:=.agg #[Zg c0,Zg c1,Zg c2,Zg c3,Zg c4,.slice ua' un' uc',.slice va' vn' vc',.slice xa' xn' xc',.string I,Zg H,.string a',.string b']) (by simp[results,results36,go_sem,y0,y1,y2,y3,y4,y5,y6,y7,y8,y9,J,K]) rfl ?_;exact HQ.o h0 a.drew _ _ _ h zG zK.o (Bh O (w.heap.size+2) _ _ _ _ _ _ _ _ _ _ _ _)
theorem RQ{ls:List Ld}{k:Nat}{x:Ld}(n:Int)(c:ls[k]?=some x):AK (ls.take (k+1)) n=AK (ls.take k) n++(if x.bf<=n then []else [x]):=by obtain⟨a,rfl⟩:=Zw c;unfold AK;rw[Zu a,List.filter_append];by_cases h:ls[k].bf<=n<;>simp[h]
def TT(w w':Zh)(e:Ending)(wd now given ae:Int)(T P:Value)(ls:List Ld)(ticks:Int):Prop:=
 Below w.heap.size w w'/\((1000000000<now+ticks/\e=.returned (.agg #[Zg 4,Zf,Zf,Zf,Zf,Zc,Zc,Zc,Zd,Zf,Zd,Zd]))∨
  (now+ticks<=1000000000/\∃g c,e=.returned (.agg #[Zf,Zg wd,Zg (now+ticks),Zg given,Zg ae,T,P,.slice (some ⟨g,0,none⟩) (AK ls (now+ticks)).length c,Zd,Zf,Zd,Zd])/\w'.ownsRow w.heap.size 139 3 (.slice (some ⟨g,0,none⟩) (AK ls (now+ticks)).length c) (AK ls (now+ticks)).length (Ab lC (AK ls (now+ticks)))))
theorem RR(wd now given ae:Int)(ta pa la:Zk)(tn tc j pc lc:Nat)(ls:List Ld)(a:Int)(w:Zh)(h:AU w w.heap.size la ls)(hl:ls.length<=1000)(zC:0<=now)(zE:now<=1000000000)(zG:0<=a)(zH:a<=1000000000):
 Calls prog 81 #[.agg (Ys wd now given ae ta tn tc pa j pc la ls.length lc),Zg a] w fun e w'=>TT w w' e wd now given ae (.slice ta tn tc) (.slice pa j pc) ls a:=by
 obtain⟨W,l⟩:∃W,W=(w.alloc (.cells (Ys wd now given ae ta tn tc pa j pc la ls.length lc) 40)).alloc (.cells Yr 82):=⟨_,rfl⟩;have p:=(AW l).1;have N:=(AW l).2.1;have r:=(AW l).2.2.1;have D:Aa W (w.heap.size+1) z12:=by have h1:=Aa.new (w.alloc (.cells (Ys wd now given ae ta tn tc pa j pc la ls.length lc) 40)) z12 82;rw[World.size_alloc]at h1;rw[l];exact h1
 have zP:=GO zC zE zG zH;have z:=Yx l;by_cases hbig:1000000000<now+a
 ·obtain⟨⟨U,q0⟩,⟨Z,q1⟩,⟨y2,q2⟩,⟨y3,q3⟩,⟨y4,q4⟩,⟨y5,q5⟩,⟨y6,q6⟩,⟨y7,q7⟩,⟨y8,q8⟩,⟨y9,q9⟩,⟨u,zI⟩,y,zJ⟩:=AT D;obtain⟨R,_⟩:=r 1 _ rfl;have HB:=Yx p;have f:=Yx hbig;clear l r D h p N;go_enter func81,ntmps81;go_upto_region 1 with fail;rw[←z.o];clear z;go_wp2;refine bodyPost_ret (v:=.agg (Yq 4)) (by simp[results,results81,go_sem,U,Z,y2,y3,y4,y5,y6,y7,y8,y9,u,y]) rfl ?_
  exact⟨HB.o.trans (Tn.below (Bh W (w.heap.size+1) _ _ _ _ _ _ _ _ _ _ _ _) HB.o.size (by intro v T;simp at T;omega)),.inl ⟨f.o,rfl⟩⟩
 ·obtain⟨X,A⟩:∃X,X=W.setCell (Ze (w.heap.size) 1) (Zg (now+a)):=⟨_,rfl⟩;have C:Tn [w.heap.size] W X:=by rw[A];exact En _ _ _ _
  have t:w.heap.size+2<=X.heap.size:=by have:=C.size;omega
  have u0:Aa X w.heap.size (Yt wd (now+a) given ae ta tn tc pa j pc la ls.length lc):=by rw[A];exact r.set 1 _
  have u1:=Aa.same D (C.block _ (by omega) (by simp));have Q:Hid (∀Y,Below (w.heap.size+2) X Y->Aa Y w.heap.size (Yt wd (now+a) given ae ta tn tc pa j pc la ls.length lc)/\Aa Y (w.heap.size+1) z12):=fun Y hY=>⟨Aa.same u0 (hY.block _ (by omega)),Aa.same u1 (hY.block _ (by omega))⟩;have J:=Yx A;have HR:=Yx h;have zA:=Yx (p.trans (C.below p.size (by simp)));have f:=Yx (Int.not_lt.1 hbig)
  have bA:Below X.heap.size X (X.alloc (.cells #[] 139)):=Zy;have H:Hid ((X.alloc (.cells #[] 139)).ownsRow (w.heap.size+2) 139 3 (Za X.heap.size 0 0) 0 []):=World.ownsRow_lit (base:=w.heap.size+2) (e:=139) (size:=3) X #[] 0 t (by unfold maxLen;omega) rfl;have E:Hid (Below (w.heap.size+2) X (X.alloc (.cells #[] 139))):=bA.mono t;obtain⟨R,f1⟩:=r 1 _ rfl;clear l A N r D u0 u1 h p bA C
  go_enter func81,ntmps81;go_upto_region 1 with fail;rw[←z.o];clear z;go_upto_region 4 with fail;rw[←J.o];clear J R f1;go_wp2
  go_loopw [5,6] (fun v i wr=>∃(k g c:Nat),k<=ls.length/\i=Zg k/\v=Za g (AK (ls.take k) (now+a)).length c/\Hid (wr.ownsRow (w.heap.size+2) 139 3 (Za g (AK (ls.take k) (now+a)).length c) (AK (ls.take k) (now+a)).length (Ab lC (AK (ls.take k) (now+a)))/\Below (w.heap.size+2) X wr)) (fun _ i _=>ls.length -(intOf i).toNat)
  case atStart=>exact⟨0,X.heap.size,0,Nat.zero_le _,rfl,by simp[AK],⟨by simpa [AK,Ab]using H.o,E.o⟩⟩
  case round=>
   clear H E;obtain⟨k,g,c,hk,rfl,rfl,d⟩:=hrel;have n:=zA.o.trans (d.o.2.mono (by omega));have O:=Zm t d.o.2.size;obtain⟨v0,v1,v2,v3,v4,v5,v6,v7⟩:=Bw (Q.o _ d.o.2).1;by_cases hlt:k<ls.length
   ·obtain⟨b',zR,ha,hb,K⟩:=(AU.below HR.o n).at hlt;subst ha;have HG:=Yx (Zv hlt);obtain⟨c0,R,c2⟩:=K k _ HG.o;have I:=Yx (RQ (now+a) HG.o);have zN:(AK (ls.take k) (now+a)).length<=1000:=by have:=List.length_filter_le (fun x:Ld=> !decide (x.bf<=(now+a))) (ls.take k);unfold AK;rw[List.length_take]at this;omega
    have zK:b'<wr.heap.size:=by have:=n.size;omega
    have zO:(k:Int)<ls.length:=by omega
    clear K;generalize ls[k]=x at *
    generalize hGk:AK (ls.take k) (now+a)=gk at *
    have zM:=Yx hGk;clear hGk;by_cases hxn:x.bf<=(now+a)
    ·have B:decide ((now+a)<x.bf)=false:=by simp;omega
     have o:Hid (AK (ls.take (k+1)) (now+a)=gk):=by show _=_;rw[I.o,if_pos hxn,List.append_nil]
     clear hxn;have F:Hid (wr.drew.ownsRow (w.heap.size+2) 139 3 (Za g gk.length c) gk.length (Ab lC gk)/\Below (w.heap.size+2) X wr.drew):=⟨Ae d.o.1 ((Below.refl _ _).drew),d.o.2.drew⟩;clear d;go_upto_region 8 with fail;go_region_with fail
     all_goals
      go_wp2;exact⟨⟨k+1,g,c,by omega,by go_num,by rw[o.o],⟨by rw[o.o];exact F.o.1,F.o.2⟩⟩,by simp[intOf];omega⟩
    ·have B:decide ((now+a)<x.bf)=true:=by simp;omega
     have o:Hid (AK (ls.take (k+1)) (now+a)=gk++[x]):=by show _=_;rw[I.o,if_neg hxn]
     clear hxn;obtain⟨g8,m,w8,zF,M,L,zB⟩:=Nj wr.drew (w.heap.size+2) _ gk (Ae d.o.1 ((Below.refl _ _).drew)) x (by omega) O 38;have b8:=(Below.refl _ _).grown L O (fun q e=>(Ac d.o.1 e).1);have H8:Hid (w8.ownsRow (w.heap.size+2) 139 3 (Za g8 (gk.length+1) m) (gk++[x]).length (Ab lC (gk++[x]))/\Below (w.heap.size+2) X w8):=⟨M,d.o.2.drew.trans b8⟩;clear M L zB b8 d;go_upto_region 8 with fail
     go_region_with fail
     all_goals
      go_wp2_with (at_builtin;first|(refine wpList_append_run rfl _ _ 38 38 rfl rfl rfl zF ?_));go_wp2;exact⟨⟨k+1,g8,m,by omega,by go_num,by rw[o.o,List.length_append];rfl,⟨by rw[o.o,List.length_append];exact List.length_append▸H8.o.1,H8.o.2⟩⟩,by simp[intOf];omega⟩
   ·obtain rfl:k=ls.length:=by omega
    have S:=d.o.1;rw[Zt (Zx)]at S ⊢;have P:=Yx S;have G:=Yx n;obtain⟨⟨U,q0⟩,⟨Z,q1⟩,⟨y2,q2⟩,⟨y3,q3⟩,⟨y4,q4⟩,⟨y5,q5⟩,⟨y6,q6⟩,⟨y7,q7⟩,⟨y8,q8⟩,⟨y9,q9⟩,⟨u,zI⟩,y,zJ⟩:=AT (Q.o _ d.o.2).2;have f6:=((Q.o _ d.o.2).1 6 _ rfl).2;clear S n d;go_wp2
    refine bodyPost_ret (v:=.agg #[Zf,Zg wd,Zg (now+a),Zg given,Zg ae,.slice ta tn tc,.slice pa j pc,Za g (AK ls (now+a)).length c,Zd,Zf,Zd,Zd]) (by simp[results,results81,go_sem,U,Z,y2,y3,y4,y5,y6,y7,y8,y9,u,y]) rfl ?_
    have T':=(Tn.set (V:=[w.heap.size,w.heap.size+1]) wr w.heap.size 6 (Za g (AK ls (now+a)).length c) (by simp)).trans (Tn.mono (Bh (wr.setCell (Ze (w.heap.size) 6) (Za g (AK ls (now+a)).length c)) (w.heap.size+1) Zf (Zg wd) (Zg (now+a)) (Zg given) (Zg ae) (.slice ta tn tc) (.slice pa j pc) (Za g (AK ls (now+a)).length c) Zd Zf Zd Zd) (by simp))
    exact⟨G.o.trans (T'.below G.o.size (by intro v T;simp at T;omega)),.inr ⟨f.o,g,c,rfl,(Ai P.o (fun q B=>T'.block q (Ac P.o B).2 (by have:=(Ac P.o B).1;simp;omega))).mono (by omega)⟩⟩
section
structure CT (w:Zh) (base b:Nat) (ta pa la:Zk) (pc lc:Nat) (zs:List (Kd×Value)) (ps:List Pd) (ls:List Ld):Prop where
 tb:ta=some ⟨b,0,none⟩∨zs=[]
 z:Bx w b 0 zs
 bl:b<w.heap.size
 po:w.ownsRow base 137 2 (.slice pa ps.length pc) ps.length (Ab pC ps)
 lo:w.ownsRow base 139 3 (.slice la ls.length lc) ls.length (Ab lC ls)
 lb:base<=w.heap.size
 bL:some b≠(Value.slice la ls.length lc).ownBlock
 pL:∀g,(Value.slice pa ps.length pc).ownBlock=some g->(Value.slice la ls.length lc).ownBlock≠some g
 zL:∀z∈zs,∀ad n rc,z.2=.slice (some ad) n rc->z.1.refs≠[]->some ad.block≠(Value.slice la ls.length lc).ownBlock
 zb:zs=[]∨base<=b
 zr:∀z∈zs,∀ad n rc,z.2=.slice (some ad) n rc->z.1.refs≠[]->base<=ad.block
def Mz(base:Nat)(L:Value)(wd now given ae:Int)(ks:List Kd)(ps:List Pd)(ls:List Ld)(kd:Int)(s nm:Zi)(num:Int)(text:Zi)(refs:Zl)(w:Zh)(e:Ending)(w':Zh):Prop:=
 Tn L.ownBlock.toList w w'/\(
  (∃c a b,Fu wd now given ae ks ps ls kd s nm num text refs c a b/\e=.returned (.agg (BW c a b).toArray))∨
  (∃r b1 ta1 tc1 zs1 pa1 pc1 la1 lc1,DP wd now given ae ks ps ls kd s nm num text refs r/\e=.returned (.agg #[Zf,Zg wd,Zg r.now,Zg r.given,Zg r.ae,.slice ta1 r.ks.length tc1,.slice pa1 r.ps.length pc1,.slice la1 r.ls.length lc1,.string r.sm,Zg r.le,Zd,Zd])/\zs1.map (·.1)=r.ks/\CT w' base b1 ta1 pa1 la1 pc1 lc1 zs1 r.ps r.ls))
section
variable {w w':Zh} {base b:Nat} {ta pa la:Zk} {pc lc:Nat} {zs:List (Kd×Value)} {ps:List Pd} {ls:List Ld}
theorem CT.below(h:CT w base b ta pa la pc lc zs ps ls)(a:Zz w w'):CT w' base b ta pa la pc lc zs ps ls:=
 ⟨h.tb,h.z.below a h.bl,Zr h.bl a.size,Ae h.po a,Ae h.lo a,Zm h.lb a.size,h.bL,h.pL,h.zL,h.zb,h.zr⟩
theorem CT.dm(h:CT w base b ta pa la pc lc zs ps ls):BH w w.heap.size ta (zs.map (·.1)):=by
 rcases h.tb with e|e
 ·rw[e];exact h.z.dm h.bl
 ·rw[e];exact .inl rfl
theorem CT.fm(h:CT w base b ta pa la pc lc zs ps ls):AS w w.heap.size pa ps:=AS.own h.po
theorem CT.fj(h:CT w base b ta pa la pc lc zs ps ls):AU w w.heap.size la ls:=AU.own h.lo
theorem CT.gg(h:CT w base b ta pa la pc lc zs ps ls){n g c:Nat}{a:List Pd}(d:w.ownsRow n 137 2 (Za g a.length c) a.length (Ab pC a))(i:base<=n)(f:∀q,(Value.slice la ls.length lc).ownBlock=some q->q<n):CT w base b ta (some ⟨g,0,none⟩) la c lc zs a ls:=
 ⟨h.tb,h.z,h.bl,d.mono i,h.lo,h.lb,h.bL,fun q j e=>by have k:=(Ac d j).1;have l:=f q e;omega,h.zL,h.zb,h.zr⟩
theorem CT.gd(h:CT w base b ta pa la pc lc zs ps ls){n g c:Nat}{a:List Ld}(f:w.ownsRow n 139 3 (Za g a.length c) a.length (Ab lC a))(o:base<=n)(u:b<n)(p:∀q,(Value.slice pa ps.length pc).ownBlock=some q->q<n)(t:∀z∈zs,∀d m rc,z.2=.slice (some d) m rc->z.1.refs≠[]->d.block<n):CT w base b ta pa (some ⟨g,0,none⟩) pc c zs ps a:=by
 have v:=(Ac f (g:=g) rfl).1;refine⟨h.tb,h.z,h.bl,h.po,f.mono o,h.lb,fun e=> ?_,fun q r e=> ?_,fun z i d m rc j k e=> ?_,h.zb,h.zr⟩
 ·have:b=g:=by simpa [Value.ownBlock]using e
  omega
 ·have l:g=q:=by simpa [Value.ownBlock]using e
  have:=p q r;omega
 ·have l:d.block=g:=by simpa [Value.ownBlock]using e
  have:=t z i d m rc j k;omega
theorem CT.cg(h:CT w base b ta pa la pc lc zs ps ls):(∀q,(Value.slice pa ps.length pc).ownBlock=some q->q<w.heap.size)/\(∀q,(Value.slice la ls.length lc).ownBlock=some q->q<w.heap.size)/\∀z∈zs,∀c m rc,z.2=.slice (some c) m rc->z.1.refs≠[]->c.block<w.heap.size:=
 ⟨fun _ a=>(Ac h.po a).2,fun _ a=>(Ac h.lo a).2,fun _ f _ _ _ d e=>h.z.br f d e⟩
theorem GB{w:Zh}{base:Nat}{e:TypeId}{size:Nat}{a:Zk}{m c n:Nat}{i:Zj}(h:w.ownsRow base e size (.slice a m c) n i)(f:a=none):c=0:=by
 rcases h.2 with⟨d,_⟩|⟨g,j,k,d,_⟩
 ·injection d
 ·injection d with e1;rw[f]at e1;cases e1
end
theorem DH{w w':Zh}{base:Nat}{e:TypeId}{size:Nat}{v:Value}{n:Nat}{c:Zj}(h:w.ownsRow base e size v n c){q:Nat}(d:Tn [q] w w')(f:q<base):w'.ownsRow base e size v n c:=
 Ai h (fun g a=>d.block g (Ac h a).2 (by have:=(Ac h a).1;simp;omega))
theorem MB{w w':Zh}{base:Nat}{e:TypeId}{size:Nat}{v:Value}{n:Nat}{c:Zj}(h:w.ownsRow base e size v n c){q:Nat}(f:Tn [q] w w')(d:∀g,v.ownBlock=some g->g≠q):w'.ownsRow base e size v n c:=
 Ai h (fun g a=>f.block g (Ac h a).2 (by simp;exact d g a))
theorem Cd{w X w' a:Zh}(c:Zz w X)(d:Zz X w')(e:Tn [w.heap.size+2] w' a):Below w.heap.size w a:=
 (c.trans (d.mono c.size)).trans (e.below (Zm c.size d.size) (by intro v f;simp at f;omega))
theorem Ng(wd now given ae f num:Int)(ta pa la ra:Zk)(tc h pc g lc i rc:Nat)(a:List Kd)(s nm text:Zi)(w:Zh)(l:BH w w.heap.size ta a)(U:a.length<=1000)(m:¬Ax a s):
 Calls prog 76 #[.agg (Ys wd now given ae ta a.length tc pa h pc la g lc),.agg (Yp f s nm num text ra i rc)] w fun e w'=>e=.returned (.agg (BW 2 ⟨#[]⟩ ⟨#[]⟩).toArray)/\Zz w w':=by
 obtain⟨W,c⟩:∃W,W=((w.alloc (.cells (Ys wd now given ae ta a.length tc pa h pc la g lc) 40)).alloc (.cells (Yp f s nm num text ra i rc) 60)).alloc (.cells Yr 82):=⟨_,rfl⟩;have j:=(Bm c).1;have q:=(Bm c).2.2.1;have t:Aa W (w.heap.size+1) (Yo f s nm num text ra i rc):=by have d:=Aa.new (w.alloc (.cells (Ys wd now given ae ta a.length tc pa h pc la g lc) 40)) (Yo f s nm num text ra i rc) 60;rw[World.size_alloc]at d;rw[c];exact Aa.below d (Zy)
 have r:Aa W (w.heap.size+2) z12:=by have d:=Aa.new ((w.alloc (.cells (Ys wd now given ae ta a.length tc pa h pc la g lc) 40)).alloc (.cells (Yp f s nm num text ra i rc) 60)) z12 82;rw[World.size_alloc,World.size_alloc]at d;rw[c];exact d
 have n:=Yx (FE wd now given ae ta tc (.slice pa h pc) (.slice la g lc) a s W w.heap.size (BH.below l j) j.size (by omega));have T:=Io m;have o:=Yx c;have u:=Yx r;obtain⟨v0,B,C,D,E,F,G,H⟩:=Bw q;obtain⟨A,_⟩:=t 1 _ rfl;clear c q r t l m;go_enter func76,ntmps76;go_upto_region 1 with fail;rw[←o.o];clear o;go_wp2_with fail;refine Calls.mono n.o ?_;rintro e I ⟨rfl,k⟩
 obtain⟨⟨J,Y⟩,⟨K,Z⟩,⟨L,q2⟩,⟨M,q3⟩,⟨N,q4⟩,⟨O,q5⟩,⟨P,q6⟩,⟨Q,q7⟩,⟨R,q8⟩,⟨S,q9⟩,⟨x,V⟩,y,X⟩:=AT (Aa.below (v:=Zf) u.o k);have p:=j.trans (k.mono j.size);generalize CE a s=fi at *
 clear v0 B C D E F G H n A;go_wp2;refine bodyPost_ret (v:=.agg (BW 2 ⟨#[]⟩ ⟨#[]⟩).toArray) (by simp[results,results76,go_sem,J,K,L,M,N,O,P,Q,R,S,x,y,BW]) rfl ?_;exact⟨rfl,p.trans (Tn.below (Bh I (w.heap.size+2) _ _ _ _ _ _ _ _ _ _ _ _) p.size (by intro v z;simp at z;omega))⟩
theorem PD{ps:List Pd}{n:Zi}(s:Zi)(h:¬∃x∈ps,x.name=n):(Bl ps n s).length=ps.length+1:=by
 have c:∀(l:List Pd),(¬∃x∈l,x.name=n)->(l.filter (fun x=>less x.name n)).length+(l.filter (fun x=> !(less x.name n)&& !decide (x.name=n))).length=l.length:=by
  intro l;induction l with
  |nil=>intro _;rfl
  |cons x l ih=>intro a;have d:x.name≠n:=fun e=>a ⟨x,by simp,e⟩;have:=ih (fun⟨y,hy,e⟩=>a ⟨y,by simp[hy],e⟩);cases a:less x.name n<;>simp[a,d]<;>omega
 have:=c ps h;unfold Bl;rw[List.length_append,List.length_append];simp;omega
def Aaj(wd now given ae num:Int)(zs:List (Kd×Value))(ps:List Pd)(ls:List Ld)(s:Zi)(X:Zh)(e:Ending)(w':Zh):Prop:=
 Below X.heap.size X w'/\(((ls.length=200∨given=1000000000)/\e=.returned (.agg (BW 4 ⟨#[]⟩ ⟨#[]⟩).toArray))∨
  ((ls.length<200/\given<1000000000)/\∃b1 tc1 zs1 p1 pc1 g c,e=.returned (.agg #[Zf,Zg wd,Zg now,Zg (given+1),Zg ae,.slice (some ⟨b1,0,none⟩) zs.length tc1,.slice (some ⟨p1,0,none⟩) ps.length pc1,.slice (some ⟨g,0,none⟩) (ls.length+1) c,Zd,Zg (given+1),Zd,Zd])/\zs1.map (·.1)=zs.map (·.1)/\w'.ownsRow X.heap.size 131 4 (.slice (some ⟨b1,0,none⟩) zs1.length tc1) zs1.length (Ab kC zs1)/\(∀z∈zs1,∃g' c',z.2=.slice (some ⟨g',0,none⟩) z.1.refs.length c'/\w'.ownsRow X.heap.size 9 1 z.2 z.1.refs.length (z.1.refs.map Value.string))/\w'.ownsRow X.heap.size 137 2 (.slice (some ⟨p1,0,none⟩) ps.length pc1) ps.length (Ab pC ps)/\w'.ownsRow X.heap.size 139 3 (.slice (some ⟨g,0,none⟩) (ls.length+1) c) (ls++[(⟨given+1,s,now+num⟩:Ld)]).length (Ab lC (ls++[(⟨given+1,s,now+num⟩:Ld)]))/\b1≠g/\p1≠g/\∀z∈zs1,∀ad n rc,z.2=.slice (some ad) n rc->ad.block≠g))
theorem Bx.some{w:Zh}{b a:Nat}{zs:List (Kd×Value)}(h:Bx w b a zs):Eg w ⟨b,a,none⟩ (zs.map (·.1)):=by intro i k c;rw[List.getElem?_map]at c;obtain⟨z,g,rfl⟩:=Option.map_eq_some_iff.1 c;obtain⟨⟨_,_,_,e⟩,d,rc,f,_⟩:=h i z g;exact⟨d,rc,by rw[e,f]⟩
theorem OF{T P L:Option Nat}{R:List Nat}{l:Nat}(h:(T.toList++(P.toList++(L.toList++R))).Nodup)(a:L=some l):T≠some l/\P≠some l/\l∉R:=by subst a;cases T<;>cases P<;>simp_all<;>grind
section
variable (base:Nat) (wd now given ae:Int) (b:Nat) (ta pa la:Zk) (tc pc lc:Nat) (zs:List (Kd×Value)) (ps:List Pd) (ls:List Ld) (s nm text:Zi) (num:Int) (refs:Zl) (ra:Zk) (rc:Nat) (w:Zh)
theorem Vq(h:CT w base b ta pa la pc lc zs ps ls)(m:Ho wd now given ae (zs.map (·.1)) ps ls 3 num text refs):
 Calls prog 36 #[.agg (Ys wd now given ae ta zs.length tc pa ps.length pc la ls.length lc),.agg (Yp 3 s nm num text ra refs.length rc)] w (Mz base (.slice la ls.length lc) wd now given ae (zs.map (·.1)) ps ls 3 s nm num text refs w):=by
 refine Dj 3 77 _ wd now given ae ta pa la zs.length tc ps.length pc ls.length lc s nm text num ra refs.length rc w [] (fun X e w'=>PW X w' e wd now given ae (.slice ta zs.length tc) (.slice la ls.length lc) ps nm) _ (.inr (.inr (.inl ⟨rfl,rfl,rfl⟩))) (by simp) (fun X a _=>Pa wd now given ae ta la pa zs.length tc ls.length lc pc ps nm X (h.below a).fm (by have:=m.np;omega)) ?_ ?_
 ·rintro X e w' ⟨d,⟨_,rfl⟩|⟨_,g,c,rfl,_⟩⟩
  ·exact⟨Tn.of d,_,_,_,_,_,_,_,_,_,_,_,_,_,_,_,_,_,_,rfl⟩
  ·exact⟨Tn.of d,_,_,_,_,_,_,_,_,_,_,_,_,_,_,_,_,_,_,rfl⟩
 ·rintro X e w' r a t ⟨d,⟨k,rfl⟩|⟨f,g,c,rfl,o⟩⟩ i
  ·exact⟨Tn.of (Cd a d i),.inl ⟨5,_,_,.inr ⟨rfl,rfl,.inr (.inl ⟨rfl,k,rfl⟩)⟩,rfl⟩⟩
  ·have j:=Cd a d i;have n:=h.below j;have l:=DH o i (by omega);exact⟨Tn.of j,.inr ⟨⟨⟨#[]⟩,0,now,given,ae,zs.map (·.1),AY ps nm,ls⟩,b,ta,tc,zs,_,c,la,lc,.inr (.inr (.inl ⟨rfl,f,rfl⟩)),by rw[List.length_map],rfl,n.gg l (Zm h.lb a.size) (fun q p=>Zr (h.cg.2.1 q p) a.size)⟩⟩
theorem Vr(h:CT w base b ta pa la pc lc zs ps ls)(t:Ho wd now given ae (zs.map (·.1)) ps ls 5 num text refs):
 Calls prog 36 #[.agg (Ys wd now given ae ta zs.length tc pa ps.length pc la ls.length lc),.agg (Yp 5 s nm num text ra refs.length rc)] w (Mz base (.slice la ls.length lc) wd now given ae (zs.map (·.1)) ps ls 5 s nm num text refs w):=by
 refine Dj 5 80 _ wd now given ae ta pa la zs.length tc ps.length pc ls.length lc s nm text num ra refs.length rc w [] (fun X e w'=>SC X w' e wd now given ae (.slice ta zs.length tc) (.slice pa ps.length pc) ls num) _ (.inr (.inr (.inr (.inl ⟨rfl,rfl,rfl⟩)))) (by simp) (fun X d _=>QS wd now given ae ta pa la zs.length tc ps.length pc lc ls num X (h.below d).fj (by have:=t.nl;omega)) ?_ ?_
 ·rintro X e w' ⟨f,⟨_,rfl⟩|⟨_,g,c,rfl,_⟩⟩
  ·exact⟨Tn.of f,_,_,_,_,_,_,_,_,_,_,_,_,_,_,_,_,_,_,rfl⟩
  ·exact⟨Tn.of f,_,_,_,_,_,_,_,_,_,_,_,_,_,_,_,_,_,_,rfl⟩
 ·rintro X e w' y d l ⟨f,⟨m,rfl⟩|⟨i,g,c,rfl,v⟩⟩ j
  ·exact⟨Tn.of (Cd d f j),.inl ⟨5,_,_,.inr ⟨rfl,rfl,.inr (.inr (.inr (.inl ⟨rfl,m,rfl⟩)))⟩,rfl⟩⟩
  ·have k:=Cd d f j;have u:=h.below k;have o:=DH v j (by omega);exact⟨Tn.of k,.inr ⟨⟨⟨#[]⟩,0,now,given,ae,zs.map (·.1),ps,Bo ls num⟩,b,ta,tc,zs,pa,pc,_,c,.inr (.inr (.inr (.inr (.inl ⟨rfl,i,rfl⟩)))),by rw[List.length_map],rfl,u.gd o (Zm h.lb d.size) (Zr h.bl d.size) (fun q x=>Zr (h.cg.1 q x) d.size) (fun z l a n c p r=>Zr (h.cg.2.2 z l a n c p r) d.size)⟩⟩
theorem Vs(h:CT w base b ta pa la pc lc zs ps ls)(f:Ho wd now given ae (zs.map (·.1)) ps ls 6 num text refs):
 Calls prog 36 #[.agg (Ys wd now given ae ta zs.length tc pa ps.length pc la ls.length lc),.agg (Yp 6 s nm num text ra refs.length rc)] w (Mz base (.slice la ls.length lc) wd now given ae (zs.map (·.1)) ps ls 6 s nm num text refs w):=by
 refine Dj 6 81 _ wd now given ae ta pa la zs.length tc ps.length pc ls.length lc s nm text num ra refs.length rc w [] (fun X e w'=>TT X w' e wd now given ae (.slice ta zs.length tc) (.slice pa ps.length pc) ls num) _ (.inr (.inr (.inr (.inr (.inl ⟨rfl,rfl,rfl⟩))))) (by simp) (fun X d _=>RR wd now given ae ta pa la zs.length tc ps.length pc lc ls num X (h.below d).fj (by have:=f.nl;omega) f.co f.cn f.fe f.fh) ?_ ?_
 ·rintro X e w' ⟨i,⟨_,rfl⟩|⟨_,g,c,rfl,_⟩⟩
  ·exact⟨Tn.of i,_,_,_,_,_,_,_,_,_,_,_,_,_,_,_,_,_,_,rfl⟩
  ·exact⟨Tn.of i,_,_,_,_,_,_,_,_,_,_,_,_,_,_,_,_,_,_,rfl⟩
 ·rintro X e w' y d m ⟨i,⟨o,rfl⟩|⟨j,g,c,rfl,v⟩⟩ k
  ·exact⟨Tn.of (Cd d i k),.inl ⟨4,_,_,.inr ⟨rfl,rfl,.inr (.inr (.inr (.inr (.inl ⟨rfl,o,rfl⟩))))⟩,rfl⟩⟩
  ·have l:=Cd d i k;have u:=h.below l;have p:=DH v k (by omega);exact⟨Tn.of l,.inr ⟨⟨⟨#[]⟩,0,now+num,given,ae,zs.map (·.1),ps,AK ls (now+num)⟩,b,ta,tc,zs,pa,pc,_,c,.inr (.inr (.inr (.inr (.inr (.inl ⟨rfl,j,rfl⟩))))),by rw[List.length_map],rfl,u.gd p (Zm h.lb d.size) (Zr h.bl d.size) (fun q x=>Zr (h.cg.1 q x) d.size) (fun z m a n c r t=>Zr (h.cg.2.2 z m a n c r t) d.size)⟩⟩
theorem Vt(h:CT w base b ta pa la pc lc zs ps ls)(j:Ho wd now given ae (zs.map (·.1)) ps ls 2 num text refs):
 Calls prog 36 #[.agg (Ys wd now given ae ta zs.length tc pa ps.length pc la ls.length lc),.agg (Yp 2 s nm num text ra refs.length rc)] w (Mz base (.slice la ls.length lc) wd now given ae (zs.map (·.1)) ps ls 2 s nm num text refs w):=by
 have m:(zs.map (·.1)).length<=1000:=by have:=j.bk.len;omega
 by_cases hth:Ax (zs.map (·.1)) s
 ·refine Dj 2 76 _ wd now given ae ta pa la zs.length tc ps.length pc ls.length lc s nm text num ra refs.length rc w [] (fun X e w'=>VF X w' e wd now given ae (.slice ta zs.length tc) (.slice la ls.length lc) ps nm s) _ (.inr (.inl ⟨rfl,rfl,rfl⟩)) (by simp) (fun X a _=> ?_) ?_ ?_
  ·have i:=SF wd now given ae 2 num ta pa la ra tc pc lc ls.length refs.length rc (zs.map (·.1)) ps nm s text X (h.below a).dm (h.below a).fm m (by have:=j.np;omega) hth j.bu;rw[List.length_map]at i;exact i
  ·rintro X e w' ⟨d,⟨_,rfl⟩|⟨_,g,c,rfl,_⟩⟩
   ·exact⟨Tn.of d,_,_,_,_,_,_,_,_,_,_,_,_,_,_,_,_,_,_,rfl⟩
   ·exact⟨Tn.of d,_,_,_,_,_,_,_,_,_,_,_,_,_,_,_,_,_,_,rfl⟩
  ·rintro X e w' t a A ⟨d,⟨B,rfl⟩|⟨u,g,c,rfl,y⟩⟩ k
   ·have o:=JT ps nm s;have p:¬∃x∈ps,x.name=nm:=fun l=>by have:=o.2 l;have:=j.np;omega
    exact⟨Tn.of (Cd a d k),.inl ⟨4,_,_,.inr ⟨rfl,rfl,.inl ⟨rfl,.inr ⟨hth,p,by have:=o.1;have:=j.np;omega,rfl⟩⟩⟩,rfl⟩⟩
   ·have n:=Cd a d k;have v:=h.below n;have r:=DH y k (by omega);have f:(∃x∈ps,x.name=nm)∨ps.length<100:=by
     by_cases l:∃x∈ps,x.name=nm
     ·exact .inl l
     ·have:=PD s l;exact .inr (by omega)
    exact⟨Tn.of n,.inr ⟨⟨⟨#[]⟩,0,now,given,ae,zs.map (·.1),Bl ps nm s,ls⟩,b,ta,tc,zs,_,c,la,lc,.inr (.inl ⟨rfl,hth,f,rfl⟩),by rw[List.length_map],rfl,v.gg r (Zm h.lb a.size) (fun q z=>Zr (h.cg.2.1 q z) a.size)⟩⟩
 ·refine Dj 2 76 _ wd now given ae ta pa la zs.length tc ps.length pc ls.length lc s nm text num ra refs.length rc w [] (fun X e w'=>e=.returned (.agg (BW 2 ⟨#[]⟩ ⟨#[]⟩).toArray)/\Zz X w') _ (.inr (.inl ⟨rfl,rfl,rfl⟩)) (by simp) (fun X a _=> ?_) ?_ ?_
  ·have i:=Ng wd now given ae 2 num ta pa la ra tc ps.length pc ls.length lc refs.length rc (zs.map (·.1)) s nm text X (h.below a).dm m hth;rw[List.length_map]at i;exact i
  ·rintro X e w' ⟨rfl,d⟩;exact⟨Tn.of d,_,_,_,_,_,_,_,_,_,_,_,_,_,_,_,_,_,_,rfl⟩
  ·rintro X e w' t a A ⟨rfl,d⟩ k;exact⟨Tn.of (Cd a d k),.inl ⟨2,_,_,.inr ⟨rfl,rfl,.inl ⟨rfl,.inl ⟨hth,rfl⟩⟩⟩,rfl⟩⟩
theorem Vu(h:CT w base b ta pa la pc lc zs ps ls)(j:Ho wd now given ae (zs.map (·.1)) ps ls 4 num text refs)(zH:∀k∈zs.map (·.1),k.refs.length<=30):
 Calls prog 36 #[.agg (Ys wd now given ae ta zs.length tc pa ps.length pc la ls.length lc),.agg (Yp 4 s nm num text ra refs.length rc)] w (Mz base (.slice la ls.length lc) wd now given ae (zs.map (·.1)) ps ls 4 s nm num text refs w):=by
 have zJ:(zs.map (·.1)).length<=600:=j.bk.len;refine Nf wd now given ae ta pa la zs.length tc ps.length pc ls.length lc s nm text num ra refs.length rc w (CE (zs.map (·.1)) s) (Aaj wd now given ae num zs ps ls s) _ (fun X u=> ?_) (fun h0 X u r=> ?_) ?_ ?_ ?_
 ·have P:=FE wd now given ae ta tc (.slice pa ps.length pc) (.slice la ls.length lc) (zs.map (·.1)) s X X.heap.size (h.below u).dm (Zx) (by omega);rw[List.length_map]at P;exact P
 ·have t:=h.below u;have P:=Gt wd now given ae ta pa la tc pc lc (zs.map (·.1)) ps ls X ⟨t.dm,t.fm,t.fj⟩ (fun A hA=>by
   rcases t.tb with e|e
   ·rw[e]at hA;cases hA;exact t.z.some
   ·rw[e];intro i k hk;simp at hk) (GB t.po) (GB t.lo) zJ j.np j.nl zH
  rw[List.length_map]at P;refine P.mono ?_;rintro e w' ⟨T,P',L',rs,rfl,d,J,m⟩;obtain⟨D,n1,I,rfl⟩:=J T (by simp);obtain⟨L,n2,H,rfl⟩:=J P' (by simp);obtain⟨K,n3,zR,rfl⟩:=J L' (by simp);obtain⟨_,_,o⟩:=As d.ai;obtain⟨_,_,F⟩:=As d.pins;obtain⟨_,_,O⟩:=As d.aq;cases o;cases F;cases O;refine⟨⟨_,_,_,_,_,_,_,_,_,rfl,fun Y C=> ?_⟩,m⟩
  refine(FV wd now given ae (some ⟨D,0,none⟩) (some ⟨L,0,none⟩) (some ⟨K,0,none⟩) _ I ps.length H zR X.heap.size ls s num Y (Ae d.aq C) (Zm m.size C.size) (by have:=j.nl;omega) j.bn j.bi j.co j.cn j.fe j.fh).mono ?_;rintro e w3 ⟨x,V⟩;have zU:X.heap.size<=K:=(Ac d.aq rfl).1
  have zI:Below X.heap.size X w3:=(m.trans (C.mono m.size)).trans (x.below (Zm m.size C.size) (by intro v J;simp[Value.ownBlock]at J;omega));refine⟨zI,?_⟩;rcases V with⟨y,rfl⟩|⟨⟨U,Q⟩,g,c,rfl,ho,S⟩
  ·exact .inl ⟨by have:=j.nl;have:=j.bi;omega,rfl⟩
  ·have W:=d.nd;rw[Fh]at W;unfold Bb at W;obtain⟨n1,n2,n3⟩:=OF W (l:=K) rfl;have f:∀{e:TypeId} {size:Nat} {v:Value} {n:Nat} {xs:Zj},w'.ownsRow X.heap.size e size v n xs->v.ownBlock≠some K->w3.ownsRow X.heap.size e size v n xs:=fun {e size v n xs} ho1 hne=>Ai (Ae ho1 C) (fun q hq=>x.block q (Ac (Ae ho1 C) hq).2 (fun e=>by simp[Value.ownBlock]at e;exact hne (by rw[hq,e])))
   have hlen:((zs.map (·.1)).zip rs).length=zs.length:=by rw[List.length_zip,d.len,List.length_map];omega
   refine .inr ⟨⟨U,Q⟩,D,I,(zs.map (·.1)).zip rs,L,H,g,c,by simp,?_,?_,?_,f d.pins n2,ho,?_,?_,?_⟩
   ·rw[List.map_fst_zip (by rw[d.len];exact Zx)]
   ·have h2:=f d.ai n1;rw[hlen];rw[List.length_map]at h2;exact h2
   ·intro z r;obtain⟨i,p⟩:=List.getElem?_of_mem r;rw[List.getElem?_zip_eq_some]at p;have hr:=d.refs i z.1 z.2 p.1 p.2;obtain⟨B,n',N,E⟩:=J z.2 (by simp;exact .inr (.inr (.inr (Zs p.2))));obtain⟨a',zT,zC⟩:=As hr;rw[E]at zC;cases zC;refine⟨B,N,E,f hr (fun e=>n3 ?_)⟩;exact List.mem_filterMap.2 ⟨z.2,Zs p.2,e⟩
   ·have q1:=(Ac d.ai (g:=D) rfl).2;have q2:=C.size;rcases S with G|G
    ·have o:K=g:=by simpa [Value.ownBlock]using G
     intro e;exact n1 (by simp[Value.ownBlock];omega)
    ·omega
   ·have q1:=(Ac d.pins (g:=L) rfl).2;have q2:=C.size;rcases S with G|G
    ·have o:K=g:=by simpa [Value.ownBlock]using G
     intro e;exact n2 (by simp[Value.ownBlock];omega)
    ·omega
   ·intro z r a n' N F;obtain⟨i,p⟩:=List.getElem?_of_mem r;rw[List.getElem?_zip_eq_some]at p;have hr:=d.refs i z.1 z.2 p.1 p.2;obtain⟨B,m',d',O⟩:=J z.2 (by simp;exact .inr (.inr (.inr (Zs p.2))));rw[O]at F;cases F;have q1:=(Ac hr (g:=B) (by rw[O];rfl)).2;have q2:=C.size;show B≠g;rcases S with G|G
    ·have o:K=g:=by simpa [Value.ownBlock]using G
     intro e;exact n3 (List.mem_filterMap.2 ⟨z.2,Zs p.2,by rw[O];simp[Value.ownBlock];omega⟩)
    ·omega
 ·rintro X e w' u ⟨m,⟨_,rfl⟩|⟨_,D,I,Z,L,H,g,c,rfl,_⟩⟩
  ·exact⟨m,_,_,_,_,_,_,_,_,_,_,_,_,_,_,_,_,_,_,rfl⟩
  ·exact⟨m,_,_,_,_,_,_,_,_,_,_,_,_,_,_,_,_,_,_,rfl⟩
 ·intro zS w' m;have M:¬Ax (zs.map (·.1)) s:=fun x=>by obtain⟨i,k,e,_⟩:=LH x;omega
  exact⟨Tn.of m,.inl ⟨2,_,_,.inr ⟨rfl,rfl,.inr (.inr (.inl ⟨rfl,.inl ⟨M,rfl⟩⟩))⟩,rfl⟩⟩
 ·rintro h0 X e w' zG u r ⟨m,hQ⟩ x;have M:Ax (zs.map (·.1)) s:=Classical.byContradiction fun hn=>by have:=Io hn;omega
  have hB:=Cd u m x;rcases hQ with⟨y,rfl⟩|⟨⟨U,Q⟩,D,I,Z,L,H,g,c,rfl,hm,hk,zF,zN,V,zA,zB,zO⟩
  ·exact⟨Tn.of hB,.inl ⟨4,_,_,.inr ⟨rfl,rfl,.inr (.inr (.inl ⟨rfl,.inr ⟨M,y,rfl⟩⟩))⟩,rfl⟩⟩
  ·have R:=DH hk x (by omega);have zM:=DH zN x (by omega);have zE:=DH V x (by omega);have zP:Bx zG D 0 Z:=Bx.own R (fun z r=>by
    obtain⟨B,N,E,ho⟩:=zF z r;rw[E]at ho;exact⟨⟨B,0,none⟩,N,E,Ad.own (DH ho x (by omega))⟩)
   refine⟨Tn.of hB,.inr ⟨⟨⟨#[]⟩,given+1,now,given+1,ae,zs.map (·.1),ps,ls++[⟨given+1,s,now+num⟩]⟩,D,some ⟨D,0,none⟩,I,Z,some ⟨L,0,none⟩,H,some ⟨g,0,none⟩,c,.inr (.inr (.inr (.inl ⟨rfl,M,U,Q,rfl⟩))),by simp,hm,⟨.inl rfl,zP,(Ac R rfl).2,zM.mono (Zm h.lb u.size),?_,Zm h.lb hB.size,by simp[Value.ownBlock];exact zA,fun q hq e=> ?_,fun z r a n c o _ e=> ?_,.inr (Zm (Zm h.lb u.size) (Ac R rfl).1),fun z r a n c o _=> ?_⟩⟩⟩
   ·have h4:zG.ownsRow X.heap.size 139 3 (Za g (ls++[(⟨given+1,s,now+num⟩:Ld)]).length c) (ls++[(⟨given+1,s,now+num⟩:Ld)]).length (Ab lC (ls++[(⟨given+1,s,now+num⟩:Ld)])):=by rw[List.length_append]at zE ⊢;exact zE
    exact h4.mono (Zm h.lb u.size)
   ·have o:L=q:=by simpa [Value.ownBlock]using hq
    have F:g=q:=by simpa [Value.ownBlock]using e
    exact zB (o.trans F.symm)
   ·have F:a.block=g:=by simpa [Value.ownBlock]using e
    exact zO z r a n c o F
   ·obtain⟨B,N,E,zK⟩:=zF z r;rw[E]at o;cases o;have q1:=(Ac zK (g:=B) (by rw[E];rfl)).1;have q2:=h.lb;have q3:=u.size;show base<=B;omega
theorem Vv(h:CT w base b ta pa la pc lc zs ps ls)(o:Ho wd now given ae (zs.map (·.1)) ps ls 7 num text refs):
 Calls prog 36 #[.agg (Ys wd now given ae ta zs.length tc pa ps.length pc la ls.length lc),.agg (Yp 7 s nm num text ra refs.length rc)] w (Mz base (.slice la ls.length lc) wd now given ae (zs.map (·.1)) ps ls 7 s nm num text refs w):=by
 have v:=o.bk.len;have y:zs.length<=600:=by rwa[List.length_map]at v
 by_cases hth:Ax (zs.map (·.1)) s
 ·obtain rfl:ta=some ⟨b,0,none⟩:=h.tb.resolve_right (fun e=>by obtain⟨u,hu,_⟩:=hth;rw[e]at hu;simp at hu)
  refine Dj 7 82 _ wd now given ae (some ⟨b,0,none⟩) pa la zs.length tc ps.length pc ls.length lc s nm text num ra refs.length rc w [] (fun X e w'=>PV X w' e wd now given ae (.slice pa ps.length pc) (.slice la ls.length lc) zs ps ls s) _ (.inr (.inr (.inr (.inr (.inr (⟨rfl,rfl,rfl⟩)))))) (by simp) (fun X d _=>QQ wd now given ae b 0 tc pc lc pa la zs ps ls s X (h.below d).z (h.below d).bl (h.below d).fm (h.below d).fj y o.np o.nl (fun z i=>(o.bk.refs z.1 (List.mem_map.2 ⟨z,i,rfl⟩)).1) hth) ?_ ?_
  ·rintro X e w' ⟨f,⟨_,rfl⟩|⟨_,g,c,rfl,_⟩⟩
   ·exact⟨Tn.of f,_,_,_,_,_,_,_,_,_,_,_,_,_,_,_,_,_,_,rfl⟩
   ·exact⟨Tn.of f,_,_,_,_,_,_,_,_,_,_,_,_,_,_,_,_,_,_,rfl⟩
  ·rintro X e w' B d i ⟨f,⟨p,rfl⟩|⟨l,g,c,rfl,A,F,q⟩⟩ k
   ·exact⟨Tn.of (Cd d f k),.inl ⟨6,_,_,.inr ⟨rfl,rfl,.inr (.inr (.inr (.inr (.inr ⟨rfl,.inr ⟨hth,p,rfl⟩⟩))))⟩,rfl⟩⟩
   ·have r:=Cd d f k;have j:=h.below r;have x:=A.an k q (by simp;omega) (fun z i a n c C D t=>by
     simp at t;have:=h.z.br (List.mem_filter.1 i).1 C D;omega)
    exact⟨Tn.of r,.inr ⟨⟨⟨#[]⟩,0,now,given,ae,EE (zs.map (·.1)) s,ps,ls⟩,g,_,c,BU zs s,pa,pc,la,lc,.inr (.inr (.inr (.inr (.inr (.inr ⟨rfl,hth,l,rfl⟩))))),by simp[←Mj],Mj zs s,⟨.inl rfl,x,Zr q k.size,j.po,j.lo,j.lb,fun e=>by have m:=h.cg.2.1 g e.symm;have E:=d.size;omega,j.pL,fun z i=>j.zL z (List.mem_filter.1 i).1,.inr (by have m:=h.lb;have E:=d.size;omega),fun z i=>j.zr z (List.mem_filter.1 i).1⟩⟩⟩
 ·refine Dj 7 82 _ wd now given ae ta pa la zs.length tc ps.length pc ls.length lc s nm text num ra refs.length rc w [] (fun X e w'=>e=.returned (.agg (BW 2 ⟨#[]⟩ ⟨#[]⟩).toArray)/\Zz X w') _ (.inr (.inr (.inr (.inr (.inr (⟨rfl,rfl,rfl⟩)))))) (by simp) (fun X d _=> ?_) ?_ ?_
  ·have m:=LL wd now given ae ta pa la tc ps.length pc ls.length lc (zs.map (·.1)) s X (h.below d).dm (by omega) hth;rw[List.length_map]at m;exact m
  ·rintro X e w' ⟨rfl,f⟩;exact⟨Tn.of f,_,_,_,_,_,_,_,_,_,_,_,_,_,_,_,_,_,_,rfl⟩
  ·rintro X e w' B d i ⟨rfl,f⟩ k;exact⟨Tn.of (Cd d f k),.inl ⟨2,_,_,.inr ⟨rfl,rfl,.inr (.inr (.inr (.inr (.inr ⟨rfl,.inl ⟨hth,rfl⟩⟩))))⟩,rfl⟩⟩
theorem Vw(h:CT w base b ta pa la pc lc zs ps ls)(d:Ho wd now given ae (zs.map (·.1)) ps ls 1 num text refs)(hr:Ad w w.heap.size ra refs)(V:ra=none->refs.length=0/\rc=0):
 Calls prog 36 #[.agg (Ys wd now given ae ta zs.length tc pa ps.length pc la ls.length lc),.agg (Yp 1 s nm num text ra refs.length rc)] w (Mz base (.slice la ls.length lc) wd now given ae (zs.map (·.1)) ps ls 1 s nm num text refs w):=by
 refine Dj 1 75 _ wd now given ae ta pa la zs.length tc ps.length pc ls.length lc s nm text num ra refs.length rc w (Value.slice la ls.length lc).ownBlock.toList (fun X e w'=>NW base b wd now given ae num zs (.slice pa ps.length pc) (.slice la ls.length lc) ls text refs X e w') _ (.inl ⟨rfl,rfl,rfl⟩) (fun q f=>h.cg.2.1 q (by simpa using f)) (fun X i _=>SH base wd now given ae 1 num ta b tc zs pa la ps.length pc lc ls s nm text refs ra rc X ⟨h.tb,V,(h.below i).z,(h.below i).bl,Ae h.lo i,Zm h.lb i.size,h.bL,h.zL,Ad.mono (Ad.below hr i) i.size,d.bk,d.w1,fun z m=>d.bt z.1 (List.mem_map.2 ⟨z,m,rfl⟩),d.im,d.ik,d.bh,d.ah,d.bn,d.bi,d.co,d.cn,d.fe,d.fh,d.nl⟩) ?_ ?_
 ·rintro X e w' ⟨l,⟨c,a,I,_,rfl⟩|⟨u,ah,g,J,F,o,c2,_,_,_,_,rfl,_⟩⟩
  ·exact⟨l,_,_,_,_,_,_,_,_,_,_,_,_,_,_,_,_,_,_,rfl⟩
  ·exact⟨l,_,_,_,_,_,_,_,_,_,_,_,_,_,_,_,_,_,_,rfl⟩
 ·rintro X e w' zC i m ⟨W,hQ⟩ l;have p:=W;have H:=Tn.fresh ((Tn.of i).trans p) l (by omega);rcases hQ with⟨c,a,I,T,rfl⟩|⟨u,ah,g,J,F,o,c2,v,x,R,N,rfl,L,zA,y,A,E,B,ho,P,Z⟩
  ·exact⟨H,.inl ⟨c,a,I,.inl ⟨rfl,T⟩,rfl⟩⟩
  ·have O:g≠w.heap.size+2:=by have:=h.bl;rcases A with⟨e,_⟩|e<;>omega
   have Y:=zA.an l y (by simp;exact O) (fun z m a n c k G Q=>by
    simp at Q;rcases E z m with t|⟨M,n',zB,r,S⟩
    ·have:=h.z.br t k G;omega
    ·rw[k]at r;cases r;omega)
   have zF:o≠w.heap.size+2:=by
    rcases B with e|e
    ·have:=h.cg.2.1 o e;omega
    ·omega
   have C:=MB ho l (by intro q f;have:o=q:=by simpa [Value.ownBlock]using f
                       omega)
   have D:=Ae h.po i;have U:=MB (Ai D (w':=w') (fun q f=>p.block q (Ac D f).2 (fun e=>h.pL q f (by simpa using e)))) l (by intro q f;have:=h.cg.1 q f;omega);have zE:=i.size;have h4:zC.ownsRow base 139 3 (Za o (ls++[(⟨given+1,Bf text refs wd,now+num⟩:Ld)]).length c2) (ls++[(⟨given+1,Bf text refs wd,now+num⟩:Ld)]).length (Ab lC (ls++[(⟨given+1,Bf text refs wd,now+num⟩:Ld)])):=by rw[List.length_append]at C ⊢;exact C
   refine⟨H,.inr ⟨⟨Bf text refs wd,given+1,now,given+1,ah,u,ps,ls++[⟨given+1,Bf text refs wd,now+num⟩]⟩,g,_,J,F,pa,pc,_,c2,.inl ⟨rfl,v,R,N,u,ah,x,rfl⟩,by simp[←L],L,⟨.inl rfl,Y,Zr y l.size,U,h4,Zm h.lb H.size,by simp[Value.ownBlock];exact P,fun q f e=> ?_,fun z m a n c j k e=> ?_,?_,fun z m a n c j k=> ?_⟩⟩⟩
   ·have j:o=q:=by simpa [Value.ownBlock]using e
    have:=h.cg.1 q f;rcases B with K|K
    ·exact h.pL q f (by rw[K,j])
    ·omega
   ·have G:a.block=o:=by simpa [Value.ownBlock]using e
    exact Z z m a n c j k G
   ·rcases A with⟨j,k⟩|j
    ·rw[j,k];exact h.zb
    ·exact .inr (by have:=h.lb;omega)
   ·rcases E z m with t|⟨M,n',zB,r,S⟩
    ·exact h.zr z t a n c j k
    ·rw[j]at r;cases r;have:=h.lb;omega
theorem Ka(a:Int)(h:CT w base b ta pa la pc lc zs ps ls)(c:Ho wd now given ae (zs.map (·.1)) ps ls a num text refs)(d:∀k∈zs.map (·.1),k.refs.length<=30)(f:Ad w w.heap.size ra refs)(e:ra=none->refs.length=0/\rc=0):
 Calls prog 36 #[.agg (Ys wd now given ae ta zs.length tc pa ps.length pc la ls.length lc),.agg (Yp a s nm num text ra refs.length rc)] w (Mz base (.slice la ls.length lc) wd now given ae (zs.map (·.1)) ps ls a s nm num text refs w):=by
 obtain rfl|rfl|rfl|rfl|rfl|rfl|rfl:a=1∨a=2∨a=3∨a=4∨a=5∨a=6∨a=7:=by have:=c.iq;have:=c.iu;omega
 ·exact Vw base wd now given ae b ta pa la tc pc lc zs ps ls s nm text num refs ra rc w h c f e
 ·exact Vt base wd now given ae b ta pa la tc pc lc zs ps ls s nm text num refs ra rc w h c
 ·exact Vq base wd now given ae b ta pa la tc pc lc zs ps ls s nm text num refs ra rc w h c
 ·exact Vu base wd now given ae b ta pa la tc pc lc zs ps ls s nm text num refs ra rc w h c d
 ·exact Vr base wd now given ae b ta pa la tc pc lc zs ps ls s nm text num refs ra rc w h c
 ·exact Vs base wd now given ae b ta pa la tc pc lc zs ps ls s nm text num refs ra rc w h c
 ·exact Vv base wd now given ae b ta pa la tc pc lc zs ps ls s nm text num refs ra rc w h c
end
end
theorem Vx{w:Zh}{base:Nat}{ra:Zk}{rc:Nat}{a:Zl}(h:w.ownsRow base 9 1 (.slice ra a.length rc) a.length (a.map Value.string)):Ad w w.heap.size ra a/\(ra=none->a.length=0/\rc=0):=by
 rcases h.2 with⟨c,d⟩|⟨g,i,j,c,_,_,f,_⟩
 ·injection c with e1 e2 e3;subst e1;exact⟨.inl (List.eq_nil_of_length_eq_zero d),fun _=>⟨d,e3⟩⟩
 ·cases c;exact⟨Ad.own h,fun e=>by cases e⟩
theorem CT.low{w w':Zh}{base b:Nat}{ta pa la:Zk}{pc lc:Nat}{zs:List (Kd×Value)}{ps:List Pd}{ls:List Ld}(h:CT w base b ta pa la pc lc zs ps ls){V:List Nat}(f:Tn V w w')(j:∀q∈V,q<base):CT w' base b ta pa la pc lc zs ps ls:=by
 have m:∀{e:TypeId} {size:Nat} {v:Value} {n:Nat} {xs:Zj},w.ownsRow base e size v n xs->w'.ownsRow base e size v n xs:=fun h=>Ai h (fun g l=>f.block g (Ac h l).2 (fun e=>by have r:=j g e;have t:=(Ac h l).1;omega));refine⟨h.tb,?_,Zr h.bl f.size,m h.po,m h.lo,Zm h.lb f.size,h.bL,h.pL,h.zL,h.zb,h.zr⟩;rcases h.zb with e|e
 ·rw[e];intro i z k;simp at k
 ·exact h.z.an f h.bl (fun d=>by have:=j b d;omega) (fun z k a n c o p d=>by have r:=j _ d;have t:=h.zr z k a n c o p;omega)
theorem ZR{w:Zh}{b:Nat}{j k l m n o p:Value}(h:Aa w b [j,k,l,m,n,o,p])(a c d e f g i:Value):Aa (((((((w.setCell (Ze b 0) a).setCell (Ze b 1) c).setCell (Ze b 2) d).setCell (Ze b 3) e).setCell (Ze b 4) f).setCell (Ze b 5) g).setCell (Ze b 6) i) b [a,c,d,e,f,g,i]:=
 ((((((h.set 0 a).set 1 c).set 2 d).set 3 e).set 4 f).set 5 g).set 6 i
theorem YO(w:Zh)(R:Nat)(a c d e f g h:Value):Tn [R] w (((((((w.setCell (Ze R 0) a).setCell (Ze R 1) c).setCell (Ze R 2) d).setCell (Ze R 3) e).setCell (Ze R 4) f).setCell (Ze R 5) g).setCell (Ze R 6) h):=
 ((((((En _ _ _ _).trans (En _ _ _ _)).trans (En _ _ _ _)).trans (En _ _ _ _)).trans (En _ _ _ _)).trans (En _ _ _ _)).trans (En _ _ _ _)
theorem PE(wd:Int)(a:Zk)(yR:Nat)(f:Zl)(w:Zh)(U:Ad w w.heap.size a f)(hl:f.length<=1048576)(hs:∀s∈f,s.size<=1048576):
 Calls prog 65 #[Zg wd,.slice a f.length yR] w (Aaf wd f w):=by
 obtain⟨W,hW⟩:∃W,W=w.alloc (.cells Yr 82):=⟨_,rfl⟩;have Z:=(AG hW).1;have zW:=(AG hW).2.1;have xW:=(AG hW).2.2;have HW:=Yx hW;have d:=Ky wd W;obtain⟨⟨E,q0⟩,⟨F,q1⟩,⟨G,q2⟩,⟨H,q3⟩,⟨I,q4⟩,⟨J,q5⟩,⟨K,q6⟩,⟨L,q7⟩,⟨M,q8⟩,⟨N,q9⟩,⟨o,zG⟩,p,zH⟩:=AT xW;clear hW;by_cases hwd:1<=wd/\wd<=8
 ·rw[decide_eq_true hwd]at d;by_cases hlen:f.length<=4000
  ·have yS:decide ((4000:Int)<f.length)=false:=by simp;omega
   obtain⟨A,hA⟩:∃A,A=W.alloc (.cells #[Zg wd,Zf,Zf,Zf,Zc,Zc,Zc] 40):=⟨_,rfl⟩;have bA:=(AG hA).1;have zA:A.heap.size=w.heap.size+2:=by rw[hA];simp;omega
   have sA:Aa A (w.heap.size+1) [Zg wd,Zf,Zf,Zf,Zc,Zc,Zc]:=by rw[hA,←zW];exact Aa.new W _ _
   have xA:=Aa.below (v:=Zf) xW bA;have yQ:=Z.trans (bA.mono Z.size);have P:CT A (w.heap.size+2) w.heap.size none none none 0 0 [] [] []:=⟨.inr rfl,fun i z hz=>by simp at hz,by omega,⟨rfl,.inl ⟨rfl,rfl⟩⟩,⟨rfl,.inl ⟨rfl,rfl⟩⟩,by omega,by simp[Value.ownBlock],fun q hq=>by simp[Value.ownBlock]at hq,fun z hz=>by simp at hz,.inl rfl,fun z hz=>by simp at hz⟩;have t:=Yx d;have HA:=Yx hA
   have H0:=Yx (Zn sA (Zn xA (Zn P yQ)));have zN:Hid (Ad w w.heap.size a f):=U;clear d hA sA xA P bA U;go_enter func65,ntmps65;go_wp2_with fail;rw[←HW.o];refine Calls.mono t.o ?_;rintro e w1 ⟨rfl,j⟩;replace j:=j.symm;subst j;clear t;go_upto_region 4 with fail;rw[←HA.o];clear HA E F G H I J K L M N o p q0 q1 q2 q3 q4 q5 q6 q7 q8 q9 zG zH;go_wp2
   go_loopw [6] (fun i wr=>∃(k:Nat) (r:Rs) (b:Nat) (ta pa la:Zk) (tc pc lc:Nat) (zs:List (Kd×Value)),k<=f.length/\i=Zg k/\Hid (Aa wr (w.heap.size+1) (Yt wd r.now r.given r.ae ta zs.length tc pa r.ps.length pc la r.ls.length lc)/\Aa wr w.heap.size z12/\CT wr (w.heap.size+2) b ta pa la pc lc zs r.ps r.ls/\zs.map (·.1)=r.ks/\Da wd r0 (f.take k) r/\Zz w wr)) (fun i _=>f.length -(intOf i).toNat)
   case atStart=>exact⟨0,r0,w.heap.size,none,none,none,0,0,0,[],Nat.zero_le _,rfl,⟨H0.o.1,H0.o.2.1,H0.o.2.2.1,rfl,rfl,H0.o.2.2.2⟩⟩
   case round=>
    clear H0;obtain⟨k,r,b,ta,pa,la,tc,pc,lc,zs,hk,rfl,d⟩:=hrel;obtain⟨yC,yD,P,l,g,m⟩:=d.o;by_cases hlt:k<f.length
    ·obtain⟨rb,xD,ha,xG,yA⟩:=((zN.o.below m).mono m.size).at hlt;subst ha;have HG:=Yx (Zv hlt);have yT:=hs _ (List.getElem_mem hlt);have c0:=yA k _ HG.o;have yO:=Yx (Zu hlt);clear yA;generalize f[k]=s at *
     have HR:=Yx (Rl s wd wr yT);clear yC yD P l g m;go_wp2_with fail;refine Calls.mono HR.o ?_;rintro e w2 ⟨v,rfl,zY,zV⟩;obtain⟨ra,rc,rfl⟩:=As zY;obtain⟨w3,zF⟩:∃X,X=w2.alloc (.cells (Yp ((AE s wd).k) ((AE s wd).sum) ((AE s wd).name) ((AE s wd).n) ((AE s wd).t) ra ((AE s wd).ss.length) rc) 60):=⟨_,rfl⟩;have zU:=(AG zF).1;have b3:=zV.trans (zU.mono zV.size);have e3:=(AG zF).2.2
     have s3:=Aa.below d.o.1 b3;have x3:=Aa.below (v:=Zf) d.o.2.1 b3;have zB:=d.o.2.2.1.below b3;have O:=Yx (d.o.2.2.2.2.2.trans (b3.mono d.o.2.2.2.2.2.size));have zE:=Vx (Ae zY zU);have zI:=Yx zF;have xF:(k:Int)<=4000:=by omega
     clear zF HR;cases hok:(AE s wd).ok with
     |false=>
      obtain⟨⟨E,q0⟩,⟨F,q1⟩,⟨G,q2⟩,⟨H,q3⟩,⟨I,q4⟩,⟨J,q5⟩,⟨K,q6⟩,⟨L,q7⟩,⟨M,q8⟩,⟨N,q9⟩,⟨o,zG⟩,p,zH⟩:=AT x3;clear e3 s3 zB zE c0 x3;go_upto_region 8 with fail;rw[←zI.o];go_wp2;refine bodyPost_ret (v:=.agg #[Zg 7,Zf,Zf,Zf,Zf,Zc,Zc,Zc,Zd,Zg ((k:Int)+1),Zd,Zd]) (by simp[results,results65,go_sem,E,F,G,H,I,J,K,L,M,N,o,p]) rfl ?_
      exact⟨⟨7,0,0,0,0,((k+1:Nat):Int),⟨#[]⟩,⟨#[]⟩,⟨#[]⟩,[],[],[]⟩,_,_,_,[],.inr ⟨⟨hwd,hlen⟩,.inl ⟨k+1,⟨k,r,s,rfl,HG.o,d.o.2.2.2.2.1,.inl hok⟩,rfl⟩⟩,rfl,Ru _ _,O.o.trans ((Bh w3 w.heap.size _ _ _ _ _ _ _ _ _ _ _ _).below O.o.size (by simp))⟩
     |true=>
      have zZ:=(Hq hok).1;have x:=d.o.2.2.2.2.1.ok (FX hwd.1 hwd.2);have l:=d.o.2.2.2.1;have S:Ho wd r.now r.given r.ae (zs.map (·.1)) r.ps r.ls (AE s wd).k (AE s wd).n (AE s wd).t (AE s wd).ss:=by rw[l];exact FB.ia x zZ (by have:=Ol zZ;unfold maxLen;omega)
      have zR:=Yx (Ka (w.heap.size+2) wd r.now r.given r.ae b ta pa la tc pc lc zs r.ps r.ls (AE s wd).sum (AE s wd).name (AE s wd).t (AE s wd).n (AE s wd).ss ra rc w3 (AE s wd).k zB S (by rw[l];exact x.dq) zE.1 zE.2);obtain⟨v0,v1,v2,v3,v4,v5,v6⟩:=Aa.c7 s3 0 1 2 3 4 5 6;obtain⟨u0,u1,u2,u3,u4,u5⟩:=Aa.c6 e3 0 1 2 3 4 5;have yN:=Yx s3;have yP:=Yx x3;have zT:=Yx zB;clear e3 s3 zB zE c0 x3 S
      go_upto_region 8 with fail;rw[←zI.o];clear zI;go_wp2_with fail;refine Calls.mono zR.o ?_;rintro e w4 ⟨ht,hQ⟩;have zP:∀q∈(Value.slice la r.ls.length lc).ownBlock.toList,w.heap.size+2<=q:=fun q hq=>(Ac zT.o.lo (by simpa using hq)).1;have zJ:=ht.below zT.o.lb zP;have Q:=Aa.same yP.o (zJ.block _ (by omega));have s4:=Aa.same yN.o (zJ.block _ (by omega))
      have V:=Yx (O.o.trans (zJ.mono (by omega)));clear v0 v1 v2 v3 v4 v5 v6 u0 u1 u2 u3 u4 u5 zR ht;rcases hQ with⟨c,a',b',zC,rfl⟩|⟨y,b1,yI,yJ,yK,yG,yH,yE,yF,hy,rfl,hm,hC⟩
      ·rw[l]at zC;have xE:(c !=0)=true:=by have:=zC.code;simp;omega
       have yL:=Yx zC;have yB:(BW c a' b').toArray= #[Zg c,Zf,Zf,Zf,Zf,Zc,Zc,Zc,Zd,Zf,.string a',.string b']:=rfl;rw[yB];obtain⟨w5,n⟩:∃X,X=w4.alloc (.cells #[Zg c,Zf,Zf,Zf,Zf,Zc,Zc,Zc,Zd,Zf,.string a',.string b'] 82):=⟨_,rfl⟩;have C:=(AG n).1;have n5:=(AG n).2.2;have R:=Yx (V.o.trans (C.mono V.o.size))
       obtain⟨⟨E,q0⟩,⟨F,q1⟩,⟨G,q2⟩,⟨H,q3⟩,⟨I,q4⟩,⟨J,q5⟩,⟨K,q6⟩,⟨L,q7⟩,⟨M,q8⟩,⟨N,q9⟩,⟨o,zG⟩,p,zH⟩:=AT (Aa.below (v:=Zf) Q C);obtain⟨m0,_⟩:=n5 0 _ rfl;have Y:=Yx n;clear n zC n5 Q s4 yB;go_upto_region 11 with fail;rw[←Y.o];go_wp2;refine bodyPost_ret (v:=.agg #[Zg 7,Zf,Zf,Zf,Zf,Zc,Zc,Zc,Zd,Zg ((k:Int)+1),Zd,Zd]) (by simp[results,results65,go_sem,E,F,G,H,I,J,K,L,M,N,o,p]) rfl ?_
       exact⟨⟨7,0,0,0,0,((k+1:Nat):Int),⟨#[]⟩,⟨#[]⟩,⟨#[]⟩,[],[],[]⟩,_,_,_,[],.inr ⟨⟨hwd,hlen⟩,.inl ⟨k+1,⟨k,r,s,rfl,HG.o,d.o.2.2.2.2.1,.inr ⟨c,a',b',yL.o⟩⟩,rfl⟩⟩,rfl,Ru _ _,R.o.trans ((Bh w5 w.heap.size _ _ _ _ _ _ _ _ _ _ _ _).below R.o.size (by simp))⟩
      ·rw[l]at hy;obtain⟨w5,n⟩:∃X,X=w4.alloc (.cells #[Zf,Zg wd,Zg y.now,Zg y.given,Zg y.ae,.slice yI y.ks.length yJ,.slice yG y.ps.length yH,.slice yE y.ls.length yF,.string y.sm,Zg y.le,Zd,Zd] 82):=⟨_,rfl⟩;have C:=(AG n).1;have n5:=(AG n).2.2;have D:=Aa.below s4 C;have x5:=Aa.below (v:=Zf) Q C;have zK:=hC.below C;have zS:=Yx (V.o.trans (C.mono V.o.size))
       have zX:y.ks.length=yK.length:=by rw[←hm,List.length_map]
       have H5:=Yx (Zn D (Zn x5 (Zn zK (Zn hm (Zn hy zX)))));obtain⟨⟨v0,p0⟩,⟨v1,p1⟩,⟨v2,p2⟩,⟨v3,p3⟩,⟨v4,p4⟩,⟨v5,p5⟩,v6,p6⟩:=(⟨D 0 _ rfl,D 1 _ rfl,D 2 _ rfl,D 3 _ rfl,D 4 _ rfl,D 5 _ rfl,D 6 _ rfl⟩:(_/\_)/\(_/\_)/\(_/\_)/\(_/\_)/\(_/\_)/\(_/\_)/\_/\_);obtain⟨m0,m1,m2,m3,m4,m5,m6⟩:=Aa.c7 n5 0 1 2 3 4 5 6;obtain⟨m7,_⟩:=n5 7 _ rfl;have Y:=Yx n;have zO:Hid (Da wd r0 (f.take (k+1)) y):=by show Da _ _ _ _;rw[yO.o];exact d.o.2.2.2.2.1.snoc ⟨hok,hy⟩
       have xC:=zK.lb;clear n hy n5 Q s4 D x5 hC zK zX hm;go_upto_region 11 with fail;rw[←Y.o];clear Y;go_wp2
       refine⟨⟨k+1,y,b1,yI,yG,yE,yJ,yH,yF,yK,by omega,by go_num,⟨?_,Aa.same H5.o.2.1 ((YO w5 (w.heap.size+1) _ _ _ _ _ _ _).block _ (by omega) (by simp)),H5.o.2.2.1.low (YO w5 (w.heap.size+1) _ _ _ _ _ _ _) (by simp),H5.o.2.2.2.1,zO.o,zS.o.trans ((YO w5 (w.heap.size+1) _ _ _ _ _ _ _).below zS.o.size (by simp))⟩⟩,by simp[intOf];omega⟩;rw[←H5.o.2.2.2.2.2];exact ZR H5.o.1 _ _ _ _ _ _ _
    ·obtain rfl:k=f.length:=by omega
     have g:=d.o.2.2.2.2.1;rw[Zt (Zx)]at g;have x:=g.ok (FX hwd.1 hwd.2);have l:=d.o.2.2.2.1;have u:=d.o.2.2.1;have h1:=Gt wd r.now r.given r.ae ta pa la tc pc lc (zs.map (·.1)) r.ps r.ls wr ⟨u.dm,u.fm,u.fj⟩ (fun B hB=>by
      rcases u.tb with e|e
      ·rw[e]at hB;cases hB;exact u.z.some
      ·rw[e];intro i k hk;simp at hk) (GB u.po) (GB u.lo) (by rw[l];exact x.bk.len) x.np x.nl (by rw[l];exact x.dq)
     rw[List.length_map,l]at h1;have HC:=Yx h1;have yM:=Yx g;obtain⟨v0,v1,v2,v3,v4,v5,v6⟩:=Aa.c7 d.o.1 0 1 2 3 4 5 6;clear h1 g x l u yC yD P m;go_wp2_with fail;refine Calls.mono HC.o ?_;rintro e w4 ⟨T,P',L',rs,rfl,hS,_,zM⟩;obtain⟨yZ,xB,rfl⟩:=As hS.ai;obtain⟨yX,yY,rfl⟩:=As hS.pins;obtain⟨yV,yW,rfl⟩:=As hS.aq;have Q:=Aa.below (v:=Zf) d.o.2.1 zM;have yU:=d.o.2.1.lt;have HF:=Yx (Zn hS zM)
     obtain⟨⟨E,q0⟩,⟨F,q1⟩,⟨G,q2⟩,⟨H,q3⟩,⟨I,q4⟩,⟨J,q5⟩,⟨K,q6⟩,⟨L,q7⟩,⟨M,q8⟩,⟨N,q9⟩,⟨o,zG⟩,p,zH⟩:=AT Q;clear hS zM HC Q v0 v1 v2 v3 v4 v5 v6;go_wp2;refine bodyPost_ret (v:=.agg #[Zf,Zg wd,Zg r.now,Zg r.given,Zg r.ae,.slice yZ r.ks.length xB,.slice yX r.ps.length yY,.slice yV r.ls.length yW,Zd,Zf,Zd,Zd]) (by simp[results,results65,go_sem,E,F,G,H,I,J,K,L,M,N,o,p]) rfl ?_;have m:=d.o.2.2.2.2.2
     refine⟨⟨0,wd,r.now,r.given,r.ae,0,⟨#[]⟩,⟨#[]⟩,⟨#[]⟩,r.ks,r.ps,r.ls⟩,_,_,_,rs,.inr ⟨⟨hwd,hlen⟩,.inr ⟨r,yM.o,rfl⟩⟩,rfl,(HF.o.1.an (Bh w4 w.heap.size _ _ _ _ _ _ _ _ _ _ _ _) (by simp;exact yU)).mono m.size,?_⟩;exact(m.trans (HF.o.2.mono m.size)).trans ((Bh w4 w.heap.size _ _ _ _ _ _ _ _ _ _ _ _).below (Zm m.size HF.o.2.size) (by simp))
  ·have yS:decide ((4000:Int)<f.length)=true:=by simp;omega
   have t:=Yx d;clear d;go_enter func65,ntmps65;go_wp2_with fail;rw[←HW.o];refine Calls.mono t.o ?_;rintro e w1 ⟨rfl,j⟩;replace j:=j.symm;subst j;clear t;go_wp2;refine bodyPost_ret (v:=.agg (Yq 1)) (by simp[results,results65,go_sem,E,F,G,H,I,J,K,L,M,N,o,p]) rfl ?_
   exact⟨⟨1,0,0,0,0,0,⟨#[]⟩,⟨#[]⟩,⟨#[]⟩,[],[],[]⟩,_,_,_,[],.inl ⟨fun h=>hlen h.2,rfl⟩,rfl,Ru _ _,Z.trans ((Bh W w.heap.size _ _ _ _ _ _ _ _ _ _ _ _).below Z.size (by simp))⟩
 ·rw[decide_eq_false hwd]at d;have t:=Yx d;clear d;go_enter func65,ntmps65;go_wp2_with fail;rw[←HW.o];refine Calls.mono t.o ?_;rintro e w1 ⟨rfl,j⟩;replace j:=j.symm;subst j;clear t;go_wp2;refine bodyPost_ret (v:=.agg (Yq 1)) (by simp[results,results65,go_sem,E,F,G,H,I,J,K,L,M,N,o,p]) rfl ?_
  exact⟨⟨1,0,0,0,0,0,⟨#[]⟩,⟨#[]⟩,⟨#[]⟩,[],[],[]⟩,_,_,_,[],.inl ⟨fun h=>hwd h.1,rfl⟩,rfl,Ru _ _,Z.trans ((Bh W w.heap.size _ _ _ _ _ _ _ _ _ _ _ _).below Z.size (by simp))⟩
end Go.Proofs.YtlhhpofjkgmbeaaGreatDoor
