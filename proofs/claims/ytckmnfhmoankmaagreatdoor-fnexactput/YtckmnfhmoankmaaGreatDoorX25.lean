import Derived.Test.YtckmnfhmoankmaaGreatDoorX18
import Derived.Test.YtckmnfhmoankmaaGreatDoorX20
set_option maxRecDepth 100000
set_option maxHeartbeats 16000000
namespace Go.Proofs.YtckmnfhmoankmaaGreatDoor
open Go.ChangeShapes Go.WideShapes Go.ChangeAt Go.RowKit _root_.Go.Proofs.Tryz
theorem Mc(wd now given ae:Int)(a p l:Zk)(tc h pc g lc:Nat)(c:List Kd)(s:Zi)(w:Zh)(j:BF w w.heap.size a c)(T:c.length<=1000)(k:¬Ay c s):
 Calls prog 88 #[.agg (Ys wd now given ae a c.length tc p h pc l g lc),.string s] w fun e w'=>e=.returned (.agg (Ch 2 ⟨#[]⟩ ⟨#[]⟩).toArray)/\Zz w w':=by
 obtain⟨W,d⟩:∃W,W=(w.alloc (.cells (Ys wd now given ae a c.length tc p h pc l g lc) 43)).alloc (.cells Yl 90):=⟨_,rfl⟩;have f:=(Bj d).1;have r:=(Bj d).2.2.1;have t:Aa W (w.heap.size+1) z12:=by have o:=Aa.new (w.alloc (.cells (Ys wd now given ae a c.length tc p h pc l g lc) 43)) z12 90;rw[World.size_alloc]at o;rw[d];exact o
 have m:=Yx (Fj wd now given ae a tc (.slice p h pc) (.slice l g lc) c s W w.heap.size (BF.below j f) f.size (by omega));have S:=Iu k;have n:=Yx d;have u:=Yx t;obtain⟨v0,A,B,C,D,E,F,G⟩:=BG r;clear d r t j k;go_enter func88,ntmps88;go_upto_region 1 with fail;rw[←n.o];clear n;go_wp2_with fail;refine Calls.mono m.o ?_;rintro e H ⟨rfl,i⟩
 obtain⟨⟨I,X⟩,⟨J,Y⟩,⟨K,Z⟩,⟨L,q3⟩,⟨M,q4⟩,⟨N,q5⟩,⟨O,q6⟩,⟨P,q7⟩,⟨Q,q8⟩,⟨R,q9⟩,⟨x,U⟩,y,V⟩:=AZ (Aa.below (v:=Zf) u.o i);have q:=f.trans (i.mono f.size);generalize CR c s=fi at *
 clear v0 A B C D E F G m;go_wp2;refine bodyPost_ret (v:=.agg (Ch 2 ⟨#[]⟩ ⟨#[]⟩).toArray) (by simp[results,results88,go_sem,I,J,K,L,M,N,O,P,Q,R,x,y,Ch]) rfl ?_;exact⟨rfl,q.trans (Tn.below (Bq H (w.heap.size+1) _ _ _ _ _ _ _ _ _ _ _ _) q.size (by intro v z;simp at z;omega))⟩
theorem Dv(a:Int)(g:Nat)(args:Array Value)(wd now given ae:Int)(ta pa la:Zk)(tn tc f pc d lc:Nat)(s nm text:Zi)(num:Int)(ra:Zk)(k rc:Nat)(w:Zh)(V:List Nat)(Q:Zh->Ending->Zh->Prop)(D:Ending->Zh->Prop)
 (hk:(a=1/\g=81/\args= #[.agg (Ys wd now given ae ta tn tc pa f pc la d lc),.agg (Ym a s nm num text ra k rc)])∨(a=2/\g=82/\args= #[.agg (Ys wd now given ae ta tn tc pa f pc la d lc),.agg (Ym a s nm num text ra k rc)])∨(a=3/\g=83/\args= #[.agg (Ys wd now given ae ta tn tc pa f pc la d lc),.string nm])∨(a=5/\g=86/\args= #[.agg (Ys wd now given ae ta tn tc pa f pc la d lc),Zg num])∨(a=6/\g=87/\args= #[.agg (Ys wd now given ae ta tn tc pa f pc la d lc),Zg num])∨(a=7/\g=88/\args= #[.agg (Ys wd now given ae ta tn tc pa f pc la d lc),.string s]))
 (N:∀b∈V,b<w.heap.size)
 (O:∀X,Zz w X->w.heap.size+3<=X.heap.size->Calls prog g args X (Q X))
 (P:∀X e w',Q X e w'->Tn V X w'/\∃(H I c2 c3 c4:Int) (x:Zk) (z y:Nat) (q:Zk) (t r:Nat) (m:Zk) (p n:Nat) (u:Zi) (o:Int) (E F:Zi),e=.returned (.agg #[Zg H,Zg I,Zg c2,Zg c3,Zg c4,.slice x z y,.slice q t r,.slice m p n,.string u,Zg o,.string E,.string F]))
 (R:∀X e w' c,Zz w X->w.heap.size+3<=X.heap.size->Q X e w'->Tn [w.heap.size+2] w' c->D e c):
 Calls prog 44 #[.agg (Ys wd now given ae ta tn tc pa f pc la d lc),.agg (Ym a s nm num text ra k rc)] w D:=by
 obtain⟨W,j⟩:∃W,W=((w.alloc (.cells (Ys wd now given ae ta tn tc pa f pc la d lc) 43)).alloc (.cells (Ym a s nm num text ra k rc) 67)).alloc (.cells Yl 90):=⟨_,rfl⟩;have G:=(Bh j).1;have zB:=(Bh j).2.1;have S:=(Bh j).2.2.1;have U:Aa W (w.heap.size+1) (Yn a s nm num text ra k rc):=by have i:=Aa.new (w.alloc (.cells (Ys wd now given ae ta tn tc pa f pc la d lc) 43)) (Yn a s nm num text ra k rc) 67;rw[World.size_alloc]at i;rw[j];exact Aa.below i (Zy)
 have T:Aa W (w.heap.size+2) z12:=by have i:=Aa.new ((w.alloc (.cells (Ys wd now given ae ta tn tc pa f pc la d lc) 43)).alloc (.cells (Ym a s nm num text ra k rc) 67)) z12 90;rw[World.size_alloc,World.size_alloc]at i;rw[j];exact i
 have K:=Yx (O W G (by omega));have HQ:Hid (∀e w' c,Q W e w'->Tn [w.heap.size+2] w' c->D e c):=fun e w' c i h2=>R W e w' c G (by omega) i h2;have L:=Yx (P W);have A:Hid (Aa W (w.heap.size+2) z12):=T;have HV:Hid (∀b∈V,b<w.heap.size):=N;have M:=Yx j;obtain⟨v0,v1,v2,v3,v4,v5,v6⟩:=Aa.c7 S 0 1 2 3 4 5 6;obtain⟨e0,e1,e2,e3,e4,e5⟩:=Aa.c6 U 0 1 2 3 4 5;clear j S U T O R P N G
 rcases hk with⟨rfl,rfl,rfl⟩|⟨rfl,rfl,rfl⟩|⟨rfl,rfl,rfl⟩|⟨rfl,rfl,rfl⟩|⟨rfl,rfl,rfl⟩|⟨rfl,rfl,rfl⟩
 all_goals
  go_enter func44,ntmps44;go_upto_region 1 with fail;rw[←M.o];clear M;go_wp2_with fail;refine Calls.mono K.o ?_;intro e J l;obtain⟨B,H,I,c2,c3,c4,x,z,y,q,t,r,m,p,n,u,o,E,F,rfl⟩:=L.o e J l;have C:Aa J (w.heap.size+2) z12:=Aa.same A.o (B.block _ A.o.lt (fun h=>by have:=HV.o _ h;omega));obtain⟨⟨y0,q0⟩,⟨y1,q1⟩,⟨y2,q2⟩,⟨y3,q3⟩,⟨y4,q4⟩,⟨y5,q5⟩,⟨y6,q6⟩,⟨y7,q7⟩,⟨y8,q8⟩,⟨y9,q9⟩,⟨Z,zC⟩,zA,zE⟩:=AZ C
  have Y:=Yx l;clear l C B v0 v1 v2 v3 v4 v5 v6 e0 e1 e2 e3 e4 e5 K L;go_wp2;refine bodyPost_ret (v:=.agg #[Zg H,Zg I,Zg c2,Zg c3,Zg c4,.slice x z y,.slice q t r,.slice m p n,.string u,Zg o,.string E,.string F]) (by simp[results,results44,go_sem,y0,y1,y2,y3,y4,y5,y6,y7,y8,y9,Z,zA]) rfl ?_;exact HQ.o _ _ _ Y.o (Bq J (w.heap.size+2) _ _ _ _ _ _ _ _ _ _ _ _)
theorem Nv(wd now given ae:Int)(ta pa la:Zk)(tn tc g pc f lc:Nat)(s nm text:Zi)(num:Int)(ra:Zk)(A rc:Nat)(w:Zh)(z:Int)(Q:Zh->Ending->Zh->Prop)(Q':Ending->Zh->Prop)
 (zC:∀X,Zz w X->Calls prog 84 #[.agg (Ys wd now given ae ta tn tc pa g pc la f lc),.string s] X fun e w'=>e=.returned (Zg z)/\Zz X w')
 (zB:0<=z->∀X,Zz w X->w.heap.size+3<=X.heap.size->Calls prog 45 #[.agg (Ys wd now given ae ta tn tc pa g pc la f lc)] X fun e w'=>(∃r u t o q p l n m,e=.returned (.agg (Ys wd now given ae r u t o q p l n m))/\∀Y,Zz w' Y->Calls prog 85 #[.agg (Ys wd now given ae r u t o q p l n m),.string s,Zg num] Y (Q X))/\Zz X w')
 (hf:∀X e w',Zz w X->Q X e w'->Zz X w'/\∃(c0 c1 c2 c3 c4:Int) (r:Zk) (u t:Nat) (o:Zk) (q p:Nat) (l:Zk) (n m:Nat) (I:Zi) (H:Int) (a' b':Zi),e=.returned (.agg #[Zg c0,Zg c1,Zg c2,Zg c3,Zg c4,.slice r u t,.slice o q p,.slice l n m,.string I,Zg H,.string a',.string b']))
 (zF:z<0->∀w',Zz w w'->Q' (.returned (.agg (Ch 2 ⟨#[]⟩ ⟨#[]⟩).toArray)) w')
 (hq:0<=z->∀X e w' zH,Zz w X->w.heap.size+3<=X.heap.size->Q X e w'->Tn [w.heap.size+2] w' zH->Q' e zH):
 Calls prog 44 #[.agg (Ys wd now given ae ta tn tc pa g pc la f lc),.agg (Ym 4 s nm num text ra A rc)] w Q':=by
 obtain⟨W,x⟩:∃W,W=((w.alloc (.cells (Ys wd now given ae ta tn tc pa g pc la f lc) 43)).alloc (.cells (Ym 4 s nm num text ra A rc) 67)).alloc (.cells Yl 90):=⟨_,rfl⟩;have M:=(Bh x).1;have zO:=(Bh x).2.1;have d:=(Bh x).2.2.1;have j:Aa W (w.heap.size+1) (Yn 4 s nm num text ra A rc):=by have D:=Aa.new (w.alloc (.cells (Ys wd now given ae ta tn tc pa g pc la f lc) 43)) (Yn 4 s nm num text ra A rc) 67;rw[World.size_alloc]at D;rw[x];exact Aa.below D (Zy)
 have B:Aa W (w.heap.size+2) z12:=by have D:=Aa.new ((w.alloc (.cells (Ys wd now given ae ta tn tc pa g pc la f lc) 43)).alloc (.cells (Ym 4 s nm num text ra A rc) 67)) z12 90;rw[World.size_alloc,World.size_alloc]at D;rw[x];exact D
 have T:=Yx (zC W M);have y:Hid (∀X,Zz W X->Aa X w.heap.size (Yt wd now given ae ta tn tc pa g pc la f lc)/\Aa X (w.heap.size+1) (Yn 4 s nm num text ra A rc)/\Aa X (w.heap.size+2) z12/\Zz w X):=fun X i=>⟨Aa.below d i,Aa.below j i,Aa.below (v:=Zf) B i,M.trans (i.mono M.size)⟩;have HW:=Yx x;have S:=Yx zB;have HF:=Yx hf;have zJ:=Yx zF;have HQ:=Yx hq;obtain⟨v0,v1,v2,v3,v4,v5,v6⟩:=Aa.c7 d 0 1 2 3 4 5 6
 obtain⟨e0,e1,e2,e3,e4,e5⟩:=Aa.c6 j 0 1 2 3 4 5;clear x d j B zC zB hf zF hq M;go_enter func44,ntmps44;go_upto_region 1 with fail;rw[←HW.o];clear HW;go_wp2_with fail;refine Calls.mono T.o ?_;rintro e a ⟨rfl,Z⟩;have E:Hid (Zz W a):=Z;clear v0 v1 v2 v3 v4 v5 v6 e0 e1 e2 e3 e4 e5 T Z;obtain⟨d,j,B,G⟩:=y.o a E.o;by_cases hneg:z<0
 ·obtain⟨⟨y0,q0⟩,⟨y1,q1⟩,⟨y2,q2⟩,⟨y3,q3⟩,⟨y4,q4⟩,⟨y5,q5⟩,⟨y6,q6⟩,⟨y7,q7⟩,⟨y8,q8⟩,⟨y9,q9⟩,⟨J,zM⟩,K,zN⟩:=AZ B;have P:=Yx G;clear d j B G y;go_wp2;refine bodyPost_ret (v:=.agg (Ch 2 ⟨#[]⟩ ⟨#[]⟩).toArray) (by simp[results,results44,go_sem,y0,y1,y2,y3,y4,y5,y6,y7,y8,y9,J,K,Ch]) rfl ?_
  exact zJ.o hneg _ (P.o.trans (Tn.below (Bq a (w.heap.size+2) _ _ _ _ _ _ _ _ _ _ _ _) P.o.size (by intro v hv;simp at hv;omega)))
 ·have h0:0<=z:=by omega
  have D1:Below a.heap.size a a.drew:=(Below.refl _ _).drew;have N:=E.o.trans (D1.mono E.o.size);have h:=(y.o _ N).2.2.2;have zG:w.heap.size+3<=a.drew.heap.size:=by have:=N.size;omega
  have R:=Yx (S.o h0 a.drew h zG);have k:=Yx N
  have P1:a.drew.cell? (Ze (w.heap.size) 0)=some (Zg wd)/\a.drew.cell? (Ze (w.heap.size) 1)=some (Zg now)/\a.drew.cell? (Ze (w.heap.size) 2)=some (Zg given)/\a.drew.cell? (Ze (w.heap.size) 3)=some (Zg ae)/\a.drew.cell? (Ze (w.heap.size) 4)=some (.slice ta tn tc)/\a.drew.cell? (Ze (w.heap.size) 5)=some (.slice pa g pc)/\a.drew.cell? (Ze (w.heap.size) 6)=some (.slice la f lc)/\a.drew.cell? (Ze (w.heap.size+1) 1)=some (.string s)/\a.drew.cell? (Ze (w.heap.size+1) 3)=some (Zg num):=⟨(d 0 _ rfl).1,(d 1 _ rfl).1,(d 2 _ rfl).1,(d 3 _ rfl).1,(d 4 _ rfl).1,(d 5 _ rfl).1,(d 6 _ rfl).1,(j 1 _ rfl).1,(j 3 _ rfl).1⟩
  have L:Hid (∀X,Zz W X->X.cell? (Ze (w.heap.size) 0)=some (Zg wd)/\X.cell? (Ze (w.heap.size) 1)=some (Zg now)/\X.cell? (Ze (w.heap.size) 2)=some (Zg given)/\X.cell? (Ze (w.heap.size) 3)=some (Zg ae)/\X.cell? (Ze (w.heap.size) 4)=some (.slice ta tn tc)/\X.cell? (Ze (w.heap.size) 5)=some (.slice pa g pc)/\X.cell? (Ze (w.heap.size) 6)=some (.slice la f lc)/\X.cell? (Ze (w.heap.size+1) 1)=some (.string s)/\X.cell? (Ze (w.heap.size+1) 3)=some (Zg num)):=fun X i=>by
   obtain⟨c,C,_⟩:=y.o X i;exact⟨(c 0 _ rfl).1,(c 1 _ rfl).1,(c 2 _ rfl).1,(c 3 _ rfl).1,(c 4 _ rfl).1,(c 5 _ rfl).1,(c 6 _ rfl).1,(C 1 _ rfl).1,(C 3 _ rfl).1⟩
  have V:Hid (∀X Y,Zz W X->Tn [w.heap.size+1+1] X Y->Y.cell? (Ze (w.heap.size) 0)=some (Zg wd)/\Y.cell? (Ze (w.heap.size) 1)=some (Zg now)/\Y.cell? (Ze (w.heap.size) 2)=some (Zg given)/\Y.cell? (Ze (w.heap.size) 3)=some (Zg ae)/\Y.cell? (Ze (w.heap.size) 4)=some (.slice ta tn tc)/\Y.cell? (Ze (w.heap.size) 5)=some (.slice pa g pc)/\Y.cell? (Ze (w.heap.size) 6)=some (.slice la f lc)/\Y.cell? (Ze (w.heap.size+1) 1)=some (.string s)/\Y.cell? (Ze (w.heap.size+1) 3)=some (Zg num)):=fun X Y i hY=>by
   obtain⟨z0,z1,_⟩:=y.o X i;have c:=Aa.same z0 (hY.block _ z0.lt (by simp;omega));have C:=Aa.same z1 (hY.block _ z1.lt (by simp));exact⟨(c 0 _ rfl).1,(c 1 _ rfl).1,(c 2 _ rfl).1,(c 3 _ rfl).1,(c 4 _ rfl).1,(c 5 _ rfl).1,(c 6 _ rfl).1,(C 1 _ rfl).1,(C 3 _ rfl).1⟩
  have zI:=hneg;clear d j B G N P1;go_upto_region 11 with fail
  go_region_held3 (fun X=>X.cell? (Ze (w.heap.size) 0)=some (Zg wd)/\X.cell? (Ze (w.heap.size) 1)=some (Zg now)/\X.cell? (Ze (w.heap.size) 2)=some (Zg given)/\X.cell? (Ze (w.heap.size) 3)=some (Zg ae)/\X.cell? (Ze (w.heap.size) 4)=some (.slice ta tn tc)/\X.cell? (Ze (w.heap.size) 5)=some (.slice pa g pc)/\X.cell? (Ze (w.heap.size) 6)=some (.slice la f lc)/\X.cell? (Ze (w.heap.size+1) 1)=some (.string s)/\X.cell? (Ze (w.heap.size+1) 3)=some (Zg num))
   (first|with_reducible exact L.o _ k.o|with_reducible exact L.o _ B2|with_reducible exact L.o _ B3|with_reducible exact V.o _ _ B3 (Bq _ _ _ _ _ _ _ _ _ _ _ _ _ _))
   (first
     |(go_at_call 45;refine Calls.mono R.o ?_;rintro e w2 ⟨⟨r,u,t,o,q,p,l,n,m,rfl,zE⟩,zA⟩;have B2:Below W.heap.size W w2:=k.o.trans (zA.mono k.o.size);have U:=Yx (zE w2 (Below.refl _ _));clear zE zA)
     |(go_at_call 85;refine Calls.mono U.o ?_;intro e O F;obtain⟨hb3,c0,c1,c2,c3,c4,ua',un',uc',va',vn',vc',xa',xn',xc',I,H,a',b',rfl⟩:=HF.o a.drew e O h F;have B3:Below W.heap.size W O:=k.o.trans (hb3.mono k.o.size);have zK:=Yx F;obtain⟨_,_,zz1,_⟩:=y.o O B3;obtain⟨⟨y0,q0⟩,⟨y1,q1⟩,⟨y2,q2⟩,⟨y3,q3⟩,⟨y4,q4⟩,⟨y5,q5⟩,⟨y6,q6⟩,⟨y7,q7⟩,⟨y8,q8⟩,⟨y9,q9⟩,⟨J,zM⟩,K,zN⟩:=AZ zz1;clear F hb3 zz1))
  clear U R L V S HF;go_wp2;refine bodyPost_ret (v:=.agg #[Zg c0,Zg c1,Zg c2,Zg c3,Zg c4,.slice ua' un' uc',.slice va' vn' vc',.slice xa' xn' xc',.string I,Zg H,.string a',.string b']) (by simp[results,results44,go_sem,y0,y1,y2,y3,y4,y5,y6,y7,y8,y9,J,K]) rfl ?_;exact HQ.o h0 a.drew _ _ _ h zG zK.o (Bq O (w.heap.size+2) _ _ _ _ _ _ _ _ _ _ _ _)
section
structure CT (w:Zh) (base b:Nat) (ta pa la:Zk) (pc lc:Nat) (zs:List (Kd×Value)) (ps:List Pd) (ls:List Ld):Prop where
 tb:ta=some ⟨b,0,none⟩∨zs=[]
 z:BH w b 0 zs
 bl:b<w.heap.size
 po:w.ownsRow base 142 2 (.slice pa ps.length pc) ps.length (Ab pC ps)
 lo:w.ownsRow base 144 3 (.slice la ls.length lc) ls.length (Ab lC ls)
 lb:base<=w.heap.size
 bL:some b≠(Value.slice la ls.length lc).ownBlock
 pL:∀g,(Value.slice pa ps.length pc).ownBlock=some g->(Value.slice la ls.length lc).ownBlock≠some g
 zL:∀z∈zs,∀ad n rc,z.2=.slice (some ad) n rc->z.1.refs≠[]->some ad.block≠(Value.slice la ls.length lc).ownBlock
 zb:zs=[]∨base<=b
 zr:∀z∈zs,∀ad n rc,z.2=.slice (some ad) n rc->z.1.refs≠[]->base<=ad.block
def MO(base:Nat)(L:Value)(wd now given ae:Int)(ks:List Kd)(ps:List Pd)(ls:List Ld)(kd:Int)(s nm:Zi)(num:Int)(text:Zi)(refs:Zl)(w:Zh)(e:Ending)(w':Zh):Prop:=
 Tn L.ownBlock.toList w w'/\(
  (∃c a b,FI wd now given ae ks ps ls kd s nm num text refs c a b/\e=.returned (.agg (Ch c a b).toArray))∨
  (∃r b1 ta1 tc1 zs1 pa1 pc1 la1 lc1,Eg wd now given ae ks ps ls kd s nm num text refs r/\e=.returned (.agg #[Zf,Zg wd,Zg r.now,Zg r.given,Zg r.ae,.slice ta1 r.ks.length tc1,.slice pa1 r.ps.length pc1,.slice la1 r.ls.length lc1,.string r.sm,Zg r.le,Zd,Zd])/\zs1.map (·.1)=r.ks/\CT w' base b1 ta1 pa1 la1 pc1 lc1 zs1 r.ps r.ls))
section
variable {w w':Zh} {base b:Nat} {ta pa la:Zk} {pc lc:Nat} {zs:List (Kd×Value)} {ps:List Pd} {ls:List Ld}
theorem CT.below(h:CT w base b ta pa la pc lc zs ps ls)(a:Zz w w'):CT w' base b ta pa la pc lc zs ps ls:=
 ⟨h.tb,h.z.below a h.bl,Zr h.bl a.size,Ag h.po a,Ag h.lo a,Zm h.lb a.size,h.bL,h.pL,h.zL,h.zb,h.zr⟩
theorem CT.dh(h:CT w base b ta pa la pc lc zs ps ls):BF w w.heap.size ta (zs.map (·.1)):=by
 rcases h.tb with e|e
 ·rw[e];exact h.z.dh h.bl
 ·rw[e];exact .inl rfl
theorem CT.fj(h:CT w base b ta pa la pc lc zs ps ls):Ba w w.heap.size pa ps:=Ba.own h.po
theorem CT.fm(h:CT w base b ta pa la pc lc zs ps ls):Be w w.heap.size la ls:=Be.own h.lo
theorem CT.gb(h:CT w base b ta pa la pc lc zs ps ls){n g c:Nat}{a:List Pd}(d:w.ownsRow n 142 2 (Za g a.length c) a.length (Ab pC a))(i:base<=n)(f:∀q,(Value.slice la ls.length lc).ownBlock=some q->q<n):CT w base b ta (some ⟨g,0,none⟩) la c lc zs a ls:=
 ⟨h.tb,h.z,h.bl,d.mono i,h.lo,h.lb,h.bL,fun q j e=>by have k:=(Ac d j).1;have l:=f q e;omega,h.zL,h.zb,h.zr⟩
theorem CT.gg(h:CT w base b ta pa la pc lc zs ps ls){n g c:Nat}{a:List Ld}(f:w.ownsRow n 144 3 (Za g a.length c) a.length (Ab lC a))(o:base<=n)(u:b<n)(p:∀q,(Value.slice pa ps.length pc).ownBlock=some q->q<n)(t:∀z∈zs,∀d m rc,z.2=.slice (some d) m rc->z.1.refs≠[]->d.block<n):CT w base b ta pa (some ⟨g,0,none⟩) pc c zs ps a:=by
 have v:=(Ac f (g:=g) rfl).1;refine⟨h.tb,h.z,h.bl,h.po,f.mono o,h.lb,fun e=> ?_,fun q r e=> ?_,fun z i d m rc j k e=> ?_,h.zb,h.zr⟩
 ·have:b=g:=by simpa [Value.ownBlock]using e
  omega
 ·have l:g=q:=by simpa [Value.ownBlock]using e
  have:=p q r;omega
 ·have l:d.block=g:=by simpa [Value.ownBlock]using e
  have:=t z i d m rc j k;omega
theorem CT.cf(h:CT w base b ta pa la pc lc zs ps ls):(∀q,(Value.slice pa ps.length pc).ownBlock=some q->q<w.heap.size)/\(∀q,(Value.slice la ls.length lc).ownBlock=some q->q<w.heap.size)/\∀z∈zs,∀c m rc,z.2=.slice (some c) m rc->z.1.refs≠[]->c.block<w.heap.size:=
 ⟨fun _ a=>(Ac h.po a).2,fun _ a=>(Ac h.lo a).2,fun _ f _ _ _ d e=>h.z.bk f d e⟩
theorem GP{w:Zh}{base:Nat}{e:TypeId}{size:Nat}{a:Zk}{m c n:Nat}{i:Zj}(h:w.ownsRow base e size (.slice a m c) n i)(f:a=none):c=0:=by
 rcases h.2 with⟨d,_⟩|⟨g,j,k,d,_⟩
 ·injection d
 ·injection d with e1;rw[f]at e1;cases e1
end
theorem DS{w w':Zh}{base:Nat}{e:TypeId}{size:Nat}{v:Value}{n:Nat}{c:Zj}(h:w.ownsRow base e size v n c){q:Nat}(d:Tn [q] w w')(f:q<base):w'.ownsRow base e size v n c:=
 Ak h (fun g a=>d.block g (Ac h a).2 (by have:=(Ac h a).1;simp;omega))
theorem MP{w w':Zh}{base:Nat}{e:TypeId}{size:Nat}{v:Value}{n:Nat}{c:Zj}(h:w.ownsRow base e size v n c){q:Nat}(f:Tn [q] w w')(d:∀g,v.ownBlock=some g->g≠q):w'.ownsRow base e size v n c:=
 Ak h (fun g a=>f.block g (Ac h a).2 (by simp;exact d g a))
theorem Cn{w X w' a:Zh}(c:Zz w X)(d:Zz X w')(e:Tn [w.heap.size+2] w' a):Below w.heap.size w a:=
 (c.trans (d.mono c.size)).trans (e.below (Zm c.size d.size) (by intro v f;simp at f;omega))
theorem Nw(wd now given ae f num:Int)(ta pa la ra:Zk)(tc h pc g lc i rc:Nat)(a:List Kd)(s nm text:Zi)(w:Zh)(l:BF w w.heap.size ta a)(U:a.length<=1000)(m:¬Ay a s):
 Calls prog 82 #[.agg (Ys wd now given ae ta a.length tc pa h pc la g lc),.agg (Ym f s nm num text ra i rc)] w fun e w'=>e=.returned (.agg (Ch 2 ⟨#[]⟩ ⟨#[]⟩).toArray)/\Zz w w':=by
 obtain⟨W,c⟩:∃W,W=((w.alloc (.cells (Ys wd now given ae ta a.length tc pa h pc la g lc) 43)).alloc (.cells (Ym f s nm num text ra i rc) 67)).alloc (.cells Yl 90):=⟨_,rfl⟩;have j:=(Bh c).1;have q:=(Bh c).2.2.1;have t:Aa W (w.heap.size+1) (Yn f s nm num text ra i rc):=by have d:=Aa.new (w.alloc (.cells (Ys wd now given ae ta a.length tc pa h pc la g lc) 43)) (Yn f s nm num text ra i rc) 67;rw[World.size_alloc]at d;rw[c];exact Aa.below d (Zy)
 have r:Aa W (w.heap.size+2) z12:=by have d:=Aa.new ((w.alloc (.cells (Ys wd now given ae ta a.length tc pa h pc la g lc) 43)).alloc (.cells (Ym f s nm num text ra i rc) 67)) z12 90;rw[World.size_alloc,World.size_alloc]at d;rw[c];exact d
 have n:=Yx (Fj wd now given ae ta tc (.slice pa h pc) (.slice la g lc) a s W w.heap.size (BF.below l j) j.size (by omega));have T:=Iu m;have o:=Yx c;have u:=Yx r;obtain⟨v0,B,C,D,E,F,G,H⟩:=BG q;obtain⟨A,_⟩:=t 1 _ rfl;clear c q r t l m;go_enter func82,ntmps82;go_upto_region 1 with fail;rw[←o.o];clear o;go_wp2_with fail;refine Calls.mono n.o ?_;rintro e I ⟨rfl,k⟩
 obtain⟨⟨J,Y⟩,⟨K,Z⟩,⟨L,q2⟩,⟨M,q3⟩,⟨N,q4⟩,⟨O,q5⟩,⟨P,q6⟩,⟨Q,q7⟩,⟨R,q8⟩,⟨S,q9⟩,⟨x,V⟩,y,X⟩:=AZ (Aa.below (v:=Zf) u.o k);have p:=j.trans (k.mono j.size);generalize CR a s=fi at *
 clear v0 B C D E F G H n A;go_wp2;refine bodyPost_ret (v:=.agg (Ch 2 ⟨#[]⟩ ⟨#[]⟩).toArray) (by simp[results,results82,go_sem,J,K,L,M,N,O,P,Q,R,S,x,y,Ch]) rfl ?_;exact⟨rfl,p.trans (Tn.below (Bq I (w.heap.size+2) _ _ _ _ _ _ _ _ _ _ _ _) p.size (by intro v z;simp at z;omega))⟩
theorem PQ{ps:List Pd}{n:Zi}(s:Zi)(h:¬∃x∈ps,x.name=n):(Bw ps n s).length=ps.length+1:=by
 have c:∀(l:List Pd),(¬∃x∈l,x.name=n)->(l.filter (fun x=>less x.name n)).length+(l.filter (fun x=> !(less x.name n)&& !decide (x.name=n))).length=l.length:=by
  intro l;induction l with
  |nil=>intro _;rfl
  |cons x l ih=>intro a;have d:x.name≠n:=fun e=>a ⟨x,by simp,e⟩;have:=ih (fun⟨y,hy,e⟩=>a ⟨y,by simp[hy],e⟩);cases a:less x.name n<;>simp[a,d]<;>omega
 have:=c ps h;unfold Bw;rw[List.length_append,List.length_append];simp;omega
def Aak(wd now given ae num:Int)(zs:List (Kd×Value))(ps:List Pd)(ls:List Ld)(s:Zi)(X:Zh)(e:Ending)(w':Zh):Prop:=
 Below X.heap.size X w'/\(((ls.length=200∨given=1000000000)/\e=.returned (.agg (Ch 4 ⟨#[]⟩ ⟨#[]⟩).toArray))∨
  ((ls.length<200/\given<1000000000)/\∃b1 tc1 zs1 p1 pc1 g c,e=.returned (.agg #[Zf,Zg wd,Zg now,Zg (given+1),Zg ae,.slice (some ⟨b1,0,none⟩) zs.length tc1,.slice (some ⟨p1,0,none⟩) ps.length pc1,.slice (some ⟨g,0,none⟩) (ls.length+1) c,Zd,Zg (given+1),Zd,Zd])/\zs1.map (·.1)=zs.map (·.1)/\w'.ownsRow X.heap.size 137 4 (.slice (some ⟨b1,0,none⟩) zs1.length tc1) zs1.length (Ab kC zs1)/\(∀z∈zs1,∃g' c',z.2=.slice (some ⟨g',0,none⟩) z.1.refs.length c'/\w'.ownsRow X.heap.size 9 1 z.2 z.1.refs.length (z.1.refs.map Value.string))/\w'.ownsRow X.heap.size 142 2 (.slice (some ⟨p1,0,none⟩) ps.length pc1) ps.length (Ab pC ps)/\w'.ownsRow X.heap.size 144 3 (.slice (some ⟨g,0,none⟩) (ls.length+1) c) (ls++[(⟨given+1,s,now+num⟩:Ld)]).length (Ab lC (ls++[(⟨given+1,s,now+num⟩:Ld)]))/\b1≠g/\p1≠g/\∀z∈zs1,∀ad n rc,z.2=.slice (some ad) n rc->ad.block≠g))
theorem BH.some{w:Zh}{b a:Nat}{zs:List (Kd×Value)}(h:BH w b a zs):Gd w ⟨b,a,none⟩ (zs.map (·.1)):=by intro i k c;rw[List.getElem?_map]at c;obtain⟨z,g,rfl⟩:=Option.map_eq_some_iff.1 c;obtain⟨⟨_,_,_,e⟩,d,rc,f,_⟩:=h i z g;exact⟨d,rc,by rw[e,f]⟩
theorem ON{T P L:Option Nat}{R:List Nat}{l:Nat}(h:(T.toList++(P.toList++(L.toList++R))).Nodup)(a:L=some l):T≠some l/\P≠some l/\l∉R:=by subst a;cases T<;>cases P<;>simp_all<;>grind
section
variable (base:Nat) (wd now given ae:Int) (b:Nat) (ta pa la:Zk) (tc pc lc:Nat) (zs:List (Kd×Value)) (ps:List Pd) (ls:List Ld) (s nm text:Zi) (num:Int) (refs:Zl) (ra:Zk) (rc:Nat) (w:Zh)
theorem Vs(h:CT w base b ta pa la pc lc zs ps ls)(m:IV wd now given ae (zs.map (·.1)) ps ls 3 num text refs):
 Calls prog 44 #[.agg (Ys wd now given ae ta zs.length tc pa ps.length pc la ls.length lc),.agg (Ym 3 s nm num text ra refs.length rc)] w (MO base (.slice la ls.length lc) wd now given ae (zs.map (·.1)) ps ls 3 s nm num text refs w):=by
 refine Dv 3 83 _ wd now given ae ta pa la zs.length tc ps.length pc ls.length lc s nm text num ra refs.length rc w [] (fun X e w'=>Qi X w' e wd now given ae (.slice ta zs.length tc) (.slice la ls.length lc) ps nm) _ (.inr (.inr (.inl ⟨rfl,rfl,rfl⟩))) (by simp) (fun X a _=>PF wd now given ae ta la pa zs.length tc ls.length lc pc ps nm X (h.below a).fj (by have:=m.np;omega)) ?_ ?_
 ·rintro X e w' ⟨d,⟨_,rfl⟩|⟨_,g,c,rfl,_⟩⟩
  ·exact⟨Tn.of d,_,_,_,_,_,_,_,_,_,_,_,_,_,_,_,_,_,_,rfl⟩
  ·exact⟨Tn.of d,_,_,_,_,_,_,_,_,_,_,_,_,_,_,_,_,_,_,rfl⟩
 ·rintro X e w' r a t ⟨d,⟨k,rfl⟩|⟨f,g,c,rfl,o⟩⟩ i
  ·exact⟨Tn.of (Cn a d i),.inl ⟨5,_,_,.inr ⟨rfl,rfl,.inr (.inl ⟨rfl,k,rfl⟩)⟩,rfl⟩⟩
  ·have j:=Cn a d i;have n:=h.below j;have l:=DS o i (by omega);exact⟨Tn.of j,.inr ⟨⟨⟨#[]⟩,0,now,given,ae,zs.map (·.1),Bg ps nm,ls⟩,b,ta,tc,zs,_,c,la,lc,.inr (.inr (.inl ⟨rfl,f,rfl⟩)),by rw[List.length_map],rfl,n.gb l (Zm h.lb a.size) (fun q p=>Zr (h.cf.2.1 q p) a.size)⟩⟩
theorem Vt(h:CT w base b ta pa la pc lc zs ps ls)(t:IV wd now given ae (zs.map (·.1)) ps ls 5 num text refs):
 Calls prog 44 #[.agg (Ys wd now given ae ta zs.length tc pa ps.length pc la ls.length lc),.agg (Ym 5 s nm num text ra refs.length rc)] w (MO base (.slice la ls.length lc) wd now given ae (zs.map (·.1)) ps ls 5 s nm num text refs w):=by
 refine Dv 5 86 _ wd now given ae ta pa la zs.length tc ps.length pc ls.length lc s nm text num ra refs.length rc w [] (fun X e w'=>Tz X w' e wd now given ae (.slice ta zs.length tc) (.slice pa ps.length pc) ls num) _ (.inr (.inr (.inr (.inl ⟨rfl,rfl,rfl⟩)))) (by simp) (fun X d _=>Rw wd now given ae ta pa la zs.length tc ps.length pc lc ls num X (h.below d).fm (by have:=t.nl;omega)) ?_ ?_
 ·rintro X e w' ⟨f,⟨_,rfl⟩|⟨_,g,c,rfl,_⟩⟩
  ·exact⟨Tn.of f,_,_,_,_,_,_,_,_,_,_,_,_,_,_,_,_,_,_,rfl⟩
  ·exact⟨Tn.of f,_,_,_,_,_,_,_,_,_,_,_,_,_,_,_,_,_,_,rfl⟩
 ·rintro X e w' y d l ⟨f,⟨m,rfl⟩|⟨i,g,c,rfl,v⟩⟩ j
  ·exact⟨Tn.of (Cn d f j),.inl ⟨5,_,_,.inr ⟨rfl,rfl,.inr (.inr (.inr (.inl ⟨rfl,m,rfl⟩)))⟩,rfl⟩⟩
  ·have k:=Cn d f j;have u:=h.below k;have o:=DS v j (by omega);exact⟨Tn.of k,.inr ⟨⟨⟨#[]⟩,0,now,given,ae,zs.map (·.1),ps,Bx ls num⟩,b,ta,tc,zs,pa,pc,_,c,.inr (.inr (.inr (.inr (.inl ⟨rfl,i,rfl⟩)))),by rw[List.length_map],rfl,u.gg o (Zm h.lb d.size) (Zr h.bl d.size) (fun q x=>Zr (h.cf.1 q x) d.size) (fun z l a n c p r=>Zr (h.cf.2.2 z l a n c p r) d.size)⟩⟩
theorem Vu(h:CT w base b ta pa la pc lc zs ps ls)(f:IV wd now given ae (zs.map (·.1)) ps ls 6 num text refs):
 Calls prog 44 #[.agg (Ys wd now given ae ta zs.length tc pa ps.length pc la ls.length lc),.agg (Ym 6 s nm num text ra refs.length rc)] w (MO base (.slice la ls.length lc) wd now given ae (zs.map (·.1)) ps ls 6 s nm num text refs w):=by
 refine Dv 6 87 _ wd now given ae ta pa la zs.length tc ps.length pc ls.length lc s nm text num ra refs.length rc w [] (fun X e w'=>TH X w' e wd now given ae (.slice ta zs.length tc) (.slice pa ps.length pc) ls num) _ (.inr (.inr (.inr (.inr (.inl ⟨rfl,rfl,rfl⟩))))) (by simp) (fun X d _=>RG wd now given ae ta pa la zs.length tc ps.length pc lc ls num X (h.below d).fm (by have:=f.nl;omega) f.cn f.da f.fa f.fp) ?_ ?_
 ·rintro X e w' ⟨i,⟨_,rfl⟩|⟨_,g,c,rfl,_⟩⟩
  ·exact⟨Tn.of i,_,_,_,_,_,_,_,_,_,_,_,_,_,_,_,_,_,_,rfl⟩
  ·exact⟨Tn.of i,_,_,_,_,_,_,_,_,_,_,_,_,_,_,_,_,_,_,rfl⟩
 ·rintro X e w' y d m ⟨i,⟨o,rfl⟩|⟨j,g,c,rfl,v⟩⟩ k
  ·exact⟨Tn.of (Cn d i k),.inl ⟨4,_,_,.inr ⟨rfl,rfl,.inr (.inr (.inr (.inr (.inl ⟨rfl,o,rfl⟩))))⟩,rfl⟩⟩
  ·have l:=Cn d i k;have u:=h.below l;have p:=DS v k (by omega);exact⟨Tn.of l,.inr ⟨⟨⟨#[]⟩,0,now+num,given,ae,zs.map (·.1),ps,AP ls (now+num)⟩,b,ta,tc,zs,pa,pc,_,c,.inr (.inr (.inr (.inr (.inr (.inl ⟨rfl,j,rfl⟩))))),by rw[List.length_map],rfl,u.gg p (Zm h.lb d.size) (Zr h.bl d.size) (fun q x=>Zr (h.cf.1 q x) d.size) (fun z m a n c r t=>Zr (h.cf.2.2 z m a n c r t) d.size)⟩⟩
theorem Vv(h:CT w base b ta pa la pc lc zs ps ls)(j:IV wd now given ae (zs.map (·.1)) ps ls 2 num text refs):
 Calls prog 44 #[.agg (Ys wd now given ae ta zs.length tc pa ps.length pc la ls.length lc),.agg (Ym 2 s nm num text ra refs.length rc)] w (MO base (.slice la ls.length lc) wd now given ae (zs.map (·.1)) ps ls 2 s nm num text refs w):=by
 have m:(zs.map (·.1)).length<=1000:=by have:=j.bn.len;omega
 by_cases hth:Ay (zs.map (·.1)) s
 ·refine Dv 2 82 _ wd now given ae ta pa la zs.length tc ps.length pc ls.length lc s nm text num ra refs.length rc w [] (fun X e w'=>VP X w' e wd now given ae (.slice ta zs.length tc) (.slice la ls.length lc) ps nm s) _ (.inr (.inl ⟨rfl,rfl,rfl⟩)) (by simp) (fun X a _=> ?_) ?_ ?_
  ·have i:=TD wd now given ae 2 num ta pa la ra tc pc lc ls.length refs.length rc (zs.map (·.1)) ps nm s text X (h.below a).dh (h.below a).fj m (by have:=j.np;omega) hth j.bu;rw[List.length_map]at i;exact i
  ·rintro X e w' ⟨d,⟨_,rfl⟩|⟨_,g,c,rfl,_⟩⟩
   ·exact⟨Tn.of d,_,_,_,_,_,_,_,_,_,_,_,_,_,_,_,_,_,_,rfl⟩
   ·exact⟨Tn.of d,_,_,_,_,_,_,_,_,_,_,_,_,_,_,_,_,_,_,rfl⟩
  ·rintro X e w' t a A ⟨d,⟨B,rfl⟩|⟨u,g,c,rfl,y⟩⟩ k
   ·have o:=Ke ps nm s;have p:¬∃x∈ps,x.name=nm:=fun l=>by have:=o.2 l;have:=j.np;omega
    exact⟨Tn.of (Cn a d k),.inl ⟨4,_,_,.inr ⟨rfl,rfl,.inl ⟨rfl,.inr ⟨hth,p,by have:=o.1;have:=j.np;omega,rfl⟩⟩⟩,rfl⟩⟩
   ·have n:=Cn a d k;have v:=h.below n;have r:=DS y k (by omega);have f:(∃x∈ps,x.name=nm)∨ps.length<100:=by
     by_cases l:∃x∈ps,x.name=nm
     ·exact .inl l
     ·have:=PQ s l;exact .inr (by omega)
    exact⟨Tn.of n,.inr ⟨⟨⟨#[]⟩,0,now,given,ae,zs.map (·.1),Bw ps nm s,ls⟩,b,ta,tc,zs,_,c,la,lc,.inr (.inl ⟨rfl,hth,f,rfl⟩),by rw[List.length_map],rfl,v.gb r (Zm h.lb a.size) (fun q z=>Zr (h.cf.2.1 q z) a.size)⟩⟩
 ·refine Dv 2 82 _ wd now given ae ta pa la zs.length tc ps.length pc ls.length lc s nm text num ra refs.length rc w [] (fun X e w'=>e=.returned (.agg (Ch 2 ⟨#[]⟩ ⟨#[]⟩).toArray)/\Zz X w') _ (.inr (.inl ⟨rfl,rfl,rfl⟩)) (by simp) (fun X a _=> ?_) ?_ ?_
  ·have i:=Nw wd now given ae 2 num ta pa la ra tc ps.length pc ls.length lc refs.length rc (zs.map (·.1)) s nm text X (h.below a).dh m hth;rw[List.length_map]at i;exact i
  ·rintro X e w' ⟨rfl,d⟩;exact⟨Tn.of d,_,_,_,_,_,_,_,_,_,_,_,_,_,_,_,_,_,_,rfl⟩
  ·rintro X e w' t a A ⟨rfl,d⟩ k;exact⟨Tn.of (Cn a d k),.inl ⟨2,_,_,.inr ⟨rfl,rfl,.inl ⟨rfl,.inl ⟨hth,rfl⟩⟩⟩,rfl⟩⟩
theorem Vw(h:CT w base b ta pa la pc lc zs ps ls)(j:IV wd now given ae (zs.map (·.1)) ps ls 4 num text refs)(zH:∀k∈zs.map (·.1),k.refs.length<=30):
 Calls prog 44 #[.agg (Ys wd now given ae ta zs.length tc pa ps.length pc la ls.length lc),.agg (Ym 4 s nm num text ra refs.length rc)] w (MO base (.slice la ls.length lc) wd now given ae (zs.map (·.1)) ps ls 4 s nm num text refs w):=by
 have zJ:(zs.map (·.1)).length<=600:=j.bn.len;refine Nv wd now given ae ta pa la zs.length tc ps.length pc ls.length lc s nm text num ra refs.length rc w (CR (zs.map (·.1)) s) (Aak wd now given ae num zs ps ls s) _ (fun X u=> ?_) (fun h0 X u r=> ?_) ?_ ?_ ?_
 ·have P:=Fj wd now given ae ta tc (.slice pa ps.length pc) (.slice la ls.length lc) (zs.map (·.1)) s X X.heap.size (h.below u).dh (Zx) (by omega);rw[List.length_map]at P;exact P
 ·have t:=h.below u;have P:=GH wd now given ae ta pa la tc pc lc (zs.map (·.1)) ps ls X ⟨t.dh,t.fj,t.fm⟩ (fun A hA=>by
   rcases t.tb with e|e
   ·rw[e]at hA;cases hA;exact t.z.some
   ·rw[e];intro i k hk;simp at hk) (GP t.po) (GP t.lo) zJ j.np j.nl zH
  rw[List.length_map]at P;refine P.mono ?_;rintro e w' ⟨T,P',L',rs,rfl,d,J,m⟩;obtain⟨D,n1,I,rfl⟩:=J T (by simp);obtain⟨L,n2,H,rfl⟩:=J P' (by simp);obtain⟨K,n3,zR,rfl⟩:=J L' (by simp);obtain⟨_,_,o⟩:=Ar d.ai;obtain⟨_,_,F⟩:=Ar d.pins;obtain⟨_,_,O⟩:=Ar d.an;cases o;cases F;cases O;refine⟨⟨_,_,_,_,_,_,_,_,_,rfl,fun Y C=> ?_⟩,m⟩
  refine(Gh wd now given ae (some ⟨D,0,none⟩) (some ⟨L,0,none⟩) (some ⟨K,0,none⟩) _ I ps.length H zR X.heap.size ls s num Y (Ag d.an C) (Zm m.size C.size) (by have:=j.nl;omega) j.bj j.bt j.cn j.da j.fa j.fp).mono ?_;rintro e w3 ⟨x,V⟩;have zU:X.heap.size<=K:=(Ac d.an rfl).1
  have zI:Below X.heap.size X w3:=(m.trans (C.mono m.size)).trans (x.below (Zm m.size C.size) (by intro v J;simp[Value.ownBlock]at J;omega));refine⟨zI,?_⟩;rcases V with⟨y,rfl⟩|⟨⟨U,Q⟩,g,c,rfl,ho,S⟩
  ·exact .inl ⟨by have:=j.nl;have:=j.bt;omega,rfl⟩
  ·have W:=d.nd;rw[Fp]at W;unfold Bk at W;obtain⟨n1,n2,n3⟩:=ON W (l:=K) rfl;have f:∀{e:TypeId} {size:Nat} {v:Value} {n:Nat} {xs:Zj},w'.ownsRow X.heap.size e size v n xs->v.ownBlock≠some K->w3.ownsRow X.heap.size e size v n xs:=fun {e size v n xs} ho1 hne=>Ak (Ag ho1 C) (fun q hq=>x.block q (Ac (Ag ho1 C) hq).2 (fun e=>by simp[Value.ownBlock]at e;exact hne (by rw[hq,e])))
   have hlen:((zs.map (·.1)).zip rs).length=zs.length:=by rw[List.length_zip,d.len,List.length_map];omega
   refine .inr ⟨⟨U,Q⟩,D,I,(zs.map (·.1)).zip rs,L,H,g,c,by simp,?_,?_,?_,f d.pins n2,ho,?_,?_,?_⟩
   ·rw[List.map_fst_zip (by rw[d.len];exact Zx)]
   ·have h2:=f d.ai n1;rw[hlen];rw[List.length_map]at h2;exact h2
   ·intro z r;obtain⟨i,p⟩:=List.getElem?_of_mem r;rw[List.getElem?_zip_eq_some]at p;have hr:=d.refs i z.1 z.2 p.1 p.2;obtain⟨B,n',N,E⟩:=J z.2 (by simp;exact .inr (.inr (.inr (Zs p.2))));obtain⟨a',zT,zC⟩:=Ar hr;rw[E]at zC;cases zC;refine⟨B,N,E,f hr (fun e=>n3 ?_)⟩;exact List.mem_filterMap.2 ⟨z.2,Zs p.2,e⟩
   ·have q1:=(Ac d.ai (g:=D) rfl).2;have q2:=C.size;rcases S with G|G
    ·have o:K=g:=by simpa [Value.ownBlock]using G
     intro e;exact n1 (by simp[Value.ownBlock];omega)
    ·omega
   ·have q1:=(Ac d.pins (g:=L) rfl).2;have q2:=C.size;rcases S with G|G
    ·have o:K=g:=by simpa [Value.ownBlock]using G
     intro e;exact n2 (by simp[Value.ownBlock];omega)
    ·omega
   ·intro z r a n' N F;obtain⟨i,p⟩:=List.getElem?_of_mem r;rw[List.getElem?_zip_eq_some]at p;have hr:=d.refs i z.1 z.2 p.1 p.2;obtain⟨B,m',d',O⟩:=J z.2 (by simp;exact .inr (.inr (.inr (Zs p.2))));rw[O]at F;cases F;have q1:=(Ac hr (g:=B) (by rw[O];rfl)).2;have q2:=C.size;show B≠g;rcases S with G|G
    ·have o:K=g:=by simpa [Value.ownBlock]using G
     intro e;exact n3 (List.mem_filterMap.2 ⟨z.2,Zs p.2,by rw[O];simp[Value.ownBlock];omega⟩)
    ·omega
 ·rintro X e w' u ⟨m,⟨_,rfl⟩|⟨_,D,I,Z,L,H,g,c,rfl,_⟩⟩
  ·exact⟨m,_,_,_,_,_,_,_,_,_,_,_,_,_,_,_,_,_,_,rfl⟩
  ·exact⟨m,_,_,_,_,_,_,_,_,_,_,_,_,_,_,_,_,_,_,rfl⟩
 ·intro zS w' m;have M:¬Ay (zs.map (·.1)) s:=fun x=>by obtain⟨i,k,e,_⟩:=LY x;omega
  exact⟨Tn.of m,.inl ⟨2,_,_,.inr ⟨rfl,rfl,.inr (.inr (.inl ⟨rfl,.inl ⟨M,rfl⟩⟩))⟩,rfl⟩⟩
 ·rintro h0 X e w' zG u r ⟨m,hQ⟩ x;have M:Ay (zs.map (·.1)) s:=Classical.byContradiction fun hn=>by have:=Iu hn;omega
  have hB:=Cn u m x;rcases hQ with⟨y,rfl⟩|⟨⟨U,Q⟩,D,I,Z,L,H,g,c,rfl,hm,hk,zF,zN,V,zA,zB,zO⟩
  ·exact⟨Tn.of hB,.inl ⟨4,_,_,.inr ⟨rfl,rfl,.inr (.inr (.inl ⟨rfl,.inr ⟨M,y,rfl⟩⟩))⟩,rfl⟩⟩
  ·have R:=DS hk x (by omega);have zM:=DS zN x (by omega);have zE:=DS V x (by omega);have zP:BH zG D 0 Z:=BH.own R (fun z r=>by
    obtain⟨B,N,E,ho⟩:=zF z r;rw[E]at ho;exact⟨⟨B,0,none⟩,N,E,Ad.own (DS ho x (by omega))⟩)
   refine⟨Tn.of hB,.inr ⟨⟨⟨#[]⟩,given+1,now,given+1,ae,zs.map (·.1),ps,ls++[⟨given+1,s,now+num⟩]⟩,D,some ⟨D,0,none⟩,I,Z,some ⟨L,0,none⟩,H,some ⟨g,0,none⟩,c,.inr (.inr (.inr (.inl ⟨rfl,M,U,Q,rfl⟩))),by simp,hm,⟨.inl rfl,zP,(Ac R rfl).2,zM.mono (Zm h.lb u.size),?_,Zm h.lb hB.size,by simp[Value.ownBlock];exact zA,fun q hq e=> ?_,fun z r a n c o _ e=> ?_,.inr (Zm (Zm h.lb u.size) (Ac R rfl).1),fun z r a n c o _=> ?_⟩⟩⟩
   ·have h4:zG.ownsRow X.heap.size 144 3 (Za g (ls++[(⟨given+1,s,now+num⟩:Ld)]).length c) (ls++[(⟨given+1,s,now+num⟩:Ld)]).length (Ab lC (ls++[(⟨given+1,s,now+num⟩:Ld)])):=by rw[List.length_append]at zE ⊢;exact zE
    exact h4.mono (Zm h.lb u.size)
   ·have o:L=q:=by simpa [Value.ownBlock]using hq
    have F:g=q:=by simpa [Value.ownBlock]using e
    exact zB (o.trans F.symm)
   ·have F:a.block=g:=by simpa [Value.ownBlock]using e
    exact zO z r a n c o F
   ·obtain⟨B,N,E,zK⟩:=zF z r;rw[E]at o;cases o;have q1:=(Ac zK (g:=B) (by rw[E];rfl)).1;have q2:=h.lb;have q3:=u.size;show base<=B;omega
theorem Vx(h:CT w base b ta pa la pc lc zs ps ls)(o:IV wd now given ae (zs.map (·.1)) ps ls 7 num text refs):
 Calls prog 44 #[.agg (Ys wd now given ae ta zs.length tc pa ps.length pc la ls.length lc),.agg (Ym 7 s nm num text ra refs.length rc)] w (MO base (.slice la ls.length lc) wd now given ae (zs.map (·.1)) ps ls 7 s nm num text refs w):=by
 have v:=o.bn.len;have y:zs.length<=600:=by rwa[List.length_map]at v
 by_cases hth:Ay (zs.map (·.1)) s
 ·obtain rfl:ta=some ⟨b,0,none⟩:=h.tb.resolve_right (fun e=>by obtain⟨u,hu,_⟩:=hth;rw[e]at hu;simp at hu)
  refine Dv 7 88 _ wd now given ae (some ⟨b,0,none⟩) pa la zs.length tc ps.length pc ls.length lc s nm text num ra refs.length rc w [] (fun X e w'=>Qf X w' e wd now given ae (.slice pa ps.length pc) (.slice la ls.length lc) zs ps ls s) _ (.inr (.inr (.inr (.inr (.inr (⟨rfl,rfl,rfl⟩)))))) (by simp) (fun X d _=>Rp wd now given ae b 0 tc pc lc pa la zs ps ls s X (h.below d).z (h.below d).bl (h.below d).fj (h.below d).fm y o.np o.nl (fun z i=>(o.bn.refs z.1 (List.mem_map.2 ⟨z,i,rfl⟩)).1) hth) ?_ ?_
  ·rintro X e w' ⟨f,⟨_,rfl⟩|⟨_,g,c,rfl,_⟩⟩
   ·exact⟨Tn.of f,_,_,_,_,_,_,_,_,_,_,_,_,_,_,_,_,_,_,rfl⟩
   ·exact⟨Tn.of f,_,_,_,_,_,_,_,_,_,_,_,_,_,_,_,_,_,_,rfl⟩
  ·rintro X e w' B d i ⟨f,⟨p,rfl⟩|⟨l,g,c,rfl,A,F,q⟩⟩ k
   ·exact⟨Tn.of (Cn d f k),.inl ⟨6,_,_,.inr ⟨rfl,rfl,.inr (.inr (.inr (.inr (.inr ⟨rfl,.inr ⟨hth,p,rfl⟩⟩))))⟩,rfl⟩⟩
   ·have r:=Cn d f k;have j:=h.below r;have x:=A.al k q (by simp;omega) (fun z i a n c C D t=>by
     simp at t;have:=h.z.bk (List.mem_filter.1 i).1 C D;omega)
    exact⟨Tn.of r,.inr ⟨⟨⟨#[]⟩,0,now,given,ae,EP (zs.map (·.1)) s,ps,ls⟩,g,_,c,Ce zs s,pa,pc,la,lc,.inr (.inr (.inr (.inr (.inr (.inr ⟨rfl,hth,l,rfl⟩))))),by simp[←ML],ML zs s,⟨.inl rfl,x,Zr q k.size,j.po,j.lo,j.lb,fun e=>by have m:=h.cf.2.1 g e.symm;have E:=d.size;omega,j.pL,fun z i=>j.zL z (List.mem_filter.1 i).1,.inr (by have m:=h.lb;have E:=d.size;omega),fun z i=>j.zr z (List.mem_filter.1 i).1⟩⟩⟩
 ·refine Dv 7 88 _ wd now given ae ta pa la zs.length tc ps.length pc ls.length lc s nm text num ra refs.length rc w [] (fun X e w'=>e=.returned (.agg (Ch 2 ⟨#[]⟩ ⟨#[]⟩).toArray)/\Zz X w') _ (.inr (.inr (.inr (.inr (.inr (⟨rfl,rfl,rfl⟩)))))) (by simp) (fun X d _=> ?_) ?_ ?_
  ·have m:=Mc wd now given ae ta pa la tc ps.length pc ls.length lc (zs.map (·.1)) s X (h.below d).dh (by omega) hth;rw[List.length_map]at m;exact m
  ·rintro X e w' ⟨rfl,f⟩;exact⟨Tn.of f,_,_,_,_,_,_,_,_,_,_,_,_,_,_,_,_,_,_,rfl⟩
  ·rintro X e w' B d i ⟨rfl,f⟩ k;exact⟨Tn.of (Cn d f k),.inl ⟨2,_,_,.inr ⟨rfl,rfl,.inr (.inr (.inr (.inr (.inr ⟨rfl,.inl ⟨hth,rfl⟩⟩))))⟩,rfl⟩⟩
theorem Vy(h:CT w base b ta pa la pc lc zs ps ls)(d:IV wd now given ae (zs.map (·.1)) ps ls 1 num text refs)(hr:Ad w w.heap.size ra refs)(V:ra=none->refs.length=0/\rc=0):
 Calls prog 44 #[.agg (Ys wd now given ae ta zs.length tc pa ps.length pc la ls.length lc),.agg (Ym 1 s nm num text ra refs.length rc)] w (MO base (.slice la ls.length lc) wd now given ae (zs.map (·.1)) ps ls 1 s nm num text refs w):=by
 refine Dv 1 81 _ wd now given ae ta pa la zs.length tc ps.length pc ls.length lc s nm text num ra refs.length rc w (Value.slice la ls.length lc).ownBlock.toList (fun X e w'=>OJ base b wd now given ae num zs (.slice pa ps.length pc) (.slice la ls.length lc) ls text refs X e w') _ (.inl ⟨rfl,rfl,rfl⟩) (fun q f=>h.cf.2.1 q (by simpa using f)) (fun X i _=>TI base wd now given ae 1 num ta b tc zs pa la ps.length pc lc ls s nm text refs ra rc X ⟨h.tb,V,(h.below i).z,(h.below i).bl,Ag h.lo i,Zm h.lb i.size,h.bL,h.zL,Ad.mono (Ad.below hr i) i.size,d.bn,d.w1,fun z m=>d.br z.1 (List.mem_map.2 ⟨z,m,rfl⟩),d.ic,d.ie,d.ba,d.ah,d.bj,d.bt,d.cn,d.da,d.fa,d.fp,d.nl⟩) ?_ ?_
 ·rintro X e w' ⟨l,⟨c,a,I,_,rfl⟩|⟨u,ah,g,J,F,o,c2,_,_,_,_,rfl,_⟩⟩
  ·exact⟨l,_,_,_,_,_,_,_,_,_,_,_,_,_,_,_,_,_,_,rfl⟩
  ·exact⟨l,_,_,_,_,_,_,_,_,_,_,_,_,_,_,_,_,_,_,rfl⟩
 ·rintro X e w' zC i m ⟨W,hQ⟩ l;have p:=W;have H:=Tn.fresh ((Tn.of i).trans p) l (by omega);rcases hQ with⟨c,a,I,T,rfl⟩|⟨u,ah,g,J,F,o,c2,v,x,R,N,rfl,L,zA,y,A,E,B,ho,P,Z⟩
  ·exact⟨H,.inl ⟨c,a,I,.inl ⟨rfl,T⟩,rfl⟩⟩
  ·have O:g≠w.heap.size+2:=by have:=h.bl;rcases A with⟨e,_⟩|e<;>omega
   have Y:=zA.al l y (by simp;exact O) (fun z m a n c k G Q=>by
    simp at Q;rcases E z m with t|⟨M,n',zB,r,S⟩
    ·have:=h.z.bk t k G;omega
    ·rw[k]at r;cases r;omega)
   have zF:o≠w.heap.size+2:=by
    rcases B with e|e
    ·have:=h.cf.2.1 o e;omega
    ·omega
   have C:=MP ho l (by intro q f;have:o=q:=by simpa [Value.ownBlock]using f
                       omega)
   have D:=Ag h.po i;have U:=MP (Ak D (w':=w') (fun q f=>p.block q (Ac D f).2 (fun e=>h.pL q f (by simpa using e)))) l (by intro q f;have:=h.cf.1 q f;omega);have zE:=i.size;have h4:zC.ownsRow base 144 3 (Za o (ls++[(⟨given+1,Bm text refs wd,now+num⟩:Ld)]).length c2) (ls++[(⟨given+1,Bm text refs wd,now+num⟩:Ld)]).length (Ab lC (ls++[(⟨given+1,Bm text refs wd,now+num⟩:Ld)])):=by rw[List.length_append]at C ⊢;exact C
   refine⟨H,.inr ⟨⟨Bm text refs wd,given+1,now,given+1,ah,u,ps,ls++[⟨given+1,Bm text refs wd,now+num⟩]⟩,g,_,J,F,pa,pc,_,c2,.inl ⟨rfl,v,R,N,u,ah,x,rfl⟩,by simp[←L],L,⟨.inl rfl,Y,Zr y l.size,U,h4,Zm h.lb H.size,by simp[Value.ownBlock];exact P,fun q f e=> ?_,fun z m a n c j k e=> ?_,?_,fun z m a n c j k=> ?_⟩⟩⟩
   ·have j:o=q:=by simpa [Value.ownBlock]using e
    have:=h.cf.1 q f;rcases B with K|K
    ·exact h.pL q f (by rw[K,j])
    ·omega
   ·have G:a.block=o:=by simpa [Value.ownBlock]using e
    exact Z z m a n c j k G
   ·rcases A with⟨j,k⟩|j
    ·rw[j,k];exact h.zb
    ·exact .inr (by have:=h.lb;omega)
   ·rcases E z m with t|⟨M,n',zB,r,S⟩
    ·exact h.zr z t a n c j k
    ·rw[j]at r;cases r;have:=h.lb;omega
theorem Kj(a:Int)(h:CT w base b ta pa la pc lc zs ps ls)(c:IV wd now given ae (zs.map (·.1)) ps ls a num text refs)(d:∀k∈zs.map (·.1),k.refs.length<=30)(f:Ad w w.heap.size ra refs)(e:ra=none->refs.length=0/\rc=0):
 Calls prog 44 #[.agg (Ys wd now given ae ta zs.length tc pa ps.length pc la ls.length lc),.agg (Ym a s nm num text ra refs.length rc)] w (MO base (.slice la ls.length lc) wd now given ae (zs.map (·.1)) ps ls a s nm num text refs w):=by
 obtain rfl|rfl|rfl|rfl|rfl|rfl|rfl:a=1∨a=2∨a=3∨a=4∨a=5∨a=6∨a=7:=by have:=c.im;have:=c.ig;omega
 ·exact Vy base wd now given ae b ta pa la tc pc lc zs ps ls s nm text num refs ra rc w h c f e
 ·exact Vv base wd now given ae b ta pa la tc pc lc zs ps ls s nm text num refs ra rc w h c
 ·exact Vs base wd now given ae b ta pa la tc pc lc zs ps ls s nm text num refs ra rc w h c
 ·exact Vw base wd now given ae b ta pa la tc pc lc zs ps ls s nm text num refs ra rc w h c d
 ·exact Vt base wd now given ae b ta pa la tc pc lc zs ps ls s nm text num refs ra rc w h c
 ·exact Vu base wd now given ae b ta pa la tc pc lc zs ps ls s nm text num refs ra rc w h c
 ·exact Vx base wd now given ae b ta pa la tc pc lc zs ps ls s nm text num refs ra rc w h c
end
end
theorem Vz{w:Zh}{base:Nat}{ra:Zk}{rc:Nat}{a:Zl}(h:w.ownsRow base 9 1 (.slice ra a.length rc) a.length (a.map Value.string)):Ad w w.heap.size ra a/\(ra=none->a.length=0/\rc=0):=by
 rcases h.2 with⟨c,d⟩|⟨g,i,j,c,_,_,f,_⟩
 ·injection c with e1 e2 e3;subst e1;exact⟨.inl (List.eq_nil_of_length_eq_zero d),fun _=>⟨d,e3⟩⟩
 ·cases c;exact⟨Ad.own h,fun e=>by cases e⟩
theorem CT.low{w w':Zh}{base b:Nat}{ta pa la:Zk}{pc lc:Nat}{zs:List (Kd×Value)}{ps:List Pd}{ls:List Ld}(h:CT w base b ta pa la pc lc zs ps ls){V:List Nat}(f:Tn V w w')(j:∀q∈V,q<base):CT w' base b ta pa la pc lc zs ps ls:=by
 have m:∀{e:TypeId} {size:Nat} {v:Value} {n:Nat} {xs:Zj},w.ownsRow base e size v n xs->w'.ownsRow base e size v n xs:=fun h=>Ak h (fun g l=>f.block g (Ac h l).2 (fun e=>by have r:=j g e;have t:=(Ac h l).1;omega));refine⟨h.tb,?_,Zr h.bl f.size,m h.po,m h.lo,Zm h.lb f.size,h.bL,h.pL,h.zL,h.zb,h.zr⟩;rcases h.zb with e|e
 ·rw[e];intro i z k;simp at k
 ·exact h.z.al f h.bl (fun d=>by have:=j b d;omega) (fun z k a n c o p d=>by have r:=j _ d;have t:=h.zr z k a n c o p;omega)
theorem ZQ{w:Zh}{b:Nat}{j k l m n o p:Value}(h:Aa w b [j,k,l,m,n,o,p])(a c d e f g i:Value):Aa (((((((w.setCell (Ze b 0) a).setCell (Ze b 1) c).setCell (Ze b 2) d).setCell (Ze b 3) e).setCell (Ze b 4) f).setCell (Ze b 5) g).setCell (Ze b 6) i) b [a,c,d,e,f,g,i]:=
 ((((((h.set 0 a).set 1 c).set 2 d).set 3 e).set 4 f).set 5 g).set 6 i
theorem YO(w:Zh)(R:Nat)(a c d e f g h:Value):Tn [R] w (((((((w.setCell (Ze R 0) a).setCell (Ze R 1) c).setCell (Ze R 2) d).setCell (Ze R 3) e).setCell (Ze R 4) f).setCell (Ze R 5) g).setCell (Ze R 6) h):=
 ((((((EA _ _ _ _).trans (EA _ _ _ _)).trans (EA _ _ _ _)).trans (EA _ _ _ _)).trans (EA _ _ _ _)).trans (EA _ _ _ _)).trans (EA _ _ _ _)
theorem PR(wd:Int)(a:Zk)(yR:Nat)(f:Zl)(w:Zh)(U:Ad w w.heap.size a f)(hl:f.length<=1048576)(hs:∀s∈f,s.size<=1048576):
 Calls prog 71 #[Zg wd,.slice a f.length yR] w (Aag wd f w):=by
 obtain⟨W,hW⟩:∃W,W=w.alloc (.cells Yl 90):=⟨_,rfl⟩;have Z:=(AJ hW).1;have zW:=(AJ hW).2.1;have xW:=(AJ hW).2.2;have HW:=Yx hW;have d:=KL wd W;obtain⟨⟨E,q0⟩,⟨F,q1⟩,⟨G,q2⟩,⟨H,q3⟩,⟨I,q4⟩,⟨J,q5⟩,⟨K,q6⟩,⟨L,q7⟩,⟨M,q8⟩,⟨N,q9⟩,⟨o,zG⟩,p,zH⟩:=AZ xW;clear hW;by_cases hwd:1<=wd/\wd<=8
 ·rw[decide_eq_true hwd]at d;by_cases hlen:f.length<=4000
  ·have yS:decide ((4000:Int)<f.length)=false:=by simp;omega
   obtain⟨A,hA⟩:∃A,A=W.alloc (.cells #[Zg wd,Zf,Zf,Zf,Zc,Zc,Zc] 43):=⟨_,rfl⟩;have bA:=(AJ hA).1;have zA:A.heap.size=w.heap.size+2:=by rw[hA];simp;omega
   have sA:Aa A (w.heap.size+1) [Zg wd,Zf,Zf,Zf,Zc,Zc,Zc]:=by rw[hA,←zW];exact Aa.new W _ _
   have xA:=Aa.below (v:=Zf) xW bA;have yQ:=Z.trans (bA.mono Z.size);have P:CT A (w.heap.size+2) w.heap.size none none none 0 0 [] [] []:=⟨.inr rfl,fun i z hz=>by simp at hz,by omega,⟨rfl,.inl ⟨rfl,rfl⟩⟩,⟨rfl,.inl ⟨rfl,rfl⟩⟩,by omega,by simp[Value.ownBlock],fun q hq=>by simp[Value.ownBlock]at hq,fun z hz=>by simp at hz,.inl rfl,fun z hz=>by simp at hz⟩;have t:=Yx d;have HA:=Yx hA
   have H0:=Yx (Zn sA (Zn xA (Zn P yQ)));have zN:Hid (Ad w w.heap.size a f):=U;clear d hA sA xA P bA U;go_enter func71,ntmps71;go_wp2_with fail;rw[←HW.o];refine Calls.mono t.o ?_;rintro e w1 ⟨rfl,j⟩;replace j:=j.symm;subst j;clear t;go_upto_region 4 with fail;rw[←HA.o];clear HA E F G H I J K L M N o p q0 q1 q2 q3 q4 q5 q6 q7 q8 q9 zG zH;go_wp2
   go_loopw [6] (fun i wr=>∃(k:Nat) (r:Rs) (b:Nat) (ta pa la:Zk) (tc pc lc:Nat) (zs:List (Kd×Value)),k<=f.length/\i=Zg k/\Hid (Aa wr (w.heap.size+1) (Yt wd r.now r.given r.ae ta zs.length tc pa r.ps.length pc la r.ls.length lc)/\Aa wr w.heap.size z12/\CT wr (w.heap.size+2) b ta pa la pc lc zs r.ps r.ls/\zs.map (·.1)=r.ks/\Dt wd r0 (f.take k) r/\Zz w wr)) (fun i _=>f.length -(intOf i).toNat)
   case atStart=>exact⟨0,r0,w.heap.size,none,none,none,0,0,0,[],Nat.zero_le _,rfl,⟨H0.o.1,H0.o.2.1,H0.o.2.2.1,rfl,rfl,H0.o.2.2.2⟩⟩
   case round=>
    clear H0;obtain⟨k,r,b,ta,pa,la,tc,pc,lc,zs,hk,rfl,d⟩:=hrel;obtain⟨yC,yD,P,l,g,m⟩:=d.o;by_cases hlt:k<f.length
    ·obtain⟨rb,xD,ha,xG,yA⟩:=((zN.o.below m).mono m.size).at hlt;subst ha;have HG:=Yx (Zv hlt);have yT:=hs _ (List.getElem_mem hlt);have c0:=yA k _ HG.o;have yO:=Yx (Zu hlt);clear yA;generalize f[k]=s at *
     have HR:=Yx (Rg s wd wr yT);clear yC yD P l g m;go_wp2_with fail;refine Calls.mono HR.o ?_;rintro e w2 ⟨v,rfl,zY,zV⟩;obtain⟨ra,rc,rfl⟩:=Ar zY;obtain⟨w3,zF⟩:∃X,X=w2.alloc (.cells (Ym ((AF s wd).k) ((AF s wd).sum) ((AF s wd).name) ((AF s wd).n) ((AF s wd).t) ra ((AF s wd).ss.length) rc) 67):=⟨_,rfl⟩;have zU:=(AJ zF).1;have b3:=zV.trans (zU.mono zV.size);have e3:=(AJ zF).2.2
     have s3:=Aa.below d.o.1 b3;have x3:=Aa.below (v:=Zf) d.o.2.1 b3;have zB:=d.o.2.2.1.below b3;have O:=Yx (d.o.2.2.2.2.2.trans (b3.mono d.o.2.2.2.2.2.size));have zE:=Vz (Ag zY zU);have zI:=Yx zF;have xF:(k:Int)<=4000:=by omega
     clear zF HR;cases hok:(AF s wd).ok with
     |false=>
      obtain⟨⟨E,q0⟩,⟨F,q1⟩,⟨G,q2⟩,⟨H,q3⟩,⟨I,q4⟩,⟨J,q5⟩,⟨K,q6⟩,⟨L,q7⟩,⟨M,q8⟩,⟨N,q9⟩,⟨o,zG⟩,p,zH⟩:=AZ x3;clear e3 s3 zB zE c0 x3;go_upto_region 8 with fail;rw[←zI.o];go_wp2;refine bodyPost_ret (v:=.agg #[Zg 7,Zf,Zf,Zf,Zf,Zc,Zc,Zc,Zd,Zg ((k:Int)+1),Zd,Zd]) (by simp[results,results71,go_sem,E,F,G,H,I,J,K,L,M,N,o,p]) rfl ?_
      exact⟨⟨7,0,0,0,0,((k+1:Nat):Int),⟨#[]⟩,⟨#[]⟩,⟨#[]⟩,[],[],[]⟩,_,_,_,[],.inr ⟨⟨hwd,hlen⟩,.inl ⟨k+1,⟨k,r,s,rfl,HG.o,d.o.2.2.2.2.1,.inl hok⟩,rfl⟩⟩,rfl,RI _ _,O.o.trans ((Bq w3 w.heap.size _ _ _ _ _ _ _ _ _ _ _ _).below O.o.size (by simp))⟩
     |true=>
      have zZ:=(Hz hok).1;have x:=d.o.2.2.2.2.1.ok (Ic hwd.1 hwd.2);have l:=d.o.2.2.2.1;have S:IV wd r.now r.given r.ae (zs.map (·.1)) r.ps r.ls (AF s wd).k (AF s wd).n (AF s wd).t (AF s wd).ss:=by rw[l];exact FL.gy x zZ (by have:=OK zZ;unfold maxLen;omega)
      have zR:=Yx (Kj (w.heap.size+2) wd r.now r.given r.ae b ta pa la tc pc lc zs r.ps r.ls (AF s wd).sum (AF s wd).name (AF s wd).t (AF s wd).n (AF s wd).ss ra rc w3 (AF s wd).k zB S (by rw[l];exact x.dt) zE.1 zE.2);obtain⟨v0,v1,v2,v3,v4,v5,v6⟩:=Aa.c7 s3 0 1 2 3 4 5 6;obtain⟨u0,u1,u2,u3,u4,u5⟩:=Aa.c6 e3 0 1 2 3 4 5;have yN:=Yx s3;have yP:=Yx x3;have zT:=Yx zB;clear e3 s3 zB zE c0 x3 S
      go_upto_region 8 with fail;rw[←zI.o];clear zI;go_wp2_with fail;refine Calls.mono zR.o ?_;rintro e w4 ⟨ht,hQ⟩;have zP:∀q∈(Value.slice la r.ls.length lc).ownBlock.toList,w.heap.size+2<=q:=fun q hq=>(Ac zT.o.lo (by simpa using hq)).1;have zJ:=ht.below zT.o.lb zP;have Q:=Aa.same yP.o (zJ.block _ (by omega));have s4:=Aa.same yN.o (zJ.block _ (by omega))
      have V:=Yx (O.o.trans (zJ.mono (by omega)));clear v0 v1 v2 v3 v4 v5 v6 u0 u1 u2 u3 u4 u5 zR ht;rcases hQ with⟨c,a',b',zC,rfl⟩|⟨y,b1,yI,yJ,yK,yG,yH,yE,yF,hy,rfl,hm,hC⟩
      ·rw[l]at zC;have xE:(c !=0)=true:=by have:=zC.code;simp;omega
       have yL:=Yx zC;have yB:(Ch c a' b').toArray= #[Zg c,Zf,Zf,Zf,Zf,Zc,Zc,Zc,Zd,Zf,.string a',.string b']:=rfl;rw[yB];obtain⟨w5,n⟩:∃X,X=w4.alloc (.cells #[Zg c,Zf,Zf,Zf,Zf,Zc,Zc,Zc,Zd,Zf,.string a',.string b'] 90):=⟨_,rfl⟩;have C:=(AJ n).1;have n5:=(AJ n).2.2;have R:=Yx (V.o.trans (C.mono V.o.size))
       obtain⟨⟨E,q0⟩,⟨F,q1⟩,⟨G,q2⟩,⟨H,q3⟩,⟨I,q4⟩,⟨J,q5⟩,⟨K,q6⟩,⟨L,q7⟩,⟨M,q8⟩,⟨N,q9⟩,⟨o,zG⟩,p,zH⟩:=AZ (Aa.below (v:=Zf) Q C);obtain⟨m0,_⟩:=n5 0 _ rfl;have Y:=Yx n;clear n zC n5 Q s4 yB;go_upto_region 11 with fail;rw[←Y.o];go_wp2;refine bodyPost_ret (v:=.agg #[Zg 7,Zf,Zf,Zf,Zf,Zc,Zc,Zc,Zd,Zg ((k:Int)+1),Zd,Zd]) (by simp[results,results71,go_sem,E,F,G,H,I,J,K,L,M,N,o,p]) rfl ?_
       exact⟨⟨7,0,0,0,0,((k+1:Nat):Int),⟨#[]⟩,⟨#[]⟩,⟨#[]⟩,[],[],[]⟩,_,_,_,[],.inr ⟨⟨hwd,hlen⟩,.inl ⟨k+1,⟨k,r,s,rfl,HG.o,d.o.2.2.2.2.1,.inr ⟨c,a',b',yL.o⟩⟩,rfl⟩⟩,rfl,RI _ _,R.o.trans ((Bq w5 w.heap.size _ _ _ _ _ _ _ _ _ _ _ _).below R.o.size (by simp))⟩
      ·rw[l]at hy;obtain⟨w5,n⟩:∃X,X=w4.alloc (.cells #[Zf,Zg wd,Zg y.now,Zg y.given,Zg y.ae,.slice yI y.ks.length yJ,.slice yG y.ps.length yH,.slice yE y.ls.length yF,.string y.sm,Zg y.le,Zd,Zd] 90):=⟨_,rfl⟩;have C:=(AJ n).1;have n5:=(AJ n).2.2;have D:=Aa.below s4 C;have x5:=Aa.below (v:=Zf) Q C;have zK:=hC.below C;have zS:=Yx (V.o.trans (C.mono V.o.size))
       have zX:y.ks.length=yK.length:=by rw[←hm,List.length_map]
       have H5:=Yx (Zn D (Zn x5 (Zn zK (Zn hm (Zn hy zX)))));obtain⟨⟨v0,p0⟩,⟨v1,p1⟩,⟨v2,p2⟩,⟨v3,p3⟩,⟨v4,p4⟩,⟨v5,p5⟩,v6,p6⟩:=(⟨D 0 _ rfl,D 1 _ rfl,D 2 _ rfl,D 3 _ rfl,D 4 _ rfl,D 5 _ rfl,D 6 _ rfl⟩:(_/\_)/\(_/\_)/\(_/\_)/\(_/\_)/\(_/\_)/\(_/\_)/\_/\_);obtain⟨m0,m1,m2,m3,m4,m5,m6⟩:=Aa.c7 n5 0 1 2 3 4 5 6;obtain⟨m7,_⟩:=n5 7 _ rfl;have Y:=Yx n;have zO:Hid (Dt wd r0 (f.take (k+1)) y):=by show Dt _ _ _ _;rw[yO.o];exact d.o.2.2.2.2.1.snoc ⟨hok,hy⟩
       have xC:=zK.lb;clear n hy n5 Q s4 D x5 hC zK zX hm;go_upto_region 11 with fail;rw[←Y.o];clear Y;go_wp2
       refine⟨⟨k+1,y,b1,yI,yG,yE,yJ,yH,yF,yK,by omega,by go_num,⟨?_,Aa.same H5.o.2.1 ((YO w5 (w.heap.size+1) _ _ _ _ _ _ _).block _ (by omega) (by simp)),H5.o.2.2.1.low (YO w5 (w.heap.size+1) _ _ _ _ _ _ _) (by simp),H5.o.2.2.2.1,zO.o,zS.o.trans ((YO w5 (w.heap.size+1) _ _ _ _ _ _ _).below zS.o.size (by simp))⟩⟩,by simp[intOf];omega⟩;rw[←H5.o.2.2.2.2.2];exact ZQ H5.o.1 _ _ _ _ _ _ _
    ·obtain rfl:k=f.length:=by omega
     have g:=d.o.2.2.2.2.1;rw[Zt (Zx)]at g;have x:=g.ok (Ic hwd.1 hwd.2);have l:=d.o.2.2.2.1;have u:=d.o.2.2.1;have h1:=GH wd r.now r.given r.ae ta pa la tc pc lc (zs.map (·.1)) r.ps r.ls wr ⟨u.dh,u.fj,u.fm⟩ (fun B hB=>by
      rcases u.tb with e|e
      ·rw[e]at hB;cases hB;exact u.z.some
      ·rw[e];intro i k hk;simp at hk) (GP u.po) (GP u.lo) (by rw[l];exact x.bn.len) x.np x.nl (by rw[l];exact x.dt)
     rw[List.length_map,l]at h1;have HC:=Yx h1;have yM:=Yx g;obtain⟨v0,v1,v2,v3,v4,v5,v6⟩:=Aa.c7 d.o.1 0 1 2 3 4 5 6;clear h1 g x l u yC yD P m;go_wp2_with fail;refine Calls.mono HC.o ?_;rintro e w4 ⟨T,P',L',rs,rfl,hS,_,zM⟩;obtain⟨yZ,xB,rfl⟩:=Ar hS.ai;obtain⟨yX,yY,rfl⟩:=Ar hS.pins;obtain⟨yV,yW,rfl⟩:=Ar hS.an;have Q:=Aa.below (v:=Zf) d.o.2.1 zM;have yU:=d.o.2.1.lt;have HF:=Yx (Zn hS zM)
     obtain⟨⟨E,q0⟩,⟨F,q1⟩,⟨G,q2⟩,⟨H,q3⟩,⟨I,q4⟩,⟨J,q5⟩,⟨K,q6⟩,⟨L,q7⟩,⟨M,q8⟩,⟨N,q9⟩,⟨o,zG⟩,p,zH⟩:=AZ Q;clear hS zM HC Q v0 v1 v2 v3 v4 v5 v6;go_wp2;refine bodyPost_ret (v:=.agg #[Zf,Zg wd,Zg r.now,Zg r.given,Zg r.ae,.slice yZ r.ks.length xB,.slice yX r.ps.length yY,.slice yV r.ls.length yW,Zd,Zf,Zd,Zd]) (by simp[results,results71,go_sem,E,F,G,H,I,J,K,L,M,N,o,p]) rfl ?_;have m:=d.o.2.2.2.2.2
     refine⟨⟨0,wd,r.now,r.given,r.ae,0,⟨#[]⟩,⟨#[]⟩,⟨#[]⟩,r.ks,r.ps,r.ls⟩,_,_,_,rs,.inr ⟨⟨hwd,hlen⟩,.inr ⟨r,yM.o,rfl⟩⟩,rfl,(HF.o.1.al (Bq w4 w.heap.size _ _ _ _ _ _ _ _ _ _ _ _) (by simp;exact yU)).mono m.size,?_⟩;exact(m.trans (HF.o.2.mono m.size)).trans ((Bq w4 w.heap.size _ _ _ _ _ _ _ _ _ _ _ _).below (Zm m.size HF.o.2.size) (by simp))
  ·have yS:decide ((4000:Int)<f.length)=true:=by simp;omega
   have t:=Yx d;clear d;go_enter func71,ntmps71;go_wp2_with fail;rw[←HW.o];refine Calls.mono t.o ?_;rintro e w1 ⟨rfl,j⟩;replace j:=j.symm;subst j;clear t;go_wp2;refine bodyPost_ret (v:=.agg (Yk 1)) (by simp[results,results71,go_sem,E,F,G,H,I,J,K,L,M,N,o,p]) rfl ?_
   exact⟨⟨1,0,0,0,0,0,⟨#[]⟩,⟨#[]⟩,⟨#[]⟩,[],[],[]⟩,_,_,_,[],.inl ⟨fun h=>hlen h.2,rfl⟩,rfl,RI _ _,Z.trans ((Bq W w.heap.size _ _ _ _ _ _ _ _ _ _ _ _).below Z.size (by simp))⟩
 ·rw[decide_eq_false hwd]at d;have t:=Yx d;clear d;go_enter func71,ntmps71;go_wp2_with fail;rw[←HW.o];refine Calls.mono t.o ?_;rintro e w1 ⟨rfl,j⟩;replace j:=j.symm;subst j;clear t;go_wp2;refine bodyPost_ret (v:=.agg (Yk 1)) (by simp[results,results71,go_sem,E,F,G,H,I,J,K,L,M,N,o,p]) rfl ?_
  exact⟨⟨1,0,0,0,0,0,⟨#[]⟩,⟨#[]⟩,⟨#[]⟩,[],[],[]⟩,_,_,_,[],.inl ⟨fun h=>hwd h.1,rfl⟩,rfl,RI _ _,Z.trans ((Bq W w.heap.size _ _ _ _ _ _ _ _ _ _ _ _).below Z.size (by simp))⟩
theorem XA{j:Nat}{s:Zi}(h:z12[j]?=some (.string s)):s=⟨#[]⟩:=by have:=Zs h;simpa [z12]using this
theorem OO{w:Zh}{o:Nat}{t:TypeId}{a:Nat×Nat}(h:w.heap[o]?=some (.cells z12.toArray t a))(j:Nat):w.cell? (Ze o j)=z12[j]?:=by simp[World.cell?,h]
theorem BH.gi{w w':Zh}{b o:Nat}{t:TypeId}{y:Nat×Nat}{zs:List (Kd×Value)}(h:BH w b 0 zs)(l:w.heap[o]?=Option.some (.cells z12.toArray t y))(u:∀z∈zs,∀s∈z.1.refs,s≠⟨#[]⟩)(D:Tn [o] w w')(q:b<w.heap.size):BH w' b 0 zs:=by
 cases hzs:zs with
 |nil=>intro i z a;simp at a
 |cons z0 zs0=>
  rw[←hzs];have A:b≠o:=by rintro rfl;obtain⟨⟨g,_⟩,_⟩:=h 0 z0 (by rw[hzs];rfl);rw[Nat.zero_mul,Nat.add_zero,OO l]at g;simp[z12]at g
  refine h.al D q (by simpa using A) (fun z a G n rc e m c=> ?_);obtain⟨i,C⟩:=List.getElem?_of_mem a;obtain⟨_,E,F,k,f⟩:=h i z C;rw[e]at k;cases k;rcases f with f|⟨H,v,x,_,B⟩
  ·exact m f
  ·cases x;simp at c;subst c;obtain⟨r,p,d⟩:∃r p,z.1.refs=r::p:=List.exists_cons_of_ne_nil m;have j:=B 0 r (by rw[d];rfl);rw[OO l]at j;exact u z a r (by rw[d];simp) (XA j)
theorem CT.gi{w w':Zh}{base b o:Nat}{ta pa la:Zk}{pc lc:Nat}{zs:List (Kd×Value)}{ps:List Pd}{ls:List Ld}(h:CT w base b ta pa la pc lc zs ps ls)(f:w.heap[o]?=some (.cells z12.toArray 90))(i:∀z∈zs,∀s∈z.1.refs,s≠⟨#[]⟩)(e:Tn [o] w w'):CT w' base b ta pa la pc lc zs ps ls:=
 ⟨h.tb,h.z.gi f i e h.bl,Zr h.bl e.size,Ak h.po (fun g d=>e.block g (Ac h.po d).2 (by
  simp only[List.mem_singleton];rintro rfl;obtain⟨c,a⟩:=BX h.po d;rw[f]at a;simp at a)),Ak h.lo (fun g d=>e.block g (Ac h.lo d).2 (by
  simp only[List.mem_singleton];rintro rfl;obtain⟨c,a⟩:=BX h.lo d;rw[f]at a;simp at a)),Zm h.lb e.size,h.bL,h.pL,h.zL,h.zb,h.zr⟩
theorem CT.of{w:Zh}{base:Nat}{T P L:Value}{h:Zj}{d:List Kd}{ps:List Pd}{ls:List Ld}(a:AV w base T P L h d ps ls)(r:∀v∈T::P::L::h,∃g n c,v=Za g n c)(M:base<=w.heap.size):
 ∃b p l tc pc lc zs,T=Za b zs.length tc/\P=Za p ps.length pc/\L=Za l ls.length lc/\zs.map (·.1)=d/\CT w base b (some ⟨b,0,none⟩) (some ⟨p,0,none⟩) (some ⟨l,0,none⟩) pc lc zs ps ls/\base<=l/\l<w.heap.size:=by
 obtain⟨b,D,tc,rfl⟩:=r T (by simp);obtain⟨p,E,pc,rfl⟩:=r P (by simp);obtain⟨l,F,lc,rfl⟩:=r L (by simp);obtain⟨_,_,H⟩:=Ar a.ai;obtain⟨_,_,I⟩:=Ar a.pins;obtain⟨_,_,J⟩:=Ar a.an;cases H;cases I;cases J;have hlen:(d.zip h).length=d.length:=by rw[List.length_zip,a.len];omega
 have t:(d.zip h).map (·.1)=d:=List.map_fst_zip (by rw[a.len];exact Zx);have m:=a.nd;rw[Fp]at m;unfold Bk at m;obtain⟨D,E,F⟩:=ON m (l:=l) rfl;have y:=a.ai;rw[←hlen]at y;have o:∀z∈d.zip h,∃i,d[i]?=some z.1/\h[i]?=some z.2:=fun z f=>by obtain⟨i,B⟩:=List.getElem?_of_mem f;rw[List.getElem?_zip_eq_some]at B;exact⟨i,B.1,B.2⟩
 refine⟨b,p,l,tc,pc,lc,d.zip h,by rw[hlen],rfl,rfl,t,⟨.inl rfl,?_,(Ac a.ai rfl).2,a.pins,a.an,M,?_,?_,?_,.inr (Ac a.ai rfl).1,?_⟩,Ac a.an rfl⟩
 ·refine BH.own y (fun z f=> ?_);obtain⟨i,q,j⟩:=o z f;have k:=a.refs i z.1 z.2 q j;obtain⟨K,R,G,A⟩:=r z.2 (by simp;exact .inr (.inr (.inr (Zs j))));obtain⟨Q,O,u⟩:=Ar k;rw[A]at u;cases u;rw[A]at k;exact⟨⟨K,0,none⟩,G,A,Ad.own k⟩
 ·intro e;simp[Value.ownBlock]at e;exact D (by simp[Value.ownBlock,e])
 ·intro g N e;simp[Value.ownBlock]at N e;exact E (by simp[Value.ownBlock];omega)
 ·intro z f C n rc e _ x;simp[Value.ownBlock]at x;obtain⟨i,q,j⟩:=o z f;refine F (List.mem_filterMap.2 ⟨z.2,Zs j,?_⟩);rw[e];simp[Value.ownBlock,x]
 ·intro z f C n rc e _;obtain⟨i,q,j⟩:=o z f;have k:=a.refs i z.1 z.2 q j;rw[e]at k;exact(Ac k (g:=C.block) (by simp[Value.ownBlock])).1
structure TT (w wx:Zh) (v:Vd) (a:Va) (b:Nat) (o:An) (ta pa la:Zk) (tc pc lc:Nat):Prop where
 box:Aa wx b [Zg o.code,Zg o.wd,Zg o.now,Zg o.given,Zg o.ae,.slice ta o.ks.length tc,.slice pa o.ps.length pc,.slice la o.ls.length lc,.string o.sm,Zg o.le,.string o.a,.string o.b]
 rows:BJ wx wx.heap.size ta pa la o.ks o.ps o.ls
 rto:VR v.wd (v.ss++v.tt) o
 gw:Aa wx w.heap.size [Zg v.wd,Zg v.aj,.slice a.sa v.ss.length a.sc,.slice a.ta v.tt.length a.tc,Zg v.sw,Zg v.now,Zg v.given,Zg v.ae,.slice a.ka v.ks.length a.kc,.slice a.pa v.ps.length a.pc,.slice a.la v.ls.length a.lc,Zg v.ph,.slice a.qa v.qs.length a.qc,.slice a.ma v.ms.length a.mc,Zg v.ag,Zg v.at_,Zg v.ro]
 cz:Below w.heap.size w wx
theorem TT.fin{w c d:Zh}{v:Vd}{a:Va}{b:Nat}{o:An}{ta pa la:Zk}{tc pc lc:Nat}(h:VR v.wd (v.ss++v.tt) o)(i:∀X,Tn [b] d X->BJ X X.heap.size ta pa la o.ks o.ps o.ls)(f:Zz w c)(e:Zz c d)(l:Aa c w.heap.size (Ye v a))(n:w.heap.size<c.heap.size)(m:Aa d b z12)(q:c.heap.size<=b):
 TT w ((((((((((((d.setCell (Ze b 0) (Zg o.code)).setCell (Ze b 1) (Zg o.wd)).setCell (Ze b 2) (Zg o.now)).setCell (Ze b 3) (Zg o.given)).setCell (Ze b 4) (Zg o.ae)).setCell (Ze b 5) (.slice ta o.ks.length tc)).setCell (Ze b 6) (.slice pa o.ps.length pc)).setCell (Ze b 7) (.slice la o.ls.length lc)).setCell (Ze b 8) (.string o.sm)).setCell (Ze b 9) (Zg o.le)).setCell (Ze b 10) (.string o.a)).setCell (Ze b 11) (.string o.b)) v a b o ta pa la tc pc lc:=by
 have g:=Bq d b (Zg o.code) (Zg o.wd) (Zg o.now) (Zg o.given) (Zg o.ae) (.slice ta o.ks.length tc) (.slice pa o.ps.length pc) (.slice la o.ls.length lc) (.string o.sm) (Zg o.le) (.string o.a) (.string o.b);have p:=e.size;refine⟨VI m _ _ _ _ _ _ _ _ _ _ _ _,?_,h,?_,?_⟩
 ·exact i _ g
 ·exact Aa.same (Aa.below l e) (g.block _ (by omega) (by simp;omega))
 ·exact(f.trans (e.mono f.size)).trans (g.below (by have:=f.size;omega) (fun j k=>by simp at k;have:=f.size;omega))
theorem LD(v:Vd)(a:Va)(w:Zh)(hr:Cc w w.heap.size a v)(hc:Aaf a v)(p:Cy v):
 Calls prog 41 #[.agg (Yg v a)] w fun e w'=>Ap (DR v) w w' e:=by
 obtain⟨W,hW⟩:∃W,W=w.alloc (.cells (Yg v a) 46):=⟨_,rfl⟩;have H:=(AJ hW).1;have zW:=(AJ hW).2.1;have xW:=(AJ hW).2.2;have HX:Hid (Aa W _ _):=(AJ hW).2.2;have HR:=Yx hr;have HW:=Yx hW;have O:=Yx (KL v.wd W);have zC:=Yx (Hw v.aj 0 1000000 W);have zI:=Yx (MR a.sa a.ta a.sc a.tc v.ss v.tt W w.heap.size H.size (hr.s.below H) (hr.t.below H) p.s p.t p.ss p.tt)
 obtain⟨I,J,K,M,y4,y5,y6,y7,y8,y9,A,B,C,D,E,F,G⟩:=FK xW;clear hW xW hr;by_cases hwd:1<=v.wd/\v.wd<=8
 ·rw[decide_eq_true hwd]at O;by_cases hlim:0<=v.aj/\v.aj<=1000000
  ·rw[decide_eq_true hlim]at zC;cases hlog:DA v.ss v.tt with
   |true=>
    rw[hlog]at zI;have yH:=IM hlog;obtain⟨Z,zK⟩:∃Z,Z=v.ss++v.tt:=⟨_,rfl⟩;have HA:Hid (∀X,Zz W X->Calls prog 72 #[.agg #[.slice a.sa v.ss.length a.sc,.slice a.ta v.tt.length a.tc]] X fun e w'=>∃g f,e=.returned (Za g Z.length f)/\w'.ownsRow X.heap.size 9 1 (Za g Z.length f) Z.length (Z.map Value.string)/\Zz X w'):=fun X hX=>by have hb:=H.trans (hX.mono H.size);rw[zK];exact Tm a.sa a.ta a.sc a.tc v.ss v.tt X (HR.o.s.af hb) (HR.o.t.af hb) hc.s hc.t p.s p.t
    have HS:Hid (∀(X:Zh) (g f:Nat),Ad X X.heap.size (some ⟨g,0,none⟩) Z->Calls prog 71 #[Zg v.wd,Za g Z.length f] X fun e w'=>∃(o:An) (ta:Zk) (tc:Nat) (pa:Zk) (pc:Nat) (la:Zk) (lc:Nat) (rs:Zj),e=.returned (.agg #[Zg o.code,Zg o.wd,Zg o.now,Zg o.given,Zg o.ae,.slice ta o.ks.length tc,.slice pa o.ps.length pc,.slice la o.ls.length lc,.string o.sm,Zg o.le,.string o.a,.string o.b])/\VR v.wd Z o/\AV w' X.heap.size (.slice ta o.ks.length tc) (.slice pa o.ps.length pc) (.slice la o.ls.length lc) rs o.ks o.ps o.ls/\Zz X w'):=fun X g f h=>by
     refine(PR v.wd _ _ Z X h (by rw[zK];omega) (fun s hs=>by rw[zK]at hs;rcases List.mem_append.1 hs with h|h;exact p.ss s h;exact p.tt s h)).mono ?_;rintro e w' ⟨o,T,P,L,rs,i,rfl,hS,hb⟩;obtain⟨ta,tc,pa,pc,la,lc,rfl,rfl,rfl,_⟩:=hS.rows;exact⟨o,ta,tc,pa,pc,la,lc,rs,rfl,i,hS,hb⟩
    have zU:=Yx zK;clear zK;have HM:=Yx hc.m;clear hc;go_enter func41,ntmps41;go_wp2_with fail;rw[←HW.o];refine Calls.mono O.o ?_;rintro e w1 ⟨rfl,c⟩;replace c:=c.symm;subst c;go_wp2_with fail;refine Calls.mono zC.o ?_;rintro e w1 ⟨rfl,c⟩;replace c:=c.symm;subst c;go_wp2_with fail;refine Calls.mono zI.o ?_;rintro e d ⟨rfl,R⟩;have x2:=Aa.below HX.o R
    have z2:w.heap.size+1<=d.heap.size:=by have:=R.size;omega
    have yA:=Yx R;have zN:=Yx x2;have N:=Yx (H.trans (R.mono H.size));clear I J K M y4 y5 y6 y7 y8 y9 A B C D E F G O zC zI R HW;obtain⟨I,J,K,M,_⟩:=FK x2;clear x2;go_upto_region 3 with fail;generalize (.agg (Yg v a):Value)=dv0;go_cut [3] (fun u wx=>∃(b:Nat) (o:An) (ta pa la:Zk) (tc pc lc:Nat),u=Yz b/\Hid (TT w wx v a b o ta pa la tc pc lc))
    case first=>
     have Q:Hid (∀X,Zz d X->X.cell? (Ze (w.heap.size) 0)=some (Zg v.wd)/\X.cell? (Ze (w.heap.size) 2)=some (.slice a.sa v.ss.length a.sc)/\X.cell? (Ze (w.heap.size) 3)=some (.slice a.ta v.tt.length a.tc)):=fun X hX=>by obtain⟨u0,u1,u2,u3,_⟩:=FK (Aa.below zN.o hX);exact⟨u0,u2,u3⟩
     have HL:Hid (∀X,Zz d X->Zz W X):=fun X hX=>yA.o.trans (hX.mono yA.o.size);have D0:Below d.heap.size d d.drew:=(Below.refl _ _).drew;have D1:∀o,Zz d (d.alloc o).drew:=fun o=>(Zy).drew;clear I J K M
     go_region_held3 (fun X=>X.cell? (Ze (w.heap.size) 0)=some (Zg v.wd)/\X.cell? (Ze (w.heap.size) 2)=some (.slice a.sa v.ss.length a.sc)/\X.cell? (Ze (w.heap.size) 3)=some (.slice a.ta v.tt.length a.tc))
      (first
        |with_reducible exact Q.o _ D0
        |with_reducible exact Q.o _ (D1 _)
        |with_reducible exact Q.o _ l
        |with_reducible exact Q.o _ (l.alloc l.size _)
        |with_reducible exact Q.o _ t
        |with_reducible exact Q.o _ (t.alloc t.size _)
        |with_reducible exact Q.o _ (t.trans ((Bq Y _ _ _ _ _ _ _ _ _ _ _ _ _).below t.size (by intro x hx;simp at hx;omega))))
      (first
        |(go_at_call 72;guard_target=~Calls prog 72 _ (World.drew (World.alloc d _)) _;refine Calls.mono (HA.o (d.alloc (.cells Yl 90)).drew (HL.o _ (D1 _))) ?_;rintro e j ⟨g,f,rfl,zJ,zO⟩;have l:Below d.heap.size d j:=(D1 _).trans (zO.mono (by simp));have S:=Ad.own zJ;clear zJ;have zA:Aa j d.heap.size z12:=Aa.below (v:=Zf) (w:=(d.alloc (.cells Yl 90))) (Aa.new d z12 90) (DF zO))
        |(go_at_call 72;guard_target=~Calls prog 72 _ (World.drew d) _;refine Calls.mono (HA.o d.drew (HL.o _ D0)) ?_;rintro e j ⟨g,f,rfl,zJ,zO⟩;have l:Below d.heap.size d j:=D0.trans zO;have S:=Ad.own zJ;clear zJ;have nA:=l)
        |(go_at_call 71;have zP:=zA;refine Calls.mono (HS.o j g f S) ?_;rintro e Y ⟨o,ta,tc,pa,pc,la,lc,rs,rfl,i,z,U⟩;have y:=Yx (Zn i z);clear i z S;have t:Below d.heap.size d Y:=l.trans (U.mono l.size);have zX:Aa Y d.heap.size z12:=Aa.below (v:=Zf) zA U;have zZ:d.heap.size<j.heap.size:=Aa.lt (v:=Zf) zA;have zG:d.heap.size<=d.heap.size:=Zx;obtain⟨⟨t0,q0⟩,⟨t1,q1⟩,⟨t2,q2⟩,⟨t3,q3⟩,⟨t4,q4⟩,⟨t5,q5⟩,⟨t6,q6⟩,⟨t7,q7⟩,⟨t8,q8⟩,⟨t9,q9⟩,⟨t10,q10⟩,t11,q11⟩:=AZ zX)
        |(go_at_call 71;guard_target=~Calls prog 71 _ (World.alloc j _) _;refine Calls.mono (HS.o (j.alloc (.cells Yl 90)) g f (S.af (Zy))) ?_;rintro e Y ⟨o,ta,tc,pa,pc,la,lc,rs,rfl,i,z,U⟩;have y:=Yx (Zn i z);clear i z S;have t:Below d.heap.size d Y:=(l.alloc l.size _).trans (U.mono (by have:=l.size;simp;omega));have zY:Aa Y j.heap.size z12:=Aa.below (v:=Zf) (w:=(j.alloc (.cells Yl 90))) (Aa.new j z12 90) U;have zG:d.heap.size<=j.heap.size:=l.size;obtain⟨⟨t0,q0⟩,⟨t1,q1⟩,⟨t2,q2⟩,⟨t3,q3⟩,⟨t4,q4⟩,⟨t5,q5⟩,⟨t6,q6⟩,⟨t7,q7⟩,⟨t8,q8⟩,⟨t9,q9⟩,⟨t10,q10⟩,t11,q11⟩:=AZ zY)
        |(go_at_call 71;have zP:=nA;refine Calls.mono (HS.o j g f S) ?_;rintro e Y ⟨o,ta,tc,pa,pc,la,lc,rs,rfl,i,z,U⟩;have y:=Yx (Zn i z);clear i z S;have t:Below d.heap.size d Y:=l.trans (U.mono l.size);have nD:=nA))
     all_goals
      go_wp2_with fail;go_meet
     all_goals first
      |(have zP:=zX
        exact⟨d.heap.size,o,ta,pa,la,tc,pc,lc,rfl,TT.fin (zU.o▸y.o.1) (fun X ht=>AV.get (y.o.2.al ht (by simp;exact zZ))) N.o t zN.o (by omega) zX zG⟩)
      |(have zP:=zY
        exact⟨j.heap.size,o,ta,pa,la,tc,pc,lc,rfl,TT.fin (zU.o▸y.o.1) (fun X ht=>AV.get (y.o.2.al ht (by simp))) N.o t zN.o (by omega) zY zG⟩)
      |(have zP:=nD
        exact⟨Y.heap.size,o,ta,pa,la,tc,pc,lc,rfl,⟨Aa.new Y [Zg o.code,Zg o.wd,Zg o.now,Zg o.given,Zg o.ae,.slice ta o.ks.length tc,.slice pa o.ps.length pc,.slice la o.ls.length lc,.string o.sm,Zg o.le,.string o.a,.string o.b] 90,(AV.get y.o.2).af (Zy),zU.o▸y.o.1,Aa.below (Aa.below zN.o t) (Zy),(N.o.trans (t.mono N.o.size)).alloc (Zm N.o.size t.size) _⟩⟩)
    case rest=>
     clear I J K M HA HS;obtain⟨b,o,ta,pa,la,tc,pc,lc,rfl,V⟩:=hcut;rcases V.o.rto with⟨yI,_⟩|⟨_,⟨n,zE,ho⟩|⟨r,zE,ho⟩⟩
     ·exact absurd ⟨hwd,yH⟩ yI
     ·have zR:o.code=7:=by rw[ho]
      obtain⟨m0,_⟩:=V.o.box 0 _ rfl;rw[zR]at m0;have zB:=Yx V.o.cz;have zS:Hid (¬DR v):=fun⟨r,h⟩=>Gi.not hwd.1 hwd.2 zE h.run;clear ho zE V;go_wp2;go_ret;exact Ap.no zS.o zB.o
     ·subst ho;have zF:=zE.ok (Ic hwd.1 hwd.2);obtain⟨⟨m0,_⟩,⟨m1,_⟩,⟨m2,_⟩,⟨m3,_⟩,⟨m4,_⟩,⟨m5,_⟩,⟨m6,_⟩,m7,_⟩:=MN V.o.box;obtain⟨I,J,K,M,y4,y5,y6,y7,y8,y9,A,B,C,D,E,F,G⟩:=FK V.o.gw;have zB:=Yx V.o.cz;have yE:=HR.o.st.ak zB.o
      have yC:=Yx (Lg v.wd r.now r.given r.ae v.sw v.now v.given v.ae ta pa la a.ka a.pa a.la tc pc lc a.kc a.pc a.lc r.ks v.ks r.ps v.ps r.ls v.ls wc V.o.rows (yE.mono zB.o.size) ⟨by have:=zF.bn.len;omega,by have:=zF.np;omega,by have:=zF.nl;omega⟩ ⟨p.st.k,p.st.p,p.st.l⟩ (fun k hk=>by have:=zF.dt k hk;omega) p.st.r);have zT:=Yx V.o.gw;have zM:=Yx zE;have yG:=Yx zF.ah;clear yE zF V
      go_wp2_with fail;refine Calls.mono yC.o ?_;rintro e w5 ⟨bb,rfl,m,zV⟩;have zH:=Yx (zB.o.trans (zV.mono zB.o.size));have x5:=Aa.below zT.o zV;clear m0 m1 m2 m3 m4 m5 m6 m7 I J K M y4 y5 y6 y7 y8 y9 A B C D E F G yC zV zE;cases bb with
      |false=>
       have zS:Hid (¬DR v):=fun⟨r',h⟩=>by obtain rfl:=zM.o.dj h.run;have:=m.2 h.same;cases this
       clear m x5 zT;go_wp2;go_ret;exact Ap.no zS.o zH.o
      |true=>
       have q:=Yx (m.1 rfl);obtain⟨I,J,K,M,y4,y5,y6,y7,y8,y9,A,B,C,D,E,F,G⟩:=FK x5;have yB:=Yx (Ve v.sw v.now v.given v.ae v.ph v.ag v.at_ v.ro (.slice a.ka v.ks.length a.kc) (.slice a.pa v.ps.length a.pc) (.slice a.la v.ls.length a.lc) a.qa a.ma a.qc a.mc v.qs v.ms w5 (HR.o.q.af zH.o) (HR.o.m.af zH.o) p.r HM.o (by have h1:=q.o.1.2.2.2;have h2:=yG.o;omega));clear m x5 zT;go_wp2_with fail
       refine Calls.mono yB.o ?_;rintro e w6 ⟨bb,rfl,m,yD⟩;have yF:=Yx (zH.o.trans (yD.mono zH.o.size));have HN:Hid (bb=true↔DR v):=by have h1:=q.o.1.1;rw[←h1]at m;refine⟨fun h=>⟨r,hwd,hlim,hlog,zM.o,q.o,m.1 h⟩,fun⟨r',h⟩=>m.2 h.round⟩
       clear I J K M y4 y5 y6 y7 y8 y9 A B C D E F G yB m yD;go_wp2;go_ret;exact⟨bb,rfl,HN.o,yF.o⟩
   |false=>
    rw[hlog]at zI;go_enter func41,ntmps41;go_wp2_with fail;rw[←HW.o];refine Calls.mono O.o ?_;rintro e w1 ⟨rfl,c⟩;replace c:=c.symm;subst c;go_wp2_with fail;refine Calls.mono zC.o ?_;rintro e w1 ⟨rfl,c⟩;replace c:=c.symm;subst c;go_wp2_with fail;refine Calls.mono zI.o ?_;rintro e d ⟨rfl,R⟩;have N:=Yx (H.trans (R.mono H.size));clear I J K M y4 y5 y6 y7 y8 y9 A B C D E F G;go_wp2;go_ret
    exact Ap.no (fun⟨r,h⟩=>by have:=h.log;rw[hlog]at this;cases this) N.o
  ·rw[decide_eq_false hlim]at zC;go_enter func41,ntmps41;go_wp2_with fail;rw[←HW.o];refine Calls.mono O.o ?_;rintro e w1 ⟨rfl,c⟩;replace c:=c.symm;subst c;go_wp2_with fail;refine Calls.mono zC.o ?_;rintro e w1 ⟨rfl,c⟩;replace c:=c.symm;subst c;clear I J K M y4 y5 y6 y7 y8 y9 A B C D E F G;go_wp2;go_ret;exact Ap.no (fun⟨r,h⟩=>hlim h.aj) H
 ·rw[decide_eq_false hwd]at O;go_enter func41,ntmps41;go_wp2_with fail;rw[←HW.o];refine Calls.mono O.o ?_;rintro e w1 ⟨rfl,c⟩;replace c:=c.symm;subst c;clear I J K M y4 y5 y6 y7 y8 y9 A B C D E F G;go_wp2;go_ret;exact Ap.no (fun⟨r,h⟩=>hwd h.wd) H
end Go.Proofs.YtckmnfhmoankmaaGreatDoor
