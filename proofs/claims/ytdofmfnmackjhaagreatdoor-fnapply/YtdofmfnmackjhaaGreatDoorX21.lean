import Derived.Test.YtdofmfnmackjhaaGreatDoorX18
import Derived.Test.YtdofmfnmackjhaaGreatDoorX16
set_option maxRecDepth 100000
set_option maxHeartbeats 16000000
namespace Go.Proofs.YtdofmfnmackjhaaGreatDoor
open ChangeShapes WideShapes ChangeAt RowKit _root_.Go.Proofs.Tryz List World Value
variable{w:Zh}{c:Zl}{b:Dj}{d:Int}{a:Zk}{s:Zi}{V:List Nat}
theorem QW(Q y d c:Int)(b F:Nat)(j:List (Kd×Value))(K:Dy)(J:Dv)(O M:Zk)(P N:Nat)(D u o L:Int)(xa G:Zk)(U cy:Nat)(s:Zi)(f ms:Zl)(w:Zh)(yC:D≠0)(hz:Bm w b 0 j)(zB:b<w.1.size)(v:Af w w.1.size xa (s::f))(hm:Af w w.1.size G ms)(yL:FH G ms.length cy)(xB:Lt w G)(xW:f.length+1<=U)(vD:j.length<=600)(B:∀z∈j,z.1.B.length<=30)(vA:f.length<=1048576)(xZ:ms.length<=100000):
 D8 137 #[.agg (Yg Q y d c (some ⟨b,0,none⟩) j.length F O K.length P M J.length N),.agg (Ya D xa (f.length+1) U G ms.length cy u o L)] w λe w'=>LU w w' e Q y d c (C3 O K.length P) (C3 M J.length N) (j.map (·.1)) K J D u o L (s::f) ms b xa G j:=by
 have xS:(D==0)=false:=D2 yC
 obtain⟨x,E,rfl,yM,I⟩:=v.at (k:=0) (by simp);have⟨o1,xM,g⟩:∃o1,((if U=1 then some ⟨x,E,none⟩else some ⟨x,E+1,none⟩:Zk)=some ⟨x,o1,none⟩)/\∀i t,f[i]?=some t->w.cell? (Zd x (o1+i))=some (C4 t):=by
  by_cases h1c:U=1
  .have:f=[]:=Bl (by omega);subst this;exact⟨E,if_pos h1c,λi t h=>by simp at h⟩
  .refine⟨E+1,if_neg h1c,λi t h=> ?_⟩;have:=I (i+1) t (D2 h);rw[show E+(i+1)=E+1+i by omega]at this;exact this
 have⟨W,m⟩:=Ae (((w.alloc (.cells (C9 Q y d c (some ⟨b,0,none⟩) j F O K P M J N) 27)).alloc (.cells (Ya D (some ⟨x,E,none⟩) (f.length+1) U G ms.length cy u o L) 98)).alloc (.cells Xx 193));have l:Below w.1.size w W:=by rw[m];exact((Zy).alloc (by simp) _).alloc (by simp;omega) _
 have n:W.1.size=w.1.size+3:=by rw[m];simp
 have x2:Aa W (w.1.size+2) ET:=by have h1:=Aa.new ((w.alloc (.cells (C9 Q y d c (some ⟨b,0,none⟩) j F O K P M J N) 27)).alloc (.cells (Ya D (some ⟨x,E,none⟩) (f.length+1) U G ms.length cy u o L) 98)) ET 193;rw[m];simpa [ET]using h1
 have Y:Aa W (w.1.size+1) (Xw D (some ⟨x,E,none⟩) (f.length+1) U G ms.length cy u o L):=by have h1:=Aa.new (w.alloc (.cells (C9 Q y d c (some ⟨b,0,none⟩) j F O K P M J N) 27)) (Xw D (some ⟨x,E,none⟩) (f.length+1) U G ms.length cy u o L) 98;rw[Al]at h1;rw[m];exact Aa.A h1 (Zy)
 have x0:Aa W w.1.size (C8 Q y d c (some ⟨b,0,none⟩) j F O K P M J N):=by have h1:=Aa.new w (C8 Q y d c (some ⟨b,0,none⟩) j F O K P M J N) 27;rw[m];exact Aa.A (Aa.A h1 (Zy)) (Zy)
 have HW:=Yw m;have xT:Hid (W.1.size=w.1.size+3):=n;have zO:w.1.size+3<=W.1.size:=by omega
 clear m n;have T:Hid (∀X,Below (w.1.size+3) W X->Aa X w.1.size (C8 Q y d c (some ⟨b,0,none⟩) j F O K P M J N)/\Aa X (w.1.size+1) (Xw D (some ⟨x,E,none⟩) (f.length+1) U G ms.length cy u o L)/\Aa X (w.1.size+2) ET):=λX hX=>⟨Aa.same x0 (hX.block _ (by omega)),Aa.same Y (hX.block _ (by omega)),Aa.same x2 (hX.block _ (by omega))⟩
 have c0:W.cell? (Zd x E)=some (C4 s):=(l.cell (p:=⟨x,E,none⟩) yM).ah (D2 (I 0 s rfl));obtain⟨xn,H,w1,q,R,r⟩:=UC W (some ⟨x,o1,none⟩) (U -1) f (.inr ⟨x,o1,rfl,Zr yM l.size,λi t h=>(l.cell (p:=⟨x,o1+i,none⟩) yM).ah (g i t h)⟩) (λe=>by cases e) (by omega) 28
 have rA:(W.alloc (.cells #[] 9)).cell? (Zd (w.1.size+1) 1)=some (C3 (some ⟨x,E,none⟩) (f.length+1) U):=((Aa.A Y (Zy)) 1 _ rfl).1;have A:=Dk Q y d c (some ⟨b,0,none⟩) F (C1 O K P) (C1 M J N) (j.map (·.1)) s w1 w.1.size (AW.A (hz.dx zB) (l.ah (r.aj l.size))) (Zm l.size r.size) (by rw[A9];omega);rw[A9]at A;have HF:=Yw A
 have S:=Yw (Za hz (Za v hm));have m:Hid (Below (w.1.size+3) W w1):=r.aj zO;have xG:Hid (Zz w W):=l;have n:Hid (Ar w1 (w.1.size+3) (C7 xn f H) f):=R.aj zO;have zT:Hid (∀z∈j,z.1.B.length<=30):=B;have a:w.1.size+3<=w1.1.size:=Zm zO r.size;have C:Below (w.1.size+3) W W:=Below.refl _ _;obtain⟨i0,i1,i2,i3,i4,i5,i6⟩:=FM (Be (T _ C).1)
 obtain⟨⟨r0,f0⟩,⟨r1,f1⟩,⟨r2,f2⟩,⟨r3,f3⟩,⟨r4,f4⟩,⟨r5,f5⟩⟩:=r6 (T _ C).2.1;obtain⟨⟨u0,j0⟩,⟨u1,j1⟩,⟨u2,j2⟩,⟨u3,j3⟩,⟨u4,j4⟩,⟨u5,j5⟩,⟨u6,j6⟩,⟨u7,j7⟩,⟨u8,j8⟩,⟨u9,j9⟩,⟨V,zF⟩,⟨Z,zG⟩,⟨h,zH⟩,⟨t,zI⟩,zA,zJ⟩:=II (T _ C).2.2;clear hz v hm x0 Y x2 l R r I g B A;go_enter func137,ntmps137;go_upto_region 1 with fail;rw[<-HW.o];clear HW
 go_upto_region 10 with(at_builtin;refine wpList_append_run rfl _ _ 28 28 rfl rfl rfl q ?_);clear i0 i1 i2 i3 i4 i5 i6 r0 r1 r2 r3 r4 r5 f0 f1 f2 f3 f4 f5 u0 j0 u1 j1 u2 j2 u3 j3 u4 j4 u5 j5 u6 j6 u7 j7 u8 j8 u9 j9 V zF Z zG h zH t zI zA zJ q C c0 xM rA;obtain⟨i0,i1,i2,i3,i4,i5,i6⟩:=FM (Be (T _ m).1);obtain⟨⟨r0,f0⟩,⟨r1,f1⟩,⟨r2,f2⟩,⟨r3,f3⟩,⟨r4,f4⟩,⟨r5,f5⟩⟩:=r6 (T _ m).2.1
 obtain⟨⟨u0,j0⟩,⟨u1,j1⟩,⟨u2,j2⟩,⟨u3,j3⟩,⟨u4,j4⟩,⟨u5,j5⟩,⟨u6,j6⟩,⟨u7,j7⟩,⟨u8,j8⟩,⟨u9,j9⟩,⟨V,zF⟩,⟨Z,zG⟩,⟨h,zH⟩,⟨t,zI⟩,zA,zJ⟩:=II (T _ m).2.2;go_wp2_with fail;refine HF.Ai ?_;rintro e C ⟨rfl,l⟩;have q:Hid (Below (w.1.size+3) W C):=m.ah (l.aj a);have r:Hid (Ar C (w.1.size+3) (C7 xn f H) f):=n.A l;have yN:w.1.size+3<=C.1.size:=Zm a l.size
 have R:Hid (Zz w C):=xG.ah (q.aj (by omega));clear i0 i1 i2 i3 i4 i5 i6 r0 r1 r2 r3 r4 r5 f0 f1 f2 f3 f4 f5 u0 j0 u1 j1 u2 j2 u3 j3 u4 j4 u5 j5 u6 j6 u7 j7 u8 j8 u9 j9 V zF Z zG h zH t zI zA zJ n m l HF a;have n:=Yw r.o;clear r;obtain⟨i0,i1,i2,i3,i4,i5,i6⟩:=FM (Be (T _ q).1);obtain⟨⟨r0,f0⟩,⟨r1,f1⟩,⟨r2,f2⟩,⟨r3,f3⟩,⟨r4,f4⟩,⟨r5,f5⟩⟩:=r6 (T _ q).2.1
 obtain⟨⟨u0,j0⟩,⟨u1,j1⟩,⟨u2,j2⟩,⟨u3,j3⟩,⟨u4,j4⟩,⟨u5,j5⟩,⟨u6,j6⟩,⟨u7,j7⟩,⟨u8,j8⟩,⟨u9,j9⟩,⟨V,zF⟩,⟨Z,zG⟩,⟨h,zH⟩,⟨t,zI⟩,zA,zJ⟩:=II (T _ q).2.2;rcases CP (j.map (·.1)) s with⟨l,m⟩|⟨fi,fu,l,I,A⟩
 .rw[l];have HN:Hid (¬Am (j.map (·.1)) s):=m;clear m l;go_wp2;refine C0 (.agg #[Ze,Zg Q,Zg y,Zg d,Zg c,C7 b j F,C1 O K P,C1 M J N,Zg D,C7 xn f H,C1 G ms cy,Zg u,Zg o,Zg L,Zb]) (by simp[results,results137,go_sem,u0,u1,u2,u3,u4,u5,u6,u7,u8,u9,V,Z,h,t,zA]) ?_
  have hT:=(AP C (w.1.size+1) 1 (C7 xn f H)).aj (V':=[w.1.size+1,w.1.size+2]) (by simp);refine LU.from (X:=C) [w.1.size+1,w.1.size+2] ?_ (hT.ah ((JZ _ (w.1.size+2) _ _ _ _ _ _ _ _ _ _ _ _ _ _ _).aj (by simp)));intro wf B;have r:=R.ah (B.A R.size (by simp));obtain⟨a,cc,e1,hS⟩:=(n.K B (λg m e=>by have:=(n.g m).1;simp at e;omega)).row;cases e1
  have zR:=Af.T S.2.2 r;exact⟨⟨⟨j.map (·.1),D,u,o,L,f,ms,[]⟩,b,F,j,_,_,none,_,_,0,rfl,.mark yC s f _ _ rfl (.inl ⟨.inl HN,rfl,rfl⟩),rfl,S.1.A r zB,Zr zB r.size,hS,zR,.inl rfl,⟨(λp e=>by cases e;exact .inl rfl),Ds.own n (by omega),(λp e=> .inr (.inr (.inl ⟨p,e,rfl⟩))),Ds.no⟩,λz hz=>hz,n.cap,yL,n.jh.aj B.size,xB.aj r.size⟩,r⟩
 .rw[l];have yP:decide ((fi:Int)<0)=false:=by simp
  have xL:decide ((0:Int)<=fi)=true:=by simp
  have yH:Hid ((j.map (·.1))[fi]?=some fu/\fu.sum=s):=⟨I,A⟩;have Y:=Yw (Fq G cy ms s C C.1.size (Af.T S.2.2 R) (by omega));clear l I A;go_wp2_with fail;refine Y.Ai ?_;rintro e A ⟨rfl,l⟩;rw[l];clear l Y A;by_cases I:s∈ms
  .have l:ms.any (λx=>decide (x=s))=true:=any_eq_true.2 ⟨s,I,by simp⟩;rw[l];clear l;go_wp2;refine C0 (.agg #[Ze,Zg Q,Zg y,Zg d,Zg c,C7 b j F,C1 O K P,C1 M J N,Zg D,C7 xn f H,C1 G ms cy,Zg u,Zg o,Zg L,Zb]) (by simp[results,results137,go_sem,u0,u1,u2,u3,u4,u5,u6,u7,u8,u9,V,Z,h,t,zA]) ?_
   have hT:=(AP C (w.1.size+1) 1 (C7 xn f H)).aj (V':=[w.1.size+1,w.1.size+2]) (by simp);refine LU.from (X:=C) [w.1.size+1,w.1.size+2] ?_ (hT.ah ((JZ _ (w.1.size+2) _ _ _ _ _ _ _ _ _ _ _ _ _ _ _).aj (by simp)));intro wf B;have r:=R.ah (B.A R.size (by simp));obtain⟨a,cc,e1,hS⟩:=(n.K B (λg m e=>by have:=(n.g m).1;simp at e;omega)).row;cases e1
   have zR:=Af.T S.2.2 r;exact⟨⟨⟨j.map (·.1),D,u,o,L,f,ms,[]⟩,b,F,j,_,_,none,_,_,0,rfl,.mark yC s f _ _ rfl (.inl ⟨.inr I,rfl,rfl⟩),rfl,S.1.A r zB,Zr zB r.size,hS,zR,.inl rfl,⟨(λp e=>by cases e;exact .inl rfl),Ds.own n (by omega),(λp e=> .inr (.inr (.inl ⟨p,e,rfl⟩))),Ds.no⟩,λz hz=>hz,n.cap,yL,n.jh.aj B.size,xB.aj r.size⟩,r⟩
  .have l:ms.any (λx=>decide (x=s))=false:=by simp;exact λx hx e=>I (e▸hx)
   rw[l];have yO:Hid (s∉ms):=I;clear l I;obtain⟨y2,xV,w3,yZ,yK,zS⟩:=UC C G cy ms (Af.T S.2.2 R) yL.2 (by omega) 28;have bA:Below w3.1.size w3 (w3.alloc (.cells #[C4 s] 9)):=Zy;obtain⟨M',w4,xA,yA,yY,xN⟩:=Kz (w3.alloc (.cells #[C4 s] 9)) C.1.size _ ms (yK.A bA) ⟨w3.1.size,0,none⟩ 1 s (by simp[go_sem]) (by omega) (by have:=zS.size;simp;omega) 28;have⟨A,l,yX,_⟩:=yA.row
   rw[Ak,length_cons,length_nil,A0]at yX;subst yX;have zC:Below C.1.size C w4:=(zS.ah (bA.aj zS.size)).grown yY (by have:=zS.size;simp;omega) (λk hk=>((yK.A bA).g hk).1);have yJ:Hid (Below (w.1.size+3) W w4):=q.ah (zC.aj yN);have yI:Hid (Ar w4 (w.1.size+3) (C7 xn f H) f):=n.A zC
   have zX:∀g,Ap (C7 xn f H)=some g->g<C.1.size:=λg m=>(n.g m).2;have zN:∀g,Ap (C3 A (ms.length+1) l)=some g->C.1.size<=g:=λg m=>(yA.g m).1;have⟨X,hX⟩:=D7 w4 (w.1.size+1) 2 (C3 A (ms.length+1) l);have zE:Tn [w.1.size+1] w4 X:=by rw[hX];exact AP _ _ _ _
   have yD:Hid (Ar X (w.1.size+3) (C7 xn f H) f/\Ar X (w.1.size+3) (C3 A (ms.length+1) l) (ms++[s])/\(∀g,Ap (C7 xn f H)=some g->Ap (C3 A (ms.length+1) l)≠some g)):=
    ⟨yI.K zE (λg m e=>by have:=(yI.g m).1;simp at e;omega),(yA.K zE (λg m e=>by have:=zN g m;simp at e;omega)).aj yN,λg m yB=>by have:=zX g m;have:=zN g yB;omega⟩
   have zP:Hid (∀Y,Below (w.1.size+3) X Y->Aa Y w.1.size (C8 Q y d c (some ⟨b,0,none⟩) j F O K P M J N)/\Aa Y (w.1.size+1) (Xw D (some ⟨x,E,none⟩) (f.length+1) U A (ms.length+1) l u o L)/\Aa Y (w.1.size+2) ET):=λY hY=>by
    have h4:=T _ yJ;have xY:w.1.size+3<=w4.1.size:=Zm yN zC.size;have e0:Aa X w.1.size (C8 Q y d c (some ⟨b,0,none⟩) j F O K P M J N):=Aa.same h4.1 (zE.block _ (by omega) (by simp));have e2:Aa X (w.1.size+2) ET:=Aa.same h4.2.2 (zE.block _ (by omega) (by simp))
    have e1:Aa X (w.1.size+1) (Xw D (some ⟨x,E,none⟩) (f.length+1) U A (ms.length+1) l u o L):=by rw[hX];exact h4.2.1.set 2 _
    exact⟨Aa.same e0 (hY.block _ (by omega)),Aa.same e1 (hY.block _ (by omega)),Aa.same e2 (hY.block _ (by omega))⟩
   have yG:Hid (Zz w X):=(R.ah (zC.aj R.size)).ah (zE.A (Zm R.size zC.size) (by simp));obtain⟨⟨n0,m0⟩,⟨n1,m1⟩,⟨n2,m2⟩,⟨n3,m3⟩,⟨n4,m4⟩,⟨n5,m5⟩⟩:=r6 (T _ yJ).2.1;have yU:=Yw hX;have xC:w.1.size+3<=X.1.size:=by have:=zE.size;have:=zC.size;omega
   have rB:(C.alloc (.cells #[] 9)).cell? (Zd (w.1.size+1) 2)=some (C1 G ms cy):=((Aa.A (T _ q).2.1 (Zy)) 2 _ rfl).1;clear hX zE yI zX zN zC bA yK yA yY xN zS;go_upto_region 13 with(first
    |(at_builtin;refine wpList_append_run rfl _ _ 28 28 rfl rfl rfl yZ ?_)
    |(at_builtin;refine wpList_append_run rfl _ _ 28 28 rfl rfl rfl xA ?_))
   clear rB yZ xA i0 i1 i2 i3 i4 i5 i6 r0 r1 r2 r3 r4 r5 f0 f1 f2 f3 f4 f5 u0 j0 u1 j1 u2 j2 u3 j3 u4 j4 u5 j5 u6 j6 u7 j7 u8 j8 u9 j9 V zF Z zG h zH t zI zA zJ;rw[<-yU.o];clear yU n0 n1 n2 n3 n4 n5 m0 m1 m2 m3 m4 m5 yJ T q n R;have⟨z,n,xD⟩:∃z,j[fi]?=some z/\z.1=fu:=by have:=yH.1;rw[getElem?_map]at this;have⟨z,h1,h2⟩:=Option.map_eq_some_iff.1 this;exact⟨z,h1,h2⟩
   have xR:fi<j.length:=(Zw n).1;have vC:z.1.B.length<=30:=zT z (Zs n);have⟨⟨_,_,_,q⟩,ad,rc,T,xQ⟩:=(S.1.A yG zB) fi z n;rw[T,A0]at q;have xI:Hid (∀Y,Below (w.1.size+3) X Y->Af Y Y.1.size (some ad) z.1.B):=λY hY=>Af.T (w:=w) (by
    have⟨_,xU,vE,zY,yR⟩:=S.1 fi z n;rw[T]at zY;cases zY;exact yR) (yG.ah (hY.aj (by omega)))
   have yT:Hid (z.1∈j.map (·.1)/\z.1.sum=s):=⟨mem_map.2 ⟨z,Zs n,rfl⟩,by rw[xD];exact yH.2⟩;have zV:Below (w.1.size+3) X X:=Below.refl _ _;obtain⟨i0,i1,i2,i3,i4,i5,i6⟩:=FM (Be (zP _ zV).1);clear T xQ n xD yH zT xL yP
   have xH:Hid (∀Y v,Ar Y (w.1.size+3) (C3 A (ms.length+1) l) (ms++[s])->D8 98 #[C3 A (ms.length+1) l,C4 v] Y λe w'=>e=C5 (.bool ((ms++[s]).any (λx=>decide (x=v))))/\w'=Y):=λY v hY=>by have⟨a2,c2,e2,xO⟩:=hY.row;rw[Ak,length_cons,length_nil,A0]at e2;cases e2;have:=Fq A l (ms++[s]) v Y Y.1.size xO (by rw[Ak];simp;omega);rw[Ak,length_cons,length_nil,A0]at this;exact this
   go_wp2
   go_loopw [6,9] (λv i wr=>∃(k:Nat) (Qk:D4),k<=z.1.B.length/\i=Zg k/\v=Qk/\Hid (Ar wr (w.1.size+3) Qk (f++fresh (ms++[s]) (z.1.B.take k))/\Ar wr (w.1.size+3) (C3 A (ms.length+1) l) (ms++[s])/\(∀g,Ap Qk=some g->Ap (C3 A (ms.length+1) l)≠some g)/\Below (w.1.size+3) X wr)) (λ_ i _=>z.1.B.length -(intOf i).toNat)
   case atStart=>exact⟨0,_,Az _,rfl,rfl,by simpa [fresh]using yD.1,yD.2.1,yD.2.2,zV⟩
   case round=>
    clear yD i0 i1 i2 i3 i4 i5 i6 q;obtain⟨k,Qk,hk,rfl,T,n⟩:=hrel;have xP:=T.symm;subst xP;clear T;by_cases hlt:k<z.1.B.length
    .obtain⟨rb,xF,ha,hb,T⟩:=(xI _ n.2.2.2).at hlt;cases ha;have HG:Hid (z.1.B[k]?=some z.1.B[k]):=Zv hlt;have c0:=T k _ HG;have yS:=Yw (SW (ms:=ms++[s]) HG);have xK:(f++fresh (ms++[s]) (z.1.B.take k)).length<=1048606:=by have:(fresh (ms++[s]) (z.1.B.take k)).length<=(z.1.B.take k).length:=length_filter_le _ _;simp at this |-;omega
     clear T;generalize z.1.B[k]=v at *
     generalize hO:f++fresh (ms++[s]) (z.1.B.take k)=qk at *
     have HO:=Yw hO;clear hO;obtain⟨⟨_,_⟩,⟨_,_⟩,⟨r2,_⟩,_⟩:=r6 (zP _ n.2.2.2).2.1;have S0:wr.drew.cell? (Zd (w.1.size+1) 2)=some (C3 A (ms.length+1) l)/\wr.drew.cell? (Zd rb (xF+k))=some (C4 v):=⟨r2,c0⟩;have HD:Hid (Ar wr.drew (w.1.size+3) (C3 A (ms.length+1) l) (ms++[s])):=n.2.1.A (Ad.drew);have xX:(k:Int)<z.1.B.length:=by omega
     obtain⟨bb,q⟩:∃bb,(ms++[s]).any (λx=>decide (x=v))=bb:=⟨_,rfl⟩;have T:=xH wr.drew v HD;rw[q]at T;have i:=Yw T;have zZ:Hid ((ms++[s]).any (λx=>decide (x=v))=bb):=q;clear r2 c0 q T;go_upto_region 17 with fail;go_region_held3 (λY=>Y.cell? (Zd (w.1.size+1) 2)=some (C3 A (ms.length+1) l)/\Y.cell? (Zd rb (xF+k))=some (C4 v))
      (first|with_reducible exact S0)
      (first
        |(go_at_call 98;refine i.Ai ?_;rintro e T ⟨rfl,yQ⟩;subst yQ))
     have q:Below wr.1.size wr wr.drew:=Ad.drew;have zM:Hid (Ar wr.drew (w.1.size+3) Qk qk):=n.1.A q;have zK:Hid (Below (w.1.size+3) X wr.drew):=n.2.2.2.drew;have yF:=Yw n.2.2.1;have xE:w.1.size+3<=wr.drew.1.size:=Zm xC zK.size;obtain⟨_,c0⟩:=S0;clear n q i;generalize wr.drew=T at *
     cases bb with
     |true=>
      have I:v∈ms++[s]:=by have⟨x,hx,e⟩:=any_eq_true.1 zZ;simp at e;exact e▸hx
      have Y:Hid (f++fresh (ms++[s]) (z.1.B.take (k+1))=qk):=by show _=_;rw[yS.1 I];exact HO.o
      clear zZ I c0;go_wp2;exact⟨⟨k+1,Qk,by omega,by go_num,rfl,⟨by rw[Y.o];exact zM.o,HD,yF,zK⟩⟩,by simp[intOf];omega⟩
     |false=>
      have I:¬v∈ms++[s]:=λe=>by have:=any_eq_false.1 zZ v e;simp at this
      have Y:Hid (f++fresh (ms++[s]) (z.1.B.take (k+1))=qk++[v]):=by show _=_;rw[yS.2 I,<-append_assoc,HO.o]
      have bA:Below T.1.size T (T.alloc (.cells #[C4 v] 9)):=Zy;obtain⟨Q',yE,hr,zU,i,zW⟩:=Kz (T.alloc (.cells #[C4 v] 9)) (w.1.size+3) Qk qk (zM.A bA) ⟨T.1.size,0,none⟩ 1 v (by simp[go_sem]) (by omega) (by simp;omega) 28;have yV:Below (w.1.size+3) T yE:=(bA.aj xE).grown i (by simp;omega) (λq e=>(zM.g e).1)
      have yW:∀g,Ap (C3 A (ms.length+1) l)=some g->g<T.1.size:=λg m=>(HD.g m).2;have q:Hid (Ar yE (w.1.size+3) Q' (qk++[v])/\Ar yE (w.1.size+3) (C3 A (ms.length+1) l) (ms++[s])/\(∀g,Ap Q'=some g->Ap (C3 A (ms.length+1) l)≠some g)/\Below (w.1.size+3) X yE):=by
       refine⟨zU,(HD.A bA).stays i.size (λg m=>i.block g (by have:=yW g m;simp;omega) (λe=>yF g e.symm m)),λg m yB=> ?_,zK.ah yV⟩;rcases zW with e|e
       .exact yF g (e▸m) yB
       .rw[e]at m;cases m;have:=yW _ yB;simp only[Al]at this;omega
      clear zZ I zU i zW yV bA;go_wp2_with (at_builtin;refine wpList_append_run rfl _ _ 28 28 rfl rfl rfl hr ?_);clear hr;go_wp2;exact⟨⟨k+1,Q',by omega,by go_num,rfl,⟨by rw[Y.o];exact q.1,q.2.1,q.2.2.1,q.2.2.2⟩⟩,by simp[intOf];omega⟩
    .obtain rfl:k=z.1.B.length:=by omega
     have I:=n.1;rw[Zt (Zx)]at I;have Y:=Yw I;have⟨qa,i,xJ,_⟩:=I.row;have xK:(f++fresh (ms++[s]) z.1.B).length<=1048606:=by have:(fresh (ms++[s]) z.1.B).length<=z.1.B.length:=length_filter_le _ _;simp at this |-;omega
     subst xJ;have R:Hid (Zz w wr):=yG.ah (n.2.2.2.aj (by omega));obtain⟨i0,i1,i2,i3,i4,i5,i6⟩:=FM (Be (zP _ n.2.2.2).1);obtain⟨⟨r0,f0⟩,⟨r1,f1⟩,⟨r2,f2⟩,⟨r3,f3⟩,⟨r4,f4⟩,⟨r5,f5⟩⟩:=r6 (zP _ n.2.2.2).2.1;obtain⟨⟨u0,j0⟩,⟨u1,j1⟩,⟨u2,j2⟩,⟨u3,j3⟩,⟨u4,j4⟩,⟨u5,j5⟩,⟨u6,j6⟩,⟨u7,j7⟩,⟨u8,j8⟩,⟨u9,j9⟩,⟨V,zF⟩,⟨Z,zG⟩,⟨h,zH⟩,⟨t,zI⟩,zA,zJ⟩:=II (zP _ n.2.2.2).2.2
     have xE:w.1.size+3<=wr.1.size:=Zm xC n.2.2.2.size;generalize hqq:f++fresh (ms++[s]) z.1.B=qq at *
     clear I;go_wp2;refine C0 (.agg #[Ze,Zg Q,Zg y,Zg d,Zg c,C7 b j F,C1 O K P,C1 M J N,Zg D,C1 qa qq i,C3 A (ms.length+1) l,Zg u,Zg o,Zg L,Zb]) (by simp[results,results137,go_sem,u0,u1,u2,u3,u4,u5,u6,u7,u8,u9,V,Z,h,t,zA]) ?_;have hT:=(AP wr (w.1.size+1) 1 (C1 qa qq i)).aj (V':=[w.1.size+1,w.1.size+2]) (by simp)
     refine LU.from (X:=wr) [w.1.size+1,w.1.size+2] ?_ (hT.ah ((JZ _ (w.1.size+2) _ _ _ _ _ _ _ _ _ _ _ _ _ _ _).aj (by simp)));intro wf B;have r:=R.ah (B.A R.size (by simp));obtain⟨a,cc,e1,hS⟩:=(Y.K B (λg m e=>by have:=(Y.g m).1;simp at e;omega)).row;cases e1;obtain⟨I,v,e2,zR⟩:=(n.2.1.K B (λg m e=>by have:=(n.2.1.g m).1;simp at e;omega)).row
     rw[Ak,length_cons,length_nil,A0]at e2;cases e2
     exact⟨⟨⟨j.map (·.1),D,u,o,L,qq,(ms++[s]),[]⟩,b,F,j,_,_,none,i,l,0,(by simp),.mark yC s f _ _ rfl (.inr ⟨z.1,yT.1,yT.2,yO,rfl,hqq.symm⟩),rfl,S.1.A r zB,Zr zB r.size,hS,zR,.inl rfl,⟨(λp e=>by cases e;exact .inl rfl),Ds.own Y (by omega),Ds.own n.2.1 (by omega),Ds.no⟩,λz hz=>hz,Y.cap,n.2.1.cap,Y.jh.aj B.size,n.2.1.jh.aj B.size⟩,r⟩
theorem KV{c:Zh}{b d:Nat}{e:List (Kd×Value)}(h:Bm w b d e)(a:c.1[b]?=w.1[b]?)(m:∀z∈e,∃f g,z.2=C3 (some f) z.1.B.length g/\Af c c.1.size (some f) z.1.B):Bm c b d e:=by intro i z f;have⟨⟨g,j,k,l⟩,_⟩:=h i z f;exact⟨⟨(cell?_of_block a).ah g,(cell?_of_block a).ah j,(cell?_of_block a).ah k,(cell?_of_block a).ah l⟩,m z (Zs f)⟩
theorem Qa(G o d a:Int)(b H:Nat)(f:List (Kd×Value))(u:Dy)(q:Dv)(C B:Zk)(F E:Nat)(ph A L D:Int)(J I:Zk)(S R:Nat)(t:Zl)(w:Zh)(zK:ph≠0)(hz:Bm w b 0 f)(Y:b<w.1.size)(zO:FH J 0 S)(zP:Lt w J)(r:AU w w.1.size C u)(n:AS w w.1.size B q)(p:Af w w.1.size I t)(zN:FH I t.length R)(zR:Lt w I)(yI:f.length<=600)(yF:u.length<=100)(yE:q.length<=200)(U:∀z∈f,z.1.B.length<=30)(yR:t.length<=100000)(yL:0<=D)(yM:D<=1000000000):
 D8 137 #[.agg (Yg G o d a (some ⟨b,0,none⟩) f.length H C u.length F B q.length E),.agg (Ya ph J 0 S I t.length R A L D)] w λe l=>LU w l e G o d a (C3 C u.length F) (C3 B q.length E) (f.map (·.1)) u q ph A L D [] t b J I f:=by
 have yK:(ph==0)=false:=D2 zK
 have⟨W,l⟩:=Ae (((w.alloc (.cells (C9 G o d a (some ⟨b,0,none⟩) f H C u F B q E) 27)).alloc (.cells (Ya ph J 0 S I t.length R A L D) 98)).alloc (.cells Xx 193));have Z:Below w.1.size w W:=by rw[l];exact((Zy).alloc (by simp) _).alloc (by simp;omega) _
 have m:W.1.size=w.1.size+3:=by rw[l];simp
 have j:Aa W (w.1.size+2) ET:=by have h1:=Aa.new ((w.alloc (.cells (C9 G o d a (some ⟨b,0,none⟩) f H C u F B q E) 27)).alloc (.cells (Ya ph J 0 S I t.length R A L D) 98)) ET 193;rw[l];simpa [ET]using h1
 have i:Aa W (w.1.size+1) (Xw ph J 0 S I t.length R A L D):=by have h1:=Aa.new (w.alloc (.cells (C9 G o d a (some ⟨b,0,none⟩) f H C u F B q E) 27)) (Xw ph J 0 S I t.length R A L D) 98;rw[Al]at h1;rw[l];exact Aa.A h1 (Zy)
 have h:Aa W w.1.size (C8 G o d a (some ⟨b,0,none⟩) f H C u F B q E):=by have h1:=Aa.new w (C8 G o d a (some ⟨b,0,none⟩) f H C u F B q E) 27;rw[l];exact Aa.A (Aa.A h1 (Zy)) (Zy)
 have k:=Yw l;have yO:Hid (W.1.size=w.1.size+3):=m;have yN:w.1.size+3<=W.1.size:=by omega
 clear l m;have⟨W1,V⟩:=D7 W (w.1.size+1) 0 (Zg 2);have l:Tn [w.1.size+1] W W1:=by rw[V];exact AP _ _ _ _
 have yS:W.1.size<=W1.1.size:=l.size;have m:Below w.1.size w W1:=Z.ah (l.A Z.size (by simp));have T:Hid (Aa W1 w.1.size (C8 G o d a (some ⟨b,0,none⟩) f H C u F B q E)/\Aa W1 (w.1.size+1) (Xw 2 J 0 S I t.length R A L D)/\Aa W1 (w.1.size+2) ET):=⟨Aa.same h (l.block _ (by omega) (by simp)),(by rw[V];exact i.set 0 _),Aa.same j (l.block _ (by omega) (by simp))⟩
 have g:=Yw V;have K:=Yw (Za hz (Za r (Za n (Za U p))));have zM:Hid (Af w w.1.size J []):=.inl rfl;have HN:=SZ G o d a L (some ⟨b,0,none⟩) H (C1 C u F) (C1 B q E) (f.map (·.1)) W1 (AW.aj (AW.A (hz.dx Y) m) m.size) (by rw[A9];omega);rw[A9]at HN;have zX:=Yw HN
 have c:(Aa W w.1.size (C8 G o d a (some ⟨b,0,none⟩) f H C u F B q E)/\Aa W (w.1.size+1) (Xw ph J 0 S I t.length R A L D)/\Aa W (w.1.size+2) ET):=⟨h,i,j⟩;have⟨i0,i1,i2,i3,i4,i5,i6⟩:=FM (Be c.1);have⟨⟨r0,f0⟩,⟨r1,f1⟩,⟨r2,f2⟩,⟨r3,f3⟩,⟨r4,f4⟩,⟨r5,f5⟩⟩:=r6 c.2.1
 have⟨⟨y0,q0⟩,⟨y1,q1⟩,⟨y2,q2⟩,⟨y3,q3⟩,⟨y4,q4⟩,⟨y5,q5⟩,⟨y6,q6⟩,⟨y7,q7⟩,⟨y8,q8⟩,⟨y9,q9⟩,⟨M,zA⟩,⟨N,zB⟩,⟨O,zC⟩,⟨P,zE⟩,Q,zF⟩:=II c.2.2;clear V hz r n p h i j l Z U HN c;go_enter func137,ntmps137;go_upto_region 1 with fail;rw[<-k.o];clear k;go_upto_region 22 with fail;rw[<-g.o]
 clear g i0 i1 i2 i3 i4 i5 i6 r0 r1 r2 r3 r4 r5 f0 f1 f2 f3 f4 f5 y0 q0 y1 q1 y2 q2 y3 q3 y4 q4 y5 q5 y6 q6 y7 q7 y8 q8 y9 q9 M zA N zB O zC P zE Q zF;have⟨i0,i1,i2,i3,i4,i5,i6⟩:=FM (Be T.1);have⟨⟨r0,f0⟩,⟨r1,f1⟩,⟨r2,f2⟩,⟨r3,f3⟩,⟨r4,f4⟩,⟨r5,f5⟩⟩:=r6 T.2.1;have⟨⟨y0,q0⟩,⟨y1,q1⟩,⟨y2,q2⟩,⟨y3,q3⟩,⟨y4,q4⟩,⟨y5,q5⟩,⟨y6,q6⟩,⟨y7,q7⟩,⟨y8,q8⟩,⟨y9,q9⟩,⟨M,zA⟩,⟨N,zB⟩,⟨O,zC⟩,⟨P,zE⟩,Q,zF⟩:=II T.2.2
 go_wp2_with fail;refine zX.Ai ?_;rintro e w2 ⟨r,rfl,U,l⟩;have H2:Hid (Aa w2 w.1.size (C8 G o d a (some ⟨b,0,none⟩) f H C u F B q E)/\Aa w2 (w.1.size+1) (Xw 2 J 0 S I t.length R A L D)/\Aa w2 (w.1.size+2) ET):=⟨Aa.A T.1 l,Aa.A T.2.1 l,Aa.A T.2.2 l⟩;have zG:Hid (Zz w w2):=m.ah (l.aj m.size);have yT:w.1.size+3<=w2.1.size:=Dz l.size
 have g:Hid (Dq (f.map (·.1)) L r):=U;clear i0 i1 i2 i3 i4 i5 i6 r0 r1 r2 r3 r4 r5 f0 f1 f2 f3 f4 f5 y0 q0 y1 q1 y2 q2 y3 q3 y4 q4 y5 q5 y6 q6 y7 q7 y8 q8 y9 q9 M zA N zB O zC P zE Q zF T l U m;have⟨i0,i1,i2,i3,i4,i5,i6⟩:=FM (Be H2.1);have⟨⟨r0,f0⟩,⟨r1,f1⟩,⟨r2,f2⟩,⟨r3,f3⟩,⟨r4,f4⟩,⟨r5,f5⟩⟩:=r6 H2.2.1
 have⟨⟨y0,q0⟩,⟨y1,q1⟩,⟨y2,q2⟩,⟨y3,q3⟩,⟨y4,q4⟩,⟨y5,q5⟩,⟨y6,q6⟩,⟨y7,q7⟩,⟨y8,q8⟩,⟨y9,q9⟩,⟨M,zA⟩,⟨N,zB⟩,⟨O,zC⟩,⟨P,zE⟩,Q,zF⟩:=II H2.2.2;rcases g.o with⟨rfl,l⟩|⟨i,k,rfl,c,s,x⟩
 .have zY:Hid (∀y∈f.map (·.1),¬y.born<L):=l;clear l g;go_wp2;refine C0 (.agg #[Ze,Zg G,Zg o,Zg d,Zg a,C7 b f H,C1 C u F,C1 B q E,Ze,Zb,Zb,Ze,Ze,Zg (D+1),Zb]) (by simp[results,results137,go_sem,y0,y1,y2,y3,y4,y5,y6,y7,y8,y9,M,N,O,P,Q]) ?_;refine LU.from (X:=w2) [w.1.size+2] ?_ (JZ w2 (w.1.size+2) _ _ _ _ _ _ _ _ _ _ _ _ _ _ _);intro wf T
  have l:=zG.ah (T.A zG.size (by simp));exact⟨⟨⟨f.map (·.1),0,0,0,D+1,[],[],[]⟩,b,H,f,_,_,none,_,_,0,rfl,.rest zK rfl (λy m=>Int.not_lt.2 (zY y m)),rfl,K.1.A l Y,Zr Y l.size,.inl rfl,.inl rfl,.inl rfl,⟨(λp e=>by cases e;exact .inl rfl),Ds.no,Ds.no,Ds.no⟩,λz hz=>hz,⟨Zx,λ_=>⟨rfl,rfl⟩⟩,⟨Zx,λ_=>⟨rfl,rfl⟩⟩,Lt.no,Lt.no⟩,l⟩
 .obtain⟨z,j,yH⟩:∃z,f[i]?=some z/\z.1=k:=by rw[getElem?_map]at c;have⟨z,h1,h2⟩:=Option.map_eq_some_iff.1 c;exact⟨z,h1,h2⟩
  subst yH;have HY:Hid (SY (f.map (·.1)) L z.1):=⟨Zs c,s,x⟩;have yQ:i<f.length:=(Zw j).1;have yJ:¬((i:Int)<0):=by omega
  have⟨⟨y,d1,_,_⟩,_⟩:=(K.1.A zG Y) i z j;rw[A0]at y d1;have⟨U,V⟩:=D7 w2 (w.1.size+1) 4 (Zg z.1.born);have m:Tn [w.1.size+1] w2 U:=by rw[V];exact AP _ _ _ _
  have h:Below w.1.size w U:=zG.ah (m.A zG.size (by simp));have Z:Hid (Aa U w.1.size (C8 G o d a (some ⟨b,0,none⟩) f H C u F B q E)/\Aa U (w.1.size+1) (Xw 2 J 0 S I t.length R A z.1.born D)/\Aa U (w.1.size+2) ET):=⟨Aa.same H2.1 (m.block _ (by omega) (by simp)),(by rw[V];exact H2.2.1.set 4 _),Aa.same H2.2.2 (m.block _ (by omega) (by simp))⟩
  have e0:U.cell? (Zd b (i *4))=some (C4 z.1.sum):=(cell?_of_block (m.block b (Dz zG.size) (by simp;omega))).ah y;have n:=Yw V;have zW:w.1.size+3<=U.1.size:=Dz m.size
  clear V m c s x g j;go_upto_region 26 with fail;rw[<-n.o];clear n y d1 i0 i1 i2 i3 i4 i5 i6 r0 r1 r2 r3 r4 r5 f0 f1 f2 f3 f4 f5 y0 q0 y1 q1 y2 q2 y3 q3 y4 q4 y5 q5 y6 q6 y7 q7 y8 q8 y9 q9 M zA N zB O zC P zE Q zF;have⟨i0,i1,i2,i3,i4,i5,i6⟩:=FM (Be Z.1);have⟨⟨r0,f0⟩,⟨r1,f1⟩,⟨r2,f2⟩,⟨r3,f3⟩,⟨r4,f4⟩,⟨r5,f5⟩⟩:=r6 Z.2.1
  have⟨⟨y0,q0⟩,⟨y1,q1⟩,⟨y2,q2⟩,⟨y3,q3⟩,⟨y4,q4⟩,⟨y5,q5⟩,⟨y6,q6⟩,⟨y7,q7⟩,⟨y8,q8⟩,⟨y9,q9⟩,⟨M,zA⟩,⟨N,zB⟩,⟨O,zC⟩,⟨P,zE⟩,Q,zF⟩:=II Z.2.2;have c:=Yw (Fq I R t z.1.sum U U.1.size (Af.T K.2.2.2.2 h) (by omega));have V:Hid (Zz w U):=h;go_wp2_with fail;refine c.Ai ?_;rintro e g ⟨rfl,m⟩;rw[m];clear m c g h e0;by_cases hin:z.1.sum∈t
  .have m:t.any (λx=>decide (x=z.1.sum))=true:=any_eq_true.2 ⟨z.1.sum,hin,by simp⟩;rw[m];clear m;go_wp2;refine C0 (.agg #[Ze,Zg G,Zg o,Zg d,Zg a,C7 b f H,C1 C u F,C1 B q E,Zg 2,C3 J 0 S,C1 I t R,Zg A,Zg z.1.born,Zg D,Zb]) (by simp[results,results137,go_sem,y0,y1,y2,y3,y4,y5,y6,y7,y8,y9,M,N,O,P,Q]) ?_
   refine LU.from (X:=U) [w.1.size+2] ?_ (JZ U (w.1.size+2) _ _ _ _ _ _ _ _ _ _ _ _ _ _ _);intro wf T;have l:=V.ah (T.A V.size (by simp))
   exact⟨⟨⟨f.map (·.1),2,A,z.1.born,D,[],t,[]⟩,b,H,f,_,_,none,_,_,0,rfl,.ag zK rfl z.1 HY (.inl hin),rfl,K.1.A l Y,Zr Y l.size,zM.T l,K.2.2.2.2.T l,.inl rfl,⟨(λp e=>by cases e;exact .inl rfl),(λp e=> .inr (.inl ⟨p,e,rfl⟩)),(λp e=> .inr (.inr (.inl ⟨p,e,rfl⟩))),Ds.no⟩,λz hz=>hz,zO,zN,zP.aj l.size,zR.aj l.size⟩,l⟩
  .have m:t.any (λx=>decide (x=z.1.sum))=false:=by simp;exact λx c e=>hin (e▸c)
   rw[m];have zS:Hid (z.1.sum∉t):=hin;have g:=Mq G o d a b 0 H F E C B f u q z.1.sum U (K.1.A V Y) (Zr Y V.size) (AU.aj (AU.A K.2.1 V) V.size) (AS.aj (AS.A K.2.2.1 V) V.size) yI yF yE (λz hz=>Zm (K.2.2.2.1 z hz) (by omega)) ⟨z.1,HY.1,rfl⟩;have c:=Yw g;clear m hin g;go_wp2_with fail;refine c.Ai ?_;rintro e x ⟨s,zT⟩
   have y:Below w.1.size w x:=V.ah (s.aj V.size);have H4:Hid (Aa x w.1.size (C8 G o d a (some ⟨b,0,none⟩) f H C u F B q E)/\Aa x (w.1.size+1) (Xw 2 J 0 S I t.length R A z.1.born D)/\Aa x (w.1.size+2) ET):=⟨Aa.A Z.1 s,Aa.A Z.2.1 s,Aa.A Z.2.2 s⟩;have yG:w.1.size+3<=x.1.size:=Zm zW s.size
   clear i0 i1 i2 i3 i4 i5 i6 r0 r1 r2 r3 r4 r5 f0 f1 f2 f3 f4 f5 y0 q0 y1 q1 y2 q2 y3 q3 y4 q4 y5 q5 y6 q6 y7 q7 y8 q8 y9 q9 M zA N zB O zC P zE Q zF c Z;rcases zT with⟨h,rfl⟩|⟨h,g,c,rfl,zU,yB,zV⟩
   .have zH:Hid (GM u q (f.map (·.1)) z.1.sum):=h;have⟨m,j⟩:=D6 x (Xy 6) 36;have Z:Below x.1.size x m:=by rw[j];exact Zy
    have H5:(Aa m w.1.size (C8 G o d a (some ⟨b,0,none⟩) f H C u F B q E)/\Aa m (w.1.size+1) (Xw 2 J 0 S I t.length R A z.1.born D)/\Aa m (w.1.size+2) ET):=⟨Aa.A H4.1 Z,Aa.A H4.2.1 Z,Aa.A H4.2.2 Z⟩;have n0:m.cell? (Zd (x.1.size) 0)=some (Zg 6):=by rw[j];simp[go_sem]
    have zI:Hid (Zz w m):=y.ah (Z.aj y.size);have zJ:=Yw j;clear j h y s Z;go_upto_region 30 with fail;rw[<-zJ.o];clear zJ H4;have⟨i0,i1,i2,i3,i4,i5,i6⟩:=FM (Be H5.1);have⟨⟨r0,f0⟩,⟨r1,f1⟩,⟨r2,f2⟩,⟨r3,f3⟩,⟨r4,f4⟩,⟨r5,f5⟩⟩:=r6 H5.2.1;have⟨⟨y0,q0⟩,⟨y1,q1⟩,⟨y2,q2⟩,⟨y3,q3⟩,⟨y4,q4⟩,⟨y5,q5⟩,⟨y6,q6⟩,⟨y7,q7⟩,⟨y8,q8⟩,⟨y9,q9⟩,⟨M,zA⟩,⟨N,zB⟩,⟨O,zC⟩,⟨P,zE⟩,Q,zF⟩:=II H5.2.2;go_wp2
    refine C0 (.agg #[Ze,Zg G,Zg o,Zg d,Zg a,C7 b f H,C1 C u F,C1 B q E,Zg 2,C3 J 0 S,C1 I t R,Zg A,Zg z.1.born,Zg D,Zb]) (by simp[results,results137,go_sem,y0,y1,y2,y3,y4,y5,y6,y7,y8,y9,M,N,O,P,Q]) ?_;refine LU.from (X:=m) [w.1.size+2] ?_ (JZ m (w.1.size+2) _ _ _ _ _ _ _ _ _ _ _ _ _ _ _);intro wf T
    have l:=zI.ah (T.A zI.size (by simp));exact⟨⟨⟨f.map (·.1),2,A,z.1.born,D,[],t,[]⟩,b,H,f,_,_,none,_,_,0,rfl,.ag zK rfl z.1 HY (.inr zH),rfl,K.1.A l Y,Zr Y l.size,zM.T l,K.2.2.2.2.T l,.inl rfl,⟨(λp e=>by cases e;exact .inl rfl),(λp e=> .inr (.inl ⟨p,e,rfl⟩)),(λp e=> .inr (.inr (.inl ⟨p,e,rfl⟩))),Ds.no⟩,λz hz=>hz,zO,zN,zP.aj l.size,zR.aj l.size⟩,l⟩
   .have zH:Hid (¬GM u q (f.map (·.1)) z.1.sum):=h;have⟨m,j⟩:=D6 x #[Ze,Zg G,Zg o,Zg d,Zg a,C7 g (BK f z.1.sum) c,C1 C u F,C1 B q E,Zc,Ze,Zc,Zc] 36;have Z:Below x.1.size x m:=by rw[j];exact Zy
    have H5:Hid (Aa m w.1.size (C8 G o d a (some ⟨b,0,none⟩) f H C u F B q E)/\Aa m (w.1.size+1) (Xw 2 J 0 S I t.length R A z.1.born D)/\Aa m (w.1.size+2) ET):=⟨Aa.A H4.1 Z,Aa.A H4.2.1 Z,Aa.A H4.2.2 Z⟩;have n:Aa m x.1.size [Ze,Zg G,Zg o,Zg d,Zg a,C7 g (BK f z.1.sum) c,C1 C u F,C1 B q E,Zc,Ze,Zc,Zc]:=by rw[j];exact Aa.new x _ _
    obtain⟨n0,_⟩:=n 0 _ rfl;obtain⟨n1,_⟩:=n 1 _ rfl;obtain⟨n2,_⟩:=n 2 _ rfl;obtain⟨n3,_⟩:=n 3 _ rfl;obtain⟨n4,_⟩:=n 4 _ rfl;obtain⟨n5,_⟩:=n 5 _ rfl;obtain⟨n6,_⟩:=n 6 _ rfl;obtain⟨n7,_⟩:=n 7 _ rfl;have zI:Hid (Zz w m):=y.ah (Z.aj y.size);have yA:Hid (Bm m g 0 (BK f z.1.sum)):=zU.A Z zV;have yP:w.1.size+3<=g:=Zm zW yB;have yC:g<m.1.size:=Zr zV Z.size
    have yU:w.1.size+3<=m.1.size:=Zm yG Z.size;have zJ:=Yw j;clear j h y s Z n zU;go_upto_region 30 with fail;rw[<-zJ.o];clear zJ H4;have⟨i0,i1,i2,i3,i4,i5,i6⟩:=FM (Be H5.1);have⟨⟨r0,f0⟩,⟨r1,f1⟩,⟨r2,f2⟩,⟨r3,f3⟩,⟨r4,f4⟩,⟨r5,f5⟩⟩:=r6 H5.2.1;have⟨Z,h⟩:=D6 m #[C4 z.1.sum] 9;have j:Below m.1.size m Z:=by rw[h];exact Zy
    have n:Z.cell? (Zd (m.1.size) 0)=some (C4 z.1.sum):=by rw[h];simp[go_sem]
    have yD:m.1.size<Z.1.size:=by rw[h];simp
    have H6:Aa (m.alloc (.cells #[C4 z.1.sum] 9)) (w.1.size+1+1) ET:=by rw[<-h];exact Aa.A (v:=Ze) H5.2.2 j
    have zZ:=Yw h;have⟨⟨y0,q0⟩,⟨y1,q1⟩,⟨y2,q2⟩,⟨y3,q3⟩,⟨y4,q4⟩,⟨y5,q5⟩,⟨y6,q6⟩,⟨y7,q7⟩,⟨y8,q8⟩,⟨y9,q9⟩,⟨M,zA⟩,⟨N,zB⟩,⟨O,zC⟩,⟨P,zE⟩,Q,zF⟩:=II H6;have y:=Yw (Za j n);clear h j n;go_wp2
    refine C0 (.agg #[Ze,Zg G,Zg o,Zg d,Zg a,C7 g (BK f z.1.sum) c,C1 C u F,C1 B q E,Zg 2,C3 J 0 S,C1 I t R,Zg A,Zg z.1.born,Zg D,Yz m.1.size 1 1]) (by simp[results,results137,go_sem,y0,y1,y2,y3,y4,y5,y6,y7,y8,y9,M,N,O,P,Q]) ?_;rw[<-zZ.o];refine LU.from (X:=Z) [w.1.size+2] ?_ (JZ Z (w.1.size+2) _ _ _ _ _ _ _ _ _ _ _ _ _ _ _)
    intro wf T;have n:=zI.ah (y.1.aj zI.size);have l:=n.ah (T.A n.size (by simp))
    refine⟨⟨⟨CJ (f.map (·.1)) z.1.sum,2,A,z.1.born,D,[],t,[z.1.sum]⟩,g,c,BK f z.1.sum,_,_,_,_,_,1,rfl,.drop zK rfl z.1 HY zS zH,JY _ _,KV (yA.A y.1 yC) (T.block _ (by omega) (by simp;omega)) (λv hv=> ?_),Dz T.size,zM.T l,K.2.2.2.2.T l,.inr ⟨_,0,rfl,Dz T.size,λi s h=> ?_⟩,⟨Ds.new (by omega),(λp e=> .inr (.inl ⟨p,e,rfl⟩)),(λp e=> .inr (.inr (.inl ⟨p,e,rfl⟩))),Ds.new (by omega)⟩,λv hv=>(Bb.1 hv).1,zO,zN,zP.aj l.size,zR.aj l.size⟩,l⟩
    .obtain⟨j,s⟩:=A5 ((Bb.1 hv).1);have⟨_,p,rc,h1,h2⟩:=K.1 j v s;exact⟨p,rc,h1,h2.T l⟩
    .match i,h with
     |0,h=>cases h;exact(cell?_of_block (T.block _ yD (by simp;omega))).ah y.2
structure LV (w w':Zh) (e:Ending) (wd now given births:Int) (P L:Value) (ks:List Kd) (ps:List Pd) (ls:List Ld) (ph top at_ ro:Int) (qs ms:Zl) (b0:Nat) (x0 y0:Zk) (zs0:List (Kd×Value)) (r:UR) (b c:Nat) (zs:List (Kd×Value)) (qa ma da:Zk) (qc mc dc:Nat):Prop where
 e:e=.returned (.agg #[Ze,Zg wd,Zg now,Zg given,Zg births,.slice (some ⟨b,0,none⟩) r.ks.length c,P,L,Zg r.M,.slice qa r.H.length qc,.slice ma r.ms.length mc,Zg r.U,Zg r.V,Zg r.ro,.slice da r.ds.length dc])
 uto:UTo ks ps ls births ph top at_ ro qs ms r
 zk:zs.map (·.1)=r.ks
 z:Bm w' b 0 zs
 lt:b<w'.1.size
 q:Af w' w'.1.size qa r.H
 m:Af w' w'.1.size ma r.ms
 d:Af w' w'.1.size da r.ds
 fb:Ds b0 x0 y0 w.1.size (some ⟨b,0,none⟩)
 fq:Ds b0 x0 y0 w.1.size qa
 fm:Ds b0 x0 y0 w.1.size ma
 fd:Ds b0 x0 y0 w.1.size da
 sub:∀z∈zs,z∈zs0
 cq:FH qa r.H.length qc
 cm:FH ma r.ms.length mc
 lq:Lt w' qa
 lm:Lt w' ma
 low:Below w.1.size w w'
theorem LU.lv{C:Zh}{e:Ending}{D g a:Int}{P L:D4}{u:Dj}{z:Dy}{v:Dv}{y i f B:Int}{A x:Zl}{s:Nat}{E F:Zk}{j:List (Kd×Value)}(h:LU w C e D g d a P L u z v y i f B A x s E F j):∃r b c q o m k p n l,LV w C e D g d a P L u z v y i f B A x s E F j r b c q o m k p n l:=by obtain⟨⟨r,b,c,q,o,m,k,p,n,l,Q,R,t,S,T,U,V,W,⟨X,Y,G,H⟩,I,K,M,N,O⟩,J⟩:=h;refine⟨r,b,c,q,o,m,k,p,n,l,?_,R,t,S,T,U,V,W,X,Y,G,H,I,K,M,N,O,J⟩;rw[Q,<-t,A9]
theorem Tb(y o d a:Int)(b K:Nat)(m:List (Kd×Value))(G:Dj)(j:Dy)(g:Dv)(u t:Zk)(C B:Nat)(v p n x:Int)(k l:Zk)(D E:Nat)(q i:Zl)(w:Zh)(T:m.map (·.1)=G)(F:Bm w b 0 m)(H:b<w.1.size)(Q:AU w w.1.size u j)(P:AS w w.1.size t g)(X:Af w w.1.size k q)(O:Af w w.1.size l i)(L:FH k q.length D)(I:FH l i.length E)(S:Lt w k)(J:Lt w l)(f:UOk y a G j g v x q i)(M:i.length<=100000):
 D8 137 #[.agg (Yg y o d a (some ⟨b,0,none⟩) G.length K u j.length C t g.length B),.agg (Ya v k q.length D l i.length E p n x)] w λe A=>∃r U c N h Y V z Z W,LV w A e y o d a (C3 u j.length C) (C3 t g.length B) G j g v p n x q i b k l m r U c N h Y V z Z W:=by
 refine Calls.mono (R:=λe A=>LU w A e y o d a (C1 u j C) (C1 t g B) G j g v p n x q i b k l m) ?_ (λe A h=>h.lv);subst T;have N:m.length<=600:=by have:=f.ok.len;rw[A9]at this;exact this
 have A:∀z∈m,z.1.B.length<=30:=λz F=>(f.B z.1 (mem_map.2 ⟨z,F,rfl⟩)).1;rw[A9];by_cases h0:v=0
 .subst h0;exact PZ y o d a b K _ _ m j g u t C B rfl rfl p n x k l D E q i w F H Q P O I J f.pl f.ll f.b0 f.b1
 .cases q with
  |nil=>exact Qa y o d a b K m j g u t C B v p n x k l D E i w h0 F H L S Q P O I J N f.pl f.ll A M f.r0 f.r1
  |cons s q0=>exact QW y o d a b K m j g u t C B v p n x k l D E s q0 i w h0 F H X O I J L.1 N A (by have:=f.ql;simp at this;omega) M
theorem Af.K{d:Zh}{f:Zl}(h:Af w w.1.size a f)(e:Tn V w d)(j:∀p,a=some p->p.block<w.1.size->p.block∉V):Af d d.1.size a f:=by
 rcases h with h|⟨b,g,rfl,c,k⟩
 .exact .inl h
 .exact .inr ⟨b,g,rfl,Zr c e.size,λi s l=>(cell?_of_block (e.block b c (j _ rfl c))).ah (k i s l)⟩
theorem AU.K{d:Zh}{k:Dy}(h:AU w w.1.size a k)(j:Tn V w d)(m:∀p,a=some p->p.block<w.1.size->p.block∉V):AU d d.1.size a k:=by
 rcases h with h|⟨b,l,rfl,c,e⟩
 .exact .inl h
 .have f:=j.block b c (m _ rfl c);exact .inr ⟨b,l,rfl,Zr c j.size,λi s g=>⟨(cell?_of_block f).ah (e i s g).1,(cell?_of_block f).ah (e i s g).2⟩⟩
theorem AS.K{g:Zh}{k:Dv}(h:AS w w.1.size a k)(j:Tn V w g)(m:∀p,a=some p->p.block<w.1.size->p.block∉V):AS g g.1.size a k:=by
 rcases h with h|⟨b,l,rfl,c,d⟩
 .exact .inl h
 .have e:=j.block b c (m _ rfl c);exact .inr ⟨b,l,rfl,Zr c j.size,λi s f=>⟨(cell?_of_block e).ah (d i s f).1,(cell?_of_block e).ah (d i s f).2.1,(cell?_of_block e).ah (d i s f).2.2⟩⟩
open Classical in
noncomputable def shQ (ph:Int) (ks:List Kd) (qs ms:Zl) (s:Zi):Zl:=if ¬ph=0/\Am ks s/\¬s∈ms/\¬qs.length=23200 then qs++[s]else qs
theorem YS{a:Zl}(e:¬d=0)(f:Am b s)(g:¬s∈c)(h:¬a.length=23200):shQ d b a c s=a++[s]:=if_pos ⟨e,f,g,h⟩
theorem Kc{a:Zl}(h:d=0\/¬Am b s\/s∈c\/a.length=23200):shQ d b a c s=a:=if_neg (λ⟨h1,h2,h3,h4⟩=>by rcases h with h|h|h|h;exact h1 h;exact h h2;exact h3 h;exact h4 h)
open Classical in
theorem QX(wd O n f:Int)(a:Zk)(sc:Nat)(P L:D4)(m:Dj)(s:Zi)(d t r B:Int)(g h S K:Nat)(b c:Zl)(w:Zh)(q:AW w w.1.size a m)(zG:m.length<=1048576)(I:Af w w.1.size (some ⟨g,0,none⟩) b)(F:Af w w.1.size (some ⟨h,0,none⟩) c)(hf:Ss b c)(zZ:b.length<=23200):
 D8 155 #[.agg #[Zg wd,Zg O,Zg n,Zg f,C3 a m.length sc,P,L],.agg (Ya d (some ⟨g,0,none⟩) b.length S (some ⟨h,0,none⟩) c.length K t r B),C4 s] w λe i=>∃x D y z,e=C5 (.agg (Ya d (some ⟨x,0,none⟩) ((shQ d m b c s).length) D (some ⟨y,0,none⟩) c.length z t r B))/\
  i.ownsRow w.1.size 9 1 (Yz x (shQ d m b c s).length D) (shQ d m b c s).length ((shQ d m b c s).map string)/\i.ownsRow w.1.size 9 1 (Yz y c.length z) c.length (c.map string)/\x≠y/\Zz w i:=by
 have⟨i0,hi,zI,zJ,zK⟩:=info_parts CC;have zX:=hf.q;have zF:=hf.m;have⟨W,l⟩:=Ae (((w.alloc (.cells #[Zg wd,Zg O,Zg n,Zg f,C1 a m sc,P,L] 27)).alloc (.cells (Ya d (some ⟨g,0,none⟩) b.length S (some ⟨h,0,none⟩) c.length K t r B) 98)).alloc (.cells Xv 98));have C:Below w.1.size w W:=by rw[l];exact((Zy).alloc Yu _).alloc Yt _
 have N:CH W (w.1.size+1+1) 0 Zb Zb 0 0 0:=by rw[l];exact⟨by simp[go_sem],by simp[go_sem],by simp[go_sem],by simp[go_sem],by simp[go_sem],by simp[go_sem],Yu⟩
 have M:CH W (w.1.size+1) d (C7 g b S) (C7 h c K) t r B:=by rw[l];exact⟨by simp[go_sem],by simp[go_sem],by simp[go_sem],by simp[go_sem],by simp[go_sem],by simp[go_sem],Ym⟩
 have x0:Aw W w.1.size wd O n f (C1 a m sc) P L:=by rw[l];exact⟨by simp[go_sem],by simp[go_sem],by simp[go_sem],by simp[go_sem],by simp[go_sem],by simp[go_sem],by simp[go_sem],Ym⟩
 have E:∀o,W.frozen? ⟨w.1.size+1+1,o,none⟩=false:=λo=>by rw[l];simp[go_sem]
 have yB:W.1.size=w.1.size+3:=by rw[l];simp
 have A:=Yw l;have J:=Yw (Zn I F);have j:=Yw q;have G:=Yw M;have H:=Yw N;have i:=Yw C;clear l I F q M N;have⟨Z,a1,a2,a3,a4,a5,Y⟩:=G.o;obtain⟨M,N,Q,R,U,X,k,u⟩:=x0;have V:Below W.1.size W W:=Below.refl _ _;go_enter func155,ntmps155;go_upto_region 1 with fail;rw[<-A.o];clear A;by_cases p0:d=0
 case' pos=>
  have HN:Hid (shQ d m b c s=b):=Kc (.inl p0);have zN:(d==0)=true:=D2 p0
  clear M N Q R U X k u p0;obtain⟨F,rfl⟩:=Ae W
 case' neg=>
  have zN:(d==0)=false:=D2 p0
  go_wp2_with fail;refine(Dk wd O n f a sc P L m s W w.1.size (AW.A j C) C.size zG).aj ?_;rintro e F ⟨rfl,l⟩;have q:=Yw (i.ah (l.aj i.size));have I:=Yw (CH.A G l);have A:=Yw (CH.A H l);have T:∀o,F.frozen? ⟨w.1.size+1+1,o,none⟩=false:=λo=>(l.frozen (p:=⟨w.1.size+1+1,o,none⟩) Ym).ah (E o);have yA:=l.size
  clear Z a1 a2 a3 a4 a5 Y M N Q R U X k u G H i E l V C;have i:=Yw q.o;have H:=Yw A.o;have E:=T;clear q A T;have⟨Z,a1,a2,a3,a4,a5,Y⟩:=I.o;rcases CP m s with⟨l,C⟩|⟨fi,fu,l,A,q⟩
  case' inl=>
   have HN:Hid (shQ d m b c s=b):=Kc (.inr (.inl C));rw[l];clear C
  case' inr=>
   have C:Am m s:=⟨fu,Zs A,q⟩;rw[l];have zS:decide ((fi:Int)<0)=false:=Yu
   clear l A q;have q:=Yw (Fq (some ⟨h,0,none⟩) K c s F F.1.size (Af.T (w:=w) J.2 i) zF);go_wp2_with fail;refine q.Ai ?_;rintro e A ⟨rfl,l⟩;rw[l];clear l q A;by_cases hin:s∈c
   case' pos=>
    have HN:Hid (shQ d m b c s=b):=Kc (.inr (.inr (.inl hin)));have l:c.any (λx=>decide (x=s))=true:=any_eq_true.2 ⟨s,hin,Yu⟩;rw[l];clear l hin
   case' neg=>
    have l:c.any (λx=>decide (x=s))=false:=by rw[any_eq_false];intro x hx e;exact hin (D2 ((of_decide_eq_true e)▸hx))
    rw[l];clear l;by_cases p1:b.length=23200
    case' pos=>
     have HN:Hid (shQ d m b c s=b):=Kc (.inr (.inr (.inr p1)));have zO:decide ((23200:Int)<=(b.length:Int))=true:=Yt
     clear p1
    case' neg=>
     have zO:decide ((23200:Int)<=(b.length:Int))=false:=Yt
     have HN:Hid (shQ d m b c s=b++[s]):=YS p0 C hin p1;clear C hin;go_wp2_with fail;refine(KT d t r B g h S K b c F (Af.T J.1 i) (Af.T J.2 i) hf).aj ?_;rintro e G ⟨x,D,y,z,rfl,Q,R,X,A⟩;have lx:=Q.lt x rfl;have ly:=R.lt y rfl;have zA:=A.size;have⟨q,N⟩:=D6 G (Ya d (some ⟨x,0,none⟩) b.length D (some ⟨y,0,none⟩) c.length z t r B) 98
     have M:Below G.1.size G q:=by rw[N];exact Zy
     have l:=A.ah (M.aj zA);have C:Hid (q.ownsRow (w.1.size+3) 9 1 (C7 x b D) b.length (b.map string)/\q.ownsRow (w.1.size+3) 9 1 (C7 y c z) c.length (c.map string)/\x≠y/\Zz w q):=⟨(OS Q M).aj Yv,(OS R M).aj Yv,X,i.ah (l.aj i.size)⟩;have H8:Hid (CH q G.1.size d (C7 x b D) (C7 y c z) t r B):=by show CH q G.1.size d (C7 x b D) (C7 y c z) t r B;rw[N];exact CH.new _ _ _ _ _ _ _ _
     have H2:=Yw (CH.A H l);have U:∀o,q.frozen? ⟨w.1.size+1+1,o,none⟩=false:=λo=>(l.frozen (p:=⟨w.1.size+1+1,o,none⟩) Ym).ah (E o);have f8:∀o,q.frozen? ⟨G.1.size,o,none⟩=false:=λo=>by rw[N];simp[go_sem]
     have k:q.1.size=G.1.size+1:=by rw[N];simp
     go_upto_region 4 with fail;rw[<-N];clear N M Q R A l E I H i J j Z a1 a2 a3 a4 a5 Y;have E:=U;clear U;generalize G.1.size=b7 at *
     have zV:w.1.size+3<=b7:=Yv
     have zW:b7<q.1.size:=Yv
     clear k;have⟨c0,c1,c2,c3,c4,c5,c6⟩:=H8.o;have⟨d0,d1,d2,d3,d4,d5,d6⟩:=H2.o;go_wp2_with (first
      |(at_builtin;refine wpList_append_lies _ rfl _ _ 28 rfl (w.1.size+3) 9 i0 Zc 1 16 underlying28 hi zI zJ zK rfl Yq _ b.length (b.map string) rfl ?d0 ⟨q.1.size,0,none⟩ 1 1 [C4 s] rfl rfl ?d1 ?d2 Yq ?d3 ?d4 ?d5 _ rfl ?_)
      |go_in)
     case d0=>exact C.1.alloc _
     case d1=>exact cell_one_new q (C4 s) 9
     case d2=>intro u hu;simp at hu;subst hu;rfl
     case d3=>unfold maxLen;omega
     case d4=>omega
     case d5=>simp;omega
     intro k N M zC U V zR;have I:Below q.1.size q (q.alloc (.cells #[C4 s] 9)):=Zy;have zM:=U.size;simp[ownBlock]at zM V;have l:(q.alloc (.cells #[C4 s] 9)).grownBy M (some x):=by simpa [ownBlock]using U
     have r7:=(CH.A H8 I).grown l Yv;have r2:=(CH.A H2 I).grown l Yv;have zT:∀o,M.frozen? ⟨b7,o,none⟩=false:=λo=>(l.frozen_far ⟨b7,o,none⟩ Ym Ym).ah ((I.frozen (p:=⟨b7,o,none⟩) Ym).ah (f8 o))
     have T:∀o,M.frozen? ⟨w.1.size+1+1,o,none⟩=false:=λo=>(l.frozen_far ⟨w.1.size+1+1,o,none⟩ Ym Ym).ah ((I.frozen (p:=⟨w.1.size+1+1,o,none⟩) Ym).ah (E o));have zE:M.ownsRow (w.1.size+3) 9 1 (C7 y c z) c.length (c.map string):=(C.2.1.alloc _).kept l (.inr (by simp[ownBlock];omega))
     have zB:Below w.1.size w M:=(C.2.2.2.ah (I.aj C.2.2.2.size)).grown l Yt (λj Y=>by cases Y;omega);have zH:k≠y:=Yv
     have zY:¬k=b7:=Yv
     have zU:¬b7=w.1.size+1+1:=Yv
     have zP:¬w.1.size+1+1=b7:=Yv
     have j:M.ownsRow (w.1.size+3) 9 1 (Yz k (b.length+1) N) (b.length+1) ((b++[s]).map string):=D2 zC
     have Y:=Yw (Zn j (Zn zE (Zn zH zB)));obtain⟨c0,c1,c2,c3,c4,c5,c6⟩:=r7;obtain⟨d0,d1,d2,d3,d4,d5,d6⟩:=r2;clear zC j zE U l zB I f8 E H8 H2 C;go_wp2;refine C0 (.agg (Ya d (some ⟨k,0,none⟩) (b.length+1) N (some ⟨y,0,none⟩) c.length z t r B)) (by simp[results,results155,go_sem,d0,d1,d2,d3,d4,d5]) ?_;rw[HN.o];refine⟨k,N,y,z,Yu,?_,?_,Y.2.2.1,?_⟩
     .rw[show(b++[s]).length=b.length+1 by simp];refine ownsRow.aj ?_ (show w.1.size<=w.1.size+3 by omega)
      iterate 6 (refine ownsRow_setCell_below ?_ Yu _)
      refine ownsRow_setCell_other ?_ (by simp[ownBlock];omega) _;exact Y.1
     .refine ownsRow.aj ?_ (show w.1.size<=w.1.size+3 by omega)
      iterate 6 (refine ownsRow_setCell_below ?_ Yu _)
      refine ownsRow_setCell_other ?_ (by simp[ownBlock];omega) _;exact Y.2.1
     .iterate 7 (refine Below.setCell ?_ Ym _)
      exact Y.2.2.2
 all_goals
  go_wp2_with fail;refine(KT d t r B g h S K b c F (Af.T J.1 i) (Af.T J.2 i) hf).aj ?_;rintro e G ⟨x,D,y,z,rfl,Q,R,X,A⟩;have C:=Yw (Zn (Q.aj (show w.1.size+3<=F.1.size by omega)) (Zn (R.aj (show w.1.size+3<=F.1.size by omega)) (Zn X (i.ah (A.aj i.size)))));have⟨d0,d1,d2,d3,d4,d5,d6⟩:=CH.A H A
  have l:∀o,G.frozen? ⟨w.1.size+1+1,o,none⟩=false:=λo=>(A.frozen (p:=⟨w.1.size+1+1,o,none⟩) Ym).ah (E o);clear Q R A Z a1 a2 a3 a4 a5 E;go_wp2;refine C0 (.agg (Ya d (some ⟨x,0,none⟩) b.length D (some ⟨y,0,none⟩) c.length z t r B)) (by simp[results,results155,go_sem,d0,d1,d2,d3,d4,d5]) ?_;rw[HN.o];refine⟨x,D,y,z,rfl,?_,?_,C.2.2.1,?_⟩
  .refine ownsRow.aj ?_ (show w.1.size<=w.1.size+3 by omega)
   iterate 6 (refine ownsRow_setCell_below ?_ Yu _)
   exact C.1
  .refine ownsRow.aj ?_ (show w.1.size<=w.1.size+3 by omega)
   iterate 6 (refine ownsRow_setCell_below ?_ Yu _)
   exact C.2.1
  .iterate 6 (refine Below.setCell ?_ Ym _)
   exact C.2.2.2
