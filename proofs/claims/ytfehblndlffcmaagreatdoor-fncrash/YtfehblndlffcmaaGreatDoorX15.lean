import Derived.Test.YtfehblndlffcmaaGreatDoorX04
import Derived.Test.YtfehblndlffcmaaGreatDoorX05
import Derived.Test.YtfehblndlffcmaaGreatDoorX06
set_option maxRecDepth 100000
set_option maxHeartbeats 16000000
open Go.RowKit renaming Below->bs
open Go.Obj renaming cells->ca
open List renaming length->eh
open Go.World renaming ownsRow->eo
namespace Go.Proofs.YtfehblndlffcmaaGreatDoor
open ChangeShapes WideShapes ChangeAt RowKit _root_.Go.Proofs.Tryz List World Value
variable{a:C9}{k B g:Nat}{w d:Zh}
theorem Ts{a:Da}{x:Ld}(n:Int)(c:a[k]?=some x):AT (a.take (k+1)) n=AT (a.take k) n++(if x.bj<=n then []else [x]):=by obtain⟨b,rfl⟩:=Zw c;unfold AT;rw[Zu b,filter_append];by_cases h:a[k].bj<=n<;>simp[h]
def Vq(w w':Zh)(e:Ending)(wd now given births:Int)(T P:Value)(ls:List Ld)(ticks:Int):Prop:=
 bs w.1.size w w'/\((1000000000<now+ticks/\e=.returned (.agg #[Zg 4,Ze,Ze,Ze,Ze,Zb,Zb,Zb,Zc,Ze,Zc,Zc]))\/
  (now+ticks<=1000000000/\∃g c,e=.returned (.agg #[Ze,Zg wd,Zg (now+ticks),Zg given,Zg births,T,P,.slice (some ⟨g,0,none⟩) (eh (AT ls (now+ticks))) c,Zc,Ze,Zc,Zc])/\eo w' w.1.size 83 3 (.slice (some ⟨g,0,none⟩) (eh (AT ls (now+ticks))) c) (eh (AT ls (now+ticks))) (Ad lC (AT ls (now+ticks)))))
theorem Tt(t b f d:Int)(p m:Zk){z:Zk}(s r o n B:Nat){h:Da}(a:Int)(j:AR w w.1.size z h)(hl:eh h<=1000)(zC:0<=b)(zE:b<=1000000000)(zG:0<=a)(zH:a<=1000000000):
 D8 82 #[.agg (Yg t b f d p s r m o n z (eh h) B),Zg a] w λe l=>Vq w l e t b f d (C3 p s r) (C3 m o n) h a:=by
 have⟨W,u⟩:=Ag ((w.alloc (ca (Yg t b f d p s r m o n z (eh h) B) 30)).alloc (ca Yd 42));obtain⟨y,M,A⟩:=(AQ u).1,(AQ u).2.1,(AQ u).2.2.1;have I:Aa W (w.1.size+1) z12:=by have h1:=Aa.new (w.alloc (ca (Yg t b f d p s r m o n z (eh h) B) 30)) z12 42;rw[Ao]at h1;rw[u];exact h1
 have zO:=Ie zC zE zG zH;have F:=Yw u;by_cases hbig:1000000000<b+a
 .obtain⟨⟨⟨Q,q0⟩,⟨R,q1⟩,⟨S,q2⟩,⟨T,q3⟩,⟨U,q4⟩,⟨Z,q5⟩,⟨y6,q6⟩,⟨y7,q7⟩,⟨y8,q8⟩,⟨y9,q9⟩,⟨D,zI⟩,E,zJ⟩,⟨O,_⟩,HB,l⟩:=Bv I,A 1 _ rfl,Yw y,Yw hbig;clear u A I j y M;delta D8;go_in;go_upto_region 1 with fail;rw[<-F.o];clear F;go_wp2;refine C1 (.agg (Yc 4)) Kt ?_;exact⟨HB.ag (Tn.A (BB W (w.1.size+1) _ _ _ _ _ _ _ _ _ _ _ _) HB.size (by intro v P;simp at P;omega)),.inl ⟨l,rfl⟩⟩
 obtain⟨X,G⟩:=D7 W (w.1.size) 1 (Zg (b+a));have H:Tn [w.1.size] W X:=by rw[G];exact AX _ _ _ _
 have C:w.1.size+2<=X.1.size:=Dl H.size;have g:Aa X w.1.size (Yh t (b+a) f d p s r m o n z (eh h) B):=by rw[G];exact A.set 1 _
 have i:=Aa.same I (H.block _ Yv Yu);have N:Hid (∀Y,bs (w.1.size+2) X Y->Aa Y w.1.size (Yh t (b+a) f d p s r m o n z (eh h) B)/\Aa Y (w.1.size+1) z12):=λY J=>⟨Aa.same g (J.block _ Yv),Aa.same i (J.block _ Yv)⟩;have L:=Yw G;have HR:=Yw j;have zA:=Yw (y.ag (H.A y.size Yu));have l:=Yw (Int.not_lt.1 hbig);have c:bs X.1.size X (X.alloc (ca #[] 83)):=Zy;have K:Hid (eo (X.alloc (ca #[] 83)) (w.1.size+2) 83 3 (Yz X.1.size 0 0) 0 []):=ownsRow_lit (base:=w.1.size+2) (e:=83) (size:=3) X #[] 0 C Yo rfl;have J:Hid (bs (w.1.size+2) X (X.alloc (ca #[] 83))):=c.ai C;obtain⟨O,k⟩:=A 1 _ rfl;clear u G M A I g i j y c H;delta D8;go_in;go_upto_region 1 with fail;rw[<-F.o];clear F;go_upto_region 4 with fail;rw[<-L.o];clear L O k;go_wp2;go_loopw [5,6] (λv i wr=>∃(k g c:Nat),k<=eh h/\i=Zg k/\v=Yz g (eh (AT (h.take k) (b+a))) c/\Hid (eo wr (w.1.size+2) 83 3 (Yz g (eh (AT (h.take k) (b+a))) c) (eh (AT (h.take k) (b+a))) (Ad lC (AT (h.take k) (b+a)))/\bs (w.1.size+2) X wr)) (λ_ i _=>eh h -(intOf i).toNat)
 case atStart=>exact⟨0,X.1.size,0,Aq _,rfl,by simp[AT],⟨by simpa [AT,Ad]using K.o,J⟩⟩
 clear K J;obtain⟨k,g,c,hk,rfl,rfl,j⟩:=hrel;obtain⟨y,K,v0,v1,v2,v3,v4,v5,v6,v7⟩:=zA.ag (j.2.ai Yv),Zm C j.2.size,Bi (N _ j.2).1;by_cases hlt:k<eh h
 case neg=>
  obtain rfl:k=eh h:=Yv;have hO:=j.1;rw[Zt (Zx)]at hO |-;obtain⟨J,H,⟨⟨Q,q0⟩,⟨R,q1⟩,⟨S,q2⟩,⟨T,q3⟩,⟨U,q4⟩,⟨Z,q5⟩,⟨y6,q6⟩,⟨y7,q7⟩,⟨y8,q8⟩,⟨y9,q9⟩,⟨D,zI⟩,E,zJ⟩,e⟩:=Yw hO,Yw y,Bv (N _ j.2).2,((N _ j.2).1 6 _ rfl).2;clear hO y j;go_wp2;refine C1 (.agg #[Ze,Zg t,Zg (b+a),Zg f,Zg d,C3 p s r,C3 m o n,Yz g (eh (AT h (b+a))) c,Zc,Ze,Zc,Zc]) Kt ?_;have j:=(Tn.set (V:=[w.1.size,w.1.size+1]) wr w.1.size 6 (Yz g (eh (AT h (b+a))) c) Yu).ag (Tn.ai (BB (wr.setCell (Zd (w.1.size) 6) (Yz g (eh (AT h (b+a))) c)) (w.1.size+1) Ze (Zg t) (Zg (b+a)) (Zg f) (Zg d) (C3 p s r) (C3 m o n) (Yz g (eh (AT h (b+a))) c) Zc Ze Zc Zc) Yu);exact⟨H.ag (j.A H.size (by intro v P;simp at P;omega)),.inr ⟨l,g,c,rfl,(Ar J (λq F=>j.block q (Ac J F).2 (by have:=(Ac J F).1;simp;omega))).ai Yv⟩⟩
 obtain⟨b',zP,ha,hb,u⟩:=(AR.A HR y).at hlt;subst ha;have M:=Yw (Zv hlt);obtain⟨c0,O,c2⟩:=u k _ M;have I:=Yw (Ts (b+a) M);have zM:eh (AT (h.take k) (b+a))<=1000:=by have:=length_filter_le (λx:Ld=> !decide (x.bj<=(b+a))) (h.take k);unfold AT;rw[C0]at this;omega
 have zK:b'<wr.1.size:=Dl y.size;have zN:(k:Int)<eh h:=Yv;clear u;generalize h[k]=x at *
 generalize hGk:AT (h.take k) (b+a)=gk at *
 clear hGk;by_cases hxn:x.bj<=(b+a)
 .have F:decide ((b+a)<x.bj)=false:=Yt;have A:Hid (AT (h.take (k+1)) (b+a)=gk):=by show _=_;rw[I.o,if_pos hxn,append_nil]
  clear hxn;have G:Hid (eo wr.drew (w.1.size+2) 83 3 (Yz g (eh gk) c) (eh gk) (Ad lC gk)/\bs (w.1.size+2) X wr.drew):=⟨Ah j.1 (Ae.drew),j.2.drew⟩;clear j;go_upto_region 8 with fail;go_region_with fail
  all_goals
   go_wp2;exact⟨⟨k+1,g,c,Yv,Yn,by rw[A.o],⟨by rw[A.o];exact G.1,G.2⟩⟩,Ys⟩
 have F:decide ((b+a)<x.bj)=true:=Yt;have A:Hid (AT (h.take (k+1)) (b+a)=gk++[x]):=by show _=_;rw[I.o,if_neg hxn]
 clear hxn;obtain⟨Y,u,w8,zF,J,H,zB⟩:=OH wr.drew (w.1.size+2) _ gk (Ah j.1 (Ae.drew)) x Yv K 28;have i:=Ae.grown H K (λq e=>(Ac j.1 e).1);have L:Hid (eo w8 (w.1.size+2) 83 3 (Yz Y (eh gk+1) u) (eh (gk++[x])) (Ad lC (gk++[x]))/\bs (w.1.size+2) X w8):=⟨J,j.2.drew.ag i⟩;clear J H zB i j;go_upto_region 8 with fail;go_region_with fail
 all_goals
  go_wp2_with (at_builtin;first|(refine wpList_append_run rfl _ _ 28 28 rfl rfl rfl zF ?_));go_wp2;exact⟨⟨k+1,Y,u,Yv,Yn,by rw[A.o,Am];rfl,⟨by rw[A.o,Am];exact Am▸L.1,L.2⟩⟩,Ys⟩
theorem EY.ah{A:Addr}(h:EY w A a)(n:Br w B (some A) a)(l:bs B w d):EY d A a:=λi k c=>by have⟨g,o,m⟩:=h i k c;have⟨b,f,j,e,_⟩:=n.at (Zw c).1;cases j;exact⟨g,o,(l.cell (p:=⟨b,f+i *4+3,none⟩) e).ag m⟩
theorem FY.ah{A:Addr}(h:FY w A a)(m:Br w B (some A) a)(j:bs B w d):FY d A a:=λi k c n l=>by have⟨b,f,g,e,_⟩:=m.at (Zw c).1;cases g;exact h i k c n ((j.cell (p:=⟨b,f+i *4+3,none⟩) e).symm.ag l)
theorem UT.A{e:Zh}{c:Nat}{d:Zj}{b:C9}(h:UT w c g d b)(a:Zz w e):UT e c g d b:=
 ⟨h.len,Ah h.ak a,λi k r f j=>Ah (h.D i k r f j) a,h.sm,h.inc⟩
theorem UT.db{d:Zj}{c:C9}(h:UT w k g d c):∀b∈d.filterMap ownBlock,b<w.1.size:=λb a=>by
 have⟨x,j,f⟩:=mem_filterMap.1 a;have⟨i,a⟩:=A9 j;have e:i<eh c:=by rw[<-h.len];exact(Zw a).1
 exact(Ac (h.D i _ x (Zv e) a) f).2
open Classical in
noncomputable def shQ (ph:Int) (ks:List Kd) (qs ms:Zl) (s:Zi):Zl:=if ¬ph=0/\AA ks s/\¬s∈ms/\¬eh qs=23200 then qs++[s]else qs
