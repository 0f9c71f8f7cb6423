import Derived.Test.YtdofmfnmackjhaaGreatDoorX17
import Derived.Test.YtdofmfnmackjhaaGreatDoorX18
set_option maxRecDepth 100000
set_option maxHeartbeats 16000000
namespace Go.Proofs.YtdofmfnmackjhaaGreatDoor
open ChangeShapes WideShapes ChangeAt RowKit _root_.Go.Proofs.Tryz List World Value
theorem Ra(d:Nat)(V:List Nat)(q:Int)(s r y:Zi)(m:Int)(t:Zk)(x u:Nat)(E:Int->Zi->Zi->Prop)(B:Zi->Int->Zh->Prop)(w:Zh)(D:∀b∈V,b<w.1.size)(p:∀i g X k R l,B i g X->X.1[R]?=some (.cells l 36)->w.1.size<=R->Tn [R] X k->B i g k)(h:∀X,Zz w X->D8 62 #[Yy d,.agg (Yd q s r m y t x u)] X fun e j=>(∃c a b,E c a b/\e=.panicked [{v:=Cl c a b,recovered:=false}]/\Tn V X j)\/(∃i g,e=C5 (.agg #[Ze,Ze,Ze,Ze,Ze,Zb,Zb,Zb,C4 i,Zg g,Zc,Zc])/\B i g j/\Tn V X j)):
 D8 26 #[Yy d,.agg (Yd q s r m y t x u)] w fun e j=>(∃c a b,E c a b/\e=C5 (.agg (BE c a b).toArray)/\Tn V w j)\/(∃i g,e=C5 (.agg #[Ze,Ze,Ze,Ze,Ze,Zb,Zb,Zb,C4 i,Zg g,Zc,Zc])/\B i g j/\Tn V w j):=by
 suffices hs:∀Q:Ending->Zh->Prop,(∀c a b j,E c a b->Tn V w j->Q (.returned (.agg (BE c a b).toArray)) j)->(∀i g j,B i g j->Tn V w j->Q (.returned (.agg #[Ze,Ze,Ze,Ze,Ze,Zb,Zb,Zb,C4 i,Zg g,Zc,Zc])) j)->D8 26 #[Yy d,.agg (Yd q s r m y t x u)] w Q from
  hs _ (fun c a b j o k=> .inl ⟨c,a,b,o,rfl,k⟩) (fun i g j o k=> .inr ⟨i,g,rfl,o,k⟩)
 intro Q k l;have zA:=Yw k;have zB:=Yw l;clear k l;have k:∀(fn:Fn) (first cap:Array Value) (w:Zh),(Instr.makeFunc fn first cap).run prog w=.ok (.func fn first cap) w:=fun _ _ _ _=>rfl;have⟨W,k⟩:=Ae ((w.alloc (.cells (Yd q s r m y t x u) 32)).alloc (.cells Xz 36));have A:=(Bi k).1;have z:=(Bi k).2.1;have F:=(Bi k).2.2.1;have H:Aa W (w.1.size+1) z12:=by have o:=Aa.new (w.alloc (.cells (Yd q s r m y t x u) 32)) z12 36;rw[Al]at o;rw[k];exact o
 have l:W.1[w.1.size+1]?=some (.cells Xz 36):=by have:=heap_alloc_new (w.alloc (.cells (Yd q s r m y t x u) 32)) (.cells Xz 36);rw[Al]at this;rw[k];exact this
 obtain⟨T,U,Y,Z,R,X⟩:=Aa.c6 F 0 1 2 3 4 5;have G:=Yw (h W A);have C:=Yw k;have n:=Yw (Za H (Za l (Za A z)));have HV:=Yw D;have zC:=Yw p;clear k H z F h l A D p
 go_enter_defers func26,ntmps26
 go_upto_region 1 with fail;rw[<-C.o];clear C;go_wp2_with fail;refine G.Ai ?_;intro e w1 zE;have zz:=n.2.2.2;have p:w.1.size+1∉V:=fun h=>by have:=HV _ h;omega
 obtain⟨c,a,b,F,rfl,l⟩|⟨i,g,rfl,hy,l⟩:=zE
 .have z:=Aa.same n.1 (l.block _ Yv p);clear T U Y Z R X G;refine leaves_cons (f:=61) (args:= #[Yy (w.1.size+1)]) Yu (by simp[go_sem]) ?_;refine(QQ (w.1.size+1) c a b w1 z).mono ?_;rintro e u' j ⟨rfl,rfl,k,ht⟩;have H:=(k 0 _ rfl).1;have I:=(k 1 _ rfl).1;have J:=(k 2 _ rfl).1;have K:=(k 3 _ rfl).1;have L:=(k 4 _ rfl).1;have M:=(k 5 _ rfl).1;have N:=(k 6 _ rfl).1
  have O:=(k 7 _ rfl).1;have P:=(k 8 _ rfl).1;have S:=(k 9 _ rfl).1;have C:=(k 10 _ rfl).1;have D:=(k 11 _ rfl).1;have A:Hid (E c a b/\Tn V w j):=⟨F,Tn.fresh ((Tn.of n.2.2.1).trans l) ht Yv⟩;clear k ht F;simp[Leaves,settle,results,results26,go_sem,H,I,J,K,L,M,N,O,P,S,C,D];exact zA c a b _ A.1 A.2
 .have z:=Aa.same n.1 (l.block _ Yv p);have k:=(l.block _ Yv p).trans n.2.1;have F:=Yw (Zn hy (Zn l k));have⟨⟨H,q0⟩,⟨I,q1⟩,⟨J,q2⟩,⟨K,q3⟩,⟨L,q4⟩,⟨M,q5⟩,⟨N,q6⟩,⟨O,q7⟩,⟨P,q8⟩,⟨S,q9⟩,⟨C,zF⟩,D,zG⟩:=Bf z;clear hy l z k T U Y Z R X G zz p;go_wp2;refine leaves_cons (f:=61) (args:= #[Yy (w.1.size+1)]) Yu (by simp[go_sem]) ?_;refine(SB ⟨w.1.size+1,0,none⟩ _).mono ?_
  rintro e u' j ⟨rfl,rfl,rfl⟩;have k:=Yw (Bs w1 (w.1.size+1) Ze Ze Ze Ze Ze Zb Zb Zb (C4 i) (Zg g) Zc Zc);have A:=Yw (Zn (zC i g _ _ _ _ F.1 F.2.2 Yv k) (Tn.fresh ((Tn.of n.2.2.1).trans F.2.1) k Yv));simp[Leaves,settle,results,results26,go_sem,H,I,J,K,L,M,N,O,P,S,C,D];exact zB i g _ A.1 A.2
theorem Tf{a:Dv}{k:Nat}{x:Ld}(n:Int)(c:a[k]?=some x):AT (a.take (k+1)) n=AT (a.take k) n++(if x.S<=n then []else [x]):=by obtain⟨b,rfl⟩:=Zw c;unfold AT;rw[Zu b,filter_append];by_cases h:a[k].S<=n<;>simp[h]
def UK(w w':Zh)(e:Ending)(wd now given births:Int)(T P:Value)(ls:List Ld)(ticks:Int):Prop:=
 Below w.1.size w w'/\((1000000000<now+ticks/\e=.returned (.agg #[Zg 4,Ze,Ze,Ze,Ze,Zb,Zb,Zb,Zc,Ze,Zc,Zc]))\/
  (now+ticks<=1000000000/\∃g c,e=.returned (.agg #[Ze,Zg wd,Zg (now+ticks),Zg given,Zg births,T,P,.slice (some ⟨g,0,none⟩) (AT ls (now+ticks)).length c,Zc,Ze,Zc,Zc])/\w'.ownsRow w.1.size 73 3 (.slice (some ⟨g,0,none⟩) (AT ls (now+ticks)).length c) (AT ls (now+ticks)).length (Ab lC (AT ls (now+ticks)))))
theorem Tg(t b f d:Int)(p m z:Zk)(s r o n B:Nat)(h:Dv)(a:Int)(w:Zh)(j:AS w w.1.size z h)(hl:h.length<=1000)(zC:0<=b)(zE:b<=1000000000)(zG:0<=a)(zH:a<=1000000000):
 D8 75 #[.agg (Yg t b f d p s r m o n z h.length B),Zg a] w λe l=>UK w l e t b f d (C3 p s r) (C3 m o n) h a:=by
 have⟨W,u⟩:=Ae ((w.alloc (.cells (Yg t b f d p s r m o n z h.length B) 27)).alloc (.cells Xz 36));have y:=(Bi u).1;have M:=(Bi u).2.1;have A:=(Bi u).2.2.1;have I:Aa W (w.1.size+1) z12:=by have h1:=Aa.new (w.alloc (.cells (Yg t b f d p s r m o n z h.length B) 27)) z12 36;rw[Al]at h1;rw[u];exact h1
 have zP:=Hj zC zE zG zH;have F:=Yw u;by_cases hbig:1000000000<b+a
 .obtain⟨⟨Q,q0⟩,⟨R,q1⟩,⟨S,q2⟩,⟨T,q3⟩,⟨U,q4⟩,⟨Z,q5⟩,⟨y6,q6⟩,⟨y7,q7⟩,⟨y8,q8⟩,⟨y9,q9⟩,⟨D,zI⟩,E,zJ⟩:=Bf I;obtain⟨O,_⟩:=A 1 _ rfl;have HB:=Yw y;have l:=Yw hbig;clear u A I j y M;go_enter func75,ntmps75;go_upto_region 1 with fail;rw[<-F.o];clear F;go_wp2;refine C0 (.agg (Xy 4)) (by simp[results,results75,go_sem,Q,R,S,T,U,Z,y6,y7,y8,y9,D,E]) ?_
  exact⟨HB.ah (Tn.A (Bs W (w.1.size+1) _ _ _ _ _ _ _ _ _ _ _ _) HB.size (by intro v P;simp at P;omega)),.inl ⟨l,rfl⟩⟩
 .obtain⟨X,G⟩:=D7 W (w.1.size) 1 (Zg (b+a));have H:Tn [w.1.size] W X:=by rw[G];exact AP _ _ _ _
  have C:w.1.size+2<=X.1.size:=Dz H.size
  have g:Aa X w.1.size (Yh t (b+a) f d p s r m o n z h.length B):=by rw[G];exact A.set 1 _
  have i:=Aa.same I (H.block _ Yv Yu);have N:Hid (∀Y,Below (w.1.size+2) X Y->Aa Y w.1.size (Yh t (b+a) f d p s r m o n z h.length B)/\Aa Y (w.1.size+1) z12):=λY J=>⟨Aa.same g (J.block _ Yv),Aa.same i (J.block _ Yv)⟩;have L:=Yw G;have HR:=Yw j;have zA:=Yw (y.ah (H.A y.size Yu));have l:=Yw (Int.not_lt.1 hbig)
  have c:Below X.1.size X (X.alloc (.cells #[] 73)):=Zy;have K:Hid ((X.alloc (.cells #[] 73)).ownsRow (w.1.size+2) 73 3 (Yz X.1.size 0 0) 0 []):=ownsRow_lit (base:=w.1.size+2) (e:=73) (size:=3) X #[] 0 C Yo rfl;have J:Hid (Below (w.1.size+2) X (X.alloc (.cells #[] 73))):=c.aj C;obtain⟨O,k⟩:=A 1 _ rfl;clear u G M A I g i j y c H;go_enter func75,ntmps75
  go_upto_region 1 with fail;rw[<-F.o];clear F;go_upto_region 4 with fail;rw[<-L.o];clear L O k;go_wp2
  go_loopw [5,6] (λv i wr=>∃(k g c:Nat),k<=h.length/\i=Zg k/\v=Yz g (AT (h.take k) (b+a)).length c/\Hid (wr.ownsRow (w.1.size+2) 73 3 (Yz g (AT (h.take k) (b+a)).length c) (AT (h.take k) (b+a)).length (Ab lC (AT (h.take k) (b+a)))/\Below (w.1.size+2) X wr)) (λ_ i _=>h.length -(intOf i).toNat)
  case atStart=>exact⟨0,X.1.size,0,Az _,rfl,by simp[AT],⟨by simpa [AT,Ab]using K.o,J⟩⟩
  case round=>
   clear K J;obtain⟨k,g,c,hk,rfl,rfl,j⟩:=hrel;have y:=zA.ah (j.2.aj Yv);have K:=Zm C j.2.size;obtain⟨v0,v1,v2,v3,v4,v5,v6,v7⟩:=Be (N _ j.2).1;by_cases hlt:k<h.length
   .obtain⟨b',zR,ha,hb,u⟩:=(AS.A HR y).at hlt;subst ha;have i:=Yw (Zv hlt);obtain⟨c0,O,c2⟩:=u k _ i;have I:=Yw (Tf (b+a) i);have zN:(AT (h.take k) (b+a)).length<=1000:=by have:=length_filter_le (λx:Ld=> !decide (x.S<=(b+a))) (h.take k);unfold AT;rw[Ct]at this;omega
    have zK:b'<wr.1.size:=Dz y.size
    have zO:(k:Int)<h.length:=Yv
    clear u;generalize h[k]=x at *
    generalize hGk:AT (h.take k) (b+a)=gk at *
    have zM:=Yw hGk;clear hGk;by_cases hxn:x.S<=(b+a)
    .have F:decide ((b+a)<x.S)=false:=Yt
     have A:Hid (AT (h.take (k+1)) (b+a)=gk):=by show _=_;rw[I.o,if_pos hxn,append_nil]
     clear hxn;have G:Hid (wr.drew.ownsRow (w.1.size+2) 73 3 (Yz g gk.length c) gk.length (Ab lC gk)/\Below (w.1.size+2) X wr.drew):=⟨Ah j.1 (Ad.drew),j.2.drew⟩;clear j;go_upto_region 8 with fail;go_region_with fail
     all_goals
      go_wp2;exact⟨⟨k+1,g,c,Yv,Yn,by rw[A.o],⟨by rw[A.o];exact G.1,G.2⟩⟩,Ys⟩
    .have F:decide ((b+a)<x.S)=true:=Yt
     have A:Hid (AT (h.take (k+1)) (b+a)=gk++[x]):=by show _=_;rw[I.o,if_neg hxn]
     clear hxn;obtain⟨Y,u,w8,zF,J,H,zB⟩:=OM wr.drew (w.1.size+2) _ gk (Ah j.1 (Ad.drew)) x Yv K 25;have L:=Ad.grown H K (λq e=>(Ac j.1 e).1);have M:Hid (w8.ownsRow (w.1.size+2) 73 3 (Yz Y (gk.length+1) u) (gk++[x]).length (Ab lC (gk++[x]))/\Below (w.1.size+2) X w8):=⟨J,j.2.drew.ah L⟩;clear J H zB L j;go_upto_region 8 with fail
     go_region_with fail
     all_goals
      go_wp2_with (at_builtin;first|(refine wpList_append_run rfl _ _ 25 25 rfl rfl rfl zF ?_));go_wp2;exact⟨⟨k+1,Y,u,Yv,Yn,by rw[A.o,Ak];rfl,⟨by rw[A.o,Ak];exact Ak▸M.1,M.2⟩⟩,Ys⟩
   .obtain rfl:k=h.length:=Yv
    have L:=j.1;rw[Zt (Zx)]at L |-;have J:=Yw L;have H:=Yw y;obtain⟨⟨Q,q0⟩,⟨R,q1⟩,⟨S,q2⟩,⟨T,q3⟩,⟨U,q4⟩,⟨Z,q5⟩,⟨y6,q6⟩,⟨y7,q7⟩,⟨y8,q8⟩,⟨y9,q9⟩,⟨D,zI⟩,E,zJ⟩:=Bf (N _ j.2).2;have e:=((N _ j.2).1 6 _ rfl).2;clear L y j;go_wp2
    refine C0 (.agg #[Ze,Zg t,Zg (b+a),Zg f,Zg d,C3 p s r,C3 m o n,Yz g (AT h (b+a)).length c,Zc,Ze,Zc,Zc]) (by simp[results,results75,go_sem,Q,R,S,T,U,Z,y6,y7,y8,y9,D,E]) ?_
    have j:=(Tn.set (V:=[w.1.size,w.1.size+1]) wr w.1.size 6 (Yz g (AT h (b+a)).length c) Yu).ah (Tn.aj (Bs (wr.setCell (Zd (w.1.size) 6) (Yz g (AT h (b+a)).length c)) (w.1.size+1) Ze (Zg t) (Zg (b+a)) (Zg f) (Zg d) (C3 p s r) (C3 m o n) (Yz g (AT h (b+a)).length c) Zc Ze Zc Zc) Yu)
    exact⟨H.ah (j.A H.size (by intro v P;simp at P;omega)),.inr ⟨l,g,c,rfl,(As J (λq F=>j.block q (Ac J F).2 (by have:=(Ac J F).1;simp;omega))).aj Yv⟩⟩
