import Derived.Test.YtcankpdbabaacaaGreatDoorX25
import Derived.Test.YtcankpdbabaacaaGreatDoorX13
set_option maxRecDepth 100000
set_option maxHeartbeats 16000000
namespace Go.Proofs.YtcankpdbabaacaaGreatDoor
open Go.ChangeShapes Go.WideShapes Go.ChangeAt Go.RowKit _root_.Go.Proofs.Tryz
variable{ls:List Ld}{n g c base size q b B tc:Nat}{a:Va}{w w' X:Zh}{e:TypeId}{v:Vd}{ps:List Pd}{T P L:Value}{ta:Zk}{V:List Nat}
theorem SR{k:Nat}{x:Ld}(n:Int)(c:ls[k]?=some x):AN (ls.take (k+1)) n=AN (ls.take k) n++(if x.bg<=n then []else [x]):=by obtain⟨a,rfl⟩:=Zw c;unfold AN;rw[Zu a,List.filter_append];by_cases h:ls[k].bg<=n<;>simp[h]
def US(w w':Zh)(e:Ending)(wd now given births:Int)(T P:Value)(ls:List Ld)(ticks:Int):Prop:=
 Below w.heap.size w w'/\((1000000000<now+ticks/\e=.returned (.agg #[Zg 4,Zf,Zf,Zf,Zf,Zc,Zc,Zc,Zd,Zf,Zd,Zd]))\/
  (now+ticks<=1000000000/\∃g c,e=.returned (.agg #[Zf,Zg wd,Zg (now+ticks),Zg given,Zg births,T,P,.slice (some ⟨g,0,none⟩) (AN ls (now+ticks)).length c,Zd,Zf,Zd,Zd])/\w'.ownsRow w.heap.size 164 3 (.slice (some ⟨g,0,none⟩) (AN ls (now+ticks)).length c) (AN ls (now+ticks)).length (Ab lC (AN ls (now+ticks)))))
theorem SV(wd now given births:Int)(ta pa la:Zk)(tn tc j pc lc:Nat)(ls:List Ld)(a:Int)(w:Zh)(h:AI w w.heap.size la ls)(hl:ls.length<=1000)(zC:0<=now)(zE:now<=1000000000)(zG:0<=a)(zH:a<=1000000000):
 Calls prog 142 #[.agg (Yi wd now given births ta tn tc pa j pc la ls.length lc),Zg a] w fun e w'=>US w w' e wd now given births (.slice ta tn tc) (.slice pa j pc) ls a:=by
 obtain⟨W,l⟩:∃W,W=(w.alloc (.cells (Yi wd now given births ta tn tc pa j pc la ls.length lc) 40)).alloc (.cells Yg 88):=⟨_,rfl⟩;have p:=(Bo l).1;have N:=(Bo l).2.1;have r:=(Bo l).2.2.1;have D:Aa W (w.heap.size+1) z12:=by have h1:=Aa.new (w.alloc (.cells (Yi wd now given births ta tn tc pa j pc la ls.length lc) 40)) z12 88;rw[World.size_alloc]at h1;rw[l];exact h1
 have zP:=Ho zC zE zG zH;have z:=Yx l;by_cases hbig:1000000000<now+a
 .obtain⟨⟨U,q0⟩,⟨Z,q1⟩,⟨y2,q2⟩,⟨y3,q3⟩,⟨y4,q4⟩,⟨y5,q5⟩,⟨y6,q6⟩,⟨y7,q7⟩,⟨y8,q8⟩,⟨y9,q9⟩,⟨u,zI⟩,y,zJ⟩:=AY D;obtain⟨R,_⟩:=r 1 _ rfl;have HB:=Yx p;have f:=Yx hbig;clear l r D h p N;go_enter func142,ntmps142;go_upto_region 1 with fail;rw[<-z.o];clear z;go_wp2;refine bodyPost_ret (v:=.agg (Yf 4)) (by simp[results,results142,go_sem,U,Z,y2,y3,y4,y5,y6,y7,y8,y9,u,y]) rfl ?_
  exact⟨HB.o.trans (Tn.below (Bd W (w.heap.size+1) _ _ _ _ _ _ _ _ _ _ _ _) HB.o.size (by intro v T;simp at T;omega)),.inl ⟨f.o,rfl⟩⟩
 .obtain⟨X,A⟩:∃X,X=W.setCell (Ze (w.heap.size) 1) (Zg (now+a)):=⟨_,rfl⟩;have C:Tn [w.heap.size] W X:=by rw[A];exact AM _ _ _ _
  have t:w.heap.size+2<=X.heap.size:=by have:=C.size;omega
  have u0:Aa X w.heap.size (Yj wd (now+a) given births ta tn tc pa j pc la ls.length lc):=by rw[A];exact r.set 1 _
  have u1:=Aa.same D (C.block _ Yw Yv);have Q:Hid (∀Y,Below (w.heap.size+2) X Y->Aa Y w.heap.size (Yj wd (now+a) given births ta tn tc pa j pc la ls.length lc)/\Aa Y (w.heap.size+1) z12):=fun Y hY=>⟨Aa.same u0 (hY.block _ Yw),Aa.same u1 (hY.block _ Yw)⟩;have J:=Yx A;have HR:=Yx h;have zA:=Yx (p.trans (C.below p.size Yv));have f:=Yx (Int.not_lt.1 hbig)
  have bA:Below X.heap.size X (X.alloc (.cells #[] 164)):=Zy;have H:Hid ((X.alloc (.cells #[] 164)).ownsRow (w.heap.size+2) 164 3 (Za X.heap.size 0 0) 0 []):=World.ownsRow_lit (base:=w.heap.size+2) (e:=164) (size:=3) X #[] 0 t Yq rfl;have E:Hid (Below (w.heap.size+2) X (X.alloc (.cells #[] 164))):=bA.mono t;obtain⟨R,f1⟩:=r 1 _ rfl;clear l A N r D u0 u1 h p bA C
  go_enter func142,ntmps142;go_upto_region 1 with fail;rw[<-z.o];clear z;go_upto_region 4 with fail;rw[<-J.o];clear J R f1;go_wp2
  go_loopw [5,6] (fun v i wr=>∃(k g c:Nat),k<=ls.length/\i=Zg k/\v=Za g (AN (ls.take k) (now+a)).length c/\Hid (wr.ownsRow (w.heap.size+2) 164 3 (Za g (AN (ls.take k) (now+a)).length c) (AN (ls.take k) (now+a)).length (Ab lC (AN (ls.take k) (now+a)))/\Below (w.heap.size+2) X wr)) (fun _ i _=>ls.length -(intOf i).toNat)
  case atStart=>exact⟨0,X.heap.size,0,Nat.zero_le _,rfl,by simp[AN],⟨by simpa [AN,Ab]using H.o,E.o⟩⟩
  case round=>
   clear H E;obtain⟨k,g,c,hk,rfl,rfl,d⟩:=hrel;have n:=zA.o.trans (d.o.2.mono Yw);have O:=Zm t d.o.2.size;obtain⟨v0,v1,v2,v3,v4,v5,v6,v7⟩:=AR (Q.o _ d.o.2).1;by_cases hlt:k<ls.length
   .obtain⟨b',zR,ha,hb,K⟩:=(AI.below HR.o n).at hlt;subst ha;have HG:=Yx (Zv hlt);obtain⟨c0,R,c2⟩:=K k _ HG.o;have I:=Yx (SR (now+a) HG.o);have zN:(AN (ls.take k) (now+a)).length<=1000:=by have:=List.length_filter_le (fun x:Ld=> !decide (x.bg<=(now+a))) (ls.take k);unfold AN;rw[List.length_take]at this;omega
    have zK:b'<wr.heap.size:=by have:=n.size;omega
    have zO:(k:Int)<ls.length:=Yw
    clear K;generalize ls[k]=x at *
    generalize hGk:AN (ls.take k) (now+a)=gk at *
    have zM:=Yx hGk;clear hGk;by_cases hxn:x.bg<=(now+a)
    .have B:decide ((now+a)<x.bg)=false:=Yu
     have o:Hid (AN (ls.take (k+1)) (now+a)=gk):=by show _=_;rw[I.o,if_pos hxn,List.append_nil]
     clear hxn;have F:Hid (wr.drew.ownsRow (w.heap.size+2) 164 3 (Za g gk.length c) gk.length (Ab lC gk)/\Below (w.heap.size+2) X wr.drew):=⟨Ae d.o.1 ((Below.refl _ _).drew),d.o.2.drew⟩;clear d;go_upto_region 8 with fail;go_region_with fail
     all_goals
      go_wp2;exact⟨⟨k+1,g,c,Yw,Yp,by rw[o.o],⟨by rw[o.o];exact F.o.1,F.o.2⟩⟩,by simp[intOf];omega⟩
    .have B:decide ((now+a)<x.bg)=true:=Yu
     have o:Hid (AN (ls.take (k+1)) (now+a)=gk++[x]):=by show _=_;rw[I.o,if_neg hxn]
     clear hxn;obtain⟨g8,m,w8,zF,M,L,zB⟩:=Oi wr.drew (w.heap.size+2) _ gk (Ae d.o.1 ((Below.refl _ _).drew)) x Yw O 38;have b8:=(Below.refl _ _).grown L O (fun q e=>(Ac d.o.1 e).1);have H8:Hid (w8.ownsRow (w.heap.size+2) 164 3 (Za g8 (gk.length+1) m) (gk++[x]).length (Ab lC (gk++[x]))/\Below (w.heap.size+2) X w8):=⟨M,d.o.2.drew.trans b8⟩;clear M L zB b8 d;go_upto_region 8 with fail
     go_region_with fail
     all_goals
      go_wp2_with (at_builtin;first|(refine wpList_append_run rfl _ _ 38 38 rfl rfl rfl zF ?_));go_wp2;exact⟨⟨k+1,g8,m,Yw,Yp,by rw[o.o,List.length_append];rfl,⟨by rw[o.o,List.length_append];exact List.length_append▸H8.o.1,H8.o.2⟩⟩,by simp[intOf];omega⟩
   .obtain rfl:k=ls.length:=Yw
    have S:=d.o.1;rw[Zt (Zx)]at S |-;have P:=Yx S;have G:=Yx n;obtain⟨⟨U,q0⟩,⟨Z,q1⟩,⟨y2,q2⟩,⟨y3,q3⟩,⟨y4,q4⟩,⟨y5,q5⟩,⟨y6,q6⟩,⟨y7,q7⟩,⟨y8,q8⟩,⟨y9,q9⟩,⟨u,zI⟩,y,zJ⟩:=AY (Q.o _ d.o.2).2;have f6:=((Q.o _ d.o.2).1 6 _ rfl).2;clear S n d;go_wp2
    refine bodyPost_ret (v:=.agg #[Zf,Zg wd,Zg (now+a),Zg given,Zg births,.slice ta tn tc,.slice pa j pc,Za g (AN ls (now+a)).length c,Zd,Zf,Zd,Zd]) (by simp[results,results142,go_sem,U,Z,y2,y3,y4,y5,y6,y7,y8,y9,u,y]) rfl ?_
    have T':=(Tn.set (V:=[w.heap.size,w.heap.size+1]) wr w.heap.size 6 (Za g (AN ls (now+a)).length c) Yv).trans (Tn.mono (Bd (wr.setCell (Ze (w.heap.size) 6) (Za g (AN ls (now+a)).length c)) (w.heap.size+1) Zf (Zg wd) (Zg (now+a)) (Zg given) (Zg births) (.slice ta tn tc) (.slice pa j pc) (Za g (AN ls (now+a)).length c) Zd Zf Zd Zd) Yv)
    exact⟨G.o.trans (T'.below G.o.size (by intro v T;simp at T;omega)),.inr ⟨f.o,g,c,rfl,(Ak P.o (fun q B=>T'.block q (Ac P.o B).2 (by have:=(Ac P.o B).1;simp;omega))).mono Yw⟩⟩
section
structure CT (w:Zh) (base b:Nat) (ta pa la:Zk) (pc lc:Nat) (zs:List (Kd×Value)) (ps:List Pd) (ls:List Ld):Prop where
 tb:ta=some ⟨b,0,none⟩\/zs=[]
 z:Bk w b 0 zs
 bl:b<w.heap.size
 po:w.ownsRow base 163 2 (.slice pa ps.length pc) ps.length (Ab pC ps)
 lo:w.ownsRow base 164 3 (.slice la ls.length lc) ls.length (Ab lC ls)
 lb:base<=w.heap.size
 bL:some b≠(Value.slice la ls.length lc).ownBlock
 pL:∀g,(Value.slice pa ps.length pc).ownBlock=some g->(Value.slice la ls.length lc).ownBlock≠some g
 zL:∀z∈zs,∀ad n rc,z.2=.slice (some ad) n rc->z.1.B≠[]->some ad.block≠(Value.slice la ls.length lc).ownBlock
 zb:zs=[]\/base<=b
 zr:∀z∈zs,∀ad n rc,z.2=.slice (some ad) n rc->z.1.B≠[]->base<=ad.block
def Ns(base:Nat)(L:Value)(wd now given births:Int)(ks:List Kd)(ps:List Pd)(ls:List Ld)(kd:Int)(s nm:Zi)(num:Int)(text:Zi)(refs:Zl)(w:Zh)(e:Ending)(w':Zh):Prop:=
 Tn L.ownBlock.toList w w'/\(
  (∃c a b,GJ wd now given births ks ps ls kd s nm num text refs c a b/\e=.returned (.agg (Cq c a b).toArray))\/
  (∃r b1 ta1 tc1 zs1 pa1 pc1 la1 lc1,FO wd now given births ks ps ls kd s nm num text refs r/\e=.returned (.agg #[Zf,Zg wd,Zg r.F,Zg r.G,Zg r.E,.slice ta1 r.A.length tc1,.slice pa1 r.ps.length pc1,.slice la1 r.ls.length lc1,.string r.sm,Zg r.le,Zd,Zd])/\zs1.map (·.1)=r.A/\CT w' base b1 ta1 pa1 la1 pc1 lc1 zs1 r.ps r.ls))
section
variable {w w':Zh} {base b:Nat} {ta pa la:Zk} {pc lc:Nat} {zs:List (Kd×Value)} {ps:List Pd} {ls:List Ld}
theorem CT.below(h:CT w base b ta pa la pc lc zs ps ls)(a:Zz w w'):CT w' base b ta pa la pc lc zs ps ls:=
 ⟨h.tb,h.z.below a h.bl,Zr h.bl a.size,Ae h.po a,Ae h.lo a,Zm h.lb a.size,h.bL,h.pL,h.zL,h.zb,h.zr⟩
theorem CT.dm(h:CT w base b ta pa la pc lc zs ps ls):By w w.heap.size ta (zs.map (·.1)):=by
 rcases h.tb with e|e
 .rw[e];exact h.z.dm h.bl
 .rw[e];exact .inl rfl
theorem CT.gm(h:CT w base b ta pa la pc lc zs ps ls):AG w w.heap.size pa ps:=AG.own h.po
theorem CT.gi(h:CT w base b ta pa la pc lc zs ps ls):AI w w.heap.size la ls:=AI.own h.lo
theorem CT.ia(h:CT w base b ta pa la pc lc zs ps ls){a:List Pd}(d:w.ownsRow n 163 2 (Za g a.length c) a.length (Ab pC a))(i:base<=n)(f:∀q,(Value.slice la ls.length lc).ownBlock=some q->q<n):CT w base b ta (some ⟨g,0,none⟩) la c lc zs a ls:=
 ⟨h.tb,h.z,h.bl,d.mono i,h.lo,h.lb,h.bL,fun q j e=>by have k:=(Ac d j).1;have l:=f q e;omega,h.zL,h.zb,h.zr⟩
theorem CT.gz(h:CT w base b ta pa la pc lc zs ps ls){a:List Ld}(f:w.ownsRow n 164 3 (Za g a.length c) a.length (Ab lC a))(o:base<=n)(u:b<n)(p:∀q,(Value.slice pa ps.length pc).ownBlock=some q->q<n)(t:∀z∈zs,∀d m rc,z.2=.slice (some d) m rc->z.1.B≠[]->d.block<n):CT w base b ta pa (some ⟨g,0,none⟩) pc c zs ps a:=by
 have v:=(Ac f (g:=g) rfl).1;refine⟨h.tb,h.z,h.bl,h.po,f.mono o,h.lb,fun e=> ?_,fun q r e=> ?_,fun z i d m rc j k e=> ?_,h.zb,h.zr⟩
 .have:b=g:=by simpa [Value.ownBlock]using e
  omega
 .have l:g=q:=by simpa [Value.ownBlock]using e
  have:=p q r;omega
 .have l:d.block=g:=by simpa [Value.ownBlock]using e
  have:=t z i d m rc j k;omega
theorem CT.cf(h:CT w base b ta pa la pc lc zs ps ls):(∀q,(Value.slice pa ps.length pc).ownBlock=some q->q<w.heap.size)/\(∀q,(Value.slice la ls.length lc).ownBlock=some q->q<w.heap.size)/\∀z∈zs,∀c m rc,z.2=.slice (some c) m rc->z.1.B≠[]->c.block<w.heap.size:=
 ⟨fun _ a=>(Ac h.po a).2,fun _ a=>(Ac h.lo a).2,fun _ f _ _ _ d e=>h.z.bu f d e⟩
theorem Kn{a:Zk}{m:Nat}{i:Zj}(h:w.ownsRow base e size (.slice a m c) n i)(f:a=none):c=0:=by
 rcases h.2 with⟨d,_⟩|⟨g,cap,j,d,_⟩
 .injection d
 .injection d with e1;rw[f]at e1;cases e1
end
theorem Ec{v:Value}{c:Zj}(h:w.ownsRow base e size v n c)(d:Tn [q] w w')(f:q<base):w'.ownsRow base e size v n c:=
 Ak h (fun g a=>d.block g (Ac h a).2 (by have:=(Ac h a).1;simp;omega))
theorem Nt{v:Value}{c:Zj}(h:w.ownsRow base e size v n c)(f:Tn [q] w w')(d:∀g,v.ownBlock=some g->g≠q):w'.ownsRow base e size v n c:=
 Ak h (fun g a=>f.block g (Ac h a).2 (by simp;exact d g a))
theorem Ck{a:Zh}(c:Zz w X)(d:Zz X w')(e:Tn [w.heap.size+2] w' a):Below w.heap.size w a:=
 (c.trans (d.mono c.size)).trans (e.below (Zm c.size d.size) (by intro v f;simp at f;omega))
theorem NZ(wd now given births f num:Int)(ta pa la ra:Zk)(tc h pc g lc i rc:Nat)(a:List Kd)(s nm text:Zi)(w:Zh)(l:By w w.heap.size ta a)(U:a.length<=1000)(m:¬Av a s):
 Calls prog 138 #[.agg (Yi wd now given births ta a.length tc pa h pc la g lc),.agg (Yh f s nm num text ra i rc)] w fun e w'=>e=.returned (.agg (Cq 2 ⟨#[]⟩ ⟨#[]⟩).toArray)/\Zz w w':=by
 obtain⟨W,c⟩:∃W,W=((w.alloc (.cells (Yi wd now given births ta a.length tc pa h pc la g lc) 40)).alloc (.cells (Yh f s nm num text ra i rc) 66)).alloc (.cells Yg 88):=⟨_,rfl⟩;have j:=(Bq c).1;have q:=(Bq c).2.2.1;have t:Aa W (w.heap.size+1) (Ye f s nm num text ra i rc):=by have d:=Aa.new (w.alloc (.cells (Yi wd now given births ta a.length tc pa h pc la g lc) 40)) (Ye f s nm num text ra i rc) 66;rw[World.size_alloc]at d;rw[c];exact Aa.below d (Zy)
 have r:Aa W (w.heap.size+2) z12:=by have d:=Aa.new ((w.alloc (.cells (Yi wd now given births ta a.length tc pa h pc la g lc) 40)).alloc (.cells (Yh f s nm num text ra i rc) 66)) z12 88;rw[World.size_alloc,World.size_alloc]at d;rw[c];exact d
 have n:=Yx (Fp wd now given births ta tc (.slice pa h pc) (.slice la g lc) a s W w.heap.size (By.below l j) j.size Yw);have T:=IK m;have o:=Yx c;have u:=Yx r;obtain⟨v0,B,C,D,E,F,G,H⟩:=AR q;obtain⟨A,_⟩:=t 1 _ rfl;clear c q r t l m;go_enter func138,ntmps138;go_upto_region 1 with fail;rw[<-o.o];clear o;go_wp2_with fail;refine Calls.mono n.o ?_;rintro e I ⟨rfl,k⟩
 obtain⟨⟨J,Y⟩,⟨K,Z⟩,⟨L,q2⟩,⟨M,q3⟩,⟨N,q4⟩,⟨O,q5⟩,⟨P,q6⟩,⟨Q,q7⟩,⟨R,q8⟩,⟨S,q9⟩,⟨x,V⟩,y,X⟩:=AY (Aa.below (v:=Zf) u.o k);have p:=j.trans (k.mono j.size);generalize CU a s=fi at *
 clear v0 B C D E F G H n A;go_wp2;refine bodyPost_ret (v:=.agg (Cq 2 ⟨#[]⟩ ⟨#[]⟩).toArray) (by simp[results,results138,go_sem,J,K,L,M,N,O,P,Q,R,S,x,y,Cq]) rfl ?_;exact⟨rfl,p.trans (Tn.below (Bd I (w.heap.size+2) _ _ _ _ _ _ _ _ _ _ _ _) p.size (by intro v z;simp at z;omega))⟩
theorem QF{n:Zi}(s:Zi)(h:¬∃x∈ps,x.name=n):(Bl ps n s).length=ps.length+1:=by
 have c:∀(l:List Pd),(¬∃x∈l,x.name=n)->(l.filter (fun x=>less x.name n)).length+(l.filter (fun x=> !(less x.name n)&& !decide (x.name=n))).length=l.length:=by
  intro l;induction l with
  |nil=>intro _;rfl
  |cons x l ih=>intro a;have d:x.name≠n:=fun e=>a ⟨x,Yv,e⟩;have:=ih (fun⟨y,hy,e⟩=>a ⟨y,by simp[hy],e⟩);cases a:less x.name n<;>simp[a,d]<;>omega
 have:=c ps h;unfold Bl;rw[List.length_append,List.length_append];simp;omega
def Adj(wd now given births num:Int)(zs:List (Kd×Value))(ps:List Pd)(ls:List Ld)(s:Zi)(X:Zh)(e:Ending)(w':Zh):Prop:=
 Below X.heap.size X w'/\(((ls.length=200\/given=1000000000)/\e=.returned (.agg (Cq 4 ⟨#[]⟩ ⟨#[]⟩).toArray))\/
  ((ls.length<200/\given<1000000000)/\∃b1 tc1 zs1 p1 pc1 g c,e=.returned (.agg #[Zf,Zg wd,Zg now,Zg (given+1),Zg births,.slice (some ⟨b1,0,none⟩) zs.length tc1,.slice (some ⟨p1,0,none⟩) ps.length pc1,.slice (some ⟨g,0,none⟩) (ls.length+1) c,Zd,Zg (given+1),Zd,Zd])/\zs1.map (·.1)=zs.map (·.1)/\w'.ownsRow X.heap.size 99 4 (.slice (some ⟨b1,0,none⟩) zs1.length tc1) zs1.length (Ab kC zs1)/\(∀z∈zs1,∃g' c',z.2=.slice (some ⟨g',0,none⟩) z.1.B.length c'/\w'.ownsRow X.heap.size 9 1 z.2 z.1.B.length (z.1.B.map Value.string))/\w'.ownsRow X.heap.size 163 2 (.slice (some ⟨p1,0,none⟩) ps.length pc1) ps.length (Ab pC ps)/\w'.ownsRow X.heap.size 164 3 (.slice (some ⟨g,0,none⟩) (ls.length+1) c) (ls++[(⟨given+1,s,now+num⟩:Ld)]).length (Ab lC (ls++[(⟨given+1,s,now+num⟩:Ld)]))/\b1≠g/\p1≠g/\∀z∈zs1,∀ad n rc,z.2=.slice (some ad) n rc->ad.block≠g))
theorem Bk.some{a:Nat}{zs:List (Kd×Value)}(h:Bk w b a zs):Fk w ⟨b,a,none⟩ (zs.map (·.1)):=by intro i k c;rw[List.getElem?_map]at c;obtain⟨z,g,rfl⟩:=Option.map_eq_some_iff.1 c;obtain⟨⟨_,_,_,e⟩,d,rc,f,_⟩:=h i z g;exact⟨d,rc,by rw[e,f]⟩
theorem PB{T P L:Option Nat}{R:List Nat}{l:Nat}(h:(T.toList++(P.toList++(L.toList++R))).Nodup)(a:L=some l):T≠some l/\P≠some l/\l∉R:=by subst a;cases T<;>cases P<;>simp_all<;>grind
section
variable (base:Nat) (wd now given births:Int) (b:Nat) (ta pa la:Zk) (tc pc lc:Nat) (zs:List (Kd×Value)) (ps:List Pd) (ls:List Ld) (s nm text:Zi) (num:Int) (refs:Zl) (ra:Zk) (rc:Nat) (w:Zh)
theorem Wv(h:CT w base b ta pa la pc lc zs ps ls)(m:Il wd now given births (zs.map (·.1)) ps ls 3 num text refs):
 Calls prog 91 #[.agg (Yi wd now given births ta zs.length tc pa ps.length pc la ls.length lc),.agg (Yh 3 s nm num text ra refs.length rc)] w (Ns base (.slice la ls.length lc) wd now given births (zs.map (·.1)) ps ls 3 s nm num text refs w):=by
 refine DC 3 139 _ wd now given births ta pa la zs.length tc ps.length pc ls.length lc s nm text num ra refs.length rc w [] (fun X e w'=>QY X w' e wd now given births (.slice ta zs.length tc) (.slice la ls.length lc) ps nm) _ (.inr (.inr (.inl ⟨rfl,rfl,rfl⟩))) Yv (fun X a _=>Qd wd now given births ta la pa zs.length tc ls.length lc pc ps nm X (h.below a).gm (by have:=m.np;omega)) ?_ ?_
 .rintro X e w' ⟨d,⟨_,rfl⟩|⟨_,g,c,rfl,_⟩⟩
  .exact⟨Tn.of d,_,_,_,_,_,_,_,_,_,_,_,_,_,_,_,_,_,_,rfl⟩
  .exact⟨Tn.of d,_,_,_,_,_,_,_,_,_,_,_,_,_,_,_,_,_,_,rfl⟩
 .rintro X e w' r a t ⟨d,⟨k,rfl⟩|⟨f,g,c,rfl,o⟩⟩ i
  .exact⟨Tn.of (Ck a d i),.inl ⟨5,_,_,.inr ⟨rfl,rfl,.inr (.inl ⟨rfl,k,rfl⟩)⟩,rfl⟩⟩
  .have j:=Ck a d i;have n:=h.below j;have l:=Ec o i Yw;exact⟨Tn.of j,.inr ⟨⟨⟨#[]⟩,0,now,given,births,zs.map (·.1),Ba ps nm,ls⟩,b,ta,tc,zs,_,c,la,lc,.inr (.inr (.inl ⟨rfl,f,rfl⟩)),by rw[List.length_map],rfl,n.ia l (Zm h.lb a.size) (fun q p=>Zr (h.cf.2.1 q p) a.size)⟩⟩
theorem Ww(h:CT w base b ta pa la pc lc zs ps ls)(t:Il wd now given births (zs.map (·.1)) ps ls 5 num text refs):
 Calls prog 91 #[.agg (Yi wd now given births ta zs.length tc pa ps.length pc la ls.length lc),.agg (Yh 5 s nm num text ra refs.length rc)] w (Ns base (.slice la ls.length lc) wd now given births (zs.map (·.1)) ps ls 5 s nm num text refs w):=by
 refine DC 5 141 _ wd now given births ta pa la zs.length tc ps.length pc ls.length lc s nm text num ra refs.length rc w [] (fun X e w'=>TO X w' e wd now given births (.slice ta zs.length tc) (.slice pa ps.length pc) ls num) _ (.inr (.inr (.inr (.inl ⟨rfl,rfl,rfl⟩)))) Yv (fun X d _=>RW wd now given births ta pa la zs.length tc ps.length pc lc ls num X (h.below d).gi (by have:=t.nl;omega)) ?_ ?_
 .rintro X e w' ⟨f,⟨_,rfl⟩|⟨_,g,c,rfl,_⟩⟩
  .exact⟨Tn.of f,_,_,_,_,_,_,_,_,_,_,_,_,_,_,_,_,_,_,rfl⟩
  .exact⟨Tn.of f,_,_,_,_,_,_,_,_,_,_,_,_,_,_,_,_,_,_,rfl⟩
 .rintro X e w' y d l ⟨f,⟨m,rfl⟩|⟨i,g,c,rfl,v⟩⟩ j
  .exact⟨Tn.of (Ck d f j),.inl ⟨5,_,_,.inr ⟨rfl,rfl,.inr (.inr (.inr (.inl ⟨rfl,m,rfl⟩)))⟩,rfl⟩⟩
  .have k:=Ck d f j;have u:=h.below k;have o:=Ec v j Yw;exact⟨Tn.of k,.inr ⟨⟨⟨#[]⟩,0,now,given,births,zs.map (·.1),ps,Bp ls num⟩,b,ta,tc,zs,pa,pc,_,c,.inr (.inr (.inr (.inr (.inl ⟨rfl,i,rfl⟩)))),by rw[List.length_map],rfl,u.gz o (Zm h.lb d.size) (Zr h.bl d.size) (fun q x=>Zr (h.cf.1 q x) d.size) (fun z l a n c p r=>Zr (h.cf.2.2 z l a n c p r) d.size)⟩⟩
theorem Wx(h:CT w base b ta pa la pc lc zs ps ls)(f:Il wd now given births (zs.map (·.1)) ps ls 6 num text refs):
 Calls prog 91 #[.agg (Yi wd now given births ta zs.length tc pa ps.length pc la ls.length lc),.agg (Yh 6 s nm num text ra refs.length rc)] w (Ns base (.slice la ls.length lc) wd now given births (zs.map (·.1)) ps ls 6 s nm num text refs w):=by
 refine DC 6 142 _ wd now given births ta pa la zs.length tc ps.length pc ls.length lc s nm text num ra refs.length rc w [] (fun X e w'=>US X w' e wd now given births (.slice ta zs.length tc) (.slice pa ps.length pc) ls num) _ (.inr (.inr (.inr (.inr (.inl ⟨rfl,rfl,rfl⟩))))) Yv (fun X d _=>SV wd now given births ta pa la zs.length tc ps.length pc lc ls num X (h.below d).gi (by have:=f.nl;omega) f.cw f.cu f.fo f.fy) ?_ ?_
 .rintro X e w' ⟨i,⟨_,rfl⟩|⟨_,g,c,rfl,_⟩⟩
  .exact⟨Tn.of i,_,_,_,_,_,_,_,_,_,_,_,_,_,_,_,_,_,_,rfl⟩
  .exact⟨Tn.of i,_,_,_,_,_,_,_,_,_,_,_,_,_,_,_,_,_,_,rfl⟩
 .rintro X e w' y d m ⟨i,⟨o,rfl⟩|⟨j,g,c,rfl,v⟩⟩ k
  .exact⟨Tn.of (Ck d i k),.inl ⟨4,_,_,.inr ⟨rfl,rfl,.inr (.inr (.inr (.inr (.inl ⟨rfl,o,rfl⟩))))⟩,rfl⟩⟩
  .have l:=Ck d i k;have u:=h.below l;have p:=Ec v k Yw;exact⟨Tn.of l,.inr ⟨⟨⟨#[]⟩,0,now+num,given,births,zs.map (·.1),ps,AN ls (now+num)⟩,b,ta,tc,zs,pa,pc,_,c,.inr (.inr (.inr (.inr (.inr (.inl ⟨rfl,j,rfl⟩))))),by rw[List.length_map],rfl,u.gz p (Zm h.lb d.size) (Zr h.bl d.size) (fun q x=>Zr (h.cf.1 q x) d.size) (fun z m a n c r t=>Zr (h.cf.2.2 z m a n c r t) d.size)⟩⟩
theorem Wy(h:CT w base b ta pa la pc lc zs ps ls)(j:Il wd now given births (zs.map (·.1)) ps ls 2 num text refs):
 Calls prog 91 #[.agg (Yi wd now given births ta zs.length tc pa ps.length pc la ls.length lc),.agg (Yh 2 s nm num text ra refs.length rc)] w (Ns base (.slice la ls.length lc) wd now given births (zs.map (·.1)) ps ls 2 s nm num text refs w):=by
 have m:(zs.map (·.1)).length<=1000:=by have:=j.bx.len;omega
 by_cases hth:Av (zs.map (·.1)) s
 .refine DC 2 138 _ wd now given births ta pa la zs.length tc ps.length pc ls.length lc s nm text num ra refs.length rc w [] (fun X e w'=>WX X w' e wd now given births (.slice ta zs.length tc) (.slice la ls.length lc) ps nm s) _ (.inr (.inl ⟨rfl,rfl,rfl⟩)) Yv (fun X a _=> ?_) ?_ ?_
  .have i:=TR wd now given births 2 num ta pa la ra tc pc lc ls.length refs.length rc (zs.map (·.1)) ps nm s text X (h.below a).dm (h.below a).gm m (by have:=j.np;omega) hth j.bn;rw[List.length_map]at i;exact i
  .rintro X e w' ⟨d,⟨_,rfl⟩|⟨_,g,c,rfl,_⟩⟩
   .exact⟨Tn.of d,_,_,_,_,_,_,_,_,_,_,_,_,_,_,_,_,_,_,rfl⟩
   .exact⟨Tn.of d,_,_,_,_,_,_,_,_,_,_,_,_,_,_,_,_,_,_,rfl⟩
  .rintro X e w' t a A ⟨d,⟨B,rfl⟩|⟨u,g,c,rfl,y⟩⟩ k
   .have o:=Kz ps nm s;have p:¬∃x∈ps,x.name=nm:=fun l=>by have:=o.2 l;have:=j.np;omega
    exact⟨Tn.of (Ck a d k),.inl ⟨4,_,_,.inr ⟨rfl,rfl,.inl ⟨rfl,.inr ⟨hth,p,by have:=o.1;have:=j.np;omega,rfl⟩⟩⟩,rfl⟩⟩
   .have n:=Ck a d k;have v:=h.below n;have r:=Ec y k Yw;have f:(∃x∈ps,x.name=nm)\/ps.length<100:=by
     by_cases l:∃x∈ps,x.name=nm
     .exact .inl l
     .have:=QF s l;exact .inr Yw
    exact⟨Tn.of n,.inr ⟨⟨⟨#[]⟩,0,now,given,births,zs.map (·.1),Bl ps nm s,ls⟩,b,ta,tc,zs,_,c,la,lc,.inr (.inl ⟨rfl,hth,f,rfl⟩),by rw[List.length_map],rfl,v.ia r (Zm h.lb a.size) (fun q z=>Zr (h.cf.2.1 q z) a.size)⟩⟩
 .refine DC 2 138 _ wd now given births ta pa la zs.length tc ps.length pc ls.length lc s nm text num ra refs.length rc w [] (fun X e w'=>e=.returned (.agg (Cq 2 ⟨#[]⟩ ⟨#[]⟩).toArray)/\Zz X w') _ (.inr (.inl ⟨rfl,rfl,rfl⟩)) Yv (fun X a _=> ?_) ?_ ?_
  .have i:=NZ wd now given births 2 num ta pa la ra tc ps.length pc ls.length lc refs.length rc (zs.map (·.1)) s nm text X (h.below a).dm m hth;rw[List.length_map]at i;exact i
  .rintro X e w' ⟨rfl,d⟩;exact⟨Tn.of d,_,_,_,_,_,_,_,_,_,_,_,_,_,_,_,_,_,_,rfl⟩
  .rintro X e w' t a A ⟨rfl,d⟩ k;exact⟨Tn.of (Ck a d k),.inl ⟨2,_,_,.inr ⟨rfl,rfl,.inl ⟨rfl,.inl ⟨hth,rfl⟩⟩⟩,rfl⟩⟩
theorem Wz(h:CT w base b ta pa la pc lc zs ps ls)(j:Il wd now given births (zs.map (·.1)) ps ls 4 num text refs)(zH:∀k∈zs.map (·.1),k.B.length<=30):
 Calls prog 91 #[.agg (Yi wd now given births ta zs.length tc pa ps.length pc la ls.length lc),.agg (Yh 4 s nm num text ra refs.length rc)] w (Ns base (.slice la ls.length lc) wd now given births (zs.map (·.1)) ps ls 4 s nm num text refs w):=by
 have zJ:(zs.map (·.1)).length<=600:=j.bx.len;refine NY wd now given births ta pa la zs.length tc ps.length pc ls.length lc s nm text num ra refs.length rc w (CU (zs.map (·.1)) s) (Adj wd now given births num zs ps ls s) _ (fun X u=> ?_) (fun h0 X u r=> ?_) ?_ ?_ ?_
 .have P:=Fp wd now given births ta tc (.slice pa ps.length pc) (.slice la ls.length lc) (zs.map (·.1)) s X X.heap.size (h.below u).dm (Zx) Yw;rw[List.length_map]at P;exact P
 .have t:=h.below u;have P:=IY wd now given births ta pa la tc pc lc (zs.map (·.1)) ps ls X ⟨t.dm,t.gm,t.gi⟩ (fun A hA=>by
   rcases t.tb with e|e
   .rw[e]at hA;cases hA;exact t.z.some
   .rw[e];intro i k hk;simp at hk) (Kn t.po) (Kn t.lo) zJ j.np j.nl zH
  rw[List.length_map]at P;refine P.mono ?_;rintro e w' ⟨T,P',L',rs,rfl,d,J,m⟩;obtain⟨D,n1,I,rfl⟩:=J T Yv;obtain⟨L,n2,H,rfl⟩:=J P' Yv;obtain⟨K,n3,zR,rfl⟩:=J L' Yv;obtain⟨_,_,o⟩:=As d.aj;obtain⟨_,_,F⟩:=As d.pins;obtain⟨_,_,O⟩:=As d.aq;cases o;cases F;cases O;refine⟨⟨_,_,_,_,_,_,_,_,_,rfl,fun Y C=> ?_⟩,m⟩
  refine(IA wd now given births (some ⟨D,0,none⟩) (some ⟨L,0,none⟩) (some ⟨K,0,none⟩) _ I ps.length H zR X.heap.size ls s num Y (Ae d.aq C) (Zm m.size C.size) (by have:=j.nl;omega) j.bi j.bh j.cw j.cu j.fo j.fy).mono ?_;rintro e w3 ⟨x,V⟩;have zU:X.heap.size<=K:=(Ac d.aq rfl).1
  have zI:Below X.heap.size X w3:=(m.trans (C.mono m.size)).trans (x.below (Zm m.size C.size) (by intro v J;simp[Value.ownBlock]at J;omega));refine⟨zI,?_⟩;rcases V with⟨y,rfl⟩|⟨⟨U,Q⟩,g,c,rfl,ho,S⟩
  .exact .inl ⟨by have:=j.nl;have:=j.bh;omega,rfl⟩
  .have W:=d.nd;rw[FA]at W;unfold Bj at W;obtain⟨n1,n2,n3⟩:=PB W (l:=K) rfl;have f:∀{e:TypeId} {size:Nat} {v:Value} {n:Nat} {xs:Zj},w'.ownsRow X.heap.size e size v n xs->v.ownBlock≠some K->w3.ownsRow X.heap.size e size v n xs:=fun {e size v n xs} ho1 hne=>Ak (Ae ho1 C) (fun q hq=>x.block q (Ac (Ae ho1 C) hq).2 (fun e=>by simp[Value.ownBlock]at e;exact hne (by rw[hq,e])))
   have hlen:((zs.map (·.1)).zip rs).length=zs.length:=by rw[List.length_zip,d.len,List.length_map];omega
   refine .inr ⟨⟨U,Q⟩,D,I,(zs.map (·.1)).zip rs,L,H,g,c,Yv,?_,?_,?_,f d.pins n2,ho,?_,?_,?_⟩
   .rw[List.map_fst_zip (by rw[d.len];exact Zx)]
   .have h2:=f d.aj n1;rw[hlen];rw[List.length_map]at h2;exact h2
   .intro z r;obtain⟨i,p⟩:=List.getElem?_of_mem r;rw[List.getElem?_zip_eq_some]at p;have hr:=d.B i z.1 z.2 p.1 p.2;obtain⟨B,n',N,E⟩:=J z.2 (by simp;exact .inr (.inr (.inr (Zs p.2))));obtain⟨a',zT,zC⟩:=As hr;rw[E]at zC;cases zC;refine⟨B,N,E,f hr (fun e=>n3 ?_)⟩;exact List.mem_filterMap.2 ⟨z.2,Zs p.2,e⟩
   .have q1:=(Ac d.aj (g:=D) rfl).2;have q2:=C.size;rcases S with G|G
    .have o:K=g:=by simpa [Value.ownBlock]using G
     intro e;exact n1 (by simp[Value.ownBlock];omega)
    .omega
   .have q1:=(Ac d.pins (g:=L) rfl).2;have q2:=C.size;rcases S with G|G
    .have o:K=g:=by simpa [Value.ownBlock]using G
     intro e;exact n2 (by simp[Value.ownBlock];omega)
    .omega
   .intro z r a n' N F;obtain⟨i,p⟩:=List.getElem?_of_mem r;rw[List.getElem?_zip_eq_some]at p;have hr:=d.B i z.1 z.2 p.1 p.2;obtain⟨B,m',d',O⟩:=J z.2 (by simp;exact .inr (.inr (.inr (Zs p.2))));rw[O]at F;cases F;have q1:=(Ac hr (g:=B) (by rw[O];rfl)).2;have q2:=C.size;show B≠g;rcases S with G|G
    .have o:K=g:=by simpa [Value.ownBlock]using G
     intro e;exact n3 (List.mem_filterMap.2 ⟨z.2,Zs p.2,by rw[O];simp[Value.ownBlock];omega⟩)
    .omega
 .rintro X e w' u ⟨m,⟨_,rfl⟩|⟨_,D,I,Z,L,H,g,c,rfl,_⟩⟩
  .exact⟨m,_,_,_,_,_,_,_,_,_,_,_,_,_,_,_,_,_,_,rfl⟩
  .exact⟨m,_,_,_,_,_,_,_,_,_,_,_,_,_,_,_,_,_,_,rfl⟩
 .intro zS w' m;have M:¬Av (zs.map (·.1)) s:=fun x=>by obtain⟨i,k,e,_⟩:=Mu x;omega
  exact⟨Tn.of m,.inl ⟨2,_,_,.inr ⟨rfl,rfl,.inr (.inr (.inl ⟨rfl,.inl ⟨M,rfl⟩⟩))⟩,rfl⟩⟩
 .rintro h0 X e w' zG u r ⟨m,hQ⟩ x;have M:Av (zs.map (·.1)) s:=Classical.byContradiction fun hn=>by have:=IK hn;omega
  have hB:=Ck u m x;rcases hQ with⟨y,rfl⟩|⟨⟨U,Q⟩,D,I,Z,L,H,g,c,rfl,hm,hk,zF,zN,V,zA,zB,zO⟩
  .exact⟨Tn.of hB,.inl ⟨4,_,_,.inr ⟨rfl,rfl,.inr (.inr (.inl ⟨rfl,.inr ⟨M,y,rfl⟩⟩))⟩,rfl⟩⟩
  .have R:=Ec hk x Yw;have zM:=Ec zN x Yw;have zE:=Ec V x Yw;have zP:Bk zG D 0 Z:=Bk.own R (fun z r=>by
    obtain⟨B,N,E,ho⟩:=zF z r;rw[E]at ho;exact⟨⟨B,0,none⟩,N,E,Ad.own (Ec ho x Yw)⟩)
   refine⟨Tn.of hB,.inr ⟨⟨⟨#[]⟩,given+1,now,given+1,births,zs.map (·.1),ps,ls++[⟨given+1,s,now+num⟩]⟩,D,some ⟨D,0,none⟩,I,Z,some ⟨L,0,none⟩,H,some ⟨g,0,none⟩,c,.inr (.inr (.inr (.inl ⟨rfl,M,U,Q,rfl⟩))),Yv,hm,⟨.inl rfl,zP,(Ac R rfl).2,zM.mono (Zm h.lb u.size),?_,Zm h.lb hB.size,by simp[Value.ownBlock];exact zA,fun q hq e=> ?_,fun z r a n c o _ e=> ?_,.inr (Zm (Zm h.lb u.size) (Ac R rfl).1),fun z r a n c o _=> ?_⟩⟩⟩
   .have h4:zG.ownsRow X.heap.size 164 3 (Za g (ls++[(⟨given+1,s,now+num⟩:Ld)]).length c) (ls++[(⟨given+1,s,now+num⟩:Ld)]).length (Ab lC (ls++[(⟨given+1,s,now+num⟩:Ld)])):=by rw[List.length_append]at zE |-;exact zE
    exact h4.mono (Zm h.lb u.size)
   .have o:L=q:=by simpa [Value.ownBlock]using hq
    have F:g=q:=by simpa [Value.ownBlock]using e
    exact zB (o.trans F.symm)
   .have F:a.block=g:=by simpa [Value.ownBlock]using e
    exact zO z r a n c o F
   .obtain⟨B,N,E,zK⟩:=zF z r;rw[E]at o;cases o;have q1:=(Ac zK (g:=B) (by rw[E];rfl)).1;have q2:=h.lb;have q3:=u.size;show base<=B;omega
theorem WA(h:CT w base b ta pa la pc lc zs ps ls)(o:Il wd now given births (zs.map (·.1)) ps ls 7 num text refs):
 Calls prog 91 #[.agg (Yi wd now given births ta zs.length tc pa ps.length pc la ls.length lc),.agg (Yh 7 s nm num text ra refs.length rc)] w (Ns base (.slice la ls.length lc) wd now given births (zs.map (·.1)) ps ls 7 s nm num text refs w):=by
 have v:=o.bx.len;have y:zs.length<=600:=by rwa[List.length_map]at v
 by_cases hth:Av (zs.map (·.1)) s
 .obtain rfl:ta=some ⟨b,0,none⟩:=h.tb.resolve_right (fun e=>by obtain⟨u,hu,_⟩:=hth;rw[e]at hu;simp at hu)
  refine DC 7 53 _ wd now given births (some ⟨b,0,none⟩) pa la zs.length tc ps.length pc ls.length lc s nm text num ra refs.length rc w [] (fun X e w'=>QX X w' e wd now given births (.slice pa ps.length pc) (.slice la ls.length lc) zs ps ls s) _ (.inr (.inr (.inr (.inr (.inr (⟨rfl,rfl,rfl⟩)))))) Yv (fun X d _=>LI wd now given births b 0 tc pc lc pa la zs ps ls s X (h.below d).z (h.below d).bl (h.below d).gm (h.below d).gi y o.np o.nl (fun z i=>(o.bx.B z.1 (List.mem_map.2 ⟨z,i,rfl⟩)).1) hth) ?_ ?_
  .rintro X e w' ⟨f,⟨_,rfl⟩|⟨_,g,c,rfl,_⟩⟩
   .exact⟨Tn.of f,_,_,_,_,_,_,_,_,_,_,_,_,_,_,_,_,_,_,rfl⟩
   .exact⟨Tn.of f,_,_,_,_,_,_,_,_,_,_,_,_,_,_,_,_,_,_,rfl⟩
  .rintro X e w' B d i ⟨f,⟨p,rfl⟩|⟨l,g,c,rfl,A,F,q⟩⟩ k
   .exact⟨Tn.of (Ck d f k),.inl ⟨6,_,_,.inr ⟨rfl,rfl,.inr (.inr (.inr (.inr (.inr ⟨rfl,.inr ⟨hth,p,rfl⟩⟩))))⟩,rfl⟩⟩
   .have r:=Ck d f k;have j:=h.below r;have x:=A.Y k q Yu (fun z i a n c C D t=>by
     simp at t;have:=h.z.bu (List.mem_filter.1 i).1 C D;omega)
    exact⟨Tn.of r,.inr ⟨⟨⟨#[]⟩,0,now,given,births,CB (zs.map (·.1)) s,ps,ls⟩,g,_,c,BB zs s,pa,pc,la,lc,.inr (.inr (.inr (.inr (.inr (.inr ⟨rfl,hth,l,rfl⟩))))),by simp[<-JI],JI zs s,⟨.inl rfl,x,Zr q k.size,j.po,j.lo,j.lb,fun e=>by have m:=h.cf.2.1 g e.symm;have E:=d.size;omega,j.pL,fun z i=>j.zL z (List.mem_filter.1 i).1,.inr (by have m:=h.lb;have E:=d.size;omega),fun z i=>j.zr z (List.mem_filter.1 i).1⟩⟩⟩
 .refine DC 7 53 _ wd now given births ta pa la zs.length tc ps.length pc ls.length lc s nm text num ra refs.length rc w [] (fun X e w'=>e=.returned (.agg (Cq 2 ⟨#[]⟩ ⟨#[]⟩).toArray)/\Zz X w') _ (.inr (.inr (.inr (.inr (.inr (⟨rfl,rfl,rfl⟩)))))) Yv (fun X d _=> ?_) ?_ ?_
  .have m:=Mw wd now given births ta pa la tc ps.length pc ls.length lc (zs.map (·.1)) s X (h.below d).dm Yw hth;rw[List.length_map]at m;exact m
  .rintro X e w' ⟨rfl,f⟩;exact⟨Tn.of f,_,_,_,_,_,_,_,_,_,_,_,_,_,_,_,_,_,_,rfl⟩
  .rintro X e w' B d i ⟨rfl,f⟩ k;exact⟨Tn.of (Ck d f k),.inl ⟨2,_,_,.inr ⟨rfl,rfl,.inr (.inr (.inr (.inr (.inr ⟨rfl,.inl ⟨hth,rfl⟩⟩))))⟩,rfl⟩⟩
theorem WB(h:CT w base b ta pa la pc lc zs ps ls)(d:Il wd now given births (zs.map (·.1)) ps ls 1 num text refs)(hr:Ad w w.heap.size ra refs)(V:ra=none->refs.length=0/\rc=0):
 Calls prog 91 #[.agg (Yi wd now given births ta zs.length tc pa ps.length pc la ls.length lc),.agg (Yh 1 s nm num text ra refs.length rc)] w (Ns base (.slice la ls.length lc) wd now given births (zs.map (·.1)) ps ls 1 s nm num text refs w):=by
 refine DC 1 137 _ wd now given births ta pa la zs.length tc ps.length pc ls.length lc s nm text num ra refs.length rc w (Value.slice la ls.length lc).ownBlock.toList (fun X e w'=>Sc base b wd now given births num zs (.slice pa ps.length pc) (.slice la ls.length lc) ls text refs X e w') _ (.inl ⟨rfl,rfl,rfl⟩) (fun q f=>h.cf.2.1 q (by simpa using f)) (fun X i _=>TU base wd now given births 1 num ta b tc zs pa la ps.length pc lc ls s nm text refs ra rc X ⟨h.tb,V,(h.below i).z,(h.below i).bl,Ae h.lo i,Zm h.lb i.size,h.bL,h.zL,Ad.mono (Ad.below hr i) i.size,d.bx,d.w1,fun z m=>d.cn z.1 (List.mem_map.2 ⟨z,m,rfl⟩),d.jn,d.jh,d.az,d.ai,d.bi,d.bh,d.cw,d.cu,d.fo,d.fy,d.nl⟩) ?_ ?_
 .rintro X e w' ⟨l,⟨c,a,I,_,rfl⟩|⟨u,ai,g,J,F,o,c2,_,_,_,_,rfl,_⟩⟩
  .exact⟨l,_,_,_,_,_,_,_,_,_,_,_,_,_,_,_,_,_,_,rfl⟩
  .exact⟨l,_,_,_,_,_,_,_,_,_,_,_,_,_,_,_,_,_,_,rfl⟩
 .rintro X e w' zC i m ⟨W,hQ⟩ l;have p:=W;have H:=Tn.fresh ((Tn.of i).trans p) l Yw;rcases hQ with⟨c,a,I,T,rfl⟩|⟨u,ai,g,J,F,o,c2,v,x,R,N,rfl,L,zA,y,A,E,B,ho,P,Z⟩
  .exact⟨H,.inl ⟨c,a,I,.inl ⟨rfl,T⟩,rfl⟩⟩
  .have O:g≠w.heap.size+2:=by have:=h.bl;rcases A with⟨e,_⟩|e<;>omega
   have Y:=zA.Y l y (by simp;exact O) (fun z m a n c k G Q=>by
    simp at Q;rcases E z m with t|⟨M,n',zB,r,S⟩
    .have:=h.z.bu t k G;omega
    .rw[k]at r;cases r;omega)
   have zF:o≠w.heap.size+2:=by
    rcases B with e|e
    .have:=h.cf.2.1 o e;omega
    .omega
   have C:=Nt ho l (by intro q f;have:o=q:=by simpa [Value.ownBlock]using f
                       omega)
   have D:=Ae h.po i;have U:=Nt (Ak D (w':=w') (fun q f=>p.block q (Ac D f).2 (fun e=>h.pL q f (by simpa using e)))) l (by intro q f;have:=h.cf.1 q f;omega);have zE:=i.size;have h4:zC.ownsRow base 164 3 (Za o (ls++[(⟨given+1,Bh text refs wd,now+num⟩:Ld)]).length c2) (ls++[(⟨given+1,Bh text refs wd,now+num⟩:Ld)]).length (Ab lC (ls++[(⟨given+1,Bh text refs wd,now+num⟩:Ld)])):=by rw[List.length_append]at C |-;exact C
   refine⟨H,.inr ⟨⟨Bh text refs wd,given+1,now,given+1,ai,u,ps,ls++[⟨given+1,Bh text refs wd,now+num⟩]⟩,g,_,J,F,pa,pc,_,c2,.inl ⟨rfl,v,R,N,u,ai,x,rfl⟩,by simp[<-L],L,⟨.inl rfl,Y,Zr y l.size,U,h4,Zm h.lb H.size,by simp[Value.ownBlock];exact P,fun q f e=> ?_,fun z m a n c j k e=> ?_,?_,fun z m a n c j k=> ?_⟩⟩⟩
   .have j:o=q:=by simpa [Value.ownBlock]using e
    have:=h.cf.1 q f;rcases B with K|K
    .exact h.pL q f (by rw[K,j])
    .omega
   .have G:a.block=o:=by simpa [Value.ownBlock]using e
    exact Z z m a n c j k G
   .rcases A with⟨j,k⟩|j
    .rw[j,k];exact h.zb
    .exact .inr (by have:=h.lb;omega)
   .rcases E z m with t|⟨M,n',zB,r,S⟩
    .exact h.zr z t a n c j k
    .rw[j]at r;cases r;have:=h.lb;omega
theorem QG(a:Int)(h:CT w base b ta pa la pc lc zs ps ls)(c:Il wd now given births (zs.map (·.1)) ps ls a num text refs)(d:∀k∈zs.map (·.1),k.B.length<=30)(f:Ad w w.heap.size ra refs)(e:ra=none->refs.length=0/\rc=0):
 Calls prog 91 #[.agg (Yi wd now given births ta zs.length tc pa ps.length pc la ls.length lc),.agg (Yh a s nm num text ra refs.length rc)] w (Ns base (.slice la ls.length lc) wd now given births (zs.map (·.1)) ps ls a s nm num text refs w):=by
 obtain rfl|rfl|rfl|rfl|rfl|rfl|rfl:a=1\/a=2\/a=3\/a=4\/a=5\/a=6\/a=7:=by have:=c.jk;have:=c.jl;omega
 .exact WB base wd now given births b ta pa la tc pc lc zs ps ls s nm text num refs ra rc w h c f e
 .exact Wy base wd now given births b ta pa la tc pc lc zs ps ls s nm text num refs ra rc w h c
 .exact Wv base wd now given births b ta pa la tc pc lc zs ps ls s nm text num refs ra rc w h c
 .exact Wz base wd now given births b ta pa la tc pc lc zs ps ls s nm text num refs ra rc w h c d
 .exact Ww base wd now given births b ta pa la tc pc lc zs ps ls s nm text num refs ra rc w h c
 .exact Wx base wd now given births b ta pa la tc pc lc zs ps ls s nm text num refs ra rc w h c
 .exact WA base wd now given births b ta pa la tc pc lc zs ps ls s nm text num refs ra rc w h c
end
end
theorem WC{ra:Zk}{rc:Nat}{a:Zl}(h:w.ownsRow base 9 1 (.slice ra a.length rc) a.length (a.map Value.string)):Ad w w.heap.size ra a/\(ra=none->a.length=0/\rc=0):=by
 rcases h.2 with⟨c,d⟩|⟨g,cap,i,c,_,_,f,_⟩
 .injection c with e1 e2 e3;subst e1;exact⟨.inl (List.eq_nil_of_length_eq_zero d),fun _=>⟨d,e3⟩⟩
 .cases c;exact⟨Ad.own h,fun e=>by cases e⟩
theorem CT.low{pa la:Zk}{pc lc:Nat}{zs:List (Kd×Value)}(h:CT w base b ta pa la pc lc zs ps ls)(f:Tn V w w')(j:∀q∈V,q<base):CT w' base b ta pa la pc lc zs ps ls:=by
 have m:∀{e:TypeId} {size:Nat} {v:Value} {n:Nat} {xs:Zj},w.ownsRow base e size v n xs->w'.ownsRow base e size v n xs:=fun h=>Ak h (fun g l=>f.block g (Ac h l).2 (fun e=>by have r:=j g e;have t:=(Ac h l).1;omega));refine⟨h.tb,?_,Zr h.bl f.size,m h.po,m h.lo,Zm h.lb f.size,h.bL,h.pL,h.zL,h.zb,h.zr⟩;rcases h.zb with e|e
 .rw[e];intro i z k;simp at k
 .exact h.z.Y f h.bl (fun d=>by have:=j b d;omega) (fun z k a n c o p d=>by have r:=j _ d;have t:=h.zr z k a n c o p;omega)
theorem Acp{j k l m n o p:Value}(h:Aa w b [j,k,l,m,n,o,p])(a c d e f g i:Value):Aa (((((((w.setCell (Ze b 0) a).setCell (Ze b 1) c).setCell (Ze b 2) d).setCell (Ze b 3) e).setCell (Ze b 4) f).setCell (Ze b 5) g).setCell (Ze b 6) i) b [a,c,d,e,f,g,i]:=
 ((((((h.set 0 a).set 1 c).set 2 d).set 3 e).set 4 f).set 5 g).set 6 i
theorem tn7(w:Zh)(R:Nat)(a c d e f g h:Value):Tn [R] w (((((((w.setCell (Ze R 0) a).setCell (Ze R 1) c).setCell (Ze R 2) d).setCell (Ze R 3) e).setCell (Ze R 4) f).setCell (Ze R 5) g).setCell (Ze R 6) h):=
 ((((((AM _ _ _ _).trans (AM _ _ _ _)).trans (AM _ _ _ _)).trans (AM _ _ _ _)).trans (AM _ _ _ _)).trans (AM _ _ _ _)).trans (AM _ _ _ _)
theorem QH(wd:Int)(a:Zk)(cap:Nat)(f:Zl)(w:Zh)(U:Ad w w.heap.size a f)(hl:f.length<=1048576)(hs:∀s∈f,s.size<=1048576):
 Calls prog 42 #[Zg wd,.slice a f.length cap] w (Adi wd f w):=by
 obtain⟨W,hW⟩:∃W,W=w.alloc (.cells Yg 88):=⟨_,rfl⟩;have Z:=(AA hW).1;have zW:=(AA hW).2.1;have xW:=(AA hW).2.2;have HW:=Yx hW;have d:=Lp wd W;obtain⟨⟨E,q0⟩,⟨F,q1⟩,⟨G,q2⟩,⟨H,q3⟩,⟨I,q4⟩,⟨J,q5⟩,⟨K,q6⟩,⟨L,q7⟩,⟨M,q8⟩,⟨N,q9⟩,⟨o,zG⟩,p,zH⟩:=AY xW;clear hW;by_cases hwd:1<=wd/\wd<=8
 .rw[decide_eq_true hwd]at d;by_cases hlen:f.length<=4000
  .have yR:decide ((4000:Int)<f.length)=false:=Yu
   obtain⟨A,hA⟩:∃A,A=W.alloc (.cells #[Zg wd,Zf,Zf,Zf,Zc,Zc,Zc] 40):=⟨_,rfl⟩;have bA:=(AA hA).1;have zA:A.heap.size=w.heap.size+2:=by rw[hA];simp;omega
   have sA:Aa A (w.heap.size+1) [Zg wd,Zf,Zf,Zf,Zc,Zc,Zc]:=by rw[hA,<-zW];exact Aa.new W _ _
   have xA:=Aa.below (v:=Zf) xW bA;have yQ:=Z.trans (bA.mono Z.size);have P:CT A (w.heap.size+2) w.heap.size none none none 0 0 [] [] []:=⟨.inr rfl,fun i z hz=>by simp at hz,Yw,⟨rfl,.inl ⟨rfl,rfl⟩⟩,⟨rfl,.inl ⟨rfl,rfl⟩⟩,Yw,by simp[Value.ownBlock],fun q hq=>by simp[Value.ownBlock]at hq,fun z hz=>by simp at hz,.inl rfl,fun z hz=>by simp at hz⟩;have t:=Yx d;have HA:=Yx hA
   have H0:=Yx (Zn sA (Zn xA (Zn P yQ)));have zN:Hid (Ad w w.heap.size a f):=U;clear d hA sA xA P bA U;go_enter func42,ntmps42;go_wp2_with fail;rw[<-HW.o];refine Calls.mono t.o ?_;rintro e w1 ⟨rfl,j⟩;replace j:=j.symm;subst j;clear t;go_upto_region 4 with fail;rw[<-HA.o];clear HA E F G H I J K L M N o p q0 q1 q2 q3 q4 q5 q6 q7 q8 q9 zG zH;go_wp2
   go_loopw [6] (fun i wr=>∃(k:Nat) (r:Rs) (b:Nat) (ta pa la:Zk) (tc pc lc:Nat) (zs:List (Kd×Value)),k<=f.length/\i=Zg k/\Hid (Aa wr (w.heap.size+1) (Yj wd r.F r.G r.E ta zs.length tc pa r.ps.length pc la r.ls.length lc)/\Aa wr w.heap.size z12/\CT wr (w.heap.size+2) b ta pa la pc lc zs r.ps r.ls/\zs.map (·.1)=r.A/\Ds wd r0 (f.take k) r/\Zz w wr)) (fun i _=>f.length -(intOf i).toNat)
   case atStart=>exact⟨0,r0,w.heap.size,none,none,none,0,0,0,[],Nat.zero_le _,rfl,⟨H0.o.1,H0.o.2.1,H0.o.2.2.1,rfl,rfl,H0.o.2.2.2⟩⟩
   case round=>
    clear H0;obtain⟨k,r,b,ta,pa,la,tc,pc,lc,zs,hk,rfl,d⟩:=hrel;obtain⟨yC,yD,P,l,g,m⟩:=d.o;by_cases hlt:k<f.length
    .obtain⟨rb,xC,ha,xF,yA⟩:=((zN.o.below m).mono m.size).at hlt;subst ha;have HG:=Yx (Zv hlt);have yS:=hs _ (List.getElem_mem hlt);have c0:=yA k _ HG.o;have yO:=Yx (Zu hlt);clear yA;generalize f[k]=s at *
     have HR:=Yx (Su s wd wr yS);clear yC yD P l g m;go_wp2_with fail;refine Calls.mono HR.o ?_;rintro e w2 ⟨v,rfl,zY,zV⟩;obtain⟨ra,rc,rfl⟩:=As zY;obtain⟨w3,zF⟩:∃X,X=w2.alloc (.cells (Yh ((AE s wd).k) ((AE s wd).sum) ((AE s wd).name) ((AE s wd).n) ((AE s wd).t) ra ((AE s wd).ss.length) rc) 66):=⟨_,rfl⟩;have zU:=(AA zF).1;have b3:=zV.trans (zU.mono zV.size);have e3:=(AA zF).2.2
     have s3:=Aa.below d.o.1 b3;have x3:=Aa.below (v:=Zf) d.o.2.1 b3;have zB:=d.o.2.2.1.below b3;have O:=Yx (d.o.2.2.2.2.2.trans (b3.mono d.o.2.2.2.2.2.size));have zE:=WC (Ae zY zU);have zI:=Yx zF;have xE:(k:Int)<=4000:=Yw
     clear zF HR;cases hok:(AE s wd).ok with
     |false=>
      obtain⟨⟨E,q0⟩,⟨F,q1⟩,⟨G,q2⟩,⟨H,q3⟩,⟨I,q4⟩,⟨J,q5⟩,⟨K,q6⟩,⟨L,q7⟩,⟨M,q8⟩,⟨N,q9⟩,⟨o,zG⟩,p,zH⟩:=AY x3;clear e3 s3 zB zE c0 x3;go_upto_region 8 with fail;rw[<-zI.o];go_wp2;refine bodyPost_ret (v:=.agg #[Zg 7,Zf,Zf,Zf,Zf,Zc,Zc,Zc,Zd,Zg ((k:Int)+1),Zd,Zd]) (by simp[results,results42,go_sem,E,F,G,H,I,J,K,L,M,N,o,p]) rfl ?_
      exact⟨⟨7,0,0,0,0,((k+1:Nat):Int),⟨#[]⟩,⟨#[]⟩,⟨#[]⟩,[],[],[]⟩,_,_,_,[],.inr ⟨⟨hwd,hlen⟩,.inl ⟨k+1,⟨k,r,s,rfl,HG.o,d.o.2.2.2.2.1,.inl hok⟩,rfl⟩⟩,rfl,SB _ _,O.o.trans ((Bd w3 w.heap.size _ _ _ _ _ _ _ _ _ _ _ _).below O.o.size Yv)⟩
     |true=>
      have zZ:=(JR hok).1;have x:=d.o.2.2.2.2.1.ok (GW hwd.1 hwd.2);have l:=d.o.2.2.2.1;have S:Il wd r.F r.G r.E (zs.map (·.1)) r.ps r.ls (AE s wd).k (AE s wd).n (AE s wd).t (AE s wd).ss:=by rw[l];exact Hu.jg x zZ (by have:=Pn zZ;unfold maxLen;omega)
      have zR:=Yx (QG (w.heap.size+2) wd r.F r.G r.E b ta pa la tc pc lc zs r.ps r.ls (AE s wd).sum (AE s wd).name (AE s wd).t (AE s wd).n (AE s wd).ss ra rc w3 (AE s wd).k zB S (by rw[l];exact x.fe) zE.1 zE.2);obtain⟨v0,v1,v2,v3,v4,v5,v6⟩:=Aa.c7 s3 0 1 2 3 4 5 6;obtain⟨u0,u1,u2,u3,u4,u5⟩:=Aa.c6 e3 0 1 2 3 4 5;have yN:=Yx s3;have yP:=Yx x3;have zT:=Yx zB;clear e3 s3 zB zE c0 x3 S
      go_upto_region 8 with fail;rw[<-zI.o];clear zI;go_wp2_with fail;refine Calls.mono zR.o ?_;rintro e w4 ⟨ht,hQ⟩;have zP:∀q∈(Value.slice la r.ls.length lc).ownBlock.toList,w.heap.size+2<=q:=fun q hq=>(Ac zT.o.lo (by simpa using hq)).1;have zJ:=ht.below zT.o.lb zP;have Q:=Aa.same yP.o (zJ.block _ Yw);have s4:=Aa.same yN.o (zJ.block _ Yw)
      have V:=Yx (O.o.trans (zJ.mono Yw));clear v0 v1 v2 v3 v4 v5 v6 u0 u1 u2 u3 u4 u5 zR ht;rcases hQ with⟨c,a',b',zC,rfl⟩|⟨y,b1,yI,yJ,yK,yG,yH,yE,yF,hy,rfl,hm,hC⟩
      .rw[l]at zC;have xD:(c !=0)=true:=by have:=zC.code;simp;omega
       have yL:=Yx zC;have yB:(Cq c a' b').toArray= #[Zg c,Zf,Zf,Zf,Zf,Zc,Zc,Zc,Zd,Zf,.string a',.string b']:=rfl;rw[yB];obtain⟨w5,n⟩:∃X,X=w4.alloc (.cells #[Zg c,Zf,Zf,Zf,Zf,Zc,Zc,Zc,Zd,Zf,.string a',.string b'] 88):=⟨_,rfl⟩;have C:=(AA n).1;have n5:=(AA n).2.2;have R:=Yx (V.o.trans (C.mono V.o.size))
       obtain⟨⟨E,q0⟩,⟨F,q1⟩,⟨G,q2⟩,⟨H,q3⟩,⟨I,q4⟩,⟨J,q5⟩,⟨K,q6⟩,⟨L,q7⟩,⟨M,q8⟩,⟨N,q9⟩,⟨o,zG⟩,p,zH⟩:=AY (Aa.below (v:=Zf) Q C);obtain⟨m0,_⟩:=n5 0 _ rfl;have Y:=Yx n;clear n zC n5 Q s4 yB;go_upto_region 11 with fail;rw[<-Y.o];go_wp2;refine bodyPost_ret (v:=.agg #[Zg 7,Zf,Zf,Zf,Zf,Zc,Zc,Zc,Zd,Zg ((k:Int)+1),Zd,Zd]) (by simp[results,results42,go_sem,E,F,G,H,I,J,K,L,M,N,o,p]) rfl ?_
       exact⟨⟨7,0,0,0,0,((k+1:Nat):Int),⟨#[]⟩,⟨#[]⟩,⟨#[]⟩,[],[],[]⟩,_,_,_,[],.inr ⟨⟨hwd,hlen⟩,.inl ⟨k+1,⟨k,r,s,rfl,HG.o,d.o.2.2.2.2.1,.inr ⟨c,a',b',yL.o⟩⟩,rfl⟩⟩,rfl,SB _ _,R.o.trans ((Bd w5 w.heap.size _ _ _ _ _ _ _ _ _ _ _ _).below R.o.size Yv)⟩
      .rw[l]at hy;obtain⟨w5,n⟩:∃X,X=w4.alloc (.cells #[Zf,Zg wd,Zg y.F,Zg y.G,Zg y.E,.slice yI y.A.length yJ,.slice yG y.ps.length yH,.slice yE y.ls.length yF,.string y.sm,Zg y.le,Zd,Zd] 88):=⟨_,rfl⟩;have C:=(AA n).1;have n5:=(AA n).2.2;have D:=Aa.below s4 C;have x5:=Aa.below (v:=Zf) Q C;have zK:=hC.below C;have zS:=Yx (V.o.trans (C.mono V.o.size))
       have zX:y.A.length=yK.length:=by rw[<-hm,List.length_map]
       have H5:=Yx (Zn D (Zn x5 (Zn zK (Zn hm (Zn hy zX)))));obtain⟨⟨v0,p0⟩,⟨v1,p1⟩,⟨v2,p2⟩,⟨v3,p3⟩,⟨v4,p4⟩,⟨v5,p5⟩,v6,p6⟩:=(⟨D 0 _ rfl,D 1 _ rfl,D 2 _ rfl,D 3 _ rfl,D 4 _ rfl,D 5 _ rfl,D 6 _ rfl⟩:(_/\_)/\(_/\_)/\(_/\_)/\(_/\_)/\(_/\_)/\(_/\_)/\_/\_);obtain⟨m0,m1,m2,m3,m4,m5,m6⟩:=Aa.c7 n5 0 1 2 3 4 5 6;obtain⟨m7,_⟩:=n5 7 _ rfl;have Y:=Yx n;have zO:Hid (Ds wd r0 (f.take (k+1)) y):=by show Ds _ _ _ _;rw[yO.o];exact d.o.2.2.2.2.1.snoc ⟨hok,hy⟩
       have xB:=zK.lb;clear n hy n5 Q s4 D x5 hC zK zX hm;go_upto_region 11 with fail;rw[<-Y.o];clear Y;go_wp2
       refine⟨⟨k+1,y,b1,yI,yG,yE,yJ,yH,yF,yK,Yw,Yp,⟨?_,Aa.same H5.o.2.1 ((tn7 w5 (w.heap.size+1) _ _ _ _ _ _ _).block _ Yw Yv),H5.o.2.2.1.low (tn7 w5 (w.heap.size+1) _ _ _ _ _ _ _) Yv,H5.o.2.2.2.1,zO.o,zS.o.trans ((tn7 w5 (w.heap.size+1) _ _ _ _ _ _ _).below zS.o.size Yv)⟩⟩,by simp[intOf];omega⟩;rw[<-H5.o.2.2.2.2.2];exact Acp H5.o.1 _ _ _ _ _ _ _
    .obtain rfl:k=f.length:=Yw
     have g:=d.o.2.2.2.2.1;rw[Zt (Zx)]at g;have x:=g.ok (GW hwd.1 hwd.2);have l:=d.o.2.2.2.1;have u:=d.o.2.2.1;have h1:=IY wd r.F r.G r.E ta pa la tc pc lc (zs.map (·.1)) r.ps r.ls wr ⟨u.dm,u.gm,u.gi⟩ (fun B hB=>by
      rcases u.tb with e|e
      .rw[e]at hB;cases hB;exact u.z.some
      .rw[e];intro i k hk;simp at hk) (Kn u.po) (Kn u.lo) (by rw[l];exact x.bx.len) x.np x.nl (by rw[l];exact x.fe)
     rw[List.length_map,l]at h1;have HC:=Yx h1;have yM:=Yx g;obtain⟨v0,v1,v2,v3,v4,v5,v6⟩:=Aa.c7 d.o.1 0 1 2 3 4 5 6;clear h1 g x l u yC yD P m;go_wp2_with fail;refine Calls.mono HC.o ?_;rintro e w4 ⟨T,P',L',rs,rfl,hS,_,zM⟩;obtain⟨yY,yZ,rfl⟩:=As hS.aj;obtain⟨yW,yX,rfl⟩:=As hS.pins;obtain⟨yU,yV,rfl⟩:=As hS.aq;have Q:=Aa.below (v:=Zf) d.o.2.1 zM;have yT:=d.o.2.1.lt;have HF:=Yx (Zn hS zM)
     obtain⟨⟨E,q0⟩,⟨F,q1⟩,⟨G,q2⟩,⟨H,q3⟩,⟨I,q4⟩,⟨J,q5⟩,⟨K,q6⟩,⟨L,q7⟩,⟨M,q8⟩,⟨N,q9⟩,⟨o,zG⟩,p,zH⟩:=AY Q;clear hS zM HC Q v0 v1 v2 v3 v4 v5 v6;go_wp2;refine bodyPost_ret (v:=.agg #[Zf,Zg wd,Zg r.F,Zg r.G,Zg r.E,.slice yY r.A.length yZ,.slice yW r.ps.length yX,.slice yU r.ls.length yV,Zd,Zf,Zd,Zd]) (by simp[results,results42,go_sem,E,F,G,H,I,J,K,L,M,N,o,p]) rfl ?_;have m:=d.o.2.2.2.2.2
     refine⟨⟨0,wd,r.F,r.G,r.E,0,⟨#[]⟩,⟨#[]⟩,⟨#[]⟩,r.A,r.ps,r.ls⟩,_,_,_,rs,.inr ⟨⟨hwd,hlen⟩,.inr ⟨r,yM.o,rfl⟩⟩,rfl,(HF.o.1.Y (Bd w4 w.heap.size _ _ _ _ _ _ _ _ _ _ _ _) (by simp;exact yT)).mono m.size,?_⟩;exact(m.trans (HF.o.2.mono m.size)).trans ((Bd w4 w.heap.size _ _ _ _ _ _ _ _ _ _ _ _).below (Zm m.size HF.o.2.size) Yv)
  .have yR:decide ((4000:Int)<f.length)=true:=Yu
   have t:=Yx d;clear d;go_enter func42,ntmps42;go_wp2_with fail;rw[<-HW.o];refine Calls.mono t.o ?_;rintro e w1 ⟨rfl,j⟩;replace j:=j.symm;subst j;clear t;go_wp2;refine bodyPost_ret (v:=.agg (Yf 1)) (by simp[results,results42,go_sem,E,F,G,H,I,J,K,L,M,N,o,p]) rfl ?_
   exact⟨⟨1,0,0,0,0,0,⟨#[]⟩,⟨#[]⟩,⟨#[]⟩,[],[],[]⟩,_,_,_,[],.inl ⟨fun h=>hlen h.2,rfl⟩,rfl,SB _ _,Z.trans ((Bd W w.heap.size _ _ _ _ _ _ _ _ _ _ _ _).below Z.size Yv)⟩
 .rw[decide_eq_false hwd]at d;have t:=Yx d;clear d;go_enter func42,ntmps42;go_wp2_with fail;rw[<-HW.o];refine Calls.mono t.o ?_;rintro e w1 ⟨rfl,j⟩;replace j:=j.symm;subst j;clear t;go_wp2;refine bodyPost_ret (v:=.agg (Yf 1)) (by simp[results,results42,go_sem,E,F,G,H,I,J,K,L,M,N,o,p]) rfl ?_
  exact⟨⟨1,0,0,0,0,0,⟨#[]⟩,⟨#[]⟩,⟨#[]⟩,[],[],[]⟩,_,_,_,[],.inl ⟨fun h=>hwd h.1,rfl⟩,rfl,SB _ _,Z.trans ((Bd W w.heap.size _ _ _ _ _ _ _ _ _ _ _ _).below Z.size Yv)⟩
theorem CT.of{h:Zj}{d:List Kd}(a:Bf w base T P L h d ps ls)(r:∀v∈T::P::L::h,∃g n c,v=Za g n c)(M:base<=w.heap.size):
 ∃b p l tc pc lc zs,T=Za b zs.length tc/\P=Za p ps.length pc/\L=Za l ls.length lc/\zs.map (·.1)=d/\CT w base b (some ⟨b,0,none⟩) (some ⟨p,0,none⟩) (some ⟨l,0,none⟩) pc lc zs ps ls/\base<=l/\l<w.heap.size:=by
 obtain⟨b,D,tc,rfl⟩:=r T Yv;obtain⟨p,E,pc,rfl⟩:=r P Yv;obtain⟨l,F,lc,rfl⟩:=r L Yv;obtain⟨_,_,H⟩:=As a.aj;obtain⟨_,_,I⟩:=As a.pins;obtain⟨_,_,J⟩:=As a.aq;cases H;cases I;cases J;have hlen:(d.zip h).length=d.length:=by rw[List.length_zip,a.len];omega
 have t:(d.zip h).map (·.1)=d:=List.map_fst_zip (by rw[a.len];exact Zx);have m:=a.nd;rw[FA]at m;unfold Bj at m;obtain⟨D,E,F⟩:=PB m (l:=l) rfl;have y:=a.aj;rw[<-hlen]at y;have o:∀z∈d.zip h,∃i,d[i]?=some z.1/\h[i]?=some z.2:=fun z f=>by obtain⟨i,B⟩:=List.getElem?_of_mem f;rw[List.getElem?_zip_eq_some]at B;exact⟨i,B.1,B.2⟩
 refine⟨b,p,l,tc,pc,lc,d.zip h,by rw[hlen],rfl,rfl,t,⟨.inl rfl,?_,(Ac a.aj rfl).2,a.pins,a.aq,M,?_,?_,?_,.inr (Ac a.aj rfl).1,?_⟩,Ac a.aq rfl⟩
 .refine Bk.own y (fun z f=> ?_);obtain⟨i,q,j⟩:=o z f;have k:=a.B i z.1 z.2 q j;obtain⟨K,R,G,A⟩:=r z.2 (by simp;exact .inr (.inr (.inr (Zs j))));obtain⟨Q,O,u⟩:=As k;rw[A]at u;cases u;rw[A]at k;exact⟨⟨K,0,none⟩,G,A,Ad.own k⟩
 .intro e;simp[Value.ownBlock]at e;exact D (by simp[Value.ownBlock,e])
 .intro g N e;simp[Value.ownBlock]at N e;exact E (by simp[Value.ownBlock];omega)
 .intro z f C n rc e _ x;simp[Value.ownBlock]at x;obtain⟨i,q,j⟩:=o z f;refine F (List.mem_filterMap.2 ⟨z.2,Zs j,?_⟩);rw[e];simp[Value.ownBlock,x]
 .intro z f C n rc e _;obtain⟨i,q,j⟩:=o z f;have k:=a.B i z.1 z.2 q j;rw[e]at k;exact(Ac k (g:=C.block) (by simp[Value.ownBlock])).1
def DD(wd:Int)(s:Zi):Zi:=Cr 7 s ⟨#[]⟩ 0 ⟨#[]⟩ [] wd
def Bb(v:Vd)(u:UR):Vd:=⟨v.wd,v.U,v.ss,v.C++u.L.map (DD v.wd),v.T,v.F,v.G,v.E,u.A,v.ps,v.ls,u.H,u.D,u.ms,u.K,u.J,u.ro⟩
def DL(c:Int)(vs:Zj)(n:Int)(D:Value):Zj:=Zg c::(vs++[Zg n,D])
def z20(c:Int):Zj:=[Zg c,Zf,Zf,Zc,Zc,Zf,Zf,Zf,Zf,Zc,Zc,Zc,Zf,Zc,Zc,Zf,Zf,Zf,Zf,Zc]
theorem WE{a:Zj}(h:a.length=17):prog.built 45 [(1,.agg a.toArray)]=some (DL 0 a 0 Zc).toArray:=by
 obtain⟨k,l,m,n,o,p,q,r,t,u,c,d,e,f,g,i,j,rfl⟩:=Abe h
 kernel_rfl
def Ft(v:Vd)(units:Int)(o:Option (UR×Nat)):Prop:=
 (¬(FY v/\0<=units/\units<=10000)/\o=none)\/∃r,DZ v r/\(0<=units/\units<=10000)/\ClTo v.E v.ps v.ls (4000 -(v.ss++v.C).length) units.toNat 0 (CR v) o
theorem Ft.cj{a:Int}{d e:Option (UR×Nat)}(g:Ft v a d)(h:Ft v a e):d=e:=by
 rcases g with⟨i,rfl⟩|⟨j,c,k,f⟩<;>rcases h with⟨n2,rfl⟩|⟨r2,k2,u2,c2⟩
 .rfl
 .exact absurd ⟨⟨r2,k2⟩,u2⟩ i
 .exact absurd ⟨⟨j,c⟩,k⟩ n2
 .exact f.cj (JY c) c2
def IP(v:Vd)(o:Option (UR×Nat))(lo:Nat)(w:Zh)(cs:Zj):Prop:=
 match o with
 |none=>cs=z20 1
 |some (u,n)=>∃S U T P L Q M rs D,cs=DL 0 (Bx (Bb v u) S U T P L Q M) n D/\AU w lo S U T P L Q M rs (Bb v u)/\Aj w lo D u.L/\∀g,Af D=some g->g∉CC S U T P L Q M rs
structure KH (w:Zh) (a:Va) (v:Vd):Prop where
 rows:Ca w w.heap.size a v
 s:a.R=none->v.ss.length=0/\a.Z=0
 t:a.N=none->v.C.length=0/\a.O=0
 q:FT a.i v.D.length a.qc
 m:FT a.g v.ms.length a.y
 k:∀A,a.x=some A->Fk w A v.A
 p:a.Q=none->a.W=0
 l:a.P=none->a.X=0
 ls:v.ss.length<=1048576
 lt:v.C.length<=1048576
 lq:v.D.length<=100000000
 lm:v.ms.length<=100000000
 nk:v.A.length<=600
 np:v.ps.length<=100
 nl:v.ls.length<=200
 fe:∀k∈v.A,k.B.length<=30
theorem Fk.ah{A:Addr}{a:List Kd}(h:Fk w A a)(m:By w B (some A) a)(j:Below B w w'):Fk w' A a:=fun i k c=>by obtain⟨f,rc,l⟩:=h i k c;obtain⟨b,e,g,d,_⟩:=m.at (Zw c).1;cases g;exact⟨f,rc,(j.cell (p:=⟨b,e+i *4+3,none⟩) d).trans l⟩
theorem KH.below(h:KH w a v)(d:Zz w w'):KH w' a v:=
 ⟨h.rows.j d,h.s,h.t,h.q,h.m,(fun A e=>by have f:=h.k A e;have c:=h.rows.st.k;rw[e]at c;exact f.ah c d),h.p,h.l,h.ls,h.lt,h.lq,h.lm,h.nk,h.np,h.nl,h.fe⟩
theorem Jl(v:Vd)(a:Va)(w:Zh)(h:KH w a v):
 Calls prog 18 #[.agg (Bx v (.slice a.R v.ss.length a.Z) (.slice a.N v.C.length a.O) (.slice a.x v.A.length a.kc) (.slice a.Q v.ps.length a.W) (.slice a.P v.ls.length a.X) (.slice a.i v.D.length a.qc) (.slice a.g v.ms.length a.y)).toArray] w fun e w'=>∃(S U T P L Q M:Value) (rs:Zj),e=.returned (.agg (Bx v S U T P L Q M).toArray)/\AU w' w.heap.size S U T P L Q M rs v/\(∀u∈S::U::Q::M::T::P::L::rs,∃g n c,u=Za g n c)/\Zz w w':=
 QE v a w (fun X d=>UQ _ _ _ _ v.ss v.C X (h.below d).rows.s (h.below d).rows.t h.s h.t h.ls h.lt) (fun X d=>IY _ _ _ _ _ _ _ _ _ _ v.A v.ps v.ls X (h.below d).rows.st (h.below d).k h.p h.l h.nk h.np h.nl h.fe) (fun X d=>QD _ _ _ _ _ _ _ _ v.D v.ms X (h.below d).rows.q (h.below d).rows.m h.q h.m h.lq h.lm)
def RB(b:Nat)(ads:List (Zk))(zs:List (Kd×Value))(g:Nat):Prop:=
 g=b\/(∃p,some p∈ads/\p.block=g)\/∃z∈zs,z.1.B≠[]/\∃ad rc,z.2=.slice (some ad) z.1.B.length rc/\ad.block=g
structure RR (w:Zh) (V:List Nat) (a:Va) (b:Nat) (zs:List (Kd×Value)) (v:Vd):Prop where
 x:a.x=some ⟨b,0,none⟩
 zk:zs.map (·.1)=v.A
 z:Bk w b 0 zs
 s:Ad w w.heap.size a.R v.ss
 p:AG w w.heap.size a.Q v.ps
 l:AI w w.heap.size a.P v.ls
 q:Ad w w.heap.size a.i v.D
 m:Ad w w.heap.size a.g v.ms
 cs:a.R=none->v.ss.length=0/\a.Z=0
 cp:a.Q=none->a.W=0
 cl:a.P=none->a.X=0
 cq:FT a.i v.D.length a.qc
 cm:FT a.g v.ms.length a.y
 lt:∀g,RB b [a.R,a.Q,a.P,a.i,a.g] zs g->g<w.heap.size
 ap:∀g,RB b [a.R,a.Q,a.P,a.i,a.g] zs g->g∉V
theorem WG{zs:List (Kd×Value)}(h:Bk w b 0 zs){z:Kd×Value}(d:z∈zs):∃a rc,z.2=.slice (some a) z.1.B.length rc/\Ad w w.heap.size (some a) z.1.B:=by obtain⟨i,c⟩:=List.getElem?_of_mem d;exact(h i z c).2
theorem RR.Y{U:List Nat}{zs:List (Kd×Value)}(h:RR w V a b zs v)(d:Tn U w w')(m:∀g∈U,g∈V\/w.heap.size<=g):RR w' V a b zs v:=by
 have c:∀g,RB b [a.R,a.Q,a.P,a.i,a.g] zs g->g∉U:=fun g i hu=>by
  rcases m g hu with f|f
  .exact h.ap g i f
  .have:=h.lt g i;omega
 refine⟨h.x,h.zk,KD h.z (d.block b (h.lt b (.inl rfl)) (c b (.inl rfl))) (fun z k=> ?_),h.s.Y d (fun p e _=>c _ (.inr (.inl ⟨p,by simp[e],rfl⟩))),h.p.Y d (fun p e _=>c _ (.inr (.inl ⟨p,by simp[e],rfl⟩))),h.l.Y d (fun p e _=>c _ (.inr (.inl ⟨p,by simp[e],rfl⟩))),h.q.Y d (fun p e _=>c _ (.inr (.inl ⟨p,by simp[e],rfl⟩))),h.m.Y d (fun p e _=>c _ (.inr (.inl ⟨p,by simp[e],rfl⟩))),h.cs,h.cp,h.cl,h.cq,h.cm,fun g i=>Zr (h.lt g i) d.size,h.ap⟩
 obtain⟨j,rc,f,l⟩:=WG h.z k;refine⟨j,rc,f,?_⟩;by_cases hr:z.1.B=[]
 .exact .inl hr
 .exact l.Y d (fun p e _=>by cases e;exact c _ (.inr (.inr ⟨z,k,hr,j,rc,f,rfl⟩)))
theorem RR.clear{V':List Nat}{zs:List (Kd×Value)}(h:RR w V a b zs v)(e:∀g∈V',g∈V\/w.heap.size<=g):RR w V' a b zs v:=
 ⟨h.x,h.zk,h.z,h.s,h.p,h.l,h.q,h.m,h.cs,h.cp,h.cl,h.cq,h.cm,h.lt,fun g d hu=>by
  rcases e g hu with c|c
  .exact h.ap g d c
  .have:=h.lt g d;omega⟩
def UT(a:Va)(b tc:Nat)(qa ma:Zk)(qc mc:Nat):Va:=⟨a.R,a.Z,a.N,a.O,some ⟨b,0,none⟩,tc,a.Q,a.W,a.P,a.X,qa,qc,ma,mc⟩
theorem RR.unit{zs:List (Kd×Value)}{u r:UR}(h:RR w V a b zs (Bb v u))(I:∀g∈V,g<w.heap.size){e:Ending}{Q N:Zl}{M:List Kd}{wd now given births O E C R:Int}{j A G:Nat}{i:List (Kd×Value)}{m l F:Zk}(hu:LV w w' e wd now given births P L M ps ls O E C R Q N b a.i a.g zs r j tc i m l F B A G):RR w' V (UT a j tc m l B A) j i (Bb v (u.and r)):=by
 have d:=h.Y (V:=V) (Tn.of (V:=[]) hu.low) Yv;have c:∀{x:Zk},Du b a.i a.g w.heap.size x->∀p,x=some p->RB b [a.R,a.Q,a.P,a.i,a.g] zs p.block\/w.heap.size<=p.block:=fun J p e=>by
  rcases J p e with h|⟨q,h,k⟩|⟨q,h,k⟩|h
  .exact .inl (.inl h)
  .exact .inl (.inr (.inl ⟨q,by simp[h],k.symm⟩))
  .exact .inl (.inr (.inl ⟨q,by simp[h],k.symm⟩))
  .exact .inr h
 have hold:∀g,RB j [a.R,a.Q,a.P,m,l] i g->(RB b [a.R,a.Q,a.P,a.i,a.g] zs g\/w.heap.size<=g)/\g<w'.heap.size:=fun g f=>by
  rcases f with rfl|⟨p,t,rfl⟩|⟨z,K,D,n,rc,H,rfl⟩
  .exact⟨c hu.fb ⟨g,0,none⟩ rfl,hu.lt⟩
  .simp only[List.mem_cons,List.not_mem_nil,or_false]at t;rcases t with e|e|e|e|e
   .have:RB b [a.R,a.Q,a.P,a.i,a.g] zs p.block:=.inr (.inl ⟨p,by simp[<-e],rfl⟩);exact⟨.inl this,d.lt _ this⟩
   .have:RB b [a.R,a.Q,a.P,a.i,a.g] zs p.block:=.inr (.inl ⟨p,by simp[<-e],rfl⟩);exact⟨.inl this,d.lt _ this⟩
   .have:RB b [a.R,a.Q,a.P,a.i,a.g] zs p.block:=.inr (.inl ⟨p,by simp[<-e],rfl⟩);exact⟨.inl this,d.lt _ this⟩
   .exact⟨c hu.fq p e.symm,hu.lq p e.symm⟩
   .exact⟨c hu.fm p e.symm,hu.lm p e.symm⟩
  .have:RB b [a.R,a.Q,a.P,a.i,a.g] zs n.block:=.inr (.inr ⟨z,hu.sub z K,D,n,rc,H,rfl⟩);exact⟨.inl this,d.lt _ this⟩
 refine⟨rfl,hu.zk,hu.z,d.s,d.p,d.l,hu.q,hu.m,h.cs,h.cp,h.cl,hu.cq,hu.cm,fun g f=>(hold g f).2,fun g f y=> ?_⟩;rcases(hold g f).1 with o|o
 .exact h.ap g o y
 .have:=I g y;omega
theorem RR.jm{zs:List (Kd×Value)}(h:RR w V a b zs v){lo:Nat}(d:Aj w lo (.slice ta v.C.length tc) v.C)(f:v.ss.length<=1048576)(g:v.C.length<=1048576)(i:v.D.length<=100000000)(j:v.ms.length<=100000000)(l:v.A.length<=600)(m:v.ps.length<=100)(n:v.ls.length<=200)(o:∀k∈v.A,k.B.length<=30):KH w {a with N:=ta,O:=tc} v:=by
 obtain⟨_,_,e,p⟩:=d.row;cases e;have q:By w w.heap.size (some ⟨b,0,none⟩) v.A:=by have:=h.z.dm (h.lt b (.inl rfl));rw[h.zk]at this;exact this
 refine⟨⟨h.s,p,⟨by rw[h.x];exact q,h.p,h.l⟩,h.q,h.m⟩,h.cs,d.cap.2,h.cq,h.cm,fun A e=> ?_,h.cp,h.cl,f,g,i,j,l,m,n,o⟩;have c:a.x=some A:=e;rw[h.x]at c;cases c;rw[<-h.zk];exact h.z.some
theorem SW(v:Vd):Bb v (CR v)=v:=by cases v;simp[Bb,CR]
theorem RR.start{S U Q M:Value}{j:Zj}(h:AU w base S U T P L Q M j v)(f:∀u∈S::U::Q::M::T::P::L::j,∃g n c,u=Za g n c):∃a b zs,S=.slice a.R v.ss.length a.Z/\U=.slice a.N v.C.length a.O/\T=.slice a.x v.A.length a.kc/\P=.slice a.Q v.ps.length a.W/\L=.slice a.P v.ls.length a.X/\Q=.slice a.i v.D.length a.qc/\M=.slice a.g v.ms.length a.y/\RR w (Af U).toList a b zs v:=by
 obtain⟨r,n1,sc,rfl⟩:=f S Yv;obtain⟨K,n2,uc,rfl⟩:=f U Yv;obtain⟨H,n3,qc,rfl⟩:=f Q Yv;obtain⟨F,n4,mc,rfl⟩:=f M Yv;obtain⟨t,n5,tc,rfl⟩:=f T Yv;obtain⟨G,n6,pc,rfl⟩:=f P Yv;obtain⟨E,n7,lc,rfl⟩:=f L Yv;obtain⟨_,_,q,hs⟩:=h.s.row;obtain⟨_,_,O,_⟩:=h.u.row;obtain⟨_,_,R,hq⟩:=h.q.row;obtain⟨_,_,V,hm⟩:=h.m.row;obtain⟨_,_,W⟩:=As h.st.aj
 obtain⟨_,_,X⟩:=As h.st.pins;obtain⟨_,_,Y⟩:=As h.st.aq;cases q;cases O;cases R;cases V;cases W;cases X;cases Y;have N:(v.A.zip j).length=v.A.length:=by rw[List.length_zip,h.st.len];omega
 have B:=h.st.aj;rw[<-N]at B;have C:∀z∈v.A.zip j,z.2∈j/\∃g c,z.2=Za g z.1.B.length c/\Ad w w.heap.size (some ⟨g,0,none⟩) z.1.B:=fun z o=>by obtain⟨i,hi⟩:=List.getElem?_of_mem o;obtain⟨k,d⟩:=List.getElem?_zip_eq_some.1 hi;have D:=h.st.B i _ _ k d;obtain⟨g,n,c,l⟩:=f z.2 (by simp[Zs d]);refine⟨Zs d,g,c,?_⟩;rw[l]at D |-;obtain⟨_,_,e⟩:=As D;cases e;exact⟨rfl,Ad.own D⟩
 have x:∀g,RB t [some ⟨r,0,none⟩,some ⟨G,0,none⟩,some ⟨E,0,none⟩,some ⟨H,0,none⟩,some ⟨F,0,none⟩] (v.A.zip j) g->g=r\/g∈Bj (Za t v.A.length tc) (Za G v.ps.length pc) (Za E v.ls.length lc) j\/g=H\/g=F:=fun g l=>by
  unfold Bj;simp only[List.mem_append,Option.mem_toList,List.mem_filterMap];rcases l with rfl|⟨p,J,rfl⟩|⟨z,o,_,ad,rc,q,rfl⟩
  .exact .inr (.inl (.inl rfl))
  .simp only[List.mem_cons,List.not_mem_nil,or_false,Option.some.injEq]at J;rcases J with rfl|rfl|rfl|rfl|rfl
   .exact .inl rfl
   .exact .inr (.inl (.inr (.inl rfl)))
   .exact .inr (.inl (.inr (.inr (.inl rfl))))
   .exact .inr (.inr (.inl rfl))
   .exact .inr (.inr (.inr rfl))
  .obtain⟨k,g,c,d,_⟩:=C z o;rw[d]at q;cases q;exact .inr (.inl (.inr (.inr (.inr ⟨z.2,k,by rw[d];rfl⟩))))
 have y:=h.cf;have A:=h.nd;unfold CC at y A
 refine⟨⟨some ⟨r,0,none⟩,sc,some ⟨K,0,none⟩,uc,some ⟨t,0,none⟩,tc,some ⟨G,0,none⟩,pc,some ⟨E,0,none⟩,lc,some ⟨H,0,none⟩,qc,some ⟨F,0,none⟩,mc⟩,t,v.A.zip j,rfl,rfl,rfl,rfl,rfl,rfl,rfl,⟨rfl,List.map_fst_zip (by rw[h.st.len];exact Zx),Bk.own B (fun z o=> ?_),hs,AG.own h.st.pins,AI.own h.st.aq,hq,hm,(fun e=>by cases e),(fun e=>by cases e),(fun e=>by cases e),h.q.cap,h.m.cap,fun g l=> ?_,fun g l hu=> ?_⟩⟩
 .obtain⟨_,g,c,d,m⟩:=C z o;exact⟨_,c,d,m⟩
 .refine y g ?_;simp only[List.mem_append,Option.mem_toList];rcases x g l with rfl|k|rfl|rfl
  .exact .inl (.inl rfl)
  .exact .inr (.inl k)
  .exact .inr (.inr (.inl rfl))
  .exact .inr (.inr (.inr rfl))
 .have Z:g=K:=by simpa [Af]using hu
  subst Z;obtain⟨k,_,m⟩:=List.nodup_append.1 A;have I:=(List.nodup_append.1 k).2.2;simp only[List.mem_append,Option.mem_toList]at m I;rcases x g l with e|h5|e|e
  .exact I r rfl g rfl e.symm
  .exact m g (.inr rfl) g (.inl h5) rfl
  .exact m g (.inr rfl) g (.inr (.inl (by rw[e];rfl))) rfl
  .exact m g (.inr rfl) g (.inr (.inr (by rw[e];rfl))) rfl
theorem SX(X:Zh)(lo a j:Nat)(U:Value)(c:Zl)(t:Zi)(h:Aj X lo U c)(o:∀g,Af U=some g->g≠a)(u:a<X.heap.size)(dj:lo<=X.heap.size)(x:c.length<=100000000):
 ∃d f Y,(Builtin.append_ #[22,22] 22 #[U,Za X.heap.size 1 1]).run prog (X.alloc (.cells #[.string t] 9))=.ok (.slice d (c.length+1) f) Y/\Y.heap[a]?=X.heap[a]? /\Tn (a::(Af U).toList) X (Y.setCell (Ze a j) (.slice d (c.length+1) f))/\Aj (Y.setCell (Ze a j) (.slice d (c.length+1) f)) lo (.slice d (c.length+1) f) (c++[t])/\∀g,Af (.slice d (c.length+1) f)=some g->Af U=some g\/X.heap.size<=g:=by
 have m:Below X.heap.size X (X.alloc (.cells #[.string t] 9)):=Zy;obtain⟨y,Y,r,n,p,q⟩:=IN (X.alloc (.cells #[.string t] 9)) lo U c (h.below m) ⟨X.heap.size,0,none⟩ 1 t (by simp[go_sem]) x Yu 22;obtain⟨d,f,rfl,_⟩:=n.row;rw[List.length_append,List.length_cons,List.length_nil,Nat.zero_add]at r n q;have l:∀g,Af (.slice d (c.length+1) f)=some g->Af U=some g\/X.heap.size<=g:=fun g e=>by
  rcases q with i|i
  .rw[i]at e;exact .inl e
  .rw[i]at e;have:=Option.some.inj e;simp at this;exact .inr Yw
 have v:Y.heap[a]?=X.heap[a]?:=(p.block a Yu (fun e=>o a e.symm rfl)).trans (m.block a u);refine⟨d,f,Y,r,v,((Tn.of (V:=[]) m).mono Yv).trans (((BV p).mono (by simp;exact fun b h=> .inr h)).trans (Tn.set _ _ _ _ Yv)),n.Y (AM Y a j _) (fun g e k=> ?_),l⟩;simp at k;subst k;rcases l g e with i|i
 .exact o g i rfl
 .omega
def Ma(v:Vd)(units:Int)(w:Zh)(e:Ending)(w':Zh):Prop:=∃o cs,Ft v units o/\e=.returned (.agg cs.toArray)/\IP v o w.heap.size w' cs/\Zz w w'
theorem Iq(a:Aa X (w.heap.size+1) (z20 0)/\Zz w X):X.there (w.heap.size+1) 0 20/\(z20 1).toArray.all (·.oneCell')=true/\Aa (X.setCells (w.heap.size+1) 0 (z20 1)) (w.heap.size+1) (z20 1)/\Zz w (X.setCells (w.heap.size+1) 0 (z20 1)):=
 ⟨a.1.there,by simp[z20,Value.oneCell'],a.1.ck _ rfl,a.2.trans ((Df _ _ _ _).below a.2.size Yv)⟩
end Go.Proofs.YtcankpdbabaacaaGreatDoor
