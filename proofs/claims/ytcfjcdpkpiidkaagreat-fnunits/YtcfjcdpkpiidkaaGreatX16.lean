import Derived.Test.YtcfjcdpkpiidkaaGreatX11
import Derived.Deep.MidRow
set_option maxRecDepth 100000
set_option maxHeartbeats 16000000
namespace Go.Proofs.YtcfjcdpkpiidkaaGreat
open ChangeShapes WideShapes ChangeAt RowKit _root_.Go.Proofs.Tryz
variable{ls:List Ld}{k size n B:Nat}{x:Pd}{w:Zh}{b s nm text a:Zi}{e:TypeId}{v:Value}{wd now given births kd num c:Int}{ks:List Kd}{ps:List Pd}{refs:Zl}{l:Zj}
theorem QI{x:Ld}(n:Int)(b:ls[k]?=some x):Bx (ls.take (k+1)) n=Bx (ls.take k) n++(if x.I=n then []else [x]):=by obtain⟨a,rfl⟩:=Zw b;unfold Bx;rw[Zu a,List.filter_append];by_cases h:ls[k].I=n<;>simp[h]
theorem Mq(ls:List Ld)(n:Int):(Bx ls n).length=ls.length↔¬∃x∈ls,x.I=n:=by unfold Bx;rw[List.length_filter_eq_length_iff];simp
def Si(w w':Zh)(e:Ending)(wd now given births:Int)(T P:Value)(ls:List Ld)(n:Int):Prop:=
 Below w.heap.size w w'/\(((¬∃x∈ls,x.I=n)/\e=.returned (.agg #[Zg 5,Ze,Ze,Ze,Ze,Zb,Zb,Zb,Zc,Ze,Zc,Zc]))\/
  ((∃x∈ls,x.I=n)/\∃g c,e=.returned (.agg #[Ze,Zg wd,Zg now,Zg given,Zg births,T,P,.slice (some ⟨g,0,none⟩) (Bx ls n).length c,Zc,Ze,Zc,Zc])/\w'.ownsRow w.heap.size 50 3 (.slice (some ⟨g,0,none⟩) (Bx ls n).length c) (Bx ls n).length (Ag lC (Bx ls n))))
theorem QJ(wd now given births:Int)(h d z:Zk)(l j pn f D:Nat)(ls:List Ld)(n:Int)(w:Zh)(o:AN w w.heap.size z ls)(hl:ls.length<=1000):
 Calls prog 126 #[.agg (Yg wd now given births h l j d pn f z ls.length D),Zg n] w fun e w'=>Si w w' e wd now given births (.slice h l j) (.slice d pn f) ls n:=by
 obtain⟨W,u⟩:=Af ((w.alloc (.cells (Yg wd now given births h l j d pn f z ls.length D) 27)).alloc (.cells Yc 115));have bW:=(Bf u).1;have L:=(Bf u).2.1;have x0:=(Bf u).2.2.1;have x1:Aa W (w.heap.size+1) z12:=by have h1:=Aa.new (w.alloc (.cells (Yg wd now given births h l j d pn f z ls.length D) 27)) z12 115;rw[World.size_alloc]at h1;rw[u];exact h1
 have Q:Hid (∀X,Below (w.heap.size+2) W X->Aa X w.heap.size (Yh wd now given births h l j d pn f z ls.length D)/\Aa X (w.heap.size+1) z12):=fun X hX=>⟨Aa.same x0 (hX.block _ Yv),Aa.same x1 (hX.block _ Yv)⟩;have Y:=Yw u;have zH:Hid (W.heap.size=w.heap.size+2):=L;have r:w.heap.size+2<=W.heap.size:=Yv
 have HR:Hid (AN w w.heap.size z ls):=o;have zA:Hid (Zz w W):=bW;have bA:Below W.heap.size W (W.alloc (.cells #[] 50)):=Zy;have F:Hid ((W.alloc (.cells #[] 50)).ownsRow (w.heap.size+2) 50 3 (Yz W.heap.size 0 0) 0 []):=World.ownsRow_lit (base:=w.heap.size+2) (e:=50) (size:=3) W #[] 0 Yv Yo rfl;have E:Hid (Below (w.heap.size+2) W (W.alloc (.cells #[] 50))):=bA.mono r
 clear u L x0 x1 o bW bA;go_enter func126,ntmps126;go_upto_region 1 with fail;rw[<-Y.o];clear Y;go_wp2
 go_loopw [5,6] (fun v i wr=>∃(k g c:Nat),k<=ls.length/\i=Zg k/\v=Yz g (Bx (ls.take k) n).length c/\Hid (wr.ownsRow (w.heap.size+2) 50 3 (Yz g (Bx (ls.take k) n).length c) (Bx (ls.take k) n).length (Ag lC (Bx (ls.take k) n))/\Below (w.heap.size+2) W wr)) (fun _ i _=>ls.length -(intOf i).toNat)
 case atStart=>exact⟨0,W.heap.size,0,Nat.zero_le _,rfl,by simp[Bx],⟨by simpa [Bx,Ag]using F.o,E.o⟩⟩
 case round=>
  clear F E;obtain⟨k,g,c,hk,rfl,rfl,a⟩:=hrel;have b:Below w.heap.size w wr:=zA.o.trans (a.o.2.mono Yv);have M:w.heap.size+2<=wr.heap.size:=Zm r a.o.2.size;obtain⟨v0,v1,v2,v3,v4,v5,v6,v7⟩:=AP (Q.o _ a.o.2).1;by_cases hlt:k<ls.length
  .obtain⟨b',off,ha,hb,H⟩:=(AN.below HR.o b).at hlt;subst ha;have U:Hid (ls[k]?=some ls[k]):=Zv hlt;obtain⟨c0,c1,c2⟩:=H k _ U.o;have G:=Yw (QI n U.o);have zI:(Bx (ls.take k) n).length<=1000:=by have:=List.length_filter_le (fun x:Ld=> !decide (x.I=n)) (ls.take k);unfold Bx;rw[List.length_take]at this;omega
   clear H;generalize ls[k]=x at *
   generalize hGk:Bx (ls.take k) n=gk at *
   have zG:=Yw hGk;clear hGk;by_cases hxn:x.I=n
   .have y:(x.I !=n)=false:=by simp[hxn]
    have A:Hid (Bx (ls.take (k+1)) n=gk):=by show _=_;rw[G.o,if_pos hxn,List.append_nil]
    clear hxn;go_wp2;exact⟨⟨k+1,g,c,Yv,Yn,by rw[A.o],⟨by rw[A.o];exact a.o.1,a.o.2⟩⟩,Ys⟩
   .have y:(x.I !=n)=true:=by simp[hxn]
    have A:Hid (Bx (ls.take (k+1)) n=gk++[x]):=by show _=_;rw[G.o,if_neg hxn]
    clear hxn;obtain⟨g8,m,S,K,J,I,zC⟩:=Qn wr (w.heap.size+2) _ gk a.o.1 x Yv M 25;have b8:Below (w.heap.size+2) wr S:=Ad.grown I M (fun q e=>(Ac a.o.1 e).1);have T:Hid (S.ownsRow (w.heap.size+2) 50 3 (Yz g8 (gk.length+1) m) (gk++[x]).length (Ag lC (gk++[x]))/\Below (w.heap.size+2) W S):=⟨J,a.o.2.trans b8⟩;have zF:b'<wr.heap.size:=by have:=b.size;omega
    clear J I zC b8;go_wp2_with (at_builtin;refine wpList_append_run rfl _ _ 25 25 rfl rfl rfl K ?_);clear K c0 c1 c2 v0 v1 v2 v3 v4 v5 v6;go_wp2;exact⟨⟨k+1,g8,m,Yv,Yn,by rw[A.o,List.length_append];rfl,⟨by rw[A.o,List.length_append];exact List.length_append▸T.o.1,T.o.2⟩⟩,Ys⟩
  .obtain rfl:k=ls.length:=Yv
   have C:=a.o.1;rw[Zt (Zx)]at C |-;have P:=Yw C;have t:Hid (Zz w wr):=b;obtain⟨⟨y0,q0⟩,⟨y1,q1⟩,⟨y2,q2⟩,⟨y3,q3⟩,⟨y4,q4⟩,⟨y5,q5⟩,⟨y6,q6⟩,⟨y7,q7⟩,⟨y8,q8⟩,⟨y9,q9⟩,⟨N,zJ⟩,O,zK⟩:=Bw (Q.o _ a.o.2).2;have f6:=((Q.o _ a.o.2).1 6 _ rfl).2;by_cases hex:∃x∈ls,x.I=n
   .have zE:¬(Bx ls n).length=ls.length:=fun e=>(Mq ls n).1 e hex;have y:(((Bx ls n).length:Int)==(ls.length:Int))=false:=Yt
    have B:Hid (∃x∈ls,x.I=n):=hex;clear zE hex C b a;go_wp2;refine bodyPost_ret (v:=.agg #[Ze,Zg wd,Zg now,Zg given,Zg births,.slice h l j,.slice d pn f,Yz g (Bx ls n).length c,Zc,Ze,Zc,Zc]) (by simp[results,results126,go_sem,y0,y1,y2,y3,y4,y5,y6,y7,y8,y9,N,O]) rfl ?_
    have Z:=(Tn.set (V:=[w.heap.size,w.heap.size+1]) wr w.heap.size 6 (Yz g (Bx ls n).length c) Yu).trans (Tn.mono (Bv (wr.setCell (Zd (w.heap.size) 6) (Yz g (Bx ls n).length c)) (w.heap.size+1) Ze (Zg wd) (Zg now) (Zg given) (Zg births) (.slice h l j) (.slice d pn f) (Yz g (Bx ls n).length c) Zc Ze Zc Zc) Yu)
    exact⟨t.o.trans (Z.below t.o.size (by intro v R;simp at R;omega)),.inr ⟨B.o,g,c,rfl,(Aw P.o (fun q y=>Z.block q (Ac P.o y).2 (by have:=(Ac P.o y).1;simp;omega))).mono Yv⟩⟩
   .have zB:(Bx ls n).length=ls.length:=(Mq ls n).2 hex;have y:(((Bx ls n).length:Int)==(ls.length:Int))=true:=Yt
    have B:Hid (¬∃x∈ls,x.I=n):=hex;clear zB hex C b a;go_wp2;refine bodyPost_ret (v:=.agg (Yb 5)) (by simp[results,results126,go_sem,y0,y1,y2,y3,y4,y5,y6,y7,y8,y9,N,O]) rfl ?_;exact⟨t.o.trans (Tn.below (Bv wr (w.heap.size+1) _ _ _ _ _ _ _ _ _ _ _ _) t.o.size (by intro v R;simp at R;omega)),.inl ⟨B.o,rfl⟩⟩
theorem Il(w:Zh)(a:Nat)(v:Value)(ls:List Pd)(y:w.ownsRow a 48 2 v ls.length (Ag pC ls))(x:Pd)(t:ls.length<=1000000)(h:a<=w.heap.size)(i:TypeId):
 ∃g cap c,(Builtin.append_ #[24,24] i #[v,Yz w.heap.size 1 1]).run prog (w.alloc (.cells #[.string x.name,.string x.sum] 48))=.ok (Yz g (ls.length+1) cap) c/\c.ownsRow a 48 2 (Yz g (ls.length+1) cap) (ls++[x]).length (Ag pC (ls++[x]))/\w.grownBy c v.ownBlock/\(v.ownBlock=some g\/g=w.heap.size+1):=by
 obtain⟨A,r,l,m,n⟩:=info_parts Jm;have k:=Al y (Ad.alloc (Zx) (.cells #[.string x.name,.string x.sum] 48));have q:∀j u,(Ag pC [x])[j]?=some u->(w.alloc (.cells #[.string x.name,.string x.sum] 48)).cell? ((⟨w.heap.size,0,none⟩:Addr).add j)=some u:=by intro j u d;rw[Go.WideShapes.add_plain,Nat.zero_add];exact(Aa.new w [.string x.name,.string x.sum] 48 j u (by simpa [Ag,pC]using d)).1
 obtain⟨B,c,z,f,o,_,b⟩:=run_append_own_at (P:=prog) (w.alloc (.cells #[.string x.name,.string x.sum] 48)) a 24 i 48 A _ 2 32 underlying24 r l m n rfl Yq v ls.length (Ag pC ls) k ⟨w.heap.size,0,none⟩ 1 1 (Ag pC [x]) (by simp[Ag,pC]) q (by intro u d;simp[Ag,pC]at d;rcases d with rfl|rfl<;>rfl) Yo Yv Yt
 obtain⟨g,cap,rfl,_,_⟩:=Bq f (fun e=>by subst e;rcases f.2 with⟨_,t⟩|⟨_,_,_,e,_⟩<;>first|omega|cases e);refine⟨g,cap,c,z,?_,(World.grownBy_alloc w _ _).trans o,?_⟩
 .rw[Es,List.length_append];exact f
 .rcases b with b|b
  .exact .inl b.symm
  .right;simpa [Value.ownBlock]using b
theorem OT{ls:List Pd}(n:Zi)(b:ls[k]?=some x):Bm (ls.take (k+1)) n=Bm (ls.take k) n++(if x.name=n then []else [x]):=by obtain⟨a,rfl⟩:=Zw b;unfold Bm;rw[Zu a,List.filter_append];by_cases h:ls[k].name=n<;>simp[h]
theorem KZ(ls:List Pd)(n:Zi):(Bm ls n).length=ls.length↔¬∃x∈ls,x.name=n:=by unfold Bm;rw[List.length_filter_eq_length_iff];simp
def PB(w w':Zh)(e:Ending)(wd now given births:Int)(T P:Value)(ls:List Pd)(n:Zi):Prop:=
 Below w.heap.size w w'/\(((¬∃x∈ls,x.name=n)/\e=.returned (.agg #[Zg 5,Ze,Ze,Ze,Ze,Zb,Zb,Zb,Zc,Ze,Zc,Zc]))\/
  ((∃x∈ls,x.name=n)/\∃g c,e=.returned (.agg #[Ze,Zg wd,Zg now,Zg given,Zg births,T,.slice (some ⟨g,0,none⟩) (Bm ls n).length c,P,Zc,Ze,Zc,Zc])/\w'.ownsRow w.heap.size 48 2 (.slice (some ⟨g,0,none⟩) (Bm ls n).length c) (Bm ls n).length (Ag pC (Bm ls n))))
theorem OU(wd now given births:Int)(h d z:Zk)(l j pn f D:Nat)(ls:List Pd)(n:Zi)(w:Zh)(o:AM w w.heap.size z ls)(hl:ls.length<=1000):
 Calls prog 124 #[.agg (Yg wd now given births h l j z ls.length D d pn f),.string n] w fun e w'=>PB w w' e wd now given births (.slice h l j) (.slice d pn f) ls n:=by
 obtain⟨W,u⟩:=Af ((w.alloc (.cells (Yg wd now given births h l j z ls.length D d pn f) 27)).alloc (.cells Yc 115));have bW:=(Bf u).1;have M:=(Bf u).2.1;have x0:=(Bf u).2.2.1;have x1:Aa W (w.heap.size+1) z12:=by have h1:=Aa.new (w.alloc (.cells (Yg wd now given births h l j z ls.length D d pn f) 27)) z12 115;rw[World.size_alloc]at h1;rw[u];exact h1
 have R:Hid (∀X,Below (w.heap.size+2) W X->Aa X w.heap.size (Yh wd now given births h l j z ls.length D d pn f)/\Aa X (w.heap.size+1) z12):=fun X hX=>⟨Aa.same x0 (hX.block _ Yv),Aa.same x1 (hX.block _ Yv)⟩;have Z:=Yw u;have zH:Hid (W.heap.size=w.heap.size+2):=M;have r:w.heap.size+2<=W.heap.size:=Yv
 have HR:Hid (AM w w.heap.size z ls):=o;have zA:Hid (Zz w W):=bW;have bA:Below W.heap.size W (W.alloc (.cells #[] 48)):=Zy;have F:Hid ((W.alloc (.cells #[] 48)).ownsRow (w.heap.size+2) 48 2 (Yz W.heap.size 0 0) 0 []):=World.ownsRow_lit (base:=w.heap.size+2) (e:=48) (size:=2) W #[] 0 Yv Yo rfl;have E:Hid (Below (w.heap.size+2) W (W.alloc (.cells #[] 48))):=bA.mono r
 clear u M x0 x1 o bW bA;go_enter func124,ntmps124;go_upto_region 1 with fail;rw[<-Z.o];clear Z;go_wp2
 go_loopw [5,6] (fun v i wr=>∃(k g c:Nat),k<=ls.length/\i=Zg k/\v=Yz g (Bm (ls.take k) n).length c/\Hid (wr.ownsRow (w.heap.size+2) 48 2 (Yz g (Bm (ls.take k) n).length c) (Bm (ls.take k) n).length (Ag pC (Bm (ls.take k) n))/\Below (w.heap.size+2) W wr)) (fun _ i _=>ls.length -(intOf i).toNat)
 case atStart=>exact⟨0,W.heap.size,0,Nat.zero_le _,rfl,by simp[Bm],⟨by simpa [Bm,Ag]using F.o,E.o⟩⟩
 case round=>
  clear F E;obtain⟨k,g,c,hk,rfl,rfl,a⟩:=hrel;have b:Below w.heap.size w wr:=zA.o.trans (a.o.2.mono Yv);have N:w.heap.size+2<=wr.heap.size:=Zm r a.o.2.size;obtain⟨v0,v1,v2,v3,v4,v5,v6,v7⟩:=AP (R.o _ a.o.2).1;by_cases hlt:k<ls.length
  .obtain⟨b',off,ha,hb,H⟩:=(AM.below HR.o b).at hlt;subst ha;have Y:Hid (ls[k]?=some ls[k]):=Zv hlt;obtain⟨c0,c1⟩:=H k _ Y.o;have G:=Yw (OT n Y.o);have zI:(Bm (ls.take k) n).length<=1000:=by have:=List.length_filter_le (fun x:Pd=> !decide (x.name=n)) (ls.take k);unfold Bm;rw[List.length_take]at this;omega
   clear H;generalize ls[k]=x at *
   generalize hGk:Bm (ls.take k) n=gk at *
   have zG:=Yw hGk;clear hGk;by_cases hxn:x.name=n
   .have y:(x.name.toList !=n.toList)=false:=by rw[hxn];simp
    have K:(x.name.toList==n.toList)=true:=by rw[hxn];simp
    have A:Hid (Bm (ls.take (k+1)) n=gk):=by show _=_;rw[G.o,if_pos hxn,List.append_nil]
    clear hxn;go_wp2;exact⟨⟨k+1,g,c,Yv,Yn,by rw[A.o],⟨by rw[A.o];exact a.o.1,a.o.2⟩⟩,Ys⟩
   .have K:(x.name.toList==n.toList)=false:=Bu hxn;have y:(x.name.toList !=n.toList)=true:=by simp[bne,K]
    have A:Hid (Bm (ls.take (k+1)) n=gk++[x]):=by show _=_;rw[G.o,if_neg hxn]
    clear hxn;obtain⟨g8,m,T,L,J,I,zC⟩:=Il wr (w.heap.size+2) _ gk a.o.1 x Yv N 24;have b8:Below (w.heap.size+2) wr T:=Ad.grown I N (fun q e=>(Ac a.o.1 e).1);have U:Hid (T.ownsRow (w.heap.size+2) 48 2 (Yz g8 (gk.length+1) m) (gk++[x]).length (Ag pC (gk++[x]))/\Below (w.heap.size+2) W T):=⟨J,a.o.2.trans b8⟩;have zF:b'<wr.heap.size:=by have:=b.size;omega
    clear J I zC b8;go_wp2_with (at_builtin;refine wpList_append_run rfl _ _ 24 24 rfl rfl rfl L ?_);clear L c0 c1 v0 v1 v2 v3 v4 v5 v6;go_wp2;exact⟨⟨k+1,g8,m,Yv,Yn,by rw[A.o,List.length_append];rfl,⟨by rw[A.o,List.length_append];exact List.length_append▸U.o.1,U.o.2⟩⟩,Ys⟩
  .obtain rfl:k=ls.length:=Yv
   have C:=a.o.1;rw[Zt (Zx)]at C |-;have Q:=Yw C;have t:Hid (Zz w wr):=b;obtain⟨⟨y0,q0⟩,⟨y1,q1⟩,⟨y2,q2⟩,⟨y3,q3⟩,⟨y4,q4⟩,⟨y5,q5⟩,⟨y6,q6⟩,⟨y7,q7⟩,⟨y8,q8⟩,⟨y9,q9⟩,⟨O,zJ⟩,P,zK⟩:=Bw (R.o _ a.o.2).2;have f6:=((R.o _ a.o.2).1 5 _ rfl).2;by_cases hex:∃x∈ls,x.name=n
   .have zE:¬(Bm ls n).length=ls.length:=fun e=>(KZ ls n).1 e hex;have y:(((Bm ls n).length:Int)==(ls.length:Int))=false:=Yt
    have B:Hid (∃x∈ls,x.name=n):=hex;clear zE hex C b a;go_wp2;refine bodyPost_ret (v:=.agg #[Ze,Zg wd,Zg now,Zg given,Zg births,.slice h l j,Yz g (Bm ls n).length c,.slice d pn f,Zc,Ze,Zc,Zc]) (by simp[results,results124,go_sem,y0,y1,y2,y3,y4,y5,y6,y7,y8,y9,O,P]) rfl ?_
    have T':=(Tn.set (V:=[w.heap.size,w.heap.size+1]) wr w.heap.size 5 (Yz g (Bm ls n).length c) Yu).trans (Tn.mono (Bv (wr.setCell (Zd (w.heap.size) 5) (Yz g (Bm ls n).length c)) (w.heap.size+1) Ze (Zg wd) (Zg now) (Zg given) (Zg births) (.slice h l j) (Yz g (Bm ls n).length c) (.slice d pn f) Zc Ze Zc Zc) Yu)
    exact⟨t.o.trans (T'.below t.o.size (by intro v S;simp at S;omega)),.inr ⟨B.o,g,c,rfl,(Aw Q.o (fun q y=>T'.block q (Ac Q.o y).2 (by have:=(Ac Q.o y).1;simp;omega))).mono Yv⟩⟩
   .have zB:(Bm ls n).length=ls.length:=(KZ ls n).2 hex;have y:(((Bm ls n).length:Int)==(ls.length:Int))=true:=Yt
    have B:Hid (¬∃x∈ls,x.name=n):=hex;clear zB hex C b a;go_wp2;refine bodyPost_ret (v:=.agg (Yb 5)) (by simp[results,results124,go_sem,y0,y1,y2,y3,y4,y5,y6,y7,y8,y9,O,P]) rfl ?_;exact⟨t.o.trans (Tn.below (Bv wr (w.heap.size+1) _ _ _ _ _ _ _ _ _ _ _ _) t.o.size (by intro v S;simp at S;omega)),.inl ⟨B.o,rfl⟩⟩
theorem Dc{b:Nat}{f:Zj}(h:w.ownsRow b e size v n f){g:Nat}(c:v.ownBlock=some g):∃a,w.heap[g]?=some (.cells a e):=by
 rcases h.2 with⟨rfl,_⟩|⟨i,cap,a,rfl,_,d,_⟩
 .cases c
 .cases c;exact⟨a,d⟩
theorem DU.notin{i d m:Nat}{O P L:Value}(h:DU w i d m O P L wd now given births ks ps ls){R:Nat}{j:Array Value}(g:w.heap[R]?=some (.cells j 115))(o:R≠d):R∉vB d m O P L/\NS w R:=by
 refine⟨fun a=> ?_,fun j fz e=>by rw[g]at e;cases e⟩;unfold vB at a;simp only[List.mem_cons,List.mem_append,Option.mem_toList]at a;rcases a with a|a|a|a|a
 .exact o a
 .obtain⟨n,f,_,l,_⟩:=h.dr.map;obtain⟨D,⟨q,clock,k,_⟩,_⟩:=l;rw[<-a,g]at k;cases k
 .obtain⟨c,b⟩:=Dc h.dr.ord a;rw[g]at b;cases b
 .obtain⟨c,b⟩:=Dc h.dr.cv a;rw[g]at b;cases b
 .obtain⟨c,b⟩:=Dc h.dr.dz a;rw[g]at b;cases b
def BD(ps:List Pd)(n s:Zi):List Pd:=ps.filter (fun x=>less x.name n)++[⟨n,s⟩]++ps.filter (fun x=> !(less x.name n)&& !decide (x.name=n))
def Du(ps:List Pd)(n:Zi):Bool:= !(ps.all (fun x=>less x.name n))
def BG(ps:List Pd)(n s:Zi):List Pd:=ps.filter (fun x=>less x.name n)++(if Du ps n then [⟨n,s⟩]else [])++ps.filter (fun x=> !(less x.name n)&& !decide (x.name=n))
theorem GP(n:Zi)(b:ps[k]?=some x):Du (ps.take (k+1)) n=(Du (ps.take k) n|| !(less x.name n)):=by obtain⟨a,rfl⟩:=Zw b;unfold Du;rw[Zu a,List.all_append];simp
theorem EU{n:Zi}(h:Du ps n=false):ps.filter (fun x=> !(less x.name n)&& !decide (x.name=n))=[]:=by
 rw[List.filter_eq_nil_iff];intro x a;have:less x.name n=true:=by unfold Du at h;simp only[Bool.not_eq_false']at h;exact List.all_eq_true.1 h x a
 simp[this]
theorem QK(n s:Zi)(d:ps[k]?=some x)(b:Du (ps.take k) n=false)(c:less x.name n=true):BG (ps.take (k+1)) n s=BG (ps.take k) n s++[x]:=by have a:=GP n d;rw[b,c]at a;unfold BG;rw[EU b,EU (by rw[a];rfl),a,b];obtain⟨e,rfl⟩:=Zw d;rw[Zu e,List.filter_append];simp[c]
theorem Vj(n s:Zi)(d:ps[k]?=some x)(a:Du (ps.take k) n=false)(c:less x.name n=false):BG (ps.take (k+1)) n s=BG (ps.take k) n s++[⟨n,s⟩]++(if x.name=n then []else [x]):=by
 have b:=GP n d;rw[a,c]at b;unfold BG;rw[EU a,b,a];have f:=EU a;obtain⟨e,rfl⟩:=Zw d;rw[Zu e,List.filter_append,List.filter_append,f];by_cases hn:ps[k].name=n
 .simp[hn,BA]
 .simp[c,hn]
theorem Sj(n s:Zi)(f:ps.Pairwise (fun a b=>less a.name b.name=true))(o:ps[k]?=some x)(g:Du (ps.take k) n=true):x.name≠n/\BG (ps.take (k+1)) n s=BG (ps.take k) n s++[x]:=by
 have l:=GP n o;rw[g,Bool.true_or]at l;obtain⟨i,rfl⟩:=Zw o;obtain⟨y,v,d⟩:∃y∈ps.take k,less y.name n=false:=by unfold Du at g;simpa using g
 obtain⟨j,t⟩:=List.getElem?_of_mem v;obtain⟨q,e⟩:=Zw t;rw[List.length_take]at q;rw[List.getElem_take]at e;have c:=List.pairwise_iff_getElem.1 f j k Yv i Yv;rw[e]at c;have u:less ps[k].name n=false:=by
  cases h:less ps[k].name n with
  |false=>rfl
  |true=>rw[BI c h]at d;cases d
 have m:ps[k].name≠n:=fun r=>by rw[r]at c;rw[c]at d;cases d
 refine⟨m,?_⟩;unfold BG;rw[l,g,Zu i,List.filter_append,List.filter_append];simp[u,m]
theorem TH(n s:Zi)(a:Du ps n=true):BG ps n s=BD ps n s:=by unfold BG BD;rw[a];rfl
theorem Vk(n s:Zi)(a:Du ps n=false):BG ps n s++[⟨n,s⟩]=BD ps n s:=by unfold BG BD;rw[a,EU a];simp
theorem Ko(ps:List Pd)(n s:Zi):(BG ps n s).length<=ps.length+1:=by
 have h:∀(l:List Pd),(l.filter (fun x=>less x.name n)).length+(l.filter (fun x=> !(less x.name n)&& !decide (x.name=n))).length<=l.length:=by
  intro l;induction l with
  |nil=>simp
  |cons x l ih=>rw[List.filter_cons,List.filter_cons];cases less x.name n<;>by_cases hn:x.name=n<;>simp[hn]<;>omega
 have:=h ps;unfold BG;rw[List.length_append,List.length_append];split<;>simp<;>omega
def UB(w w':Zh)(e:Ending)(wd now given births:Int)(T L:Value)(ps:List Pd)(n s:Zi):Prop:=
 Below w.heap.size w w'/\((100<(BD ps n s).length/\e=.returned (.agg #[Zg 4,Ze,Ze,Ze,Ze,Zb,Zb,Zb,Zc,Ze,Zc,Zc]))\/
  ((BD ps n s).length<=100/\∃g c,e=.returned (.agg #[Ze,Zg wd,Zg now,Zg given,Zg births,T,.slice (some ⟨g,0,none⟩) (BD ps n s).length c,L,Zc,Ze,Zc,Zc])/\w'.ownsRow w.heap.size 48 2 (.slice (some ⟨g,0,none⟩) (BD ps n s).length c) (BD ps n s).length (Ag pC (BD ps n s))))
theorem Sk(wd now given births kind num:Int)(Z pa la ra:Zk)(tc pc lc ln rn rc:Nat)(ks:List Kd)(ps:List Pd)(n s text:Zi)(w:Zh)(yQ:AQ w w.heap.size Z ks)(zV:AM w w.heap.size pa ps)(xL:ks.length<=1000)(hl:ps.length<=1000)(yS:Ay ks s)(zF:ps.Pairwise (fun a b=>less a.name b.name=true)):
 Calls prog 123 #[.agg (Yg wd now given births Z ks.length tc pa ps.length pc la ln lc),.agg (Yd kind s n num text ra rn rc)] w fun e w'=>UB w w' e wd now given births (.slice Z ks.length tc) (.slice la ln lc) ps n s:=by
 obtain⟨W,hW⟩:=Af (((w.alloc (.cells (Yg wd now given births Z ks.length tc pa ps.length pc la ln lc) 27)).alloc (.cells (Yd kind s n num text ra rn rc) 118)).alloc (.cells Yc 115));have bW:=(Cv hW).1;have xB:=(Cv hW).2.1;have x0:=(Cv hW).2.2.1;have xe:Aa W (w.heap.size+1) (Xz kind s n num text ra rn rc):=by have h1:=Aa.new (w.alloc (.cells (Yg wd now given births Z ks.length tc pa ps.length pc la ln lc) 27)) (Xz kind s n num text ra rn rc) 118;rw[World.size_alloc]at h1;rw[hW];exact Aa.below h1 (Zy)
 have x1:Aa W (w.heap.size+2) z12:=by have h1:=Aa.new ((w.alloc (.cells (Yg wd now given births Z ks.length tc pa ps.length pc la ln lc) 27)).alloc (.cells (Yd kind s n num text ra rn rc) 118)) z12 115;rw[World.size_alloc,World.size_alloc]at h1;rw[hW];exact h1
 have yM:=Yw (Ck wd now given births Z tc (.slice pa ps.length pc) (.slice la ln lc) ks s W w.heap.size (AQ.below yQ bW) bW.size Yv);have xJ:¬BQ ks s<0:=by
  rcases BM ks s with⟨_,hn⟩|⟨i,k,e,_⟩
  .exact absurd yS hn
  .omega
 have j:Hid (∀X,Below (w.heap.size+3) W X->Aa X w.heap.size (Yh wd now given births Z ks.length tc pa ps.length pc la ln lc)/\Aa X (w.heap.size+1) (Xz kind s n num text ra rn rc)/\Aa X (w.heap.size+2) z12):=fun X hX=>⟨Aa.same x0 (hX.block _ Yv),Aa.same xe (hX.block _ Yv),Aa.same x1 (hX.block _ Yv)⟩;have HW:=Yw hW;have d:w.heap.size+3<=W.heap.size:=Yv
 have HR:Hid (AM w w.heap.size pa ps):=zV;have yL:Hid (Zz w W):=bW;have yW:=Yw zF;obtain⟨v0,o,r,t,u,y,z,P⟩:=AP x0;obtain⟨m,_⟩:=xe 1 _ rfl;clear hW xB x0 x1 xe zV bW yQ yS zF;go_enter func123,ntmps123;go_upto_region 1 with fail;rw[<-HW.o];clear HW;go_wp2_with fail;refine yM.Am ?_;rintro e W1 ⟨rfl,yA⟩;have yJ:w.heap.size+3<=W1.heap.size:=Zm d yA.size
 have yU:Hid (Below (w.heap.size+3) W W1):=yA.mono d;have bA:Below W1.heap.size W1 (W1.alloc (.cells #[] 48)):=Zy;have yN:Hid ((W1.alloc (.cells #[] 48)).ownsRow (w.heap.size+3) 48 2 (Yz W1.heap.size 0 0) 0 []):=World.ownsRow_lit (base:=w.heap.size+3) (e:=48) (size:=2) W1 #[] 0 Yv Yo rfl
 have yK:Hid (Below (w.heap.size+3) W (W1.alloc (.cells #[] 48))):=yU.o.trans (bA.mono yJ);generalize BQ ks s=fi at *
 clear yM bA yA m v0 o r t u y z P;go_wp2
 go_loopw [5,6,7] (fun v dn i wr=>∃(k g c:Nat),k<=ps.length/\i=Zg k/\dn=.bool (Du (ps.take k) n)/\v=Yz g (BG (ps.take k) n s).length c/\Hid (wr.ownsRow (w.heap.size+3) 48 2 (Yz g (BG (ps.take k) n s).length c) (BG (ps.take k) n s).length (Ag pC (BG (ps.take k) n s))/\Below (w.heap.size+3) W wr)) (fun _ _ i _=>ps.length -(intOf i).toNat)
 case atStart=>exact⟨0,W1.heap.size,0,Nat.zero_le _,rfl,rfl,by simp[BG,Du],⟨by simpa [BG,Du,Ag]using yN.o,yK.o⟩⟩
 case round=>
  clear yN yK;obtain⟨k,g,c,hk,rfl,rfl,rfl,N⟩:=hrel;have zM:Below w.heap.size w wr:=yL.o.trans (N.o.2.mono Yv);have yC:w.heap.size+3<=wr.heap.size:=Zm d N.o.2.size;obtain⟨v0,o,r,t,u,y,z,P⟩:=AP (j.o _ N.o.2).1;obtain⟨m,D⟩:=Aa.c2 ((j.o _ N.o.2).2.1) 1 2;by_cases hlt:k<ps.length
  .obtain⟨L,off,ha,hb,yO⟩:=(AM.below HR.o zM).at hlt;subst ha;have HG:Hid (ps[k]?=some ps[k]):=Zv hlt;obtain⟨E,F⟩:=yO k _ HG.o;have yV:∀X,Below (w.heap.size+3) W X->X.cell? (Zd L (off+k *2))=some (.string ps[k].name)/\X.cell? (Zd L (off+k *2+1))=some (.string ps[k].sum):=fun X hX=>by obtain⟨b2,xG,e2,_,yZ⟩:=(AM.below HR.o (yL.o.trans (hX.mono Yv))).at hlt;cases e2;exact yZ k _ HG.o
   have xK:(BG (ps.take k) n s).length<=1001:=by have:=Ko (ps.take k) n s;rw[List.length_take]at this;omega
   have yI:L<wr.heap.size:=by have:=zM.size;omega
   clear yO;have G:=Yw (QK n s HG.o);have zJ:=Yw (Vj n s HG.o);have I:=Yw (Sj n s yW.o HG.o);have HD:=Yw (GP n HG.o);generalize ps[k]=x at *
   generalize hGk:BG (ps.take k) n s=gk at *
   generalize hDk:Du (ps.take k) n=dk at *
   have xH:=Yw hGk;clear hGk hDk;have R:=Yw yV;have zA:=N.o.2;have zZ:=N.o.1;have xQ:=yC;have xO:=yI;cases dk with
   |true=>
    obtain⟨K,hE⟩:=I.o rfl;have HE:=Yw hE;have zG:Hid (Du (ps.take (k+1)) n=true):=by show _=_;rw[HD.o];rfl
    have zH:(x.name.toList==n.toList)=false:=Bu K;have T:(x.name.toList !=n.toList)=true:=by simp[bne,zH]
    clear hE G zJ I K N;go_wp2;go_quiet (fail);have H:Below wr.heap.size wr (wr.drewN nq):=AH Ad _;generalize wr.drewN nq=wa at *
    have h:Below (w.heap.size+3) W wa:=zA.trans (H.mono (Zm d zA.size));have U:=Al zZ H;have zE:w.heap.size+3<=wa.heap.size:=Zm d h.size;have yD:L<wa.heap.size:=Yv
    clear E F m D v0 o r t u y z;obtain⟨v0,o,r,t,u,y,z,P⟩:=AP (j.o _ h).1;obtain⟨m,D⟩:=Aa.c2 ((j.o _ h).2.1) 1 2;obtain⟨E,F⟩:=R.o wa h;go_wp2;go_quiet (fail);have H:Below wa.heap.size wa (wa.drewN nq):=AH Ad _;generalize wa.drewN nq=wb at *
    have O:Below (w.heap.size+3) W wb:=h.trans (H.mono (Zm d h.size));have zN:=Al U H;have zS:w.heap.size+3<=wb.heap.size:=Zm d O.size;have xC:L<wb.heap.size:=Yv
    clear E F m D v0 o r t u y z;obtain⟨v0,o,r,t,u,y,z,P⟩:=AP (j.o _ O).1;obtain⟨m,D⟩:=Aa.c2 ((j.o _ O).2.1) 1 2;obtain⟨E,F⟩:=R.o wb O;obtain⟨S,l,wc,C,B,A,_⟩:=Il wb (w.heap.size+3) _ gk zN x Yl zS 24;have f:Below (w.heap.size+3) W wc:=O.trans (Ad.grown A zS (fun q e=>(Ac zN e).1));have yF:w.heap.size+3<=wc.heap.size:=Zm d f.size
    have yE:L<wc.heap.size:=Yv
    have Y:=B;clear B A;go_wp2_with (at_builtin;refine wpList_append_run rfl _ _ 24 24 rfl rfl rfl C ?_);clear C;clear E F m D v0 o r t u y z;obtain⟨v0,o,r,t,u,y,z,P⟩:=AP (j.o _ f).1;obtain⟨m,D⟩:=Aa.c2 ((j.o _ f).2.1) 1 2;obtain⟨E,F⟩:=R.o wc f;have J:=Yw (Zn Y f);clear Y f;go_wp2
    exact⟨⟨k+1,S,l,Yv,Yn,by rw[zG.o],by rw[HE.o];simp,⟨by rw[HE.o];simpa using J.o.1,J.o.2⟩⟩,Ys⟩
   |false=>
    cases hless:Op.bytesLess x.name.toList n.toList with
    |true=>
     have HE:=Yw (G.o rfl hless);have zG:Hid (Du (ps.take (k+1)) n=false):=by show _=_;rw[HD.o];unfold less;rw[hless];rfl
     have K:x.name≠n:=fun e=>by have:=BA n;unfold less at this;rw[e,this]at hless;cases hless
     have zH:(x.name.toList==n.toList)=false:=Bu K;have T:(x.name.toList !=n.toList)=true:=by simp[bne,zH]
     clear G zJ I K N;go_wp2;go_quiet (fail);have H:Below wr.heap.size wr (wr.drewN nq):=AH Ad _;generalize wr.drewN nq=wa at *
     have h:Below (w.heap.size+3) W wa:=zA.trans (H.mono (Zm d zA.size));have U:=Al zZ H;have zE:w.heap.size+3<=wa.heap.size:=Zm d h.size;have yD:L<wa.heap.size:=Yv
     clear E F m D v0 o r t u y z;obtain⟨v0,o,r,t,u,y,z,P⟩:=AP (j.o _ h).1;obtain⟨m,D⟩:=Aa.c2 ((j.o _ h).2.1) 1 2;obtain⟨E,F⟩:=R.o wa h;go_wp2;go_quiet (fail);have H:Below wa.heap.size wa (wa.drewN nq):=AH Ad _;generalize wa.drewN nq=wb at *
     have O:Below (w.heap.size+3) W wb:=h.trans (H.mono (Zm d h.size));have zN:=Al U H;have zS:w.heap.size+3<=wb.heap.size:=Zm d O.size;have xC:L<wb.heap.size:=Yv
     clear E F m D v0 o r t u y z;obtain⟨v0,o,r,t,u,y,z,P⟩:=AP (j.o _ O).1;obtain⟨m,D⟩:=Aa.c2 ((j.o _ O).2.1) 1 2;obtain⟨E,F⟩:=R.o wb O;obtain⟨S,l,wc,C,B,A,_⟩:=Il wb (w.heap.size+3) _ gk zN x Yl zS 24;have f:Below (w.heap.size+3) W wc:=O.trans (Ad.grown A zS (fun q e=>(Ac zN e).1));have yF:w.heap.size+3<=wc.heap.size:=Zm d f.size
     have yE:L<wc.heap.size:=Yv
     have Y:=B;clear B A;go_wp2_with (at_builtin;refine wpList_append_run rfl _ _ 24 24 rfl rfl rfl C ?_);clear C;clear E F m D v0 o r t u y z;obtain⟨v0,o,r,t,u,y,z,P⟩:=AP (j.o _ f).1;obtain⟨m,D⟩:=Aa.c2 ((j.o _ f).2.1) 1 2;obtain⟨E,F⟩:=R.o wc f;have J:=Yw (Zn Y f);clear Y f;go_wp2
     exact⟨⟨k+1,S,l,Yv,Yn,by rw[zG.o],by rw[HE.o];simp,⟨by rw[HE.o];simpa using J.o.1,J.o.2⟩⟩,Ys⟩
    |false=>
     have zX:=Yw (zJ.o rfl hless);have zG:Hid (Du (ps.take (k+1)) n=true):=by show _=_;rw[HD.o];unfold less;rw[hless];rfl
     by_cases K:x.name=n
     .have zH:(x.name.toList==n.toList)=true:=by rw[K];simp
      have T:(x.name.toList !=n.toList)=false:=by rw[K];simp
      have HE:Hid (BG (ps.take (k+1)) n s=gk++[⟨n,s⟩]):=by show _=_;rw[zX.o,if_pos K,List.append_nil]
      clear G zJ I K N zX;go_wp2;go_quiet (fail);have H:Below wr.heap.size wr (wr.drewN nq):=AH Ad _;generalize wr.drewN nq=wa at *
      have h:Below (w.heap.size+3) W wa:=zA.trans (H.mono (Zm d zA.size));have U:=Al zZ H;have zE:w.heap.size+3<=wa.heap.size:=Zm d h.size;have yD:L<wa.heap.size:=Yv
      clear E F m D v0 o r t u y z;obtain⟨v0,o,r,t,u,y,z,P⟩:=AP (j.o _ h).1;obtain⟨m,D⟩:=Aa.c2 ((j.o _ h).2.1) 1 2;obtain⟨E,F⟩:=R.o wa h;obtain⟨S,l,wc,C,B,A,_⟩:=Il wa (w.heap.size+3) _ gk U ⟨n,s⟩ Yl zE 24;have f:Below (w.heap.size+3) W wc:=h.trans (Ad.grown A zE (fun q e=>(Ac U e).1));have yF:w.heap.size+3<=wc.heap.size:=Zm d f.size
      have yE:L<wc.heap.size:=Yv
      have Y:=B;clear B A;go_wp2_with (at_builtin;refine wpList_append_run rfl _ _ 24 24 rfl rfl rfl C ?_);clear C;clear E F m D v0 o r t u y z;obtain⟨v0,o,r,t,u,y,z,P⟩:=AP (j.o _ f).1;obtain⟨m,D⟩:=Aa.c2 ((j.o _ f).2.1) 1 2;obtain⟨E,F⟩:=R.o wc f;go_wp2;go_quiet (fail);have H:Below wc.heap.size wc (wc.drewN nq):=AH Ad _;generalize wc.drewN nq=wd at *
      have M:Below (w.heap.size+3) W wd:=f.trans (H.mono (Zm d f.size));have zO:=Al Y H;have yG:w.heap.size+3<=wd.heap.size:=Zm d M.size;have xD:L<wd.heap.size:=Yv
      clear E F m D v0 o r t u y z;obtain⟨v0,o,r,t,u,y,z,P⟩:=AP (j.o _ M).1;obtain⟨m,D⟩:=Aa.c2 ((j.o _ M).2.1) 1 2;obtain⟨E,F⟩:=R.o wd M;have J:=Yw (Zn zO M);clear zO M;go_wp2;exact⟨⟨k+1,S,l,Yv,Yn,by rw[zG.o],by rw[HE.o];simp,⟨by rw[HE.o];simpa using J.o.1,J.o.2⟩⟩,Ys⟩
     .have zH:(x.name.toList==n.toList)=false:=Bu K;have T:(x.name.toList !=n.toList)=true:=by simp[bne,zH]
      have HE:Hid (BG (ps.take (k+1)) n s=(gk++[⟨n,s⟩])++[x]):=by show _=_;rw[zX.o,if_neg K]
      clear G zJ I K N zX;go_wp2;go_quiet (fail);have H:Below wr.heap.size wr (wr.drewN nq):=AH Ad _;generalize wr.drewN nq=wa at *
      have h:Below (w.heap.size+3) W wa:=zA.trans (H.mono (Zm d zA.size));have U:=Al zZ H;have zE:w.heap.size+3<=wa.heap.size:=Zm d h.size;have yD:L<wa.heap.size:=Yv
      clear E F m D v0 o r t u y z;obtain⟨v0,o,r,t,u,y,z,P⟩:=AP (j.o _ h).1;obtain⟨m,D⟩:=Aa.c2 ((j.o _ h).2.1) 1 2;obtain⟨E,F⟩:=R.o wa h;obtain⟨S,l,wc,C,B,A,_⟩:=Il wa (w.heap.size+3) _ gk U ⟨n,s⟩ Yl zE 24;have f:Below (w.heap.size+3) W wc:=h.trans (Ad.grown A zE (fun q e=>(Ac U e).1));have yF:w.heap.size+3<=wc.heap.size:=Zm d f.size
      have yE:L<wc.heap.size:=Yv
      have Y:=B;clear B A;go_wp2_with (at_builtin;refine wpList_append_run rfl _ _ 24 24 rfl rfl rfl C ?_);clear C;clear E F m D v0 o r t u y z;obtain⟨v0,o,r,t,u,y,z,P⟩:=AP (j.o _ f).1;obtain⟨m,D⟩:=Aa.c2 ((j.o _ f).2.1) 1 2;obtain⟨E,F⟩:=R.o wc f;go_wp2;go_quiet (fail);have H:Below wc.heap.size wc (wc.drewN nq):=AH Ad _;generalize wc.drewN nq=wd at *
      have M:Below (w.heap.size+3) W wd:=f.trans (H.mono (Zm d f.size));have zO:=Al Y H;have yG:w.heap.size+3<=wd.heap.size:=Zm d M.size;have xD:L<wd.heap.size:=Yv
      clear E F m D v0 o r t u y z;obtain⟨v0,o,r,t,u,y,z,P⟩:=AP (j.o _ M).1;obtain⟨m,D⟩:=Aa.c2 ((j.o _ M).2.1) 1 2;obtain⟨E,F⟩:=R.o wd M;obtain⟨g9,yH,we,zW,zU,zT,_⟩:=Il wd (w.heap.size+3) _ (gk++[⟨n,s⟩]) zO x Yl yG 24;have zI:Below (w.heap.size+3) W we:=M.trans (Ad.grown zT yG (fun q e=>(Ac zO e).1));have xP:w.heap.size+3<=we.heap.size:=Zm d zI.size
      have xN:L<we.heap.size:=Yv
      have yT:=zU;clear zU zT;go_wp2_with (at_builtin;refine wpList_append_run rfl _ _ 24 24 rfl rfl rfl zW ?_);clear zW;clear E F m D v0 o r t u y z;obtain⟨v0,o,r,t,u,y,z,P⟩:=AP (j.o _ zI).1;obtain⟨m,D⟩:=Aa.c2 ((j.o _ zI).2.1) 1 2;obtain⟨E,F⟩:=R.o we zI;have J:=Yw (Zn yT zI);clear yT zI;go_wp2
      exact⟨⟨k+1,g9,yH,Yv,Yn,by rw[zG.o],by rw[HE.o];simp,⟨by rw[HE.o];simpa using J.o.1,J.o.2⟩⟩,Ys⟩
  .obtain rfl:k=ps.length:=Yv
   have hO:=N.o.1;rw[Zt (Zx)]at hO |-;have Q:Hid (Zz w wr):=zM;cases hDn:Du ps n with
   |true=>
    have zC:=TH n s hDn;rw[zC]at hO |-;have J:=Yw hO;have yY:=Ko ps n s;rw[zC]at yY;have f5:=((j.o _ N.o.2).1 5 _ rfl).2;obtain⟨⟨y0,q0⟩,⟨y1,q1⟩,⟨y2,q2⟩,⟨y3,q3⟩,⟨y4,q4⟩,⟨y5,q5⟩,⟨y6,q6⟩,⟨y7,q7⟩,⟨y8,q8⟩,⟨y9,q9⟩,⟨zP,xE⟩,zR,xF⟩:=Bw (j.o _ N.o.2).2.2;clear hDn zC zM N m D;by_cases hbig:100<(BD ps n s).length
    .have T:(100:Int)<((BD ps n s).length:Int):=Yv
     have zB:Hid (100<(BD ps n s).length):=hbig;clear hbig hO;go_wp2;refine bodyPost_ret (v:=.agg (Yb 4)) (by simp[results,results123,go_sem,y0,y1,y2,y3,y4,y5,y6,y7,y8,y9,zP,zR]) rfl ?_;exact⟨Q.o.trans (Tn.below (Bv wr (w.heap.size+2) _ _ _ _ _ _ _ _ _ _ _ _) Q.o.size (by intro v hv;simp at hv;omega)),.inl ⟨zB.o,rfl⟩⟩
    .have T:¬(100:Int)<((BD ps n s).length:Int):=Yv
     have zB:Hid ((BD ps n s).length<=100):=by show _<=_;omega
     clear hbig hO;go_wp2;refine bodyPost_ret (v:=.agg #[Ze,Zg wd,Zg now,Zg given,Zg births,.slice Z ks.length tc,Yz g (BD ps n s).length c,.slice la ln lc,Zc,Ze,Zc,Zc]) (by simp[results,results123,go_sem,y0,y1,y2,y3,y4,y5,y6,y7,y8,y9,zP,zR]) rfl ?_
     have T':=(Tn.set (V:=[w.heap.size,w.heap.size+2]) wr w.heap.size 5 (Yz g (BD ps n s).length c) Yu).trans (Tn.mono (Bv (wr.setCell (Zd (w.heap.size) 5) (Yz g (BD ps n s).length c)) (w.heap.size+2) Ze (Zg wd) (Zg now) (Zg given) (Zg births) (.slice Z ks.length tc) (Yz g (BD ps n s).length c) (.slice la ln lc) Zc Ze Zc Zc) Yu)
     exact⟨Q.o.trans (T'.below Q.o.size (by intro v hv;simp at hv;omega)),.inr ⟨zB.o,g,c,rfl,(Aw J.o (fun q T=>T'.block q (Ac J.o T).2 (by have:=(Ac J.o T).1;simp;omega))).mono Yv⟩⟩
   |false=>
    have xI:=Ko ps n s;have zC:=Vk n s hDn;obtain⟨S,l,w8,yR,yB,yP,xA⟩:=Il wr (w.heap.size+3) _ (BG ps n s) hO ⟨n,s⟩ Yv yC 24;have b8:Below (w.heap.size+3) wr w8:=Ad.grown yP yC (fun q e=>(Ac hO e).1);have zY:Below (w.heap.size+3) W w8:=N.o.2.trans b8;have Q:Hid (Zz w w8):=Q.o.trans (b8.mono Yv)
    have zK:Hid ((BD ps n s).length=(BG ps n s).length+1):=by show _=_;rw[<-zC];simp
    rw[zC,zK.o]at yB;have J:=Yw yB;have f5:=((j.o _ zY).1 5 _ rfl).2;obtain⟨⟨y0,q0⟩,⟨y1,q1⟩,⟨y2,q2⟩,⟨y3,q3⟩,⟨y4,q4⟩,⟨y5,q5⟩,⟨y6,q6⟩,⟨y7,q7⟩,⟨y8,q8⟩,⟨y9,q9⟩,⟨zP,xE⟩,zR,xF⟩:=Bw (j.o _ zY).2.2;obtain⟨z0,z1,z2,z3,z4,z5,z6,z7⟩:=AP (j.o _ zY).1;clear hDn zC zM N b8 yP xA yB zY hO;by_cases hbig:100<((BG ps n s).length+1)
    .have T:(100:Int)<((BG ps n s).length:Int)+1:=Yv
     have zB:Hid (100<(BD ps n s).length):=by show _<_;rw[zK.o];exact hbig
     clear hbig;go_wp2_with (at_builtin;refine wpList_append_run rfl _ _ 24 24 rfl rfl rfl yR ?_);refine bodyPost_ret (v:=.agg (Yb 4)) (by simp[results,results123,go_sem,y0,y1,y2,y3,y4,y5,y6,y7,y8,y9,zP,zR]) rfl ?_;exact⟨Q.o.trans (Tn.below (Bv w8 (w.heap.size+2) _ _ _ _ _ _ _ _ _ _ _ _) Q.o.size (by intro v hv;simp at hv;omega)),.inl ⟨zB.o,rfl⟩⟩
    .have T:¬(100:Int)<((BG ps n s).length:Int)+1:=Yv
     have xM:¬(100:Int)<(((BG ps n s).length+1:Nat):Int):=Yv
     have zB:Hid ((BD ps n s).length<=100):=by show _<=_;rw[zK.o];omega
     clear hbig;go_wp2_with (at_builtin;refine wpList_append_run rfl _ _ 24 24 rfl rfl rfl yR ?_);refine bodyPost_ret (v:=.agg #[Ze,Zg wd,Zg now,Zg given,Zg births,.slice Z ks.length tc,Yz S ((BG ps n s).length+1) l,.slice la ln lc,Zc,Ze,Zc,Zc]) (by simp[results,results123,go_sem,y0,y1,y2,y3,y4,y5,y6,y7,y8,y9,zP,zR]) rfl ?_
     have T':=(Tn.set (V:=[w.heap.size,w.heap.size+2]) w8 w.heap.size 5 (Yz S ((BG ps n s).length+1) l) Yu).trans (Tn.mono (Bv (w8.setCell (Zd (w.heap.size) 5) (Yz S ((BG ps n s).length+1) l)) (w.heap.size+2) Ze (Zg wd) (Zg now) (Zg given) (Zg births) (.slice Z ks.length tc) (Yz S ((BG ps n s).length+1) l) (.slice la ln lc) Zc Ze Zc Zc) Yu)
     have yX:=(Aw J.o (fun q T=>T'.block q (Ac J.o T).2 (by have:=(Ac J.o T).1;simp;omega))).mono (show w.heap.size<=w.heap.size+3 by omega);refine⟨Q.o.trans (T'.below Q.o.size (by intro v hv;simp at hv;omega)),.inr ⟨zB.o,S,l,by rw[zK.o],?_⟩⟩;rw[zK.o];exact yX
def ED(ks:List Kd)(x:Kd):List Kd:=ks.filter (fun k=>less k.sum x.sum)++[x]++ks.filter (fun k=> !(less k.sum x.sum))
theorem NO{x u:Kd}:u∈ED ks x↔u∈ks++[x]:=by
 unfold ED;simp only[List.mem_append,List.mem_filter,List.mem_singleton];cases less u.sum x.sum<;>simp
 .constructor
  .rintro(h|h)
   .exact .inr h
   .exact .inl h
  .rintro(h|h)
   .exact .inr h
   .exact .inl h
theorem TI(ks:List Kd)(x:Kd):(ED ks x).length=ks.length+1:=by
 unfold ED;rw[List.length_append,List.length_append];have:∀l:List Kd,(l.filter (fun k=>less k.sum x.sum)).length+(l.filter (fun k=> !(less k.sum x.sum))).length=l.length:=by
  intro l;induction l with
  |nil=>rfl
  |cons y l ih=>cases h:less y.sum x.sum<;>simp[h]<;>omega
 have:=this ks;simp;omega
section
open Go.ChangeShapes Go.WideShapes Go.ChangeAt Go.RowKit Go.Lib
end
def Ch(text:Zi)(refs:Zl)(wd:Int):Zi:=CR (AD text refs wd).data.toList wd.toNat
def Dv(wd births:Int)(ks:List Kd)(text:Zi)(refs:Zl)(ks1:List Kd)(ak:Int):Prop:=
 (∃k∈ks,k.sum=Ch text refs wd/\AD k.F k.B wd=AD text refs wd/\ks1=ks/\ak=births)\/
 (¬Ay ks (Ch text refs wd)/\ks.length<600/\births<1000000000/\ks1=ED ks ⟨Ch text refs wd,births+1,text,refs⟩/\ak=births+1)
def GQ(wd given births:Int)(ks:List Kd)(ls:List Ld)(text:Zi)(refs:Zl)(c:Int)(a b:Zi):Prop:=
 ((¬∀r∈refs,Ay ks r)/\c=2/\a=⟨#[]⟩/\b=⟨#[]⟩)\/
 ((∀r∈refs,Ay ks r)/\(
   (∃k∈ks,k.sum=Ch text refs wd/\AD k.F k.B wd≠AD text refs wd/\c=3/\a=AD k.F k.B wd/\b=AD text refs wd)\/
   (¬Ay ks (Ch text refs wd)/\(ks.length=600\/births=1000000000)/\c=4/\a=⟨#[]⟩/\b=⟨#[]⟩)\/
   ((∃ks1 ak,Dv wd births ks text refs ks1 ak)/\(ls.length=200\/given=1000000000)/\c=4/\a=⟨#[]⟩/\b=⟨#[]⟩)))
def Vl(w w':Zh)(e:Ending)(wd now given births:Int)(T P L:Value)(ls:List Ld)(s:Zi)(hold:Int)(base:Nat):Prop:=
 Tn L.ownBlock.toList w w'/\(((200<=ls.length\/1000000000<=given)/\e=.returned (.agg #[Zg 4,Ze,Ze,Ze,Ze,Zb,Zb,Zb,Zc,Ze,Zc,Zc]))\/
  ((ls.length<200/\given<1000000000)/\∃g c,e=.returned (.agg #[Ze,Zg wd,Zg now,Zg (given+1),Zg births,T,P,.slice (some ⟨g,0,none⟩) (ls.length+1) c,Zc,Zg (given+1),Zc,Zc])/\w'.ownsRow base 50 3 (.slice (some ⟨g,0,none⟩) (ls.length+1) c) (ls++[(⟨given+1,s,now+hold⟩:Ld)]).length (Ag lC (ls++[(⟨given+1,s,now+hold⟩:Ld)]))/\(L.ownBlock=some g\/w.heap.size<=g)))
theorem GZ(wd now given births:Int)(l j d:Zk)(n m pn k f a:Nat)(ls:List Ld)(s:Zi)(hold:Int)(w:Zh)(H:w.ownsRow a 50 3 (.slice d ls.length f) ls.length (Ag lC ls))(zA:a<=w.heap.size)(hl:ls.length<=1000)(zO:0<=given)(zP:given<=1000000000)(zG:0<=now)(zH:now<=1000000000)(zI:0<=hold)(zJ:hold<=1000000000):
 Calls prog 125 #[.agg (Yg wd now given births l n m j pn k d ls.length f),.string s,Zg hold] w fun e w'=>Vl w w' e wd now given births (.slice l n m) (.slice j pn k) (.slice d ls.length f) ls s hold a:=by
 obtain⟨W,i⟩:=Af ((w.alloc (.cells (Yg wd now given births l n m j pn k d ls.length f) 27)).alloc (.cells Yc 115));have z:=(Bf i).1;have Q:=(Bf i).2.1;have x:=(Bf i).2.2.1;have L:Aa W (w.heap.size+1) z12:=by have h1:=Aa.new (w.alloc (.cells (Yg wd now given births l n m j pn k d ls.length f) 27)) z12 115;rw[World.size_alloc]at h1;rw[i];exact h1
 have F:=Yw i;have HB:=Yw z;by_cases hfull:200<=ls.length\/1000000000<=given
 .obtain⟨⟨U,q0⟩,⟨Y,q1⟩,⟨Z,q2⟩,⟨y3,q3⟩,⟨y4,q4⟩,⟨y5,q5⟩,⟨y6,q6⟩,⟨y7,q7⟩,⟨y8,q8⟩,⟨y9,q9⟩,⟨D,zK⟩,E,zM⟩:=Bw L;obtain⟨v0,v1,v2,v3,v4,v5,v6,v7⟩:=AP x;have HF:=Yw hfull;have A:(decide ((200:Int)<=(ls.length:Int))=true)\/(decide ((200:Int)<=(ls.length:Int))=false/\decide ((1000000000:Int)<=given)=true):=by
   by_cases h:200<=ls.length
   .left;simp;omega
   .right;refine⟨Yt,?_⟩;rcases hfull with S|S
    .exact absurd S h
    .simpa using S
  clear i x L z Q hfull H;rcases A with A|⟨A,zN⟩
  all_goals
   go_enter func125,ntmps125;go_upto_region 1 with fail;rw[<-F.o];clear F;go_wp2;refine bodyPost_ret (v:=.agg (Yb 4)) (by simp[results,results125,go_sem,U,Y,Z,y3,y4,y5,y6,y7,y8,y9,D,E]) rfl ?_;exact⟨Tn.of (HB.o.trans (Tn.below (Bv W (w.heap.size+1) _ _ _ _ _ _ _ _ _ _ _ _) HB.o.size (by intro v T;simp at T;omega))),.inl ⟨HF.o,rfl⟩⟩
 .have zF:ls.length<200/\given<1000000000:=Yv
  obtain⟨X,G⟩:=Af (W.setCell (Zd (w.heap.size) 2) (Zg (given+1)));have I:Tn [w.heap.size] W X:=by rw[G];exact AS _ _ _ _
  have J:Aa X w.heap.size (Yh wd now (given+1) births l n m j pn k d ls.length f):=by rw[G];exact x.set 2 _
  have u1:=Aa.same L (I.block _ Yv Yu);have B:=z.trans (I.below z.size Yu);have t:∀g,(Value.slice d ls.length f).ownBlock=some g->g<w.heap.size:=fun g hg=>(Ac H hg).2;have P:=Al H B;have zV:w.heap.size+2<=X.heap.size:=by have:=I.size;omega
  obtain⟨g,c,K,C,O,r,N⟩:=Qn X a _ ls P (⟨given+1,s,now+hold⟩:Ld) Yv Yv 25;dsimp only at C;have R:=Aa.same J (r.block _ J.lt (fun e=>by have:=t _ e.symm;omega));have e1:=Aa.same u1 (r.block _ Yv (fun e=>by have:=t _ e.symm;omega));obtain⟨c2,f2⟩:=x 2 _ rfl;obtain⟨c6,_⟩:=x 6 _ rfl;obtain⟨d1,d2,d6⟩:=Aa.c3 J 1 2 6;obtain⟨i0,i1,i2,i3,i4,i5,i6,i7⟩:=AP R
  obtain⟨⟨U,q0⟩,⟨Y,q1⟩,⟨Z,q2⟩,⟨y3,q3⟩,⟨y4,q4⟩,⟨y5,q5⟩,⟨y6,q6⟩,⟨y7,q7⟩,⟨y8,q8⟩,⟨y9,q9⟩,⟨D,zK⟩,E,zM⟩:=Bw e1;have k6:=(R 6 _ rfl).2;have zU:=ND zG zH zI zJ;have zS:¬((200:Int)<=(ls.length:Int)):=Yv
  have zT:¬((1000000000:Int)<=given):=Yv
  have M:=Yw G;have y:=Yw (Za O (Za r N));have zB:=Yw B;have zE:=Yw t;have zC:=Yw zF;clear i G x L J u1 I R e1 z Q P H O r N B t hfull;go_enter func125,ntmps125;go_upto_region 1 with fail;rw[<-F.o];clear F;go_upto_region 4 with fail;rw[<-M.o];clear M c2 f2 c6;go_wp2_with (at_builtin;refine wpList_append_run rfl _ _ 25 25 rfl rfl rfl C ?_);clear C d1 d2 d6;go_wp2
  refine bodyPost_ret (v:=.agg #[Ze,Zg wd,Zg now,Zg (given+1),Zg births,.slice l n m,.slice j pn k,Yz g (ls.length+1) c,Zc,Zg (given+1),Zc,Zc]) (by simp[results,results125,go_sem,U,Y,Z,y3,y4,y5,y6,y7,y8,y9,D,E]) rfl ?_
  have o:=(Tn.set (V:=[w.heap.size,w.heap.size+1]) K w.heap.size 6 (Yz g (ls.length+1) c) Yu).trans (Tn.mono (Bv (K.setCell (Zd (w.heap.size) 6) (Yz g (ls.length+1) c)) (w.heap.size+1) Ze (Zg wd) (Zg now) (Zg (given+1)) (Zg births) (.slice l n m) (.slice j pn k) (Yz g (ls.length+1) c) Zc (Zg (given+1)) Zc Zc) Yu);have u:=(Tn.of zB.o).trans (EC y.o.2.1)
  have zR:g<w.heap.size\/w.heap.size+2<=g:=by
   rcases y.o.2.2 with e|e
   .exact .inl (zE.o g e)
   .exact .inr Yv
  refine⟨⟨o.os.trans u.os,o.tape.trans u.tape,o.output.trans u.output,Zm u.size o.size,fun b hb T=>(o.block b (Zr hb u.size) Yt).trans (u.block b hb T)⟩,.inr ⟨zC.o,g,c,rfl,Aw y.o.1 (fun q hq=>o.block q (Ac y.o.1 hq).2 ?_),?_⟩⟩
  .obtain rfl:g=q:=by simpa [Value.ownBlock]using hq
   simp;omega
  .rcases y.o.2.2 with e|e
   .exact .inl e
   .exact .inr Yv
theorem La(w:Zh)(b:Nat)(v:Value)(d:List (Kd×Value))(C:w.ownsRow b 65 4 v d.length (Ag kC d))(z:Kd×Value)(E:∃a n c,z.2=.slice a n c)(B:d.length<=1000000)(l:b<=w.heap.size)(m:TypeId):
 ∃g cap h,(Builtin.append_ #[23,23] m #[v,Yz w.heap.size 1 1]).run prog (w.alloc (.cells #[.string z.1.sum,Zg z.1.born,.string z.1.F,z.2] 65))=.ok (Yz g (d.length+1) cap) h/\h.ownsRow b 65 4 (Yz g (d.length+1) cap) (d++[z]).length (Ag kC (d++[z]))/\w.grownBy h v.ownBlock/\(v.ownBlock=some g\/g=w.heap.size+1):=by
 obtain⟨F,A,q,r,t⟩:=info_parts Gd;have o:=Al C (Ad.alloc (Zx) (.cells #[.string z.1.sum,Zg z.1.born,.string z.1.F,z.2] 65));have y:∀j u,(Ag kC [z])[j]?=some u->(w.alloc (.cells #[.string z.1.sum,Zg z.1.born,.string z.1.F,z.2] 65)).cell? ((⟨w.heap.size,0,none⟩:Addr).add j)=some u:=by intro j u i;rw[Go.WideShapes.add_plain,Nat.zero_add];exact(Aa.new w [.string z.1.sum,Zg z.1.born,.string z.1.F,z.2] 65 j u (by simpa [Ag,kC]using i)).1
 obtain⟨G,h,D,k,x,_,f⟩:=run_append_own_at (P:=prog) (w.alloc (.cells #[.string z.1.sum,Zg z.1.born,.string z.1.F,z.2] 65)) b 23 m 65 F _ 4 64 underlying23 A q r t rfl Yq v d.length (Ag kC d) o ⟨w.heap.size,0,none⟩ 1 1 (Ag kC [z]) (by simp[Ag,kC]) y (by intro u i;obtain⟨a,n,c,e⟩:=E;simp[Ag,kC,e]at i;rcases i with rfl|rfl|rfl|rfl<;>rfl) Yo Yv Yt
 obtain⟨g,cap,rfl,_,_⟩:=Bq k (fun e=>by subst e;rcases k.2 with⟨_,B⟩|⟨_,_,_,e,_⟩<;>first|omega|cases e);refine⟨g,cap,h,D,?_,(World.grownBy_alloc w _ _).trans x,?_⟩
 .rw[Es,List.length_append];exact k
 .rcases f with f|f
  .exact .inl f.symm
  .right;simpa [Value.ownBlock]using f
def zD(zs:List (Kd×Value))(s:Zi):Bool:= !(zs.all (fun z=>less z.1.sum s))
def zQ(zs:List (Kd×Value))(one:Kd×Value):List (Kd×Value):=zs.filter (fun z=>less z.1.sum one.1.sum)++(if zD zs one.1.sum then [one]else [])++zs.filter (fun z=> !(less z.1.sum one.1.sum))
def Cn(zs:List (Kd×Value))(one:Kd×Value):List (Kd×Value):=zs.filter (fun z=>less z.1.sum one.1.sum)++[one]++zs.filter (fun z=> !(less z.1.sum one.1.sum))
theorem TJ(a:List (Kd×Value))(one:Kd×Value):(Cn a one).map (·.1)=ED (a.map (·.1)) one.1:=by unfold Cn ED;rw[List.map_append,List.map_append,List.filter_map,List.filter_map];rfl
theorem Kp{a:List (Kd×Value)}{one z:Kd×Value}(h:z∈Cn a one):z∈a\/z=one:=by
 unfold Cn at h;simp only[List.mem_append,List.mem_filter,List.mem_singleton]at h;rcases h with(h|h)|h
 .exact .inl h.1
 .exact .inr h
 .exact .inl h.1
theorem Jt{a:List (Kd×Value)}{x:Kd×Value}(s:Zi)(c:a[k]?=some x):zD (a.take (k+1)) s=(zD (a.take k) s|| !(less x.1.sum s)):=by obtain⟨b,rfl⟩:=Zw c;unfold zD;rw[Zu b,List.all_append];simp
theorem Im{a:List (Kd×Value)}(h:zD a s=false):a.filter (fun z=> !(less z.1.sum s))=[]:=by
 rw[List.filter_eq_nil_iff];intro x b;have:less x.1.sum s=true:=by unfold zD at h;simp only[Bool.not_eq_false']at h;exact List.all_eq_true.1 h x b
 simp[this]
theorem TK{a:List (Kd×Value)}{x:Kd×Value}(one:Kd×Value)(e:a[k]?=some x)(c:zD (a.take k) one.1.sum=false)(d:less x.1.sum one.1.sum=true):zQ (a.take (k+1)) one=zQ (a.take k) one++[x]:=by have b:=Jt one.1.sum e;rw[c,d]at b;unfold zQ;rw[Im c,Im (by rw[b];rfl),b,c];obtain⟨f,rfl⟩:=Zw e;rw[Zu f,List.filter_append];simp[d]
theorem WB{a:List (Kd×Value)}{x:Kd×Value}(one:Kd×Value)(f:a[k]?=some x)(b:zD (a.take k) one.1.sum=false)(e:less x.1.sum one.1.sum=false):zQ (a.take (k+1)) one=zQ (a.take k) one++[one]++[x]:=by have c:=Jt one.1.sum f;rw[b,e]at c;have d:=Im b;unfold zQ;rw[d,c,b];obtain⟨g,rfl⟩:=Zw f;rw[Zu g,List.filter_append,List.filter_append,d];simp[e]
theorem Vm{c:List (Kd×Value)}{x:Kd×Value}(one:Kd×Value)(f:(c.map (·.1.sum)).Pairwise (fun a b=>less a b=true))(n:c[k]?=some x)(g:zD (c.take k) one.1.sum=true):zQ (c.take (k+1)) one=zQ (c.take k) one++[x]:=by
 have m:=Jt one.1.sum n;rw[g,Bool.true_or]at m;obtain⟨i,rfl⟩:=Zw n;obtain⟨y,t,l⟩:∃y∈c.take k,less y.1.sum one.1.sum=false:=by unfold zD at g;simpa using g
 obtain⟨j,q⟩:=List.getElem?_of_mem t;obtain⟨o,e⟩:=Zw q;rw[List.length_take]at o;rw[List.getElem_take]at e;have d:=List.pairwise_iff_getElem.1 f j k Yt (by simpa using i) Yv;rw[List.getElem_map,List.getElem_map,e]at d;have r:less c[k].1.sum one.1.sum=false:=by
  cases h:less c[k].1.sum one.1.sum with
  |false=>rfl
  |true=>rw[BI d h]at l;cases l
 unfold zQ;rw[m,g,Zu i,List.filter_append,List.filter_append];simp[r]
theorem Wa{a:List (Kd×Value)}(one:Kd×Value)(b:zD a one.1.sum=true):zQ a one=Cn a one:=by unfold zQ Cn;rw[b];rfl
theorem WC{a:List (Kd×Value)}(one:Kd×Value)(b:zD a one.1.sum=false):zQ a one++[one]=Cn a one:=by unfold zQ Cn;rw[b,Im b];simp
theorem Sl(a:List (Kd×Value))(one:Kd×Value):(zQ a one).length<=a.length+1:=by
 have h:∀(l:List (Kd×Value)),(l.filter (fun z=>less z.1.sum one.1.sum)).length+(l.filter (fun z=> !(less z.1.sum one.1.sum))).length=l.length:=by
  intro l;induction l with
  |nil=>rfl
  |cons y l ih=>cases hl:less y.1.sum one.1.sum<;>simp[hl]<;>omega
 have:=h a;unfold zQ;rw[List.length_append,List.length_append];split<;>simp<;>omega
theorem LC(h:Ay ks s):∃(i:Nat) (k:Kd),BQ ks s=(i:Int)/\ks[i]?=some k/\k.sum=s:=by
 rcases BM ks s with⟨_,c⟩|⟨i,k,e,a,b⟩
 .exact absurd h c
 .exact⟨i,k,e,a,b⟩
theorem Hk(h:¬Ay ks s):BQ ks s<0:=by
 rcases BM ks s with⟨e,_⟩|⟨i,k,e,a,b⟩
 .omega
 .exact absurd ⟨k,Zs a,b⟩ h
structure Rs where
 sm:Zi
 le:Int
 E:Int
 G:Int
 C:Int
 ks:List Kd
 ps:List Pd
 ls:List Ld
def Fe(wd now given births:Int)(ks:List Kd)(ps:List Pd)(ls:List Ld)(kd:Int)(s nm:Zi)(num:Int)(text:Zi)(refs:Zl)(r:Rs):Prop:=
 (kd=1/\(∀r∈refs,Ay ks r)/\ls.length<200/\given<1000000000/\∃ks1 ak,Dv wd births ks text refs ks1 ak/\r=⟨Ch text refs wd,given+1,now,given+1,ak,ks1,ps,ls++[⟨given+1,Ch text refs wd,now+num⟩]⟩)\/
 (kd=2/\Ay ks s/\((∃x∈ps,x.name=nm)\/ps.length<100)/\r=⟨⟨#[]⟩,0,now,given,births,ks,BD ps nm s,ls⟩)\/
 (kd=3/\(∃x∈ps,x.name=nm)/\r=⟨⟨#[]⟩,0,now,given,births,ks,Bm ps nm,ls⟩)\/
 (kd=4/\Ay ks s/\ls.length<200/\given<1000000000/\r=⟨⟨#[]⟩,given+1,now,given+1,births,ks,ps,ls++[⟨given+1,s,now+num⟩]⟩)\/
 (kd=5/\(∃x∈ls,x.I=num)/\r=⟨⟨#[]⟩,0,now,given,births,ks,ps,Bx ls num⟩)\/
 (kd=6/\now+num<=1000000000/\r=⟨⟨#[]⟩,0,now+num,given,births,ks,ps,Cf ls (now+num)⟩)\/
 (kd=7/\Ay ks s/\¬Cz ps ls ks s/\r=⟨⟨#[]⟩,0,now,given,births,Bt ks s,ps,ls⟩)
def Ja(wd now given births:Int)(ks:List Kd)(ps:List Pd)(ls:List Ld)(kd:Int)(s nm:Zi)(num:Int)(text:Zi)(refs:Zl)(c:Int)(a b:Zi):Prop:=
 (kd=1/\GQ wd given births ks ls text refs c a b)\/
 (a=⟨#[]⟩/\b=⟨#[]⟩/\(
   (kd=2/\((¬Ay ks s/\c=2)\/(Ay ks s/\(¬∃x∈ps,x.name=nm)/\ps.length=100/\c=4)))\/
   (kd=3/\(¬∃x∈ps,x.name=nm)/\c=5)\/
   (kd=4/\((¬Ay ks s/\c=2)\/(Ay ks s/\(ls.length=200\/given=1000000000)/\c=4)))\/
   (kd=5/\(¬∃x∈ls,x.I=num)/\c=5)\/
   (kd=6/\1000000000<now+num/\c=4)\/
   (kd=7/\((¬Ay ks s/\c=2)\/(Ay ks s/\Cz ps ls ks s/\c=6)))))
structure IA (wd now given births:Int) (ks:List Kd) (ps:List Pd) (ls:List Ld) (kd num:Int) (text:Zi) (refs:Zl):Prop where
 bt:DR wd ks
 w1:1<=wd
 np:ps.length<=100
 nl:ls.length<=200
 cg:ps.Pairwise (fun a b=>less a.name b.name=true)
 dh:ls.Pairwise (fun a b=>a.I<b.I)
 cz:0<=now
 ci:now<=1000000000
 br:0<=given
 bi:given<=1000000000
 az:0<=births
 ak:births<=1000000000
 kd1:1<=kd
 kd7:kd<=7
 ib:0<=num
 gy:num<=1000000000
 cn:∀k∈ks,k.F.size<=maxLen
 txl:text.size<=maxLen
 rfn:refs.length<=1000
theorem FA(text:Zi)(refs:Zl)(wd:Int)(h:1<=wd):((Ch text refs wd).size:Int)=wd:=Eg ⟨⟨#[]⟩,0,text,refs⟩ wd h
section
theorem Mr{A:Type}{R:A->A->Prop}(l:∀a b c,R a b->R b c->R a c){e:List A}(h:∀(j:Nat) p q,e[j]?=some p->e[j+1]?=some q->R p q):e.Pairwise R:=by
 have m:∀(d i:Nat) u v,e[i]?=some u->e[i+d+1]?=some v->R u v:=by
  intro d;induction d with
  |zero=>intro i u v g f;exact h i u v g f
  |succ d ih=>intro i u v g f;have t:=(Zw f).1;have k:e[i+d+1]?=some e[i+d+1]:=Zv Yv;exact l _ _ _ (ih i u _ g k) (h _ _ _ k (by rw[show i+d+1+1=i+(d+1)+1 by omega];exact f))
 rw[List.pairwise_iff_getElem];intro i j n o r;exact m (j -i -1) i _ _ (Zv n) (by rw[show i+(j -i -1)+1=j by omega];exact Zv o)
section
variable {wd now given births:Int} {ks:List Kd} {ps:List Pd} {ls:List Ld}
theorem AI.aj(h:AI wd now given births ks ps ls):∀k∈ks,Ee k.F k.B wd:=fun k b=>by obtain⟨i,a⟩:=List.getElem?_of_mem b;exact AV (h.th i k a).ok
theorem AI.bt(h:AI wd now given births ks ps ls):DR wd ks:=by
 have sz:∀k∈ks,(k.sum.size:Int)=wd:=fun k c=>by obtain⟨i,g⟩:=List.getElem?_of_mem c;rw[(h.th i k g).sum];exact Eg k wd h.bh.gj
 have d:(ks.map (·.sum)).Pairwise (fun a b=>less a b=true):=by refine Qf (fun j p q e f=> ?_);rw[List.getElem?_map]at e f;obtain⟨u,l,rfl⟩:=Option.map_eq_some_iff.1 e;obtain⟨v,m,rfl⟩:=Option.map_eq_some_iff.1 f;exact(h.th (j+1) v m).up j u rfl l
 exact⟨GU d,d,sz,fun k c=>⟨by have:=(h.aj k c).B;omega,IM (h.aj k c).all⟩,h.nth,h.bh.gn⟩
theorem EK(h:Ca kd s nm num text refs wd=true):1<=kd/\kd<=7/\Us kd.toNat s nm num text refs wd:=by unfold Ca at h;simp only[Bool.and_eq_true,decide_eq_true_eq]at h;exact⟨h.1.1,h.1.2,Fp h.2⟩
theorem NP(h:Ca kd s nm num text refs wd=true):refs.length<=30:=by
 unfold Ca at h;simp only[Bool.and_eq_true,decide_eq_true_eq]at h;have b:=h.2;unfold Ei at b;simp only[Bool.and_eq_true,decide_eq_true_eq]at b;have a:=b.2.2.2.2;unfold Ka at a;split at a
 .exact(AV a).B
 .have c:=(of_decide_eq_true a).2;omega
theorem IA.of(h:AI wd now given births ks ps ls)(l:Ca kd s nm num text refs wd=true)(n:text.size<=maxLen):IA wd now given births ks ps ls kd num text refs:=by
 obtain⟨o,r,e⟩:=EK l;refine⟨h.bt,h.bh.gj,h.np,h.nl,?_,?_,h.bh.ci,h.bh.gi,h.bh.bi,h.bh.fj,h.bh.ak,h.bh.cj,o,r,e.n0,e.n1,fun k m=> ?_,n,by have:=NP l;omega⟩
 .exact Mr (R:=fun(a b:Pd)=>less a.name b.name=true) (fun a b c g i=>BI g i) (fun j p q d f=>(h.cv (j+1) q f).up j p rfl d)
 .exact Mr (R:=fun(a b:Ld)=>a.I<b.I) (fun a b c g i=>by omega) (fun j p q d f=>(h.bj (j+1) q f).up j p rfl d)
 .have:=(h.aj k m).F;unfold maxLen;omega
theorem Ms(ks:List Kd)(x:Kd):(ED ks x).Perm (x::ks):=by unfold ED;have b:(ks.filter (fun k=>less k.sum x.sum)++ks.filter (fun k=> !(less k.sum x.sum))).Perm ks:=List.filter_append_perm _ _;rw[List.append_assoc];exact(List.perm_middle (a:=x) (l₁:=ks.filter (fun k=>less k.sum x.sum)) (l₂:=ks.filter (fun k=> !(less k.sum x.sum)))).trans (b.cons x)
theorem JM(ps:List Pd)(n s:Zi):(BD ps n s).length<=ps.length+1/\((∃x∈ps,x.name=n)->(BD ps n s).length<=ps.length):=by
 have h:∀(l:List Pd),(l.filter (fun x=>less x.name n)).length+(l.filter (fun x=> !(less x.name n)&& !decide (x.name=n))).length+(l.filter (fun x=>decide (x.name=n))).length=l.length:=by
  intro l;induction l with
  |nil=>rfl
  |cons x l ih=>
   by_cases hn:x.name=n
   .simp[hn,BA];omega
   .cases hl:less x.name n<;>simp[hl,hn]<;>omega
 have a:=h ps;unfold BD;rw[List.length_append,List.length_append];refine⟨Yt,fun⟨x,hx,hxn⟩=> ?_⟩;have b:0<(ps.filter (fun x=>decide (x.name=n))).length:=List.length_pos_of_mem (List.mem_filter.2 ⟨hx,by simpa using hxn⟩);simp;omega
end
theorem Ja.code(h:Ja wd now given births ks ps ls kd s nm num text refs c a b):2<=c/\c<=6:=by rcases h with⟨_,⟨_,rfl,_⟩|⟨_,⟨_,_,_,_,rfl,_⟩|⟨_,_,rfl,_⟩|⟨_,_,rfl,_⟩⟩⟩|⟨_,_,⟨_,⟨_,rfl⟩|⟨_,_,_,rfl⟩⟩|⟨_,_,rfl⟩|⟨_,⟨_,rfl⟩|⟨_,_,rfl⟩⟩|⟨_,_,rfl⟩|⟨_,_,rfl⟩|⟨_,⟨_,rfl⟩|⟨_,_,rfl⟩⟩⟩<;>omega
end
section
structure Gr (wd now given births:Int) (ks:List Kd) (ps:List Pd) (ls:List Ld):Prop where
 bt:DR wd ks
 w1:1<=wd
 np:ps.length<=100
 nl:ls.length<=200
 cg:ps.Pairwise (fun a b=>less a.name b.name=true)
 dh:ls.Pairwise (fun a b=>a.I<b.I)
 cz:0<=now
 ci:now<=1000000000
 br:0<=given
 bi:given<=1000000000
 az:0<=births
 ak:births<=1000000000
 cn:∀k∈ks,k.F.size<=2000
 di:∀k∈ks,k.B.length<=30
 fo:∀x∈ls,x.I<=given
theorem Gr.zero(a:1<=wd)(b:wd<=8):Gr wd 0 0 0 [] [] []:=
 ⟨⟨Yu,Yu,Yu,by intro k c;simp at c,Yu,b⟩,a,Yu,Yu,Yu,Yu,Yv,Yv,Yv,Yv,Yv,Yv,Yu,Yu,Yu⟩
section
variable {wd now given births:Int} {ks:List Kd} {ps:List Pd} {ls:List Ld} {kd:Int} {s nm:Zi} {num:Int} {text:Zi} {refs:Zl}
theorem Gr.jh(h:Gr wd now given births ks ps ls)(a:Ca kd s nm num text refs wd=true)(c:text.size<=maxLen):IA wd now given births ks ps ls kd num text refs:=by obtain⟨d,f,e⟩:=EK a;exact⟨h.bt,h.w1,h.np,h.nl,h.cg,h.dh,h.cz,h.ci,h.br,h.bi,h.az,h.ak,d,f,e.n0,e.n1,fun k b=>by have:=h.cn k b;unfold maxLen;omega,c,by have:=NP a;omega⟩
theorem TL(h:Ca kd s nm num text refs wd=true):text.size<=2000:=by
 unfold Ca at h;simp only[Bool.and_eq_true,decide_eq_true_eq]at h;have b:=h.2;unfold Ei at b;simp only[Bool.and_eq_true,decide_eq_true_eq]at b;have a:=b.2.2.2.2;unfold Ka at a;split at a
 .exact(AV a).F
 .have c:=(of_decide_eq_true a).1;omega
theorem OV(n s:Zi)(h:ps.Pairwise (fun a b=>less a.name b.name=true)):(BD ps n s).Pairwise (fun a b=>less a.name b.name=true):=by
 unfold BD;rw[List.pairwise_append,List.pairwise_append];have e:∀y∈ps.filter (fun x=> !(less x.name n)&& !decide (x.name=n)),less n y.name=true:=fun y d=>by have f:=(List.mem_filter.1 d).2;simp only[Bool.and_eq_true,Bool.not_eq_true',decide_eq_false_iff_not]at f;exact Kc f.1 f.2
 refine⟨⟨h.filter _,Yu,fun x c y d=> ?_⟩,h.filter _,fun x c y d=> ?_⟩
 .rw[List.mem_singleton]at d;subst d;exact(List.mem_filter.1 c).2
 .rcases List.mem_append.1 c with c|c
  .exact BI (List.mem_filter.1 c).2 (e y d)
  .rw[List.mem_singleton]at c;subst c;exact e y d
theorem OW{x:Kd}(h:(ks.map (·.sum)).Pairwise (fun a b=>less a b=true))(i:¬Ay ks x.sum):((ED ks x).map (·.sum)).Pairwise (fun a b=>less a b=true):=by
 rw[List.pairwise_map]at h |-;unfold ED;rw[List.pairwise_append,List.pairwise_append];have f:∀y∈ks.filter (fun k=> !(less k.sum x.sum)),less x.sum y.sum=true:=fun y c=>by obtain⟨j,g⟩:=List.mem_filter.1 c;simp only[Bool.not_eq_true']at g;exact Kc g (fun e=>i ⟨y,j,e⟩)
 refine⟨⟨h.filter _,Yu,fun y c z d=> ?_⟩,h.filter _,fun y c z d=> ?_⟩
 .rw[List.mem_singleton]at d;subst d;exact(List.mem_filter.1 c).2
 .rcases List.mem_append.1 c with c|c
  .exact BI (List.mem_filter.1 c).2 (f z d)
  .rw[List.mem_singleton]at c;subst c;exact f z d
theorem DR.drop(h:DR wd ks)(t:Zi):DR wd (Bt ks t):=by have a:(Bt ks t).Sublist ks:=List.filter_sublist;exact⟨h.nd.sublist (a.map _),h.ct.sublist (a.map _),fun k b=>h.sz k (a.subset b),fun k b=>h.B k (a.subset b),Zm a.length_le h.len,h.w8⟩
theorem Gr.step(h:Gr wd now given births ks ps ls)(B:Ca kd s nm num text refs wd=true){r:Rs}(i:Fe wd now given births ks ps ls kd s nm num text refs r):Gr wd r.E r.G r.C r.ks r.ps r.ls:=by
 obtain⟨N,O,e⟩:=EK B;have I:=e.n0;have J:=e.n1;have g:∀x:Ld,x.I=given+1->(ls++[x]).Pairwise (fun a b=>a.I<b.I)/\∀y∈ls++[x],y.I<=given+1:=fun x m=>by
  refine⟨?_,fun y i=> ?_⟩
  .rw[List.pairwise_append];refine⟨h.dh,Yu,fun y i z t=> ?_⟩;rw[List.mem_singleton]at t;subst t;have:=h.fo y i;omega
  .rcases List.mem_append.1 i with i|i
   .have:=h.fo y i;omega
   .rw[List.mem_singleton]at i;subst i;omega
 rcases i with⟨rfl,_,D,C,K,L,i,rfl⟩|⟨_,_,f,rfl⟩|⟨_,_,rfl⟩|⟨_,_,D,C,rfl⟩|⟨_,_,rfl⟩|⟨_,F,rfl⟩|⟨_,_,_,rfl⟩
 .have n:(ls++[(⟨given+1,Ch text refs wd,now+num⟩:Ld)]).length<=200:=Yt
  have j:=g ⟨given+1,Ch text refs wd,now+num⟩ rfl;have u:=h.br;have l:=AV (e.du rfl);rcases i with⟨_,_,_,_,rfl,rfl⟩|⟨A,H,M,rfl,rfl⟩
  .exact⟨h.bt,h.w1,h.np,n,h.cg,j.1,h.cz,h.ci,by show 0<=given+1;omega,by show given+1<=_;omega,h.az,h.ak,h.cn,h.di,j.2⟩
  .have E:=Ms ks ⟨Ch text refs wd,births+1,text,refs⟩;have G:=h.az;have d:∀k∈ED ks ⟨Ch text refs wd,births+1,text,refs⟩,k=⟨Ch text refs wd,births+1,text,refs⟩\/k∈ks:=fun k c=>List.mem_cons.1 (E.mem_iff.1 c);have v:DR wd (ED ks ⟨Ch text refs wd,births+1,text,refs⟩):=by
    have q:=OW (x:=⟨Ch text refs wd,births+1,text,refs⟩) h.bt.ct A;refine⟨GU q,q,fun k c=> ?_,fun k c=> ?_,by rw[TI];omega,h.bt.w8⟩
    .rcases d k c with rfl|c
     .exact FA _ _ _ h.w1
     .exact h.bt.sz k c
    .rcases d k c with rfl|c
     .exact⟨by have:=l.B;show refs.length<=_;omega,IM l.all⟩
     .exact h.bt.B k c
   refine⟨v,h.w1,h.np,n,h.cg,j.1,h.cz,h.ci,by show 0<=given+1;omega,by show given+1<=_;omega,by show 0<=births+1;omega,by show births+1<=_;omega,fun k c=> ?_,fun k c=> ?_,j.2⟩
   .rcases d k c with rfl|c
    .exact l.F
    .exact h.cn k c
   .rcases d k c with rfl|c
    .exact l.B
    .exact h.di k c
 .have o:=JM ps nm s;refine⟨h.bt,h.w1,?_,h.nl,OV nm s h.cg,h.dh,h.cz,h.ci,h.br,h.bi,h.az,h.ak,h.cn,h.di,h.fo⟩;rcases f with f|f
  .exact Zm (o.2 f) h.np
  .exact Zm o.1 Yv
 .exact⟨h.bt,h.w1,Zm (List.length_filter_le _ _) h.np,h.nl,h.cg.filter _,h.dh,h.cz,h.ci,h.br,h.bi,h.az,h.ak,h.cn,h.di,h.fo⟩
 .have j:=g ⟨given+1,s,now+num⟩ rfl;have u:=h.br;exact⟨h.bt,h.w1,h.np,Yt,h.cg,j.1,h.cz,h.ci,by show 0<=given+1;omega,by show given+1<=_;omega,h.az,h.ak,h.cn,h.di,j.2⟩
 .exact⟨h.bt,h.w1,h.np,Zm (List.length_filter_le _ _) h.nl,h.cg,h.dh.filter _,h.cz,h.ci,h.br,h.bi,h.az,h.ak,h.cn,h.di,fun x m=>h.fo x (List.mem_filter.1 m).1⟩
 .have:=h.cz;exact⟨h.bt,h.w1,h.np,Zm (List.length_filter_le _ _) h.nl,h.cg,h.dh.filter _,by show 0<=now+num;omega,F,h.br,h.bi,h.az,h.ak,h.cn,h.di,fun x m=>h.fo x (List.mem_filter.1 m).1⟩
 .exact⟨h.bt.drop s,h.w1,h.np,h.nl,h.cg,h.dh,h.cz,h.ci,h.br,h.bi,h.az,h.ak,fun k c=>h.cn k (List.mem_filter.1 c).1,fun k c=>h.di k (List.mem_filter.1 c).1,h.fo⟩
end
end
section
section
variable {wd now given births:Int} {ks:List Kd} {ps:List Pd} {ls:List Ld} {kd:Int} {s nm:Zi} {num:Int} {text:Zi} {refs:Zl}
theorem Dv.ft{c d:List Kd}{a b:Int}(f:Dv wd births ks text refs c a)(g:Dv wd births ks text refs d b):c=d/\a=b:=by
 rcases f with⟨k,h,i,_,rfl,rfl⟩|⟨e,_,_,rfl,rfl⟩<;>rcases g with⟨k',hk',hs',_,rfl,rfl⟩|⟨hno',_,_,rfl,rfl⟩
 .exact⟨rfl,rfl⟩
 .exact absurd ⟨k,h,i⟩ hno'
 .exact absurd ⟨k',hk',hs'⟩ e
 .exact⟨rfl,rfl⟩
theorem GQ.ft(m:(ks.map (·.sum)).Nodup){z:Int}{x y:Zi}(q:GQ wd given births ks ls text refs c a b)(r:GQ wd given births ks ls text refs z x y):c=z/\a=x/\b=y:=by
 have n:∀k∈ks,k.sum=Ch text refs wd->AD k.F k.B wd≠AD text refs wd->∀j o,¬Dv wd births ks text refs j o:=by
  intro k f g t j o u;rcases u with⟨v,d,e,h,_⟩|⟨i,_⟩
  .have:=CX m f d (g.trans e.symm);subst this;exact t h
  .exact i ⟨k,f,g⟩
 rcases q with⟨A,rfl,rfl,rfl⟩|⟨l,q⟩<;>rcases r with⟨hn',rfl,rfl,rfl⟩|⟨hall',r⟩
 .exact⟨rfl,rfl,rfl⟩
 .exact absurd hall' A
 .exact absurd l hn'
 .rcases q with⟨k,f,g,t,rfl,rfl,rfl⟩|⟨i,_,rfl,rfl,rfl⟩|⟨⟨j,o,u⟩,_,rfl,rfl,rfl⟩<;>rcases r with⟨v,d,e,h,rfl,rfl,rfl⟩|⟨hno',_,rfl,rfl,rfl⟩|⟨⟨ks2,b2,hy'⟩,_,rfl,rfl,rfl⟩
  .have:=CX m f d (g.trans e.symm);subst this;exact⟨rfl,rfl,rfl⟩
  .exact absurd ⟨k,f,g⟩ hno'
  .exact absurd hy' (n k f g t _ _)
  .exact absurd ⟨v,d,e⟩ i
  .exact⟨rfl,rfl,rfl⟩
  .exact⟨rfl,rfl,rfl⟩
  .exact absurd u (n v d e h _ _)
  .exact⟨rfl,rfl,rfl⟩
  .exact⟨rfl,rfl,rfl⟩
theorem GQ.not(o:(ks.map (·.sum)).Nodup)(t:GQ wd given births ks ls text refs c a b){x:List Kd}{q:Int}(i:Dv wd births ks text refs x q)(h:∀r∈refs,Ay ks r)(B:ls.length<200)(A:given<1000000000):False:=by
 rcases t with⟨v,_⟩|⟨_,⟨k,j,l,u,_⟩|⟨f,d,_⟩|⟨_,d,_⟩⟩
 .exact v h
 .rcases i with⟨m,e,g,n,_⟩|⟨f,_⟩
  .have:=CX o j e (l.trans g.symm);subst this;exact u n
  .exact f ⟨k,j,l⟩
 .rcases i with⟨m,e,g,_⟩|⟨_,y,z,_⟩
  .exact f ⟨m,e,g⟩
  .omega
 .omega
theorem Ja.ft(k:(ks.map (·.sum)).Nodup){i:Int}{g h:Zi}(d:Ja wd now given births ks ps ls kd s nm num text refs c a b)(e:Ja wd now given births ks ps ls kd s nm num text refs i g h):c=i/\a=g/\b=h:=by
 rcases d with⟨l,d⟩|⟨rfl,rfl,d⟩<;>rcases e with⟨hk',e⟩|⟨rfl,rfl,e⟩
 .exact d.ft k e
 .omega
 .omega
 .refine⟨?_,rfl,rfl⟩;rcases d with⟨f,⟨d,rfl⟩|⟨d,j,m,rfl⟩⟩|⟨f,d,rfl⟩|⟨f,⟨d,rfl⟩|⟨d,j,rfl⟩⟩|⟨f,d,rfl⟩|⟨f,d,rfl⟩|⟨f,⟨d,rfl⟩|⟨d,j,rfl⟩⟩<;>rcases e with⟨k2,⟨e,rfl⟩|⟨e,x2,y2,rfl⟩⟩|⟨k2,e,rfl⟩|⟨k2,⟨e,rfl⟩|⟨e,x2,rfl⟩⟩|⟨k2,e,rfl⟩|⟨k2,e,rfl⟩|⟨k2,⟨e,rfl⟩|⟨e,x2,rfl⟩⟩<;>first|rfl|omega|exact absurd e d|exact absurd d e
theorem Fe.ft{r b:Rs}(c:Fe wd now given births ks ps ls kd s nm num text refs r)(d:Fe wd now given births ks ps ls kd s nm num text refs b):r=b:=by rcases c with⟨a,_,_,_,f,g,e,rfl⟩|⟨a,_,_,rfl⟩|⟨a,_,rfl⟩|⟨a,_,_,_,rfl⟩|⟨a,_,rfl⟩|⟨a,_,rfl⟩|⟨a,_,_,rfl⟩<;>rcases d with⟨k2,_,_,_,ks2,b2,y2,rfl⟩|⟨k2,_,_,rfl⟩|⟨k2,_,rfl⟩|⟨k2,_,_,_,rfl⟩|⟨k2,_,rfl⟩|⟨k2,_,rfl⟩|⟨k2,_,_,rfl⟩<;>first|rfl|omega|(obtain⟨rfl,rfl⟩:=e.ft y2;rfl)
theorem Ja.not(i:(ks.map (·.sum)).Nodup){r:Rs}(d:Ja wd now given births ks ps ls kd s nm num text refs c a b)(j:Fe wd now given births ks ps ls kd s nm num text refs r):False:=by rcases j with⟨g,h,l,k,n,o,m,_⟩|⟨g,f,e,_⟩|⟨g,f,_⟩|⟨g,f,e,q,_⟩|⟨g,f,_⟩|⟨g,f,_⟩|⟨g,f,e,_⟩<;>rcases d with⟨k1,d⟩|⟨_,_,⟨k1,⟨d,_⟩|⟨d,x1,z1,_⟩⟩|⟨k1,d,_⟩|⟨k1,⟨d,_⟩|⟨d,x1,_⟩⟩|⟨k1,d,_⟩|⟨k1,d,_⟩|⟨k1,⟨d,_⟩|⟨d,x1,_⟩⟩⟩<;>first|omega|exact absurd f d|exact absurd x1 e|exact d.not i m h l k|(rcases e with e|e;exact x1 e;omega)
end
end
theorem QL(w:Zh)(a:Nat):Bb w a Zb Zb Zb [] [] [] []:=
 ⟨rfl,⟨rfl,.inl ⟨rfl,rfl⟩⟩,fun i k r b=>(by simp at b),⟨rfl,.inl ⟨rfl,rfl⟩⟩,⟨rfl,.inl ⟨rfl,rfl⟩⟩,List.nodup_nil⟩
structure An where
 code:Int
 wd:Int
 E:Int
 G:Int
 C:Int
 le:Int
 sm:Zi
 a:Zi
 b:Zi
 ks:List Kd
 ps:List Pd
 ls:List Ld
theorem NQ{V:List Nat}{c:Zh}{lo:Nat}{d:Zj}(h:w.ownsRow lo e size v n d)(i:Tn V w c)(g:∀b∈V,b<lo):c.ownsRow lo e size v n d:=
 Aw h (fun q a=>i.block q (Ac h a).2 (fun f=>by have j:=g q f;have k:=(Ac h a).1;omega))
theorem Aa.there(h:Aa w B l):w.there B 0 l.length:=fun j c=>by obtain⟨a,b⟩:=h j _ (Zv c);rw[Nat.zero_add];exact⟨by rw[a];rfl,b⟩
theorem Aa.range(h:Aa w B l):w.rangeAt B 0 l:=fun j v a=>by rw[Nat.zero_add];exact(h j v a).1
theorem AF(B:Nat):∀(vs:Zj) (o:Nat) (w:Zh),Tn [B] w (w.setCells B o vs)
 |[],_,w=>Tn.of Ad
 |v::r,o,w=>(Tn.set w B o v Yu).trans (AF B r (o+1) (w.setCell (Zd B o) v))
theorem Aa.ar(h:Aa w B l)(a:Zj)(d:a.length=l.length):Aa (w.setCells B 0 a) B a:=fun j v c=>by have e:=(Zw c).1;have b:=World.rangeAt_setCells_same w B 0 a (d▸h.there) j v c;rw[Nat.zero_add]at b;refine⟨b,?_⟩;rw[World.frozen?_setCells];exact(h j _ (Zv Yv)).2
end Go.Proofs.YtcfjcdpkpiidkaaGreat
