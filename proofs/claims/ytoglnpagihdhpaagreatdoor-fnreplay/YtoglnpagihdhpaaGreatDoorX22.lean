import Derived.Test.YtoglnpagihdhpaaGreatDoorX18
import Derived.Test.YtoglnpagihdhpaaGreatDoorX19
set_option maxRecDepth 100000
set_option maxHeartbeats 16000000
namespace Go.Proofs.YtoglnpagihdhpaaGreatDoor
open ChangeShapes WideShapes ChangeAt RowKit _root_.Go.Proofs.Tryz
variable{a e ai:Int}{k d m c base N:Nat}{x:Pd}{w j:Zh}{P L T:Value}{i g:List Kd}{V:List Nat}
theorem Sr{a:List Ld}{x:Ld}(n:Int)(c:a[k]?=some x):Br (a.take (k+1)) n=Br (a.take k) n++(if x.H=n then []else [x]):=by obtain⟨b,rfl⟩:=Zw c;unfold Br;rw[Zu b,List.filter_append];by_cases h:a[k].H=n<;>simp[h]
theorem NH(a:List Ld)(n:Int):(Br a n).length=a.length↔¬∃x∈a,x.H=n:=by unfold Br;rw[List.length_filter_eq_length_iff];simp
def Uc(w w':Zh)(e:Ending)(wd now given births:Int)(T P:Value)(ls:List Ld)(n:Int):Prop:=
 Below w.heap.size w w'/\(((¬∃x∈ls,x.H=n)/\e=.returned (.agg #[Zg 5,Ze,Ze,Ze,Ze,Zb,Zb,Zb,Zc,Ze,Zc,Zc]))\/
  ((∃x∈ls,x.H=n)/\∃g c,e=.returned (.agg #[Ze,Zg wd,Zg now,Zg given,Zg births,T,P,.slice (some ⟨g,0,none⟩) (Br ls n).length c,Zc,Ze,Zc,Zc])/\w'.ownsRow w.heap.size 71 3 (.slice (some ⟨g,0,none⟩) (Br ls n).length c) (Br ls n).length (Ab lC (Br ls n))))
theorem Ss(s now d b:Int)(m j C:Zk)(r o pn l G:Nat)(a:List Ld)(n:Int)(w:Zh)(u:AM w w.heap.size C a)(hl:a.length<=1000):
 Calls prog 51 #[.agg (Yg s now d b m r o j pn l C a.length G),Zg n] w fun e w'=>Uc w w' e s now d b (.slice m r o) (.slice j pn l) a n:=by
 obtain⟨W,A⟩:=Af ((w.alloc (.cells (Yg s now d b m r o j pn l C a.length G) 30)).alloc (.cells Xy 32));have bW:=(Bb A).1;have O:=(Bb A).2.1;have x0:=(Bb A).2.2.1;have x1:Aa W (w.heap.size+1) z12:=by have h1:=Aa.new (w.alloc (.cells (Yg s now d b m r o j pn l C a.length G) 30)) z12 32;rw[World.size_alloc]at h1;rw[A];exact h1
 have T:Hid (∀X,Below (w.heap.size+2) W X->Aa X w.heap.size (Yh s now d b m r o j pn l C a.length G)/\Aa X (w.heap.size+1) z12):=fun X hX=>⟨Aa.same x0 (hX.block _ Yv),Aa.same x1 (hX.block _ Yv)⟩;have HW:=Yw A;have zH:Hid (W.heap.size=w.heap.size+2):=O;have y:w.heap.size+2<=W.heap.size:=Yv
 have HR:Hid (AM w w.heap.size C a):=u;have zA:Hid (Zz w W):=bW;have bA:Below W.heap.size W (W.alloc (.cells #[] 71)):=Zy;have I:Hid ((W.alloc (.cells #[] 71)).ownsRow (w.heap.size+2) 71 3 (Yz W.heap.size 0 0) 0 []):=World.ownsRow_lit (base:=w.heap.size+2) (e:=71) (size:=3) W #[] 0 Yv Yo rfl;have H:Hid (Below (w.heap.size+2) W (W.alloc (.cells #[] 71))):=bA.mono y
 clear A O x0 x1 u bW bA;go_enter func51,ntmps51;go_upto_region 1 with fail;rw[<-HW.o];clear HW;go_wp2
 go_loopw [5,6] (fun v i wr=>∃(k g c:Nat),k<=a.length/\i=Zg k/\v=Yz g (Br (a.take k) n).length c/\Hid (wr.ownsRow (w.heap.size+2) 71 3 (Yz g (Br (a.take k) n).length c) (Br (a.take k) n).length (Ab lC (Br (a.take k) n))/\Below (w.heap.size+2) W wr)) (fun _ i _=>a.length -(intOf i).toNat)
 case atStart=>exact⟨0,W.heap.size,0,Nat.zero_le _,rfl,by simp[Br],⟨by simpa [Br,Ab]using I.o,H.o⟩⟩
 case round=>
  clear I H;obtain⟨k,g,c,hk,rfl,rfl,f⟩:=hrel;have h:Below w.heap.size w wr:=zA.o.trans (f.o.2.mono Yv);have P:w.heap.size+2<=wr.heap.size:=Zm y f.o.2.size;obtain⟨v0,v1,v2,v3,v4,v5,v6,v7⟩:=AQ (T.o _ f.o.2).1;by_cases hlt:k<a.length
  .obtain⟨b',zJ,ha,hb,K⟩:=(AM.below HR.o h).at hlt;subst ha;have HG:Hid (a[k]?=some a[k]):=Zv hlt;obtain⟨c0,c1,c2⟩:=K k _ HG.o;have J:=Yw (Sr n HG.o);have zI:(Br (a.take k) n).length<=1000:=by have:=List.length_filter_le (fun x:Ld=> !decide (x.H=n)) (a.take k);unfold Br;rw[List.length_take]at this;omega
   clear K;generalize a[k]=x at *
   generalize hGk:Br (a.take k) n=gk at *
   have zG:=Yw hGk;clear hGk;by_cases hxn:x.H=n
   .have B:(x.H !=n)=false:=by simp[hxn]
    have D:Hid (Br (a.take (k+1)) n=gk):=by show _=_;rw[J.o,if_pos hxn,List.append_nil]
    clear hxn;go_wp2;exact⟨⟨k+1,g,c,Yv,Yn,by rw[D.o],⟨by rw[D.o];exact f.o.1,f.o.2⟩⟩,Ys⟩
   .have B:(x.H !=n)=true:=by simp[hxn]
    have D:Hid (Br (a.take (k+1)) n=gk++[x]):=by show _=_;rw[J.o,if_neg hxn]
    clear hxn;obtain⟨g8,t,Y,N,M,L,zC⟩:=Om wr (w.heap.size+2) _ gk f.o.1 x Yv P 28;have b8:Below (w.heap.size+2) wr Y:=Ae.grown L P (fun q e=>(Ac f.o.1 e).1);have Z:Hid (Y.ownsRow (w.heap.size+2) 71 3 (Yz g8 (gk.length+1) t) (gk++[x]).length (Ab lC (gk++[x]))/\Below (w.heap.size+2) W Y):=⟨M,f.o.2.trans b8⟩;have zF:b'<wr.heap.size:=by have:=h.size;omega
    clear M L zC b8;go_wp2_with (at_builtin;refine wpList_append_run rfl _ _ 28 28 rfl rfl rfl N ?_);clear N c0 c1 c2 v0 v1 v2 v3 v4 v5 v6;go_wp2;exact⟨⟨k+1,g8,t,Yv,Yn,by rw[D.o,List.length_append];rfl,⟨by rw[D.o,List.length_append];exact List.length_append▸Z.o.1,Z.o.2⟩⟩,Ys⟩
  .obtain rfl:k=a.length:=Yv
   have F:=f.o.1;rw[Zt (Zx)]at F |-;have S:=Yw F;have z:Hid (Zz w wr):=h;obtain⟨⟨y0,q0⟩,⟨y1,q1⟩,⟨y2,q2⟩,⟨y3,q3⟩,⟨y4,q4⟩,⟨y5,q5⟩,⟨y6,q6⟩,⟨y7,q7⟩,⟨y8,q8⟩,⟨y9,q9⟩,⟨Q,zK⟩,R,zM⟩:=AS (T.o _ f.o.2).2;have f6:=((T.o _ f.o.2).1 6 _ rfl).2;by_cases hex:∃x∈a,x.H=n
   .have zE:¬(Br a n).length=a.length:=fun e=>(NH a n).1 e hex;have B:(((Br a n).length:Int)==(a.length:Int))=false:=Yt
    have E:Hid (∃x∈a,x.H=n):=hex;clear zE hex F h f;go_wp2;refine bodyPost_ret (v:=.agg #[Ze,Zg s,Zg now,Zg d,Zg b,.slice m r o,.slice j pn l,Yz g (Br a n).length c,Zc,Ze,Zc,Zc]) (by simp[results,results51,go_sem,y0,y1,y2,y3,y4,y5,y6,y7,y8,y9,Q,R]) rfl ?_
    have T':=(Tn.set (V:=[w.heap.size,w.heap.size+1]) wr w.heap.size 6 (Yz g (Br a n).length c) Yu).trans (Tn.mono (Ba (wr.setCell (Zd (w.heap.size) 6) (Yz g (Br a n).length c)) (w.heap.size+1) Ze (Zg s) (Zg now) (Zg d) (Zg b) (.slice m r o) (.slice j pn l) (Yz g (Br a n).length c) Zc Ze Zc Zc) Yu)
    exact⟨z.o.trans (T'.below z.o.size (by intro v U;simp at U;omega)),.inr ⟨E.o,g,c,rfl,(Ak S.o (fun q B=>T'.block q (Ac S.o B).2 (by have:=(Ac S.o B).1;simp;omega))).mono Yv⟩⟩
   .have zB:(Br a n).length=a.length:=(NH a n).2 hex;have B:(((Br a n).length:Int)==(a.length:Int))=true:=Yt
    have E:Hid (¬∃x∈a,x.H=n):=hex;clear zB hex F h f;go_wp2;refine bodyPost_ret (v:=.agg (Xx 5)) (by simp[results,results51,go_sem,y0,y1,y2,y3,y4,y5,y6,y7,y8,y9,Q,R]) rfl ?_;exact⟨z.o.trans (Tn.below (Ba wr (w.heap.size+1) _ _ _ _ _ _ _ _ _ _ _ _) z.o.size (by intro v U;simp at U;omega)),.inl ⟨E.o,rfl⟩⟩
theorem IX(w:Zh)(a:Nat)(v:Value)(b:List Pd)(y:w.ownsRow a 69 2 v b.length (Ab pC b))(x:Pd)(t:b.length<=1000000)(i:a<=w.heap.size)(k:TypeId):
 ∃g cap d,(Builtin.append_ #[27,27] k #[v,Yz w.heap.size 1 1]).run prog (w.alloc (.cells #[.string x.name,.string x.sum] 69))=.ok (Yz g (b.length+1) cap) d/\d.ownsRow a 69 2 (Yz g (b.length+1) cap) (b++[x]).length (Ab pC (b++[x]))/\w.grownBy d v.ownBlock/\(v.ownBlock=some g\/g=w.heap.size+1):=by
 obtain⟨A,s,m,n,o⟩:=info_parts Ir;have l:=Ag y (Ae.alloc (Zx) (.cells #[.string x.name,.string x.sum] 69));have r:∀j u,(Ab pC [x])[j]?=some u->(w.alloc (.cells #[.string x.name,.string x.sum] 69)).cell? ((⟨w.heap.size,0,none⟩:Addr).add j)=some u:=by intro j u f;rw[Go.WideShapes.add_plain,Nat.zero_add];exact(Aa.new w [.string x.name,.string x.sum] 69 j u (by simpa [Ab,pC]using f)).1
 obtain⟨B,d,z,h,q,_,c⟩:=run_append_own_at (P:=prog) (w.alloc (.cells #[.string x.name,.string x.sum] 69)) a 27 k 69 A _ 2 32 underlying27 s m n o rfl Yq v b.length (Ab pC b) l ⟨w.heap.size,0,none⟩ 1 1 (Ab pC [x]) (by simp[Ab,pC]) r (by intro u f;simp[Ab,pC]at f;rcases f with rfl|rfl<;>rfl) Yo Yv Yt
 obtain⟨g,cap,rfl,_,_⟩:=Co h (fun e=>by subst e;rcases h.2 with⟨_,t⟩|⟨_,_,_,e,_⟩<;>first|omega|cases e);refine⟨g,cap,d,z,?_,(World.grownBy_alloc w _ _).trans q,?_⟩
 .rw[Ih,List.length_append];exact h
 .rcases c with c|c
  .exact .inl c.symm
  .right;simpa [Value.ownBlock]using c
theorem Qt{a:List Pd}(n:Zi)(c:a[k]?=some x):Bc (a.take (k+1)) n=Bc (a.take k) n++(if x.name=n then []else [x]):=by obtain⟨b,rfl⟩:=Zw c;unfold Bc;rw[Zu b,List.filter_append];by_cases h:a[k].name=n<;>simp[h]
theorem Mk(a:List Pd)(n:Zi):(Bc a n).length=a.length↔¬∃x∈a,x.name=n:=by unfold Bc;rw[List.length_filter_eq_length_iff];simp
def QX(w w':Zh)(e:Ending)(wd now given births:Int)(T P:Value)(ls:List Pd)(n:Zi):Prop:=
 Below w.heap.size w w'/\(((¬∃x∈ls,x.name=n)/\e=.returned (.agg #[Zg 5,Ze,Ze,Ze,Ze,Zb,Zb,Zb,Zc,Ze,Zc,Zc]))\/
  ((∃x∈ls,x.name=n)/\∃g c,e=.returned (.agg #[Ze,Zg wd,Zg now,Zg given,Zg births,T,.slice (some ⟨g,0,none⟩) (Bc ls n).length c,P,Zc,Ze,Zc,Zc])/\w'.ownsRow w.heap.size 69 2 (.slice (some ⟨g,0,none⟩) (Bc ls n).length c) (Bc ls n).length (Ab pC (Bc ls n))))
theorem Qu(s now d b:Int)(m j C:Zk)(r o pn l G:Nat)(a:List Pd)(n:Zi)(w:Zh)(u:AO w w.heap.size C a)(hl:a.length<=1000):
 Calls prog 48 #[.agg (Yg s now d b m r o C a.length G j pn l),.string n] w fun e w'=>QX w w' e s now d b (.slice m r o) (.slice j pn l) a n:=by
 obtain⟨W,A⟩:=Af ((w.alloc (.cells (Yg s now d b m r o C a.length G j pn l) 30)).alloc (.cells Xy 32));have bW:=(Bb A).1;have P:=(Bb A).2.1;have x0:=(Bb A).2.2.1;have x1:Aa W (w.heap.size+1) z12:=by have h1:=Aa.new (w.alloc (.cells (Yg s now d b m r o C a.length G j pn l) 30)) z12 32;rw[World.size_alloc]at h1;rw[A];exact h1
 have U:Hid (∀X,Below (w.heap.size+2) W X->Aa X w.heap.size (Yh s now d b m r o C a.length G j pn l)/\Aa X (w.heap.size+1) z12):=fun X hX=>⟨Aa.same x0 (hX.block _ Yv),Aa.same x1 (hX.block _ Yv)⟩;have HW:=Yw A;have zH:Hid (W.heap.size=w.heap.size+2):=P;have y:w.heap.size+2<=W.heap.size:=Yv
 have HR:Hid (AO w w.heap.size C a):=u;have zA:Hid (Zz w W):=bW;have bA:Below W.heap.size W (W.alloc (.cells #[] 69)):=Zy;have I:Hid ((W.alloc (.cells #[] 69)).ownsRow (w.heap.size+2) 69 2 (Yz W.heap.size 0 0) 0 []):=World.ownsRow_lit (base:=w.heap.size+2) (e:=69) (size:=2) W #[] 0 Yv Yo rfl;have H:Hid (Below (w.heap.size+2) W (W.alloc (.cells #[] 69))):=bA.mono y
 clear A P x0 x1 u bW bA;go_enter func48,ntmps48;go_upto_region 1 with fail;rw[<-HW.o];clear HW;go_wp2
 go_loopw [5,6] (fun v i wr=>∃(k g c:Nat),k<=a.length/\i=Zg k/\v=Yz g (Bc (a.take k) n).length c/\Hid (wr.ownsRow (w.heap.size+2) 69 2 (Yz g (Bc (a.take k) n).length c) (Bc (a.take k) n).length (Ab pC (Bc (a.take k) n))/\Below (w.heap.size+2) W wr)) (fun _ i _=>a.length -(intOf i).toNat)
 case atStart=>exact⟨0,W.heap.size,0,Nat.zero_le _,rfl,by simp[Bc],⟨by simpa [Bc,Ab]using I.o,H.o⟩⟩
 case round=>
  clear I H;obtain⟨k,g,c,hk,rfl,rfl,f⟩:=hrel;have h:Below w.heap.size w wr:=zA.o.trans (f.o.2.mono Yv);have Q:w.heap.size+2<=wr.heap.size:=Zm y f.o.2.size;obtain⟨v0,v1,v2,v3,v4,v5,v6,v7⟩:=AQ (U.o _ f.o.2).1;by_cases hlt:k<a.length
  .obtain⟨b',zJ,ha,hb,K⟩:=(AO.below HR.o h).at hlt;subst ha;have HG:Hid (a[k]?=some a[k]):=Zv hlt;obtain⟨c0,c1⟩:=K k _ HG.o;have J:=Yw (Qt n HG.o);have zI:(Bc (a.take k) n).length<=1000:=by have:=List.length_filter_le (fun x:Pd=> !decide (x.name=n)) (a.take k);unfold Bc;rw[List.length_take]at this;omega
   clear K;generalize a[k]=x at *
   generalize hGk:Bc (a.take k) n=gk at *
   have zG:=Yw hGk;clear hGk;by_cases hxn:x.name=n
   .have B:(x.name.toList !=n.toList)=false:=by rw[hxn];simp
    have N:(x.name.toList==n.toList)=true:=by rw[hxn];simp
    have D:Hid (Bc (a.take (k+1)) n=gk):=by show _=_;rw[J.o,if_pos hxn,List.append_nil]
    clear hxn;go_wp2;exact⟨⟨k+1,g,c,Yv,Yn,by rw[D.o],⟨by rw[D.o];exact f.o.1,f.o.2⟩⟩,Ys⟩
   .have N:(x.name.toList==n.toList)=false:=Bz hxn;have B:(x.name.toList !=n.toList)=true:=by simp[bne,N]
    have D:Hid (Bc (a.take (k+1)) n=gk++[x]):=by show _=_;rw[J.o,if_neg hxn]
    clear hxn;obtain⟨g8,t,Z,O,M,L,zC⟩:=IX wr (w.heap.size+2) _ gk f.o.1 x Yv Q 27;have b8:Below (w.heap.size+2) wr Z:=Ae.grown L Q (fun q e=>(Ac f.o.1 e).1);have H8:Hid (Z.ownsRow (w.heap.size+2) 69 2 (Yz g8 (gk.length+1) t) (gk++[x]).length (Ab pC (gk++[x]))/\Below (w.heap.size+2) W Z):=⟨M,f.o.2.trans b8⟩;have zF:b'<wr.heap.size:=by have:=h.size;omega
    clear M L zC b8;go_wp2_with (at_builtin;refine wpList_append_run rfl _ _ 27 27 rfl rfl rfl O ?_);clear O c0 c1 v0 v1 v2 v3 v4 v5 v6;go_wp2;exact⟨⟨k+1,g8,t,Yv,Yn,by rw[D.o,List.length_append];rfl,⟨by rw[D.o,List.length_append];exact List.length_append▸H8.o.1,H8.o.2⟩⟩,Ys⟩
  .obtain rfl:k=a.length:=Yv
   have F:=f.o.1;rw[Zt (Zx)]at F |-;have T:=Yw F;have z:Hid (Zz w wr):=h;obtain⟨⟨y0,q0⟩,⟨y1,q1⟩,⟨y2,q2⟩,⟨y3,q3⟩,⟨y4,q4⟩,⟨y5,q5⟩,⟨y6,q6⟩,⟨y7,q7⟩,⟨y8,q8⟩,⟨y9,q9⟩,⟨R,zK⟩,S,zM⟩:=AS (U.o _ f.o.2).2;have f6:=((U.o _ f.o.2).1 5 _ rfl).2;by_cases hex:∃x∈a,x.name=n
   .have zE:¬(Bc a n).length=a.length:=fun e=>(Mk a n).1 e hex;have B:(((Bc a n).length:Int)==(a.length:Int))=false:=Yt
    have E:Hid (∃x∈a,x.name=n):=hex;clear zE hex F h f;go_wp2;refine bodyPost_ret (v:=.agg #[Ze,Zg s,Zg now,Zg d,Zg b,.slice m r o,Yz g (Bc a n).length c,.slice j pn l,Zc,Ze,Zc,Zc]) (by simp[results,results48,go_sem,y0,y1,y2,y3,y4,y5,y6,y7,y8,y9,R,S]) rfl ?_
    have T':=(Tn.set (V:=[w.heap.size,w.heap.size+1]) wr w.heap.size 5 (Yz g (Bc a n).length c) Yu).trans (Tn.mono (Ba (wr.setCell (Zd (w.heap.size) 5) (Yz g (Bc a n).length c)) (w.heap.size+1) Ze (Zg s) (Zg now) (Zg d) (Zg b) (.slice m r o) (Yz g (Bc a n).length c) (.slice j pn l) Zc Ze Zc Zc) Yu)
    exact⟨z.o.trans (T'.below z.o.size (by intro v Y;simp at Y;omega)),.inr ⟨E.o,g,c,rfl,(Ak T.o (fun q B=>T'.block q (Ac T.o B).2 (by have:=(Ac T.o B).1;simp;omega))).mono Yv⟩⟩
   .have zB:(Bc a n).length=a.length:=(Mk a n).2 hex;have B:(((Bc a n).length:Int)==(a.length:Int))=true:=Yt
    have E:Hid (¬∃x∈a,x.name=n):=hex;clear zB hex F h f;go_wp2;refine bodyPost_ret (v:=.agg (Xx 5)) (by simp[results,results48,go_sem,y0,y1,y2,y3,y4,y5,y6,y7,y8,y9,R,S]) rfl ?_;exact⟨z.o.trans (Tn.below (Ba wr (w.heap.size+1) _ _ _ _ _ _ _ _ _ _ _ _) z.o.size (by intro v Y;simp at Y;omega)),.inl ⟨E.o,rfl⟩⟩
section
open Go.ChangeShapes Go.WideShapes Go.ChangeAt Go.RowKit Go.Lib
theorem Gd:∃i:TypeInfo,prog.info? 69=some i/\i.zero=some (.agg #[Zc,Zc])/\i.size=2/\i.bytes=32:=by obtain⟨e,d,a,b,c⟩:=info_parts Ir;exact⟨e,d,a,b,c⟩
theorem Ik{b:Nat}(c:w.heap[b]?=some (.cells #[.string x.name,.string x.sum] 69 (0,0))):∀j u,(Ab pC [x])[j]?=some u->w.cell? (Zd b j)=some u:=by intro j u a;rw[Ab,List.flatMap_cons,List.flatMap_nil,List.append_nil]at a;simp only[World.cell?,c];rw[<-a];simp[pC]
theorem Oa(P:Value)(b:List Pd)(x:Pd)(t:Nat)(w:Zh)(a:Nat)(o:w.ownsRow a 69 2 P b.length (Ab pC b))(H:b.length<=600)(d:a<=w.heap.size)(r:w.heap[t]?=some (.cells #[.string x.name,.string x.sum] 69 (0,0))):
 Calls prog 134 #[P,Zg b.length,Yz t 1 1] w fun e v=>∃m,e=.returned m/\v.ownsRow a 69 2 m (b.length+1) (Ab pC (b++[x]))/\w.grownBy v P.ownBlock/\(m.ownBlock=P.ownBlock\/m.ownBlock=some w.heap.size):=by
 obtain⟨D,c,h,i,k⟩:=Gd;obtain⟨s,v,q,f,n,_,y⟩:=run_append_own_at (P:=prog) w a 27 27 69 D _ 2 32 underlying27 c h i k rfl Yq P b.length (Ab pC b) o ⟨t,0,none⟩ 1 1 (Ab pC [x]) (by rw[By Cg];rfl) (fun j u C=>by rw[Go.WideShapes.add_plain,Nat.zero_add];exact Ik r j u C) (Jy _) Yo Yv d;rw[<-Bn]at f;have l:=Yw (Zn f (Zn n y));clear f n y
 rcases o.2 with⟨e,z⟩|⟨g,cap,E,e,G,B,F,f,n,A⟩
 .subst e;rw[z]at l |-;clear o r c h i k;go_enter func134,ntmps134;go_wp2_with (at_builtin;refine Lib.wpList_append_run _ rfl _ _ _ _ rfl _ _ rfl rfl _ _ q ?_);go_ret;exact⟨s,rfl,l.o⟩
 .subst e;clear o r c h i k B n A;unfold maxLen at f;by_cases hc:cap=b.length
  .subst hc;go_enter func134,ntmps134;go_wp2_with (at_builtin;refine Lib.wpList_append_run _ rfl _ _ _ _ rfl _ _ rfl rfl _ _ q ?_);go_ret;exact⟨s,rfl,l.o⟩
  .go_enter func134,ntmps134;go_wp2_with (at_builtin;refine Lib.wpList_append_run _ rfl _ _ _ _ rfl _ _ rfl rfl _ _ q ?_);go_ret;exact⟨s,rfl,l.o⟩
theorem Ml(g cap i:Nat)(a:List Pd)(x:Pd)(r:Nat)(w:Zh)(k:Nat)(y:w.ownsRow k 69 2 (Yz g a.length cap) a.length (Ab pC a))(hl:a.length<=600)(hi:i<a.length)(A:a.length+1<=cap)(G:r≠g)(o:w.heap[r]?=some (.cells #[.string x.name,.string x.sum] 69 (0,0))):
 Calls prog 134 #[Yz g a.length cap,Zg i,Yz r 1 1] w fun e M=>e=.returned (Yz g (a.length+1) cap)/\M.ownsRow k 69 2 (Yz g (a.length+1) cap) (a.length+1) (Ab pC (a.take i++[x]++a.drop i))/\w.grownBy M (some g):=by
 obtain⟨L,c,Q,z,R⟩:=Gd;obtain⟨d,B,zE,N,E,O⟩:∃d,w.heap[g]?=some (.cells d 69 (0,0))/\a.length<=cap/\cap<=maxLen/\d.size=cap *2/\d.toList.take (a.length *2)=Ab pC a:=by
  rcases y.2 with⟨e,_⟩|⟨g',S,d,e,hb,B,U,V,W,X⟩
  .cases e
  .cases e;exact⟨d,B,U,V,W,X⟩
 have H:=By Cg a;have C:(Ab pC [x]).length=2:=by rw[By Cg];rfl
 have F:((Ab pC a).drop (i *2)).length=(a.length -i) *2:=by rw[List.length_drop,H];omega
 have b:∀j,j<cap *2->(w.cell? (Zd g j)).isSome=true:=fun j l=>by simp only[World.cell?,B];rw[Array.getElem?_eq_getElem Yv];rfl
 have P:∀J I,(callFunc 156 #[Yz r 1 1,.slice (some ⟨g,(i+1) *2,none⟩) J I]).run prog w=.ok (.value (.bool false)) w:=fun J I=>by
  rw[run_callFunc_extern func156 Yr Yr Yr (e:=Extern.SlicesOverlaps.overlaps #[27,27] #[4]) Yr,
   Lib.run_overlaps_apart w 27 4 69 underlying27 2 (fun w=>by simp[sizeOf,typeInfo,c,z]) ⟨r,0,none⟩ ⟨g,(i+1) *2,none⟩ 1 1 J I G 69 69 (#[.string x.name,.string x.sum]:Array Value).size d.size (by simp only[World.shape?,o]) (by simp only[World.shape?,B]) (by rw[E];omega) (by simp only[World.frozen?,o];rfl) (by simp[World.frozen?,o])]
  rfl
 have s:∀q n K,(Builtin.copy_ #[27,27] q #[.slice (some ⟨g,(i+1) *2,none⟩) (a.length+1 -(i+1)) n,.slice (some ⟨g,i *2,none⟩) (a.length+1 -i) K]).run prog w.drew=.ok (goInt (Nat.min (a.length+1 -i) (a.length+1 -(i+1)))) (w.drew.setCells g ((i+1) *2) ((Ab pC a).drop (i *2))):=fun q n K=>
  CA w.drew 27 27 q 69 L 2 g ((i+1) *2) (a.length+1 -(i+1)) n ⟨g,i *2,none⟩ (a.length+1 -i) K ((Ab pC a).drop (i *2)) underlying27 c z (by rw[F];congr 1;show _=min _ _;omega)
   (fun j v l=>by
     rw[Go.WideShapes.add_plain];rw[List.getElem?_drop]at l;have:=(Zw l).1;exact(y.cellAt _ Yv).trans l)
   (fun j l=>b _ Yv) (fun j _=>y.frozenAt _) (fun v o=>Jy _ v (List.mem_of_mem_drop o))
 obtain⟨m,f⟩:=Af (w.drew.setCells g ((i+1) *2) ((Ab pC a).drop (i *2)));have D:∀q n,(Builtin.copy_ #[27,27] q #[.slice (some ⟨g,i *2,none⟩) (a.length+1 -i) n,Yz r 1 1]).run prog m=.ok (goInt (Nat.min 1 (a.length+1 -i))) (m.setCells g (i *2) (Ab pC [x])):=fun q n=>
  CA m 27 27 q 69 L 2 g (i *2) (a.length+1 -i) n ⟨r,0,none⟩ 1 1 (Ab pC [x]) underlying27 c z (by rw[C,show Nat.min 1 (a.length+1 -i)=1 from Nat.min_eq_left Yv,Nat.one_mul])
   (fun j v l=>by
     rw[Go.WideShapes.add_plain,Nat.zero_add,f,World.cell?_setCells_out g _ _ _ _ (fun h _=>absurd h G)];exact Ik o j v l)
   (fun j l=>by rw[f];exact Hm g ((Ab pC a).drop (i *2)) ((i+1) *2) w.drew (fun t ht=>b _ Yv) (i *2+j) (b _ Yv)) (fun j _=>by rw[f,World.frozen?_setCells];exact y.frozenAt _) (Jy _)
 have u:(m.setCells g (i *2) (Ab pC [x])).ownsRow k 69 2 (Yz g (a.length+1) cap) (a.length+1) (Ab pC (a.take i++[x]++a.drop i))/\w.grownBy (m.setCells g (i *2) (Ab pC [x])) (some g):=by
  refine⟨?_,?_⟩
  .rw[Bn,Bn,<-FV Cg a i Yv,<-Fm Cg a i Yv,f];exact Nf (w:=w.drew) (Ag y (Ae.drew)) Yv C A
  .rw[f];exact Ar (Dh (Cd g _ _ _)) (Cd g _ _ _)
 have T:=Yw u;rw[<-f]at s;unfold maxLen at N;have z:¬((i:Int)=(a.length:Int)):=Yv
 have zF:(0:Int)<=(i:Int)+1:=Yv
 have zG:(i:Int)+1<=(a.length:Int)+1:=Yv
 have zH:((i:Int)+1).toNat=i+1:=Yv
 have zI:((a.length:Int)+1).toNat=a.length+1:=Yv
 have zJ:(0:Int)<=(a.length:Int)+1:=Yv
 have zK:(a.length:Int)+1<=(cap:Int):=Yv
 have Y:¬(cap=i+1):=Yv
 have Z:¬(cap=i):=Yv
 have zA:i<=a.length+1:=Yv
 have zB:(i:Int)<=(a.length:Int)+1:=Yv
 have zC:(i:Int)<=(a.length:Int):=Yv
 have mixed:prog.follows .mixedOrders=true:=Yr
 have zM:IntKind.i64.wrap ((i:Int)+1)=(i:Int)+1:=by rw[IntKind.wrap_i64];omega
 have zN:IntKind.i64.wrap ((a.length:Int)+1)=(a.length:Int)+1:=by rw[IntKind.wrap_i64];omega
 clear y b u o B O E c Q R H C F f;go_enter func134,ntmps134;go_wp2_with (simp only[P])
 go_region_law_o (refine Er rfl _ _ 27 27 rfl (.slice (some ⟨g,(i+1) *2,none⟩) (a.length+1 -(i+1)) (cap -(i+1))) (.slice (some ⟨g,i *2,none⟩) (a.length+1 -i) (cap -i)) (by simp[Act.eval,Act.put]) (by simp[Act.eval,Act.put]) (s 3 (cap -(i+1)) (cap -i)) ?_)
 go_wp2_with (at_builtin;refine Dz _ rfl _ _ 27 27 rfl _ _ rfl rfl (D _ _) ?_);go_ret;exact⟨rfl,T.o⟩
theorem MN(g cap i:Nat)(a:List Pd)(x:Pd)(K:Nat)(w:Zh)(f:Nat)(I:w.ownsRow f 69 2 (Yz g a.length cap) a.length (Ab pC a))(hl:a.length<=600)(hi:i<a.length)(E:cap<a.length+1)(D:f<=w.heap.size)(J:w.heap[K]?=some (.cells #[.string x.name,.string x.sum] 69 (0,0))):
 Calls prog 134 #[Yz g a.length cap,Zg i,Yz K 1 1] w fun e w'=>∃G,e=.returned (Yz w.heap.size (a.length+1) G)/\w'.ownsRow f 69 2 (Yz w.heap.size (a.length+1) G) (a.length+1) (Ab pC (a.take i++[x]++a.drop i))/\w.grownBy w' none:=by
 obtain⟨U,k,zC,B,Q⟩:=Gd;have M:g<w.heap.size:=(Ac I rfl).2;have zB:=(Array.getElem?_eq_some_iff.1 J).1;have zT:a.length<=cap:=by
  rcases I.2 with⟨e,_⟩|⟨g',zI,zJ,e,z,hg,h1,h2,h3,h4⟩
  .cases e
  .cases e;exact h1
 have A:=By Cg a;have O:(Ab pC [x]).length=2:=by rw[By Cg];rfl
 have Y:((Ab pC a).drop (i *2)).length=(a.length -i) *2:=by rw[List.length_drop,A];omega
 have N:((Ab pC a).take (i *2)).length=i *2:=by rw[List.length_take,A];omega
 have hold:(Builtin.firstCells U.size i (Yz g i cap)).run prog w.drew=.ok ((Ab pC a).take (i *2)).toArray w.drew:=by
  rw[B];exact run_firstCells_some w.drew 2 i ⟨g,0,none⟩ i cap ((Ab pC a).take (i *2)) N (fun j v d=>by
   rw[Go.WideShapes.add_plain,Nat.zero_add];rw[List.getElem?_take]at d;split at d
   .exact(I.cellAt _ Yv).trans d
   .cases d)
 obtain⟨G,S⟩:=Af (grownCap w (a.length+1) cap 69);obtain⟨o,zH,X⟩:∃o:Array Value,o=Value.cells (.agg #[Zc,Zc])/\o.size=2:=⟨_,rfl,Yr⟩;obtain⟨C,R⟩:∃C:Zj,C=(Builtin.zeroCells o (a.length+1 -i)).toList++(Builtin.zeroCells o (G -(a.length+1))).toList:=⟨_,rfl⟩;have zG:a.length+1<=G:=by rw[S];exact grownCap_ge w _ _ _
 have u:G<=maxLen:=by rw[S];exact grownCap_le_maxLen w (a.length+1) cap 69 Yo
 have zE:i *2+C.length=G *2:=by rw[R];simp[Builtin.zeroCells,X];omega
 have zA:∀m,(Builtin.append_ #[27,3] m #[Yz g i cap,Zg ((a.length:Int)+1 -(i:Int))]).run prog w=
  .ok (Yz w.heap.size (a.length+1) G) (w.drew.alloc (.cells ((Ab pC a).take (i *2)++C).toArray 69)):=fun m=>by
  have Z:i+(a.length+1 -i)=a.length+1:=Yv
  have h:=Lib.run_append_grow_zeros (P:=prog) w 27 3 m 69 U _ .i64 .i64 underlying27 underlying3 k zC (some ⟨g,0,none⟩) i cap ((Ab pC a).take (i *2)) hold (a.length+1 -i) Yv (by rw[B];omega) Yv Yv (by rw[Q];omega) (by rw[Q,Z];exact growslice_fits E Yv);rw[Z,<-S,<-zH]at h;rw[show(a.length:Int)+1 -(i:Int)=((a.length+1 -i:Nat):Int) by omega,h,R]
  have e:((Ab pC a).take (i *2)).toArray++Builtin.zeroCells o (a.length+1 -i)++Builtin.zeroCells o (G -(a.length+1))=((Ab pC a).take (i *2)++((Builtin.zeroCells o (a.length+1 -i)).toList++(Builtin.zeroCells o (G -(a.length+1))).toList)).toArray:=by apply Array.toList_inj.1;simp
  rw[e]
 obtain⟨c,q⟩:=Af (w.drew.alloc (.cells ((Ab pC a).take (i *2)++C).toArray 69));have l:c.heap[w.heap.size]?=some (.cells ((Ab pC a).take (i *2)++C).toArray 69 (0,0)):=by rw[q];exact heap_alloc_new w.drew _
 have T:∀j,j<G *2->(c.cell? (Zd (w.heap.size) j)).isSome=true:=fun j d=>by simp only[World.cell?,l];rw[Array.getElem?_eq_getElem (by simp[N];omega)];rfl
 have L:∀j,c.frozen? ⟨w.heap.size,j,none⟩=false:=fun j=>by simp[World.frozen?,l]
 have hO:∀b,b<w.heap.size->c.heap[b]?=w.heap[b]?:=fun b z=>by rw[q];exact GJ w.drew _ z
 have V:∀m s,(Builtin.copy_ #[27,27] m #[.slice (some ⟨w.heap.size,i *2,none⟩) (a.length+1 -i) s,Yz K 1 1]).run prog c=.ok (goInt (Nat.min 1 (a.length+1 -i))) (c.setCells w.heap.size (i *2) (Ab pC [x])):=fun m s=>
  CA c 27 27 m 69 U 2 w.heap.size (i *2) (a.length+1 -i) s ⟨K,0,none⟩ 1 1 (Ab pC [x]) underlying27 k B (by rw[O,show Nat.min 1 (a.length+1 -i)=1 from Nat.min_eq_left Yv,Nat.one_mul])
   (fun j v d=>by
     rw[Go.WideShapes.add_plain,Nat.zero_add,World.cell?_of_block (hO K zB)];exact Ik J j v d)
   (fun j d=>T _ Yv) (fun j _=>L _) (Jy _)
 obtain⟨r,n⟩:=Af ((c.setCells w.heap.size (i *2) (Ab pC [x])).drew);have W:∀m s sc,(Builtin.copy_ #[27,27] m #[.slice (some ⟨w.heap.size,(i+1) *2,none⟩) (a.length+1 -(i+1)) s,.slice (some ⟨g,i *2,none⟩) (a.length -i) sc]).run prog r=.ok (goInt (Nat.min (a.length -i) (a.length+1 -(i+1)))) (r.setCells w.heap.size ((i+1) *2) ((Ab pC a).drop (i *2))):=fun m s sc=>
  CA r 27 27 m 69 U 2 w.heap.size ((i+1) *2) (a.length+1 -(i+1)) s ⟨g,i *2,none⟩ (a.length -i) sc ((Ab pC a).drop (i *2)) underlying27 k B (by rw[Y];congr 1;show _=min _ _;omega)
   (fun j v d=>by
     rw[List.getElem?_drop]at d;have:=(Zw d).1;rw[Go.WideShapes.add_plain,n,GF,World.cell?_setCells_out _ _ _ _ _ (fun h _=>absurd h (Nat.ne_of_lt M)),World.cell?_of_block (hO g M)];exact(I.cellAt _ Yv).trans d)
   (fun j d=>by rw[n,GF];exact Hm w.heap.size (Ab pC [x]) (i *2) c (fun t ht=>T _ Yv) ((i+1) *2+j) (T _ Yv)) (fun j _=>by rw[n,Ju,World.frozen?_setCells];exact L _) (fun v J=>Jy _ v (List.mem_of_mem_drop J))
 have y:(r.setCells w.heap.size ((i+1) *2) ((Ab pC a).drop (i *2))).ownsRow f 69 2 (Yz w.heap.size (a.length+1) G) (a.length+1) (Ab pC (a.take i++[x]++a.drop i))/\w.grownBy (r.setCells w.heap.size ((i+1) *2) ((Ab pC a).drop (i *2))) none:=by
  refine⟨?_,?_⟩
  .rw[Bn,Bn,<-FV Cg a i Yv,<-Fm Cg a i Yv,n,<-Jt];exact Ag (Ov (w:=c) A Yv O D l zE zG u) (Ae.drew)
  .have s1:c.heap.size=w.heap.size+1:=by rw[q];simp
   have F:w.grownBy c none:=by rw[q];exact⟨rfl,rfl,rfl,Yu,fun b z _=>GJ w.drew _ z⟩
   have H:c.grownBy (r.setCells w.heap.size ((i+1) *2) ((Ab pC a).drop (i *2))) (some w.heap.size):=by rw[n];exact Ar (Ar (Cd w.heap.size (Ab pC [x]) (i *2) c) (KC _ _)) (Cd w.heap.size ((Ab pC a).drop (i *2)) ((i+1) *2) _)
   exact⟨H.os.trans F.os,H.tape.trans F.tape,H.output.trans F.output,Zm F.size H.size,fun b z _=>(H.block b Yv Yt).trans (F.block b z Yu)⟩
 have HF:=Yw y;have zF:G<=9223372036854775807:=by unfold maxLen at u;omega
 have zX:¬((i:Int)=(a.length:Int)):=Yv
 have zY:(cap:Int)<(a.length:Int)+1:=Yv
 have zU:(0:Int)<=(i:Int)+1:=Yv
 have zV:(i:Int)+1<=(a.length:Int)+1:=Yv
 have zW:((i:Int)+1).toNat=i+1:=Yv
 have zK:¬(cap=i):=Yv
 have zM:¬(G=i):=Yv
 have zN:¬(G=i+1):=Yv
 have zO:i<=a.length+1:=Yv
 have zR:(i:Int)<=(a.length:Int)+1:=Yv
 have zS:(i:Int)<=(a.length:Int):=Yv
 have mixed:prog.follows .mixedOrders=true:=Yr
 have zP:i<=cap:=Yv
 have zZ:IntKind.i64.wrap ((i:Int)+1)=(i:Int)+1:=by rw[IntKind.wrap_i64];omega
 have yA:IntKind.i64.wrap ((a.length:Int)+1)=(a.length:Int)+1:=by rw[IntKind.wrap_i64];omega
 have yB:IntKind.i64.wrap ((a.length:Int)+1 -(i:Int))=(a.length:Int)+1 -(i:Int):=by rw[IntKind.wrap_i64];omega
 rw[<-q]at zA;clear I y J k zC Q A O Y N hold S R zE l T L hO q M zB;go_enter func134,ntmps134;go_wp2_with (first
  |(at_builtin;refine Lib.wpList_append_run _ rfl _ _ _ _ rfl _ _ rfl rfl _ _ (zA _) ?_)
  |(at_builtin;refine Dz _ rfl _ _ 27 27 rfl _ _ rfl rfl (V _ _) ?_))
 go_region_law_o (refine Er rfl _ _ 27 27 rfl (.slice (some ⟨w.heap.size,(i+1) *2,none⟩) (a.length+1 -(i+1)) (G -(i+1))) (.slice (some ⟨g,i *2,none⟩) (a.length -i) (cap -i)) (by simp[Act.eval,Act.put]) (by simp[Act.eval,Act.put]) (by rw[<-n];exact W 3 (G -(i+1)) (cap -i)) ?_)
 go_wp2;go_ret;rw[<-n];exact⟨G,rfl,HF.o⟩
theorem Ob(P:Value)(i:Nat)(c:List Pd)(x:Pd)(j:Nat)(w:Zh)(a:Nat)(l:w.ownsRow a 69 2 P c.length (Ab pC c))(o:c.length<=600)(C:i<=c.length)(d:a<=w.heap.size)(t:P.ownBlock≠some j)(q:w.heap[j]?=some (.cells #[.string x.name,.string x.sum] 69 (0,0))):
 Calls prog 134 #[P,Zg i,Yz j 1 1] w fun e m=>∃k,e=.returned k/\m.ownsRow a 69 2 k (c.length+1) (Ab pC (c.take i++[x]++c.drop i))/\w.grownBy m P.ownBlock/\(k.ownBlock=P.ownBlock\/k.ownBlock=some w.heap.size):=by
 rcases Nat.lt_or_ge i c.length with h|h
 .rcases l.2 with⟨e,D⟩|⟨g,cap,u,e,s,B,v,y,z,A⟩
  .omega
  .subst e;rcases Nat.lt_or_ge cap (c.length+1)with n|n
   .refine Calls.mono (MN g cap i c x j w a l o h n d q) ?_;rintro e m ⟨G,rfl,r,f⟩;exact⟨_,rfl,r,⟨f.os,f.tape,f.output,f.size,fun b s _=>f.block b s Yu⟩,.inr rfl⟩
   .refine Calls.mono (Ml g cap i c x j w a l o h n (fun e=>t (by rw[e];rfl)) q) ?_;rintro e m ⟨rfl,r,f⟩;exact⟨_,rfl,r,f,.inl rfl⟩
 .obtain rfl:i=c.length:=Yv
  rw[List.take_length,List.drop_length,List.append_nil];exact Oa P c x j w a l o d q
end
theorem XS(j d m:Nat)(O P L:Value)(u now g c:Int)(r:List Kd)(f:List Pd)(z:List Ld)(n s:Zi)(w:Zh)(h:DU w j d m O P L u now g c r f z)(Z:∀k∈r,(k.sum.size:Int)=u)(I:Au r s)(hl:f.length<100)(y:f.Pairwise (fun a b=>less a.name b.name=true))(zA:¬∃x∈f,x.name=n):
 Calls prog 115 #[Yy d,.string n,.string s] w fun e w'=>e=.returned (.tuple #[])/\∃P',DU w' j d m O P' L u now g c r (Bh f n s) z/\Tn (d::P.ownBlock.toList) w w':=by
 obtain⟨t,o,zE⟩:=As h.I.ci;subst zE;have HN:=Yw (EE j d m O (.slice t f.length o) L u now g c r f z s w h.I Z I);have HD:=Yw h;have Y:=Yw y;have Q:Hid (¬∃x∈f,x.name=n):=zA;have zI:((f.length:Int)==100)=false:=Yt
 clear h y zA Z I;go_enter func115,ntmps115;go_wp2_with fail;refine HN.Ah ?_;rintro e w1 ⟨rfl,J⟩;have R:=HD.o.below J;have HS:=Yw (JV j d m O (.slice t f.length o) L u now g c r f z n w1 R Yv Y.o);clear HN;go_wp2_with fail;refine HS.Ah ?_;rintro e F ⟨i,rfl,W,S⟩;have G:decide (∃x,f[i]?=some x/\x.name=n)=false:=by rw[decide_eq_false_iff_not];rintro⟨x,hx,hn⟩;exact Q.o ⟨x,Zs hx,hn⟩
 have HE:Hid (Bh f n s=f.take i++[⟨n,s⟩]++f.drop i):=Qp W Q.o;have C:=R.below S;have zH:=Yw C;have HB:Hid (Zz w F):=J.trans (S.mono J.size);obtain⟨c6,_⟩:=C.I.box 6 _ rfl;obtain⟨A,X⟩:=Af (F.alloc (.cells #[.string n,.string s] 69));have bA:=(AB X).1;have D:=C.below bA;have B:=Yw D;have zB:Hid (Zz F A):=bA;have zG:=W.le
 have v:=Ob (.slice t f.length o) i f ⟨n,s⟩ F.heap.size A j D.I.ci Yv zG D.lo (fun e=>Nat.lt_irrefl _ (Ac C.I.ci e).2) (by rw[X];exact heap_alloc_new F _);have HI:=Yw v;have HA:=Yw X;obtain⟨e6,_⟩:=D.I.box 6 _ rfl;rw[G];clear G R C J S HD HS Q Y W v D bA X;go_wp2_with fail;rw[<-HA.o];refine HI.Ah ?_;rintro e N ⟨P',rfl,V,T,l⟩;obtain⟨K,M,zF⟩:=As V;subst zF
 have U:∀b,(Value.slice t f.length o).ownBlock=some b->b≠d:=fun b E=>((Dj B.o.I.ap).2.2.1 b E).1;have H:∀b,(Value.slice K (f.length+1) M).ownBlock=some b->b≠d:=fun b E=>by
  rcases l with l|l
  .exact U b (l▸E)
  .rw[l]at E;have:=B.o.I.box.lt;cases E;omega
 have q:Aa N d [Zg u,.map (some m),Zg now,Zg g,Zg c,O,.slice t f.length o,L]:=Aa.same B.o.I.box (T.block d B.o.I.box.lt (fun e=>U d e.symm rfl));obtain⟨f6,k6⟩:=q 6 _ rfl;have hK:∃zC,DU (N.setCell (Zd d 6) (.slice K (f.length+1) M)) j d m O zC L u now g c r (Bh f n s) z/\Tn (d::(Value.slice t f.length o).ownBlock.toList) w (N.setCell (Zd d 6) (.slice K (f.length+1) M)):=by
  have t1:Tn (d::(Value.slice t f.length o).ownBlock.toList) A (N.setCell (Zd d 6) (.slice K (f.length+1) M)):=
   ((Di T).mono (fun b E=>List.mem_cons_of_mem _ E)).trans ((Bl N d 6 _).mono Yu)
  refine⟨_,B.o.ij t1 (q.set 6 _) ?_ ?_,((Tn.of HB.o).trans (Tn.of zB.o)).trans t1⟩
  .have hlen:(Bh f n s).length=f.length+1:=by rw[HE.o];simp;omega
   rw[hlen,HE.o];exact BM V H 6 _
  .rcases l with l|l
   .exact .inl l
   .exact .inr ⟨_,l,Zx⟩
 have HK:=Yw hK;clear hK V T q e6 l U H;go_wp2
 go_end0
 exact⟨rfl,HK.o⟩
theorem XT{n:Nat}{O P L a:Option Nat}(h:(d::m::(O.toList++(P.toList++L.toList))).Nodup)(e:∀b∈d::m::(O.toList++(P.toList++L.toList)),b<n)(c:a=O\/∃g,a=some g/\n<=g):(d::m::(a.toList++(P.toList++L.toList))).Nodup:=by
 rcases c with rfl|⟨g,rfl,f⟩
 .exact h
 .cases O<;>cases P<;>cases L<;>simp_all<;>grind
theorem DU.newK{o:Zh}{O:Value}{q now b j:Int}{C:List Kd}{y:List Pd}{x:List Ld}(h:DU w c d m O P L q now b j C y x)(v:Tn (d::m::O.ownBlock.toList) w o){k:Value}{l:List Kd}(r:Aa o d [Zg q,.map (some m),Zg now,Zg b,Zg a,k,P,L])(B:∃n f,n<=1000000+a.toNat/\AJ o 111 m n f/\BL o c (vB d m k P L) q l f)(A:o.ownsRow c 111 8 k l.length (AG (l.map (·.sum))))(z:k.ownBlock=O.ownBlock\/∃g,k.ownBlock=some g/\w.heap.size<=g):DU o c d m k P L q now b a l y x:=by
 obtain⟨D,s,t,u⟩:=Dj h.I.ap;refine⟨⟨r,B,A,Ak h.I.ci (fun g i=>v.block g (Ac h.I.ci i).2 (fun e=> ?_)),Ak h.I.ck (fun g i=>v.block g (Ac h.I.ck i).2 (fun e=> ?_)),h.I.bd,h.I.bm,XT h.I.ap h.I.cz z⟩⟩
 .rcases List.mem_cons.1 e with e|e
  .exact(t g i).1 e
  .rcases List.mem_cons.1 e with e|e
   .exact(t g i).2.1 e
   .exact(s g (by simpa using e)).2.2.1 i
 .rcases List.mem_cons.1 e with e|e
  .exact(u g i).1 e
  .rcases List.mem_cons.1 e with e|e
   .exact(u g i).2 e
   .exact(s g (by simpa using e)).2.2.2 i
theorem MO{a:List Kd}{x:Kd}{i:Nat}(h:Fv (a.map (·.sum)) x.sum i):(a.map (·.sum)).take i++[x.sum]++(a.map (·.sum)).drop i=(CZ a x).map (·.sum):=by rw[Sl h];simp[List.map_take,List.map_drop]
theorem BL.snoc{a:Nat}{c:Int}{j:List Kd}{f:Lit->Option Value}(h:BL w a V c j f){x:Kd}{i:Zk}{rc:Nat}(v:(x.sum.size:Int)=c)(t:c<=8)(q:Dn w a V i x.B):BL w a V c (j++[x]) (upd f (keyL x.sum) (DX x i rc)):=by
 intro s r;by_cases he:keyL s=keyL x.sum
 .have:s=x.sum:=key_inj he Yv Yv;subst this;exact .inr ⟨x,i,rc,Yu,rfl,Df _ _ _,q⟩
 .rw[Db _ _ he];have k:x.sum≠s:=fun e=>he (by rw[e]);rcases h s r with⟨d,g⟩|⟨u,l,m,d,g,n,o⟩
  .refine .inl ⟨d,fun⟨u,b,e⟩=> ?_⟩;rcases List.mem_append.1 b with b|b
   .exact g ⟨u,b,e⟩
   .simp at b;subst b;exact k e
  .exact .inr ⟨u,l,m,by simp[d],g,n,o⟩
theorem BL.same{i:Int}{a:List Kd}{f:Lit->Option Value}(h:BL w base V i g f)(d:∀u,u∈a↔u∈g):BL w base V i a f:=by
 intro s j;rcases h s j with⟨b,c⟩|⟨u,l,m,b,c⟩
 .exact .inl ⟨b,fun⟨k,hk,e⟩=>c ⟨k,(d k).1 hk,e⟩⟩
 .exact .inr ⟨u,l,m,(d u).2 b,c⟩
def QY(w:Zh)(base:Nat)(V:List Nat)(m:Nat)(wd births:Int)(ks:List Kd):Prop:=∃n f,n<=1000000+births.toNat/\AJ w 111 m n f/\BL w base V wd ks f
theorem QY.K{U:List Nat}{k:Int}(h:QY w c V m k a i)(g:Tn U w j)(q:∀b∈U,b∈V)(r:m∉U):QY j c V m k a i:=by obtain⟨n,f,l,e,o⟩:=h;exact⟨n,f,l,AJ.same e (g.block m e.lt r),o.move g (fun b d=> .inl (q b d)) (fun b d=> .inl d)⟩
theorem HN.below{b:Zh}(h:HN w m N)(d:Zz w b):HN b m N:=by obtain⟨n,f,c,a⟩:=h;exact⟨n,f,c,a.ag d a.lt⟩
theorem HN.same{a:Zh}(h:HN w m N)(d:a.heap[m]?=w.heap[m]?):HN a m N:=by obtain⟨n,f,b,c⟩:=h;exact⟨n,f,b,AJ.same c d⟩
theorem XU(j d m:Nat)(O P L:Value)(J now q a:Int)(c:List Kd)(ps:List Pd)(ls:List Ld)(s n:Zi)(l:Zl)(G:Zk)(rc:Nat)(w:Zh)(h:DU w j d m O P L J now q a c ps ls)(zE:Em J c)(yH:(s.size:Int)=J)(hl:c.length<600)(yL:0<=a)(yM:a<1000000000)(hr:Dn w j (vB d m O P L) G l):
 Calls prog 132 #[Yy d,.string s,.agg #[.string n,.slice G l.length rc]] w fun e w'=>e=.returned (.tuple #[])/\(∃O',DU w' j d m O' P L J now q (a+1) (CZ c ⟨s,a+1,n,l⟩) ps ls/\(O'.ownBlock=O.ownBlock\/∃g,O'.ownBlock=some g/\w.heap.size<=g))/\Tn (d::m::O.ownBlock.toList) w w':=by
 obtain⟨r,t,zI⟩:=As h.I.ord;subst zI;obtain⟨W0,zC⟩:=Af (w.alloc (.cells #[.string n,.slice G l.length rc] 36));have zA:=(AB zC).1;have x0:=(AB zC).2.2;have E:=h.below zA;obtain⟨X,hX⟩:=Af (W0.setCell (Zd d 4) (Zg (a+1)));have yO:d<w.heap.size:=h.I.box.lt;have tX:Tn [d] W0 X:=by rw[hX];exact Bl _ _ _ _
 have T:Aa X d [Zg J,.map (some m),Zg now,Zg q,Zg (a+1),.slice r c.length t,P,L]:=by rw[hX];exact E.I.box.set 4 _
 have F:=Dj E.I.ap;have xX:Aa X w.heap.size [.string n,.slice G l.length rc]:=Aa.same x0 (tX.block _ x0.lt Yt);have oX:X.ownsRow j 111 8 (.slice r c.length t) c.length (AG (c.map (·.sum))):=Ak E.I.ord (fun g hg=>tX.block g (Ac E.I.ord hg).2 (by simp;exact(F.2.1 g hg).1))
 have uX:QY X j (vB d m (.slice r c.length t) P L) m J a c:=QY.K E.I.map tX (by intro b k;simp at k;subst k;simp[vB]) (by simp;exact fun e=>F.1 e.symm);have rX:Dn X j (vB d m (.slice r c.length t) P L) G l:=(hr.move (U:=[]) (Tn.of zA) Yu (fun b k=> .inl k)).move tX (by intro b k;simp at k;subst k;exact .inl (by simp[vB])) (fun b k=> .inl k);obtain⟨c4,k4⟩:=E.I.box 4 _ rfl
 obtain⟨c5,_⟩:=E.I.box 5 _ rfl;have yQ:((c.length:Int)==600)=false:=Yt
 have yN:(a==1000000000)=false:=Yt
 have zR:=Yw zC;have HX:=Yw hX;have HD:=Yw h;have HP:=Yw (Zn T (Zn xX (Zn oX (Zn uX rX))));have HT:Hid (Tn [d] w X):=(Tn.of zA).trans tX;clear zC hX E h hr x0 tX T xX oX uX rX zA;go_enter func132,ntmps132;go_upto_region 1 with fail;rw[<-zR.o];go_wp2_with fail;rw[<-HX.o];clear HX zR;refine(My s X).mono ?_;rintro e z ⟨rfl,N⟩;obtain⟨K,hK⟩:=Af (z.alloc (.cells (Yk (kB s)) 111))
 have zT:=(AB hK).1;have I:Below X.heap.size X K:=N.trans (zT.mono N.size);have kK:Aa K z.heap.size (Am s):=by rw[hK];exact Aa.new z (Am s) 111
 obtain⟨T,xX,oX,uX,rX⟩:=HP.o;have yK:j<=X.heap.size:=Zm HD.o.lo HT.o.size;have zB:=T.below I;have xK:=xX.below I;have oK:=Ag oX I;have rK:Dn K j (vB d m (.slice r c.length t) P L) G l:=rX.move (U:=[]) (Tn.of I) Yu (fun b k=> .inl k);obtain⟨n1,f,zZ,zU,hH⟩:=QY.K uX (U:=[]) (Tn.of I) Yu Yu;have hM:=zU;have F:=Dj HD.o.I.ap;have yR:m<K.heap.size:=hM.lt
 obtain⟨D,zN,V,M⟩:=(hM.ag (Below.refl K.heap.size K).drew hM.lt).put keyed underlying102 (val:=DX ⟨s,a+1,n,l⟩ G rc) Yo (EL s);have y:K.grownBy D (some m):=Dh M;have kl:z.heap.size<K.heap.size:=kK.lt;have yS:m<w.heap.size:=by obtain⟨_,_,_,yB,_⟩:=HD.o.I.map;exact yB.lt
 have yT:w.heap.size<z.heap.size:=by have h1:=N.size;have h2:=xX.lt;omega
 have k5:Aa D z.heap.size (Am s):=Aa.bu (v:=.int .u8 (kB s 0)) kK y Yv;have x5:Aa D d _:=Aa.bu zB y (fun e=>F.1 e.symm);have t5:Aa D w.heap.size [.string n,.slice G l.length rc]:=Aa.bu xK y Yv
 have P4:K.drew.cell? (Zd d 1)=some (.map (some m))/\K.drew.cell? (Zd d 4)=some (Zg (a+1))/\K.drew.cell? (Zd (w.heap.size) 0)=some (.string n)/\K.drew.cell? (Zd (w.heap.size) 1)=some (.slice G l.length rc)/\_:=⟨(zB 1 _ rfl).1,(zB 4 _ rfl).1,(xK 0 _ rfl).1,(xK 1 _ rfl).1,Ha (w:=K.drew) kK⟩
 have P5:D.cell? (Zd d 1)=some (.map (some m))/\D.cell? (Zd d 4)=some (Zg (a+1))/\D.cell? (Zd (w.heap.size) 0)=some (.string n)/\D.cell? (Zd (w.heap.size) 1)=some (.slice G l.length rc)/\_:=⟨(x5 1 _ rfl).1,(x5 4 _ rfl).1,(t5 0 _ rfl).1,(t5 1 _ rfl).1,Ha k5⟩;have o5:D.ownsRow j 111 8 (.slice r c.length t) c.length (AG (c.map (·.sum))):=World.ownsRow.kept oK y (.inr (fun e=>(F.2.1 m e).2.1 rfl))
 have S:=ZP j d m r t P L J now q (a+1) c s D x5 o5 Yv (by have:=zE.w8;omega) (fun x hx=>by have:=zE.sz x hx;omega) zE.dh;unfold Cn CR at S zN;unfold DX at zN;have HQ:=Yw S;have Q:=Yw (Zn x5 (Zn o5 (Zn k5 (Zn V (Zn y (Zn hH (Zn rK (Zn I zZ))))))));have HK:=Yw hK;clear T xX oX uX rX zB xK oK rK zU hM S hK HP x5 o5 k5 V M y hH t5 kK I zT c4 k4 c5;go_upto_region 5 with fail;rw[<-HK.o];clear HK
 go_region_held3 (fun X=>X.cell? (Zd d 1)=some (.map (some m))/\X.cell? (Zd d 4)=some (Zg (a+1))/\X.cell? (Zd (w.heap.size) 0)=some (.string n)/\X.cell? (Zd (w.heap.size) 1)=some (.slice G l.length rc)/\(X.cell? (Zd (z.heap.size) 0)=some (.int .u8 (kB s 0))/\X.cell? (Zd (z.heap.size) 1)=some (.int .u8 (kB s 1))/\X.cell? (Zd (z.heap.size) 2)=some (.int .u8 (kB s 2))/\X.cell? (Zd (z.heap.size) 3)=some (.int .u8 (kB s 3))/\X.cell? (Zd (z.heap.size) 4)=some (.int .u8 (kB s 4))/\X.cell? (Zd (z.heap.size) 5)=some (.int .u8 (kB s 5))/\X.cell? (Zd (z.heap.size) 6)=some (.int .u8 (kB s 6))/\X.cell? (Zd (z.heap.size) 7)=some (.int .u8 (kB s 7))))
  (first|with_reducible exact P4|with_reducible exact P5)
  (fail)
 obtain⟨q0,q1,q2,q3,q4,q5,q6,q7⟩:=Ha Q.o.2.2.1;clear P4 P5 zN;go_wp2_with fail;refine HQ.Ah ?_;rintro e H ⟨i,rfl,zM,B⟩;have zF:=Aa.below Q.o.1 B;have zX:=Aa.below (v:=.int .u8 (kB s 0)) Q.o.2.2.1 B;have zK:H.ownsRow j 111 8 (.slice r c.length t) (c.map (·.sum)).length (Ab Am (c.map (·.sum))):=by rw[List.length_map];exact Ag Q.o.2.1 B
 have yF:i<=c.length:=by have:=zM.le;rwa[List.length_map]at this
 obtain⟨A,hA⟩:=Af (H.drew.alloc (.cells (Am s).toArray 111));have R:Below H.heap.size H A:=by rw[hA];exact Ae.drew.alloc (Zx) _
 have zO:j<=H.heap.size:=by have h1:=Q.o.2.2.2.2.1.size;have h2:=B.size;have h3:=Q.o.2.2.2.2.2.2.2.1.size;omega
 have C:=NY (.slice r c.length t) i (c.map (·.sum)) s H.heap.size A j (Ag zK R) (by rw[List.length_map];omega) (by rw[List.length_map];exact yF) (Zm zO R.size) (fun e=>Nat.lt_irrefl _ (Ac zK e).2) (by rw[hA];exact heap_alloc_new H.drew _);rw[List.length_map,hA]at C;have HI:=Yw C;have S:=Yw zM;have xA:=zF.below R;have yD:d<H.heap.size:=zF.lt;obtain⟨y5,_⟩:=zF 5 _ rfl
 obtain⟨r0,r1,r2,r3,r4,r5,r6,r7⟩:=Ha zX;have H6:=Yw (Zn B (Zn R xA));have zG:=Yw hA;have zJ:∀b,(Value.slice r c.length t).ownBlock=some b->b≠d/\b≠m:=fun b k=>⟨(F.2.1 b k).1,(F.2.1 b k).2.1⟩;have yE:d<A.heap.size:=xA.lt;clear q0 q1 q2 q3 q4 q5 q6 q7 zM C HQ zK zF zX;go_upto_region 7 with fail;have zS:Below H.heap.size H (H.alloc (.cells (Yk (kB s)) 111)):=Zy
 have a5:=(zS.cell (p:=⟨d,5,none⟩) yD).trans y5;clear xA hA zS;unfold Am CR at HI
 go_region_law (first
  |(go_simp;go_at_call 152;refine HI.Ah ?_;rintro e w7 ⟨O',rfl,Z,zW,zY⟩;obtain⟨oa',oc',zI⟩:=As Z;subst zI;have Y:A.grownBy w7 (Value.slice r c.length t).ownBlock:=(by rw[zG.o];exact zW);have x7:=Aa.same H6.o.2.2 (Y.block d yE (fun e=>(zJ d e.symm).1 rfl));obtain⟨f5,k5⟩:=x7 5 _ rfl))
 all_goals
  have o:(Value.slice oa' (c.length+1) oc').ownBlock=(Value.slice r c.length t).ownBlock\/(Value.slice oa' (c.length+1) oc').ownBlock=some A.heap.size:=by rw[zG.o];exact zY
  have H7:=Yw (Zn x7 (Zn Y (Zn o Z)));clear zY zW Y x7 Z o HI a5 r0 r1 r2 r3 r4 r5 r6 r7 y5 zG
  have hK:(∃zH,DU (w7.setCell (Zd d 5) (.slice oa' (c.length+1) oc')) j d m zH P L J now q (a+1) (CZ c ⟨s,a+1,n,l⟩) ps ls/\(zH.ownBlock=(Value.slice r c.length t).ownBlock\/∃g,zH.ownBlock=some g/\w.heap.size<=g))/\Tn (d::m::(Value.slice r c.length t).ownBlock.toList) w (w7.setCell (Zd d 5) (.slice oa' (c.length+1) oc')):=by
   obtain⟨x5,o5,yU,V,M,hH,rK,I,zZ⟩:=Q.o;obtain⟨B,R,xA⟩:=H6.o;obtain⟨x7,Y,o,Z⟩:=H7.o;have t1:Tn (d::m::(Value.slice r c.length t).ownBlock.toList) w X:=HT.o.mono Yu
   have t2:Tn (d::(Value.slice r c.length t).ownBlock.toList) D (w7.setCell (Zd d 5) (.slice oa' (c.length+1) oc')):=(((Tn.of B).trans (Tn.of R)).trans ((Di Y).mono (fun b k=>List.mem_cons_of_mem _ k))).trans ((Bl w7 d 5 _).mono Yu)
   have t3:Tn (d::m::(Value.slice r c.length t).ownBlock.toList) K (w7.setCell (Zd d 5) (.slice oa' (c.length+1) oc')):=(Tn.grown M Yu).trans (t2.mono (by intro b k;simp at k |-;rcases k with k|k<;>simp[k]));have tt:=(t1.trans (Tn.of I)).trans t3;have yJ:w.heap.size<=K.heap.size:=Zm HT.o.size I.size;have yI:w.heap.size<=A.heap.size:=Zm (Zm (Zm yJ M.size) B.size) R.size
   have yP:∀b∈d::m::(Value.slice r c.length t).ownBlock.toList,j<=b:=by
    intro b k;rcases List.mem_cons.1 k with rfl|k
    .exact HD.o.I.bd
    .rcases List.mem_cons.1 k with rfl|k
     .exact HD.o.I.bm
     .exact(Ac HD.o.I.ord (by simpa using k)).1
   have yG:(w7.setCell (Zd d 5) (.slice oa' (c.length+1) oc')).heap[m]?=D.heap[m]?:=t2.block m V.lt (fun e=>by
    rcases List.mem_cons.1 e with e|e
    .exact F.1 e.symm
    .exact(zJ m (by simpa using e)).2 rfl)
   have yC:=AJ.same V yG;have zV:(Value.slice oa' (c.length+1) oc').ownBlock=(Value.slice r c.length t).ownBlock\/∃g,(Value.slice oa' (c.length+1) oc').ownBlock=some g/\w.heap.size<=g:=by
    rcases o with o|o
    .exact .inl o
    .exact .inr ⟨_,o,yI⟩
   have zP:∀b,(Value.slice oa' (c.length+1) oc').ownBlock=some b->b≠d:=fun b k=>by
    rcases o with o|o
    .exact(zJ b (o▸k)).1
    .rw[o]at k;cases k;omega
   refine⟨⟨_,HD.o.newK tt (x7.set 5 _) ⟨n1+1,_,Yv,yC,?_⟩ ?_ zV,zV⟩,tt⟩
   .refine((hH.snoc (x:=⟨s,a+1,n,l⟩) (rc:=rc) yH zE.w8 rK).same (fun u=>Hf)).move t3 (fun b k=> .inl ?_) (fun b k=> ?_)
    .unfold vB;simp only[List.mem_cons,List.mem_append]at k |-;rcases k with e|e|e
     .exact .inl e
     .exact .inr (.inl e)
     .exact .inr (.inr (.inl e))
    .unfold vB at k |-;simp only[List.mem_cons,List.mem_append]at k |-;rcases k with e|e|e|e|e
     .exact .inl (.inl e)
     .exact .inl (.inr (.inl e))
     .rcases o with o|o
      .rw[o]at e;exact .inl (.inr (.inr (.inl e)))
      .rw[o]at e;simp at e;exact .inr (by have h1:=M.size;have h2:=B.size;have h3:=R.size;omega)
     .exact .inl (.inr (.inr (.inr (.inl e))))
     .exact .inl (.inr (.inr (.inr (.inr e))))
   .rw[Lh,<-MO (x:=⟨s,a+1,n,l⟩) S.o];exact BM Z zP 5 _
  have yA:=Yw hK;clear hK H7 H6 Q;go_wp2
  go_end0
  exact⟨rfl,yA.o⟩
theorem VF(j d m:Nat)(O P L:Value)(B now c a:Int)(f:List Kd)(z:List Pd)(y:List Ld)(s b:Zi)(q:Zk)(t r:Nat)(w:Zh)(h:DU w j d m O P L B now c a f z y)(o:f.length=600\/a=1000000000):
 Calls prog 132 #[Yy d,.string s,.agg #[.string b,.slice q t r]] w fun e A=>e=.panicked [{v:=Cj 4 ⟨#[]⟩ ⟨#[]⟩,recovered:=false}]/\Zz w A:=by
 obtain⟨F,G,u⟩:=As h.I.ord;subst u;obtain⟨D,i⟩:=Af (w.alloc (.cells #[.string b,.slice q t r] 36));have g:=(AB i).1;have l:=h.below g;obtain⟨c4,E⟩:=Aa.c2 l.I.box 4 5;have k:=Yw i;have n:=Yw g;clear i l h g;by_cases hk:f.length=600
 .have x:((f.length:Int)==600)=true:=Yt
  clear o hk;go_enter func132,ntmps132;go_upto_region 1 with fail;rw[<-k.o];go_wp2;exact⟨rfl,rfl,n.o⟩
 .have x:((f.length:Int)==600)=false:=Yt
  have C:(a==1000000000)=true:=Yt
  clear o hk;go_enter func132,ntmps132;go_upto_region 1 with fail;rw[<-k.o];go_wp2;exact⟨rfl,rfl,n.o⟩
def AV(text:Zi)(refs:Zl)(wd:Int):Zi:=EJ (AE text refs wd).data.toList wd.toNat
theorem Qv(a:Int)(m n:Nat)(f:Lit->Option Value)(h:List Kd)(W:Zh)(B:Nat)(s:Zi)(w:Zh)(l:AJ w 111 m n f)(q:Holds W B a h f)(g:(s.size:Int)=a):
 (¬Au h s/\Calls prog 110 #[.agg #[Zg a,.map (some m)],.string s] w fun e j=>e=.returned (.tuple #[.agg #[Zc,Ze,Zc,Zb],.bool false])/\Zz w j)\/
 ∃x c i,x∈h/\x.sum=s/\Ad W B c x.B/\Calls prog 110 #[.agg #[Zg a,.map (some m)],.string s] w fun e j=>e=.returned (.tuple #[.agg #[.string x.sum,Zg x.born,.string x.J,.slice c x.B.length i],.bool true])/\Zz w j:=by
 rcases q s g with⟨b,d⟩|⟨x,c,i,b,d,k,o⟩
 .exact .inl ⟨d,Hp a m n f s w l g _ _ _ _ _ ⟨_,_,_,rfl⟩ (by rw[b];rfl) (by rw[b];rfl)⟩
 .exact .inr ⟨x,c,i,b,d,o,Hp a m n f s w l g _ _ _ _ _ ⟨_,_,_,rfl⟩ (by rw[k];rfl) (by rw[k];rfl)⟩
def Aau(base d m:Nat)(O P L:Value)(wd now given births:Int)(ks:List Kd)(ps:List Pd)(ls:List Ld)(text:Zi)(refs:Zl)(w:Zh)(e:Ending)(w':Zh):Prop:=
 ((¬∀r∈refs,Au ks r)/\e=.panicked [{v:=Cj 2 ⟨#[]⟩ ⟨#[]⟩,recovered:=false}]/\Zz w w')\/
 ((∀r∈refs,Au ks r)/\(
   (∃k∈ks,k.sum=AV text refs wd/\AE k.J k.B wd=AE text refs wd/\e=.returned (.string (AV text refs wd))/\Zz w w')\/
   (∃k∈ks,k.sum=AV text refs wd/\AE k.J k.B wd≠AE text refs wd/\e=.panicked [{v:=Cj 3 (AE k.J k.B wd) (AE text refs wd),recovered:=false}]/\Zz w w')\/
   (¬Au ks (AV text refs wd)/\(ks.length=600\/births=1000000000)/\e=.panicked [{v:=Cj 4 ⟨#[]⟩ ⟨#[]⟩,recovered:=false}]/\Zz w w')\/
   (¬Au ks (AV text refs wd)/\ks.length<600/\births<1000000000/\e=.returned (.string (AV text refs wd))/\(∃O',DU w' base d m O' P L wd now given (births+1) (CZ ks ⟨AV text refs wd,births+1,text,refs⟩) ps ls/\(O'.ownBlock=O.ownBlock\/∃g,O'.ownBlock=some g/\w.heap.size<=g))/\Tn (d::m::O.ownBlock.toList) w w')))
theorem XV(n d m:Nat)(O P L:Value)(l now j c:Int)(o:List Kd)(M:List Pd)(K:List Ld)(f:Zi)(a:Zl)(D:Zk)(rc:Nat)(w:Zh)(h:DU w n d m O P L l now j c o M K)(yH:Em l o)(h1:1<=l)(yJ:∀k∈o,k.J.size<=maxLen)(yI:((AV f a l).size:Int)=l)(xB:f.size<=maxLen)(xJ:a.length<=1000)(yZ:0<=c)(xF:c<=1000000000)(hr:Dn w n (vB d m O P L) D a):
 Calls prog 113 #[Yy d,.agg #[.string f,.slice D a.length rc]] w (Aau n d m O P L l now j c o M K f a w):=by
 obtain⟨W,hW⟩:=Af (w.alloc (.cells #[.string f,.slice D a.length rc] 36));have bW:=(AB hW).1;have xK:=(AB hW).2.1;have x0:=(AB hW).2.2;have HW:=Yw hW;have HD:Hid (∀X,Zz W X->DU X n d m O P L l now j c o M K/\Dn X n (vB d m O P L) D a/\Aa X w.heap.size [.string f,.slice D a.length rc]/\Zz w X):=fun X hX=>by have J:=bW.trans (hX.mono Yv);exact⟨h.below J,hr.move (U:=[]) (Tn.of J) Yu (fun b J=> .inl J),Aa.below x0 hX,J⟩
 have B:=Yw yH;have yT:=Yw yJ;have xH:=h.lo;clear hW h hr bW yH yJ;obtain⟨zE,zF⟩:=Aa.c2 x0 0 1;go_enter func113,ntmps113;go_upto_region 1 with fail;rw[<-HW.o];clear HW;go_wp2
 go_loopw [15] (fun i wr=>∃(k:Nat),k<=a.length/\i=Zg k/\Hid ((∀r∈a.take k,Au o r)/\Zz W wr)) (fun i _=>a.length -(intOf i).toNat)
 case atStart=>exact⟨0,Nat.zero_le _,rfl,⟨fun r hr=>by simp at hr,Ae⟩⟩
 case round=>
  clear zE zF x0;obtain⟨k,hk,rfl,I⟩:=hrel;obtain⟨Z,zA,xr,yE⟩:=HD.o wr I.o.2;have zR:=Yw Z;have zO:=Yw yE;obtain⟨zE,zF⟩:=Aa.c2 xr 0 1;by_cases hlt:k<a.length
  .obtain⟨b,xL,ha,xG,hc⟩:=zA.row.at hlt;subst ha;have HG:=Yw (Zv hlt);have c0:=hc k _ HG.o;have yU:=Yw (Zu hlt);clear hc Z zA;generalize a[k]=r at *
   by_cases hth:Au o r
   .have zV:=Yw (EE n d m O P L l now j c o M K r wr zR.o.I B.o.sz hth);have zH:=Yw hth;clear hth;go_wp2_with fail;refine zV.Ah ?_;rintro e w2 ⟨rfl,z⟩;have G:=Yw (I.o.2.trans (z.mono I.o.2.size));clear zV z c0 zE zF xr;go_wp2;refine⟨⟨k+1,Yv,Yn,⟨?_,G.o⟩⟩,Ys⟩;rw[yU.o];intro r' C;rcases List.mem_append.1 C with C|C
    .exact I.o.1 r' C
    .simp at C;rw[C];exact zH.o
   .have yQ:=Yw (Ks n d m O P L l now j c o M K r wr zR.o.I B.o.sz hth);have zH:=Yw hth;clear hth;go_wp2_with fail;refine yQ.Ah ?_;rintro e w2 ⟨rfl,z⟩;go_wp2;exact⟨rfl,.inl ⟨fun q=>zH.o (q r (Zs HG.o)),rfl,zO.o.trans (z.mono zO.o.size)⟩⟩
  .obtain rfl:k=a.length:=Yv
   have q:=I.o.1;rw[Zt (Zx)]at q;have u:=Yw q;obtain⟨c0,_⟩:=Z.I.box 0 _ rfl;have zN:=Yw I.o.2;clear q I;have xC:=zN.o.size;have D0:Below wr.heap.size wr wr.drew:=Ae.drew;have HF:=Yw (Hk f D rc a l wr.drew (Ad.N zA.row D0) Yv xB);clear Z zA;go_upto_region 6 with fail;go_region_with (go_at_call 33;refine HF.Ah ?_;rintro e w2 ⟨rfl,z⟩)
   all_goals
    have G:=Yw (zN.o.trans ((D0.trans z).mono xC));obtain⟨zW,yY,xD,zK⟩:=HD.o w2 G.o;obtain⟨yW,_⟩:=zW.I.box 0 _ rfl;have HS:=Yw (KS (AE f a l) l w2 (FA _ _ _) h1 B.o.w8);have yS:Hid (EJ (AE f a l).data.toList l.toNat=AV f a l):=rfl;rw[yS.o]at HS;generalize hFF:AE f a l=FF at *
    generalize hSS:AV f a l=SS at *
    clear z c0 zE zF xr HF D0 yE;go_wp2_with fail;refine HS.Ah ?_;rintro e E ⟨rfl,yB⟩;have yO:=Yw (G.o.trans (yB.mono G.o.size));obtain⟨V,yA,yN,N⟩:=HD.o E yO.o;obtain⟨d0,d1⟩:=Aa.c2 V.I.box 0 1;have zP:=Yw V;have yR:=Yw yA;have yV:=Yw yN;have v:=Yw N;obtain⟨n3,f3,xI,zJ,zI⟩:=V.I.map;clear yB HS yW zW yY xD zK yA yN N V
    rcases Qv l m n3 f3 o E E.heap.size SS E zJ zI.holds yI with⟨yG,H⟩|⟨x,xa,xc,zC,yM,yL,H⟩
    .have R:=Yw H;have zU:=Yw yG;clear H yG zJ zI;go_wp2_with fail;refine R.Ah ?_;rintro e w4 ⟨rfl,t⟩;obtain⟨Y,A⟩:=Af (w4.alloc (.cells #[Zc,Ze,Zc,Zb] 66));have T:=(AB A).1;have s:Hid (Zz E Y):=t.trans (T.mono t.size);have HY:=Yw A;have F:=zP.o.below s.o;have yX:=Aa.below yV.o s.o;obtain⟨y0,y1⟩:=Aa.c2 yX 0 1;have y:=Yw (v.o.trans (s.o.mono v.o.size))
     by_cases hfull:o.length=600\/c=1000000000
     .have HL:=Yw (VF n d m O P L l now j c o M K SS f D a.length rc Y F hfull);have yP:=Yw hfull;clear t A T F yX hfull d0 d1 R;go_upto_region 10 with fail;rw[<-HY.o];go_wp2_with fail;refine HL.Ah ?_;rintro e w5 ⟨rfl,zB⟩;go_wp2;exact⟨rfl,.inr ⟨u.o,.inr (.inr (.inl ⟨hSS▸zU.o,yP.o,rfl,y.o.trans (zB.mono y.o.size)⟩))⟩⟩
     .have yF:o.length<600:=by have:=B.o.len;omega
      have yC:c<1000000000:=Yv
      have HL:=Yw (XU n d m O P L l now j c o M K SS f a D rc Y F B.o yI yF yZ yC (Dn.move yR.o (U:=[]) (Tn.of s.o) Yu (fun b J=> .inl J)));clear t A T F yX hfull d0 d1 R;go_upto_region 10 with fail;rw[<-HY.o];go_wp2_with fail;refine HL.Ah ?_;rintro e w5 ⟨rfl,⟨O',zX,zY⟩,zZ⟩;have HQ:=Yw (Zn zX (Zn zY zZ));clear zX zY zZ HL;go_wp2;go_ret;subst hSS
      refine .inr ⟨u.o,.inr (.inr (.inr ⟨zU.o,yF,yC,rfl,⟨O',HQ.o.1,?_⟩,(Tn.of y.o).trans HQ.o.2.2⟩))⟩;rcases HQ.o.2.1 with e|⟨g,e,hg⟩
      .exact .inl e
      .exact .inr ⟨g,e,Zm y.o.size hg⟩
    .have R:=Yw H;have S:Hid (x∈o/\x.sum=SS):=⟨zC,yM⟩;clear H zJ zI;go_wp2_with fail;refine R.Ah ?_;rintro e w4 ⟨rfl,t⟩;obtain⟨Y,A⟩:=Af (w4.alloc (.cells #[.string x.sum,Zg x.born,.string x.J,.slice xa x.B.length xc] 66));have T:=(AB A).1;have s:Hid (Zz E Y):=t.trans (T.mono t.size);have HY:=Yw A;have F:=zP.o.below s.o;have yK:=(AB A).2.2;obtain⟨y2,y3⟩:=Aa.c2 yK 2 3
     obtain⟨e0,_⟩:=F.I.box 0 _ rfl;have y:=Yw (v.o.trans (s.o.mono v.o.size));have DY:Below Y.heap.size Y Y.drew:=Ae.drew;have xE:=F.lo;have Q:=Ad.N yL (s.o.trans (DY.mono s.o.size));have zS:=Yw (Hk x.J xa xc x.B l Y.drew Q (by have:=(B.o.B x zC).1;omega) (yT.o x zC));clear t A T F yK d0 d1 R yL Q zC yM;go_upto_region 12 with fail;rw[<-HY.o]
     go_region_with (go_at_call 33;refine zS.Ah ?_;rintro e w5 ⟨rfl,zB⟩)
     all_goals
      have zM:=Yw (y.o.trans ((DY.trans zB).mono y.o.size));clear zB y2 y3 e0 zS;by_cases hsame:AE x.J x.B l=FF
      .have hq:(FF.toList !=FF.toList)=false:=Yu
       rw[hsame];have zG:=Yw hsame;clear hsame;go_wp2;go_ret;subst hSS;exact .inr ⟨u.o,.inl ⟨x,S.o.1,S.o.2,zG.o.trans hFF.symm,rfl,zM.o⟩⟩
      .have zG:=Yw hsame;have xA:=Bz hsame;have hq:((AE x.J x.B l).toList !=FF.toList)=true:=by simp[bne,xA]
       clear hsame;generalize hGG:AE x.J x.B l=GG at *
       have zT:=Yw hGG;clear hGG;go_wp2;subst hSS;refine⟨rfl,.inr ⟨u.o,.inr (.inl ⟨x,S.o.1,S.o.2,?_,?_,zM.o⟩)⟩⟩
       .rw[zT.o,hFF];exact zG.o
       .rw[zT.o,hFF];rfl
def Cx(wd births:Int)(ks:List Kd)(text:Zi)(refs:Zl)(ks1:List Kd)(ai:Int):Prop:=
 (∃k∈ks,k.sum=AV text refs wd/\AE k.J k.B wd=AE text refs wd/\ks1=ks/\ai=births)\/
 (¬Au ks (AV text refs wd)/\ks.length<600/\births<1000000000/\ks1=CZ ks ⟨AV text refs wd,births+1,text,refs⟩/\ai=births+1)
def Gl(wd given births:Int)(ks:List Kd)(ls:List Ld)(text:Zi)(refs:Zl)(c:Int)(a b:Zi):Prop:=
 ((¬∀r∈refs,Au ks r)/\c=2/\a=⟨#[]⟩/\b=⟨#[]⟩)\/
 ((∀r∈refs,Au ks r)/\(
   (∃k∈ks,k.sum=AV text refs wd/\AE k.J k.B wd≠AE text refs wd/\c=3/\a=AE k.J k.B wd/\b=AE text refs wd)\/
   (¬Au ks (AV text refs wd)/\(ks.length=600\/births=1000000000)/\c=4/\a=⟨#[]⟩/\b=⟨#[]⟩)\/
   ((∃ks1 ai,Cx wd births ks text refs ks1 ai)/\(ls.length=200\/given=1000000000)/\c=4/\a=⟨#[]⟩/\b=⟨#[]⟩)))
theorem Cx.there{c:Zi}{b:Zl}{d:List Kd}(h:Cx e a i c b d ai):Au d (AV c b e):=by
 rcases h with⟨k,f,g,_,rfl,_⟩|⟨_,_,_,rfl,_⟩
 .exact⟨k,f,g⟩
 .exact⟨⟨AV c b e,a+1,c,b⟩,Hf.2 Yu,rfl⟩
theorem Cx.sz{d:Zi}{c:Zl}(h:Cx e a i d c g ai)(f:∀k∈i,(k.sum.size:Int)=e)(j:((AV d c e).size:Int)=e):∀k∈g,(k.sum.size:Int)=e:=by
 rcases h with⟨k,b,l,_,rfl,_⟩|⟨_,_,_,rfl,_⟩
 .exact f
 .intro k b;rcases List.mem_append.1 (Hf.1 b)with b|b
  .exact f k b
  .simp at b;rw[b];exact j
theorem Oc(t d m:Nat)(O P L:Value)(q now f n:Int)(E:List Kd)(ps:List Pd)(C:List Ld)(s S l:Zi)(x:Int)(i:Zl)(M:Zk)(Q:Nat)(w:Zh)(h:DU w t d m O P L q now f n E ps C)(zV:Em q E)(h1:1<=q)(xC:∀k∈E,k.J.size<=maxLen)(yI:((AV l i q).size:Int)=q)(xB:l.size<=maxLen)(yY:i.length<=1000)(yQ:0<=n)(yR:n<=1000000000)(hr:Dn w t (vB d m O P L) M i)(hl:C.length<=200)(yU:0<=f)(xJ:f<=1000000000)(yW:0<=now)(yX:now<=1000000000)(yZ:0<=x)(xA:x<=1000000000):
 Calls prog 77 #[Yy d,.agg (Xz 1 s S x l M i.length Q)] w fun e w'=>(∃c a b,Gl q f n E C l i c a b/\e=.panicked [{v:=Cj c a b,recovered:=false}]/\Tn (vB d m O P L) w w')\/
  (∃A ai,(∀r∈i,Au E r)/\Cx q n E l i A ai/\C.length<200/\f<1000000000/\e=.returned (.agg #[Ze,Ze,Ze,Ze,Ze,Zb,Zb,Zb,.string (AV l i q),Zg (f+1),Zc,Zc])/\∃O' L',DU w' t d m O' P L' q now (f+1) ai A ps (C++[⟨f+1,AV l i q,now+x⟩])/\Tn (vB d m O P L) w w'):=by
 obtain⟨W,R⟩:=Af (((w.alloc (.cells (Xz 1 s S x l M i.length Q) 38)).alloc (.cells Xy 32)).alloc (.cells Xy 32));have hB:=(Bo R).1;have yJ:=(Bo R).2.1;have xE:=(Bo R).2.2.1;have zR:Aa W (w.heap.size+1) z12:=by have h1:=Aa.new (w.alloc (.cells (Xz 1 s S x l M i.length Q) 38)) z12 32;rw[World.size_alloc]at h1;rw[R];exact Aa.below (v:=Ze) h1 (Zy)
 have zO:Aa W (w.heap.size+2) z12:=by have h1:=Aa.new ((w.alloc (.cells (Xz 1 s S x l M i.length Q) 38)).alloc (.cells Xy 32)) z12 32;rw[World.size_alloc,World.size_alloc]at h1;rw[R];exact h1
 have yE:W.heap[w.heap.size+1]?=some (.cells Xy 32):=by rw[R,Below.heap_alloc _ _ _ Yu];have:=heap_alloc_new (w.alloc (.cells (Xz 1 s S x l M i.length Q) 38)) (.cells Xy 32);rw[World.size_alloc]at this;exact this
 have yB:W.heap[w.heap.size+2]?=some (.cells Xy 32):=by have:=heap_alloc_new ((w.alloc (.cells (Xz 1 s S x l M i.length Q) 38)).alloc (.cells Xy 32)) (.cells Xy 32);rw[World.size_alloc,World.size_alloc]at this;rw[R];exact this
 have hD:=h.below hB;have xI:=h.I.box.lt;have yH:∀b∈vB d m O P L,b<w.heap.size:=h.I.cz;have xH:t<=w.heap.size:=h.lo;have HC:=Yw (XV t d m O P L q now f n E ps C l i M Q W hD zV h1 xC yI xB yY yQ yR (hr.move (U:=[]) (Tn.of hB) Yu (fun b o=> .inl o)));have HW:=Yw R;have HZ:=Yw (Za zR (Za zO (Za yE (Za yB (Za hB (Za yJ xE))))));have zY:Hid (∀b∈vB d m O P L,b<w.heap.size):=yH
 have yL:Hid (DU W t d m O P L q now f n E ps C):=hD;have yM:Hid (∀k∈E,(k.sum.size:Int)=q):=zV.sz;obtain⟨e0,e3,e4,e5⟩:=Aa.c4 xE 0 3 4 5;clear R h hD zR zO yE yB hB yJ xE yH hr zV;go_enter func77,ntmps77;go_upto_region 2 with fail;rw[<-HW.o];clear HW;go_wp2_with fail;refine HC.Ah ?_;intro e F I;have zJ:Tn (vB d m O P L) w W:=Tn.of HZ.o.2.2.2.2.1;obtain⟨hrefs,rfl,o⟩|⟨H,I⟩:=I
 .clear e0 e3 e4 e5;go_wp2;exact⟨rfl,.inl ⟨2,_,_,.inl ⟨hrefs,rfl,rfl,rfl⟩,rfl,zJ.trans (Tn.of o)⟩⟩
 have zP:(∃c a b,Gl q f n E C l i c a b/\e=.panicked [{v:=Cj c a b,recovered:=false}]/\Tn (vB d m O P L) W F)\/(e=.returned (.string (AV l i q))/\∃A ai O1,Cx q n E l i A ai/\DU F t d m O1 P L q now f ai A ps C/\Tn (vB d m O P L) W F/\(O1.ownBlock=O.ownBlock\/∃g,O1.ownBlock=some g/\W.heap.size<=g)):=by
  rcases I with⟨k,hk,hs,hf,rfl,o⟩|⟨k,hk,hs,hf,rfl,o⟩|⟨zE,y,rfl,o⟩|⟨zE,yV,yT,rfl,⟨O',zT,zI⟩,ht⟩
  .exact .inr ⟨rfl,E,n,O,.inl ⟨k,hk,hs,hf,rfl,rfl⟩,yL.o.below o,Tn.of o,.inl rfl⟩
  .exact .inl ⟨3,_,_,.inr ⟨H,.inl ⟨k,hk,hs,hf,rfl,rfl,rfl⟩⟩,rfl,Tn.of o⟩
  .exact .inl ⟨4,_,_,.inr ⟨H,.inr (.inl ⟨zE,y,rfl,rfl,rfl⟩)⟩,rfl,Tn.of o⟩
  .exact .inr ⟨rfl,_,_,O',.inr ⟨zE,yV,yT,rfl,rfl⟩,zT,ht.mono (by intro b o;unfold vB;simp at o |-;rcases o with rfl|rfl|o<;>simp[*]),zI⟩
 clear I;have zG:Hid (∀r∈i,Au E r):=H;clear H;obtain⟨c,a,b,zE,rfl,ht⟩|⟨rfl,A,ai,O1,K,zU,zA,zT⟩:=zP
 .clear e0 e3 e4 e5;go_wp2;exact⟨rfl,.inl ⟨c,a,b,zE,rfl,zJ.trans ht⟩⟩
 have zz:=HZ.o.2.2.2.2.2.1;have zC:∀j,w.heap.size<=j->j∉vB d m O P L:=fun j hj h=>by have:=zY.o _ h;omega
 have zN:Aa F (w.heap.size+1) z12:=Aa.same HZ.o.1 (zA.block _ Yv (zC _ Yv));have zF:Aa F (w.heap.size+2) z12:=Aa.same HZ.o.2.1 (zA.block _ Yv (zC _ Yv));have zM:Aa F w.heap.size (Ya 1 s S x l M i.length Q):=Aa.same HZ.o.2.2.2.2.2.2 (zA.block _ Yv (zC _ Yv))
 have Y:F.heap[w.heap.size+1]?=some (.cells Xy 32):=(zA.block _ Yv (zC _ Yv)).trans HZ.o.2.2.1;have u:F.heap[w.heap.size+2]?=some (.cells Xy 32):=(zA.block _ Yv (zC _ Yv)).trans HZ.o.2.2.2.1;obtain⟨X,hX⟩:=Af (F.setCell (Zd (w.heap.size+2) 8) (.string (AV l i q)));have T:Tn [w.heap.size+2] F X:=by rw[hX];exact Bl _ _ _ _
 have B:Aa X (w.heap.size+2) (z12.set 8 (.string (AV l i q))):=by rw[hX];exact zF.set 8 _
 have G:Aa X (w.heap.size+1) z12:=Aa.same zN (T.block _ zN.lt Yu);have zW:Aa X w.heap.size (Ya 1 s S x l M i.length Q):=Aa.same zM (T.block _ zM.lt Yu);have N:DU X t d m O1 P L q now f ai A ps C:=zU.K T (by intro b o;simp at o;subst o;exact⟨Yv,zU.dj u Yv⟩);have o8:=(zF 8 _ rfl).2;have v8:=(zF 8 _ rfl).1;have J:=K.sz yM.o yI;have zB:=Yw (Zn K (Zn zU (Zn zA zT)))
 have zS:=Yw (Zn T (Zn B (Zn G (Zn N (Zn u Y)))));have zZ:=Yw hX;have yN:Hid (∃yO,X.heap[w.heap.size+2]?=some (.cells yO 32)):=⟨_,by rw[hX,setCell_eq_setRow F _ _ _ _ _ _ u];exact setRow_heap F _ _ _ _ _ u⟩;obtain⟨yP,_⟩:=zW 3 _ rfl;have s8:=(B 8 _ rfl).1;have xG:w.heap.size+2<X.heap.size:=B.lt;by_cases y:C.length=200\/f=1000000000
 .have HL:=Yw (NF t d m O1 P L q now f ai A ps C (AV l i q) x X N J K.there y);clear e0 e3 e4 e5 hX T B G zW N zN zF zM Y u J HC;go_upto_region 5 with fail;rw[<-zZ.o];go_wp2_with fail;refine HL.Ah ?_;rintro e w2 ⟨rfl,yS⟩;go_wp2;refine⟨rfl,.inl ⟨4,_,_,.inr ⟨zG.o,.inr (.inr ⟨⟨_,_,zB.o.1⟩,y,rfl,rfl,rfl⟩)⟩,rfl,?_⟩⟩
  have t0:=(zJ.trans zB.o.2.2.1).fresh zS.o.1 (show w.heap.size<=w.heap.size+2 by omega);exact t0.trans (Tn.of yS)
 .have yG:C.length<200:=Yv
  have yF:f<1000000000:=Yv
  have HL:=Yw (Pp t d m O1 P L q now f ai A ps C (AV l i q) x X N J K.there yG yU yF yW yX yZ xA);clear e0 e3 e4 e5 hX T B G zW N zN zF zM Y u J HC y;go_upto_region 5 with fail;rw[<-zZ.o];go_wp2_with fail;refine HL.Ah ?_;rintro e w2 ⟨rfl,L',zK,Z⟩;obtain⟨T,B,G,N,u,Y⟩:=zS.o
  have D:∀b∈d::L.ownBlock.toList,b<w.heap.size:=fun b o=>zY.o b (by unfold vB;simp at o |-;rcases o with rfl|o<;>simp[*]);have yK:Aa w2 (w.heap.size+1) z12:=Aa.same G (Z.block _ G.lt (fun h=>by have:=D _ h;omega));have z:Aa w2 (w.heap.size+2) (z12.set 8 (.string (AV l i q))):=Aa.same B (Z.block _ B.lt (fun h=>by have:=D _ h;omega))
  have yD:X.heap[w.heap.size+1]?=_:=(T.block _ (by have:=zB.o.2.2.1.size;omega) Yu).trans Y;have yC:w2.heap[w.heap.size+1]?=some (.cells Xy 32):=(Z.block _ G.lt (fun h=>by have:=D _ h;omega)).trans yD;obtain⟨zX,yA⟩:=yN.o;have zI:w2.heap[w.heap.size+2]?=some (.cells zX 32):=(Z.block _ B.lt (fun h=>by have:=D _ h;omega)).trans yA
  have zH:=Yw (Zn zK (Zn Z (Zn (zK.dj yC Yv) (zK.dj zI Yv))));obtain⟨⟨y0,q0⟩,⟨y1,q1⟩,⟨y2,q2⟩,⟨y3,q3⟩,⟨y4,q4⟩,⟨y5,q5⟩,⟨y6,q6⟩,⟨y7,q7⟩,⟨y8,q8⟩,⟨y9,q9⟩,⟨xD,xM⟩,xF,xN⟩:=AS yK;obtain⟨v0,p0⟩:=z 0 _ rfl;obtain⟨v1,p1⟩:=z 1 _ rfl;obtain⟨v2,p2⟩:=z 2 _ rfl;obtain⟨v3,p3⟩:=z 3 _ rfl;obtain⟨v4,p4⟩:=z 4 _ rfl;obtain⟨v5,p5⟩:=z 5 _ rfl;obtain⟨v6,p6⟩:=z 6 _ rfl;obtain⟨v7,p7⟩:=z 7 _ rfl
  obtain⟨xQ,p8⟩:=z 8 _ rfl;obtain⟨v9,p9⟩:=z 9 _ rfl;obtain⟨xO,xK⟩:=z 10 _ rfl;obtain⟨xP,xL⟩:=z 11 _ rfl;clear zK Z yK z yC zI yD T B G N u Y HL D yA yP s8 o8 v8;go_wp2;refine bodyPost_ret (v:=.agg #[Ze,Ze,Ze,Ze,Ze,Zb,Zb,Zb,.string (AV l i q),Zg (f+1),Zc,Zc]) (by simp[results,results77,go_sem,y0,y1,y2,y3,y4,y5,y6,y7,y8,y9,xD,xF]) rfl ?_
  have T9:=(Tn.set (V:=[w.heap.size+1,w.heap.size+2]) w2 (w.heap.size+2) 9 (Zg (f+1)) Yu).trans (Tn.mono (Ba (w2.setCell (Zd (w.heap.size+2) 9) (Zg (f+1))) (w.heap.size+1) Ze Ze Ze Ze Ze Zb Zb Zb (.string (AV l i q)) (Zg (f+1)) Zc Zc) Yu)
  refine .inr ⟨A,ai,zG.o,zB.o.1,yG,yF,rfl,O1,L',zH.o.1.K T9 (by intro b o;simp at o;rcases o with rfl|rfl;exact⟨Yv,zH.o.2.2.1⟩;exact⟨Yv,zH.o.2.2.2⟩),?_⟩;have t0:=(zJ.trans zB.o.2.2.1).fresh zS.o.1 (show w.heap.size<=w.heap.size+2 by omega);have t1:=t0.trans (zH.o.2.1.mono (V':=vB d m O P L) (by intro b o;unfold vB;simp at o |-;rcases o with rfl|o<;>simp[*]))
  exact⟨T9.os.trans t1.os,T9.tape.trans t1.tape,T9.output.trans t1.output,Zm t1.size T9.size,fun b o hv=>(T9.block b (Zr o t1.size) Yt).trans (t1.block b o hv)⟩
def ZR(ks:List Kd)(ps:List Pd)(ls:List Ld):Nat:=ks.length *3+FB ks+ps.length *2+ls.length *3
theorem Vx.same{d:Zj}(h:Vx w base T d g)(f:∀b,b<w.heap.size->b∈T.ownBlock.toList++d.filterMap Value.ownBlock->j.heap[b]?=w.heap[b]?):Vx j base T d g:=
 ⟨h.len,Ak h.ak (fun b a=>f b (Ac h.ak a).2 (by simp[a])),fun i k r e c=>Ak (h.B i k r e c) (fun b a=>f b (Ac (h.B i k r e c) a).2 (List.mem_append_right _ (List.mem_filterMap.2 ⟨r,Zs c,a⟩))),h.nd⟩
theorem AY.below{e:Zh}{rs:Zj}{b:List Kd}{d:List Pd}{c:List Ld}(h:AY w base T P L rs b d c)(a:Zz w e):AY e base T P L rs b d c:=
 ⟨h.len,Ag h.ak a,fun i k r f g=>Ag (h.B i k r f g) a,Ag h.pins a,Ag h.aq a,h.nd⟩
end Go.Proofs.YtoglnpagihdhpaaGreatDoor
