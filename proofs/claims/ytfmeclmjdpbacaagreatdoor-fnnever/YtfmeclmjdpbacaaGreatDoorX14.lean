import Derived.Test.YtfmeclmjdpbacaaGreatDoorX07
import Derived.Test.YtfmeclmjdpbacaaGreatDoorX08
set_option maxRecDepth 100000
set_option maxHeartbeats 16000000
open Option renaming some->ai,none->an
open Bool renaming true->ay,false->ba
open Go.RowKit renaming Below->bg
open Decidable renaming decide->bq
open Go.Obj renaming cells->bs
open Go.Value renaming slice->bx,agg->ca,ownBlock->ef
open Or renaming inl->cr,inr->ct
open List renaming length->ed
open Go.World renaming cell?->eh,ownsRow->ej,setCell->el
namespace Go.Proofs.YtfmeclmjdpbacaaGreatDoor
open ChangeShapes WideShapes ChangeAt RowKit _root_.Go.Proofs.Tryz List World Value
variable{a:C7}{k n d i m N:Nat}{x:Pd}{B:Zk}{w W:Zh}{c q p j y e aj:Int}{g:C5}{P L:Value}{V:List Nat}
theorem Ts{a:C6}{x:Ld}(n:Int)(c:a[k]?=ai x):Bz (a.take (k+1)) n=Bz (a.take k) n++(if x.M=n then []else [x]):=by obtain⟨b,rfl⟩:=Zw c;unfold Bz;rw[Zu b,filter_append];by_cases h:a[k].M=n<;>simp[h]
theorem Oy(a:C6)(n:Int):ed (Bz a n)=ed a↔¬∃x∈a,x.M=n:=by unfold Bz;rw[length_filter_eq_length_iff];simp
def Vp(w w':Zh)(e:Ending)(wd now given births:Int)(T P:Value)(ls:List Ld)(n:Int):Prop:=
 bg w.1.size w w'/\(((¬∃x∈ls,x.M=n)/\e=.returned (ca #[Zg 5,Ze,Ze,Ze,Ze,Zb,Zb,Zb,Zc,Ze,Zc,Zc]))\/
  ((∃x∈ls,x.M=n)/\∃g c,e=.returned (ca #[Ze,Zg wd,Zg now,Zg given,Zg births,T,P,bx (ai ⟨g,0,an⟩) (ed (Bz ls n)) c,Zc,Ze,Zc,Zc])/\ej w' w.1.size 112 3 (bx (ai ⟨g,0,an⟩) (ed (Bz ls n)) c) (ed (Bz ls n)) (Af lC (Bz ls n))))
theorem Tt(t h d b:Int)(p l:Zk)(s r o m E:Nat){a:C6}(n:Int)(f:Ba w w.1.size B a)(hl:ed a<=1000):
 D4 127 #[ca (Yg t h d b p s r l o m B (ed a) E),Zg n] w λe j=>Vp w j e t h d b (Cx p s r) (Cx l o m) a n:=by
 have⟨W,j⟩:=Ag ((w.alloc (bs (Yg t h d b p s r l o m B (ed a) E) 30)).alloc (bs Yd 81));obtain⟨z,D,A⟩:=(AT j).1,(AT j).2.1,(AT j).2.2.1;have C:Aa W (w.1.size+1) z12:=by have R:=Aa.new (w.alloc (bs (Yg t h d b p s r l o m B (ed a) E) 30)) z12 81;rw[Aq]at R;rw[j];exact R
 have K:Hid (∀X,bg (w.1.size+2) W X->Aa X w.1.size (Yh t h d b p s r l o m B (ed a) E)/\Aa X (w.1.size+1) z12):=λX u=>⟨Aa.same A (u.block _ Yv),Aa.same C (u.block _ Yv)⟩;have HW:=Yw j;have y:w.1.size+2<=W.1.size:=Yv;have HR:Hid (Ba w w.1.size B a):=f;have zB:Hid (Zz w W):=z;have u:bg W.1.size W (W.alloc (bs #[] 112)):=Zy;have zC:Hid (ej (W.alloc (bs #[] 112)) (w.1.size+2) 112 3 (Yz W.1.size 0 0) 0 []):=ownsRow_lit (base:=w.1.size+2) (e:=112) (size:=3) W #[] 0 Yv Yo rfl;have zA:Hid (bg (w.1.size+2) W (W.alloc (bs #[] 112))):=u.ah y;clear j D A C f z u;delta D4;go_in;go_upto_region 1 with fail;rw[<-HW.o];go_wp2;go_loopw [5,6] (λv i wr=>∃(k g c:Nat),k<=ed a/\i=Zg k/\v=Yz g (ed (Bz (a.take k) n)) c/\Hid (ej wr (w.1.size+2) 112 3 (Yz g (ed (Bz (a.take k) n)) c) (ed (Bz (a.take k) n)) (Af lC (Bz (a.take k) n))/\bg (w.1.size+2) W wr)) (λ_ i _=>ed a -(intOf i).toNat)
 case atStart=>exact⟨0,W.1.size,0,Aw _,rfl,by simp[Bz],⟨by simpa [Bz,Af]using zC.o,zA⟩⟩
 obtain⟨k,g,c,hk,rfl,rfl,f⟩:=hrel;have j:bg w.1.size w wr:=zB.ag (f.2.ah Yv);have H:w.1.size+2<=wr.1.size:=Zm y f.2.size;obtain⟨v0,T,U,Y,Z,i,X,v7⟩:=Cq (K _ f.2).1;by_cases hlt:k<ed a
 .obtain⟨b',zG,ha,hb,u⟩:=(Ba.A HR j).at hlt;subst ha;have O:Hid (a[k]?=ai a[k]):=Zv hlt;obtain⟨L,P,S⟩:=u k _ O;have F:=Yw (Ts n O);have zF:ed (Bz (a.take k) n)<=1000:=by have:=length_filter_le (λx:Ld=> !bq (x.M=n)) (a.take k);unfold Bz;rw[Cl]at this;omega
  clear u;generalize a[k]=x at *
  generalize hGk:Bz (a.take k) n=gk at *
  clear hGk;by_cases hxn:x.M=n
  .have A:(x.M !=n)=ba:=(by simp[hxn]);have C:Hid (Bz (a.take (k+1)) n=gk):=(by show _=_;rw[F.o,if_pos hxn,append_nil]);clear hxn;go_wp2;exact⟨⟨k+1,g,c,Yv,Yn,by rw[C.o],⟨by rw[C.o];exact f.1,f.2⟩⟩,Ys⟩
  have A:(x.M !=n)=ay:=by simp[hxn]
  have C:Hid (Bz (a.take (k+1)) n=gk++[x]):=by show _=_;rw[F.o,if_neg hxn]
  clear hxn;obtain⟨Q,u,M,G,D,z,J⟩:=Po wr (w.1.size+2) _ gk f.1 x Yv H 28;have I:bg (w.1.size+2) wr M:=Ae.grown z H (λq e=>(Ab f.1 e).1);have N:Hid (ej M (w.1.size+2) 112 3 (Yz Q (ed gk+1) u) (ed (gk++[x])) (Af lC (gk++[x]))/\bg (w.1.size+2) W M):=⟨D,f.2.ag I⟩;have zE:b'<wr.1.size:=C8 j.size;clear D z J I;go_wp2_with (at_builtin;refine wpList_append_run rfl _ _ 28 28 rfl rfl rfl G ?_);clear G L P S v0 T U Y Z i X;go_wp2;exact⟨⟨k+1,Q,u,Yv,Yn,by rw[C.o,Am];rfl,⟨by rw[C.o,Am];exact Am▸N.1,N.2⟩⟩,Ys⟩
 obtain rfl:k=ed a:=Yv;have hO:=f.1;rw[Zt (Zx)]at hO |-;have J:Hid (ej wr (w.1.size+2) 112 3 (Yz g (ed (Bz a n)) c) (ed (Bz a n)) (Af lC (Bz a n))):=hO;have z:Hid (Zz w wr):=j;obtain⟨⟨S,q0⟩,⟨T,q1⟩,⟨U,q2⟩,⟨Y,q3⟩,⟨Z,q4⟩,⟨i,q5⟩,⟨X,q6⟩,⟨y7,q7⟩,⟨y8,q8⟩,⟨y9,q9⟩,⟨G,zH⟩,I,zI⟩:=Br (K _ f.2).2;have f6:=((K _ f.2).1 6 _ rfl).2;by_cases hex:∃x∈a,x.M=n
 .have L:¬ed (Bz a n)=ed a:=λe=>(Oy a n).1 e hex;have A:((ed (Bz a n):Int)==(ed a:Int))=ba:=Yt;have D:Hid (∃x∈a,x.M=n):=hex;clear L hex hO j f;go_wp2;refine Co (ca #[Ze,Zg t,Zg h,Zg d,Zg b,Cx p s r,Cx l o m,Yz g (ed (Bz a n)) c,Zc,Ze,Zc,Zc]) I2 ?_;have P:=(Tn.set (V:=[w.1.size,w.1.size+1]) wr w.1.size 6 (Yz g (ed (Bz a n)) c) Yu).ag (Tn.ah (Bw (el wr (Zd (w.1.size) 6) (Yz g (ed (Bz a n)) c)) (w.1.size+1) Ze (Zg t) (Zg h) (Zg d) (Zg b) (Cx p s r) (Cx l o m) (Yz g (ed (Bz a n)) c) Zc Ze Zc Zc) Yu);exact⟨z.ag (P.A z.size (by intro v L;simp at L;omega)),ct ⟨D,g,c,rfl,(Ar J (λq A=>P.block q (Ab J A).2 (by have:=(Ab J A).1;simp;omega))).ah Yv⟩⟩
 have e:ed (Bz a n)=ed a:=(Oy a n).2 hex;have A:((ed (Bz a n):Int)==(ed a:Int))=ay:=Yt;have D:Hid (¬∃x∈a,x.M=n):=hex;clear e hex hO j f;go_wp2;refine Co (ca (Yc 5)) I2 ?_;exact⟨z.ag (Tn.A (Bw wr (w.1.size+1) _ _ _ _ _ _ _ _ _ _ _ _) z.size (by intro v L;simp at L;omega)),cr ⟨D,rfl⟩⟩
theorem ML(w:Zh)(a:Nat)(v:Dg)(b:C7)(y:ej w a 148 2 v (ed b) (Af pC b))(x:Pd)(t:ed b<=1000000)(k:a<=w.1.size)(l:TypeId):
 ∃g c f,(Builtin.append_ #[27,27] l #[v,Yz w.1.size 1 1]).run prog (w.alloc (bs #[C0 x.name,C0 x.sum] 148))=.ok (Yz g (ed b+1) c) f/\ej f a 148 2 (Yz g (ed b+1) c) (ed (b++[x])) (Af pC (b++[x]))/\w.grownBy f (ef v)/\(ef v=ai g\/g=w.1.size+1):=by
 have⟨A,s,n,o,p⟩:=info_parts Ji;have m:=Ai y (Ae.alloc (Zx) (bs #[C0 x.name,C0 x.sum] 148));have r:∀j u,(Af pC [x])[j]?=ai u->eh (w.alloc (bs #[C0 x.name,C0 x.sum] 148)) ((⟨w.1.size,0,an⟩:Addr).add j)=ai u:=by intro j u h;rw[A1,Ax];exact(Aa.new w [C0 x.name,C0 x.sum] 148 j u (by simpa [Af,pC]using h)).1
 obtain⟨B,f,z,i,q,_,d⟩:=run_append_own_at (P:=prog) (w.alloc (bs #[C0 x.name,C0 x.sum] 148)) a 27 l 148 A _ 2 32 underlying27 s n o p rfl Yq v (ed b) (Af pC b) m ⟨w.1.size,0,an⟩ 1 1 (Af pC [x]) (by simp[Af,pC]) r (by intro u h;simp[Af,pC]at h;rcases h with rfl|rfl<;>rfl) Yo Yv Yt;obtain⟨g,c,rfl,_,_⟩:=Cv i (λe=>by subst e;rcases i.2 with⟨_,t⟩|⟨_,_,_,e,_⟩<;>first|omega|cases e);refine⟨g,c,f,z,?_,(grownBy_alloc w _ _).ag q,?_⟩
 .rw[Gx,Am];exact i
 rcases d with d|d
 .exact cr d.symm
 right;simpa [ownBlock]using d
theorem Rk(n:Zi)(c:a[k]?=ai x):Bf (a.take (k+1)) n=Bf (a.take k) n++(if x.name=n then []else [x]):=by obtain⟨b,rfl⟩:=Zw c;unfold Bf;rw[Zu b,filter_append];by_cases h:a[k].name=n<;>simp[h]
theorem MM(a:C7)(n:Zi):ed (Bf a n)=ed a↔¬∃x∈a,x.name=n:=by unfold Bf;rw[length_filter_eq_length_iff];simp
def Se(w w':Zh)(e:Ending)(wd now given births:Int)(T P:Value)(ls:List Pd)(n:Zi):Prop:=
 bg w.1.size w w'/\(((¬∃x∈ls,x.name=n)/\e=.returned (ca #[Zg 5,Ze,Ze,Ze,Ze,Zb,Zb,Zb,Zc,Ze,Zc,Zc]))\/
  ((∃x∈ls,x.name=n)/\∃g c,e=.returned (ca #[Ze,Zg wd,Zg now,Zg given,Zg births,T,bx (ai ⟨g,0,an⟩) (ed (Bf ls n)) c,P,Zc,Ze,Zc,Zc])/\ej w' w.1.size 148 2 (bx (ai ⟨g,0,an⟩) (ed (Bf ls n)) c) (ed (Bf ls n)) (Af pC (Bf ls n))))
theorem Rl(t h d b:Int)(p l:Zk)(s r o m E:Nat)(n:Zi)(f:Bd w w.1.size B a)(hl:ed a<=1000):
 D4 124 #[ca (Yg t h d b p s r B (ed a) E l o m),C0 n] w λe j=>Se w j e t h d b (Cx p s r) (Cx l o m) a n:=by
 have⟨W,j⟩:=Ag ((w.alloc (bs (Yg t h d b p s r B (ed a) E l o m) 30)).alloc (bs Yd 81));obtain⟨D,H,F⟩:=(AT j).1,(AT j).2.1,(AT j).2.2.1;have G:Aa W (w.1.size+1) z12:=by have S:=Aa.new (w.alloc (bs (Yg t h d b p s r B (ed a) E l o m) 30)) z12 81;rw[Aq]at S;rw[j];exact S
 have L:Hid (∀X,bg (w.1.size+2) W X->Aa X w.1.size (Yh t h d b p s r B (ed a) E l o m)/\Aa X (w.1.size+1) z12):=λX u=>⟨Aa.same F (u.block _ Yv),Aa.same G (u.block _ Yv)⟩;have A:=Yw j;have y:w.1.size+2<=W.1.size:=Yv;have HR:Hid (Bd w w.1.size B a):=f;have zA:Hid (Zz w W):=D;have C:bg W.1.size W (W.alloc (bs #[] 148)):=Zy;have z:Hid (ej (W.alloc (bs #[] 148)) (w.1.size+2) 148 2 (Yz W.1.size 0 0) 0 []):=ownsRow_lit (base:=w.1.size+2) (e:=148) (size:=2) W #[] 0 Yv Yo rfl;have u:Hid (bg (w.1.size+2) W (W.alloc (bs #[] 148))):=C.ah y;clear j H F G f D C;delta D4;go_in;go_upto_region 1 with fail;rw[<-A.o];clear A;go_wp2;go_loopw [5,6] (λv i wr=>∃(k g c:Nat),k<=ed a/\i=Zg k/\v=Yz g (ed (Bf (a.take k) n)) c/\Hid (ej wr (w.1.size+2) 148 2 (Yz g (ed (Bf (a.take k) n)) c) (ed (Bf (a.take k) n)) (Af pC (Bf (a.take k) n))/\bg (w.1.size+2) W wr)) (λ_ i _=>ed a -(intOf i).toNat)
 case atStart=>exact⟨0,W.1.size,0,Aw _,rfl,by simp[Bf],⟨by simpa [Bf,Af]using z.o,u⟩⟩
 clear z u;obtain⟨k,g,c,hk,rfl,rfl,f⟩:=hrel;have j:bg w.1.size w wr:=zA.ag (f.2.ah Yv);have I:w.1.size+2<=wr.1.size:=Zm y f.2.size;obtain⟨v0,T,U,Y,Z,i,X,v7⟩:=Cq (L _ f.2).1;by_cases hlt:k<ed a
 .obtain⟨b',zE,ha,hb,u⟩:=(Bd.A HR j).at hlt;subst ha;have P:Hid (a[k]?=ai a[k]):=Zv hlt;obtain⟨M,Q⟩:=u k _ P;have F:=Yw (Rk n P);have zC:ed (Bf (a.take k) n)<=1000:=by have:=length_filter_le (λx:Pd=> !bq (x.name=n)) (a.take k);unfold Bf;rw[Cl]at this;omega
  clear u;generalize a[k]=x at *
  generalize hGk:Bf (a.take k) n=gk at *
  clear hGk;by_cases hxn:x.name=n
  .have A:(x.name.toList !=n.toList)=ba:=(by rw[hxn];simp);have G:(x.name.toList==n.toList)=ay:=(by rw[hxn];simp);have C:Hid (Bf (a.take (k+1)) n=gk):=(by show _=_;rw[F.o,if_pos hxn,append_nil]);clear hxn;go_wp2;exact⟨⟨k+1,g,c,Yv,Yn,by rw[C.o],⟨by rw[C.o];exact f.1,f.2⟩⟩,Ys⟩
  have G:(x.name.toList==n.toList)=ba:=BZ hxn;have A:(x.name.toList !=n.toList)=ay:=by simp[bne,G]
  have C:Hid (Bf (a.take (k+1)) n=gk++[x]):=by show _=_;rw[F.o,if_neg hxn]
  clear hxn;obtain⟨R,u,N,H,D,z,K⟩:=ML wr (w.1.size+2) _ gk f.1 x Yv I 27;have J:bg (w.1.size+2) wr N:=Ae.grown z I (λq e=>(Ab f.1 e).1);have O:Hid (ej N (w.1.size+2) 148 2 (Yz R (ed gk+1) u) (ed (gk++[x])) (Af pC (gk++[x]))/\bg (w.1.size+2) W N):=⟨D,f.2.ag J⟩;have zB:b'<wr.1.size:=C8 j.size;clear D z K J;go_wp2_with (at_builtin;refine wpList_append_run rfl _ _ 27 27 rfl rfl rfl H ?_);clear H M Q v0 T U Y Z i X;go_wp2;exact⟨⟨k+1,R,u,Yv,Yn,by rw[C.o,Am];rfl,⟨by rw[C.o,Am];exact Am▸O.1,O.2⟩⟩,Ys⟩
 obtain rfl:k=ed a:=Yv;have hO:=f.1;rw[Zt (Zx)]at hO |-;have K:Hid (ej wr (w.1.size+2) 148 2 (Yz g (ed (Bf a n)) c) (ed (Bf a n)) (Af pC (Bf a n))):=hO;have z:Hid (Zz w wr):=j;obtain⟨⟨T,q0⟩,⟨U,q1⟩,⟨Y,q2⟩,⟨Z,q3⟩,⟨i,q4⟩,⟨X,q5⟩,⟨y6,q6⟩,⟨y7,q7⟩,⟨y8,q8⟩,⟨y9,q9⟩,⟨H,zF⟩,J,zG⟩:=Br (L _ f.2).2;have f6:=((L _ f.2).1 5 _ rfl).2;by_cases hex:∃x∈a,x.name=n
 .have M:¬ed (Bf a n)=ed a:=λe=>(MM a n).1 e hex;have A:((ed (Bf a n):Int)==(ed a:Int))=ba:=Yt;have D:Hid (∃x∈a,x.name=n):=hex;clear M hex hO j f;go_wp2;refine Co (ca #[Ze,Zg t,Zg h,Zg d,Zg b,Cx p s r,Yz g (ed (Bf a n)) c,Cx l o m,Zc,Ze,Zc,Zc]) H9 ?_;have Q:=(Tn.set (V:=[w.1.size,w.1.size+1]) wr w.1.size 5 (Yz g (ed (Bf a n)) c) Yu).ag (Tn.ah (Bw (el wr (Zd (w.1.size) 5) (Yz g (ed (Bf a n)) c)) (w.1.size+1) Ze (Zg t) (Zg h) (Zg d) (Zg b) (Cx p s r) (Yz g (ed (Bf a n)) c) (Cx l o m) Zc Ze Zc Zc) Yu);exact⟨z.ag (Q.A z.size (by intro v M;simp at M;omega)),ct ⟨D,g,c,rfl,(Ar K (λq A=>Q.block q (Ab K A).2 (by have:=(Ab K A).1;simp;omega))).ah Yv⟩⟩
 have e:ed (Bf a n)=ed a:=(MM a n).2 hex;have A:((ed (Bf a n):Int)==(ed a:Int))=ay:=Yt;have D:Hid (¬∃x∈a,x.name=n):=hex;clear e hex hO j f;go_wp2;refine Co (ca (Yc 5)) H9 ?_;exact⟨z.ag (Tn.A (Bw wr (w.1.size+1) _ _ _ _ _ _ _ _ _ _ _ _) z.size (by intro v M;simp at M;omega)),cr ⟨D,rfl⟩⟩
def Ev(ps:List Pd)(n:Zi):Bool:= !(ps.all (fun x=>less x.name n))
def Cf(ps:List Pd)(n s:Zi):List Pd:=ps.filter (fun x=>less x.name n)++(if Ev ps n then [⟨n,s⟩]else [])++ps.filter (fun x=> !(less x.name n)&& !bq (x.name=n))
theorem IP(n:Zi)(c:a[k]?=ai x):Ev (a.take (k+1)) n=(Ev (a.take k) n|| !(less x.name n)):=by obtain⟨b,rfl⟩:=Zw c;unfold Ev;rw[Zu b,all_append];simp
theorem Gf{n:Zi}(h:Ev a n=ba):a.filter (λx=> !(less x.name n)&& !bq (x.name=n))=[]:=by
 rw[filter_eq_nil_iff];intro x b;have:less x.name n=ay:=by unfold Ev at h;simp only[Bool.not_eq_false']at h;exact all_eq_true.1 h x b
 simp[this]
theorem Tu(n s:Zi)(e:a[k]?=ai x)(b:Ev (a.take k) n=ba)(d:less x.name n=ay):Cf (a.take (k+1)) n s=Cf (a.take k) n s++[x]:=by have c:=IP n e;rw[b,d]at c;unfold Cf;rw[Gf b,Gf gA,c,b];obtain⟨f,rfl⟩:=Zw e;rw[Zu f,filter_append];simp[d]
theorem Abi(n s:Zi)(e:a[k]?=ai x)(b:Ev (a.take k) n=ba)(d:less x.name n=ba):Cf (a.take (k+1)) n s=Cf (a.take k) n s++[⟨n,s⟩]++(if x.name=n then []else [x]):=by
 have c:=IP n e;rw[b,d]at c;unfold Cf;rw[Gf b,c,b];have g:=Gf b;obtain⟨f,rfl⟩:=Zw e;rw[Zu f,filter_append,filter_append,g];by_cases hn:a[k].name=n
 .simp[hn,Cz]
 simp[d,hn]
theorem Vq{c:C7}(n s:Zi)(f:c.Pairwise (λa b=>less a.name b.name=ay))(p:c[k]?=ai x)(g:Ev (c.take k) n=ay):x.name≠n/\Cf (c.take (k+1)) n s=Cf (c.take k) n s++[x]:=by
 have m:=IP n p;rw[g,Bool.true_or]at m;obtain⟨i,rfl⟩:=Zw p;have⟨y,u,l⟩:∃y∈c.take k,less y.name n=ba:=by unfold Ev at g;simpa using g
 obtain⟨j,r⟩:=A3 u;have⟨q,e⟩:=Zw r;rw[Cl]at q;rw[getElem_take]at e;have d:=pairwise_iff_getElem.1 f j k Yv i Yv;rw[e]at d;have t:less c[k].name n=ba:=by
  cases h:less c[k].name n with
  |false=>rfl
  |true=>rw[CE d h]at l;cases l
 have o:c[k].name≠n:=gG;refine⟨o,?_⟩;unfold Cf;rw[m,g,Zu i,filter_append,filter_append];simp[t,o]
theorem XH(n s:Zi)(b:Ev a n=ay):Cf a n s=Bj a n s:=by unfold Cf Bj;rw[b];rfl
theorem Abj(n s:Zi)(b:Ev a n=ba):Cf a n s++[⟨n,s⟩]=Bj a n s:=by unfold Cf Bj;rw[b,Gf b];simp
theorem LX(a:C7)(n s:Zi):ed (Cf a n s)<=ed a+1:=by
 have h:∀(l:C7),ed (l.filter (λx=>less x.name n))+ed (l.filter (λx=> !(less x.name n)&& !bq (x.name=n)))<=ed l:=by
  intro l;induction l with
  |nil=>simp
  |cons x l ih=>rw[filter_cons,filter_cons];cases less x.name n<;>by_cases hn:x.name=n<;>simp[hn]<;>omega
 have:=h a;unfold Cf;rw[Am,Am];split<;>simp<;>omega
def ZI(w w':Zh)(e:Ending)(wd now given births:Int)(T L:Value)(ps:List Pd)(n s:Zi):Prop:=
 bg w.1.size w w'/\((100<ed (Bj ps n s)/\e=.returned (ca #[Zg 4,Ze,Ze,Ze,Ze,Zb,Zb,Zb,Zc,Ze,Zc,Zc]))\/
  (ed (Bj ps n s)<=100/\∃g c,e=.returned (ca #[Ze,Zg wd,Zg now,Zg given,Zg births,T,bx (ai ⟨g,0,an⟩) (ed (Bj ps n s)) c,L,Zc,Ze,Zc,Zc])/\ej w' w.1.size 148 2 (bx (ai ⟨g,0,an⟩) (ed (Bj ps n s)) c) (ed (Bj ps n s)) (Af pC (Bj ps n s))))
theorem Vr(o L h f kind zB:Int){T pa:Zk}(U ra:Zk)(tc pc Y Z rn rc:Nat){F:C5}{d:C7}(n:Zi){s:Zi}(K:Zi)(H:BH w w.1.size T F)(t:Bd w w.1.size pa d)(yX:ed F<=1000)(hl:ed d<=1000)(I:As F s)(l:d.Pairwise (λa b=>less a.name b.name=ay)):
 D4 123 #[ca (Yg o L h f T (ed F) tc pa (ed d) pc U Z Y),ca (Ye kind s n zB K ra rn rc)] w λe j=>ZI w j e o L h f (Cx T (ed F) tc) (Cx U Z Y) d n s:=by
 have⟨W,p⟩:=Ag (((w.alloc (bs (Yg o L h f T (ed F) tc pa (ed d) pc U Z Y) 30)).alloc (bs (Ye kind s n zB K ra rn rc) 117)).alloc (bs Yd 81));obtain⟨E,P,J⟩:=(Bq p).1,(Bq p).2.1,(Bq p).2.2.1;have M:Aa W (w.1.size+1) (Xw kind s n zB K ra rn rc):=by have h1:=Aa.new (w.alloc (bs (Yg o L h f T (ed F) tc pa (ed d) pc U Z Y) 30)) (Xw kind s n zB K ra rn rc) 117;rw[Aq]at h1;rw[p];exact Aa.A h1 (Zy)
 have O:Aa W (w.1.size+2) z12:=by have h1:=Aa.new ((w.alloc (bs (Yg o L h f T (ed F) tc pa (ed d) pc U Z Y) 30)).alloc (bs (Ye kind s n zB K ra rn rc) 117)) z12 81;rw[Aq,Aq]at h1;rw[p];exact h1
 have G:=Yw (FK o L h f tc (Cx pa (ed d) pc) (Cx U Z Y) s (BH.A H E) E.size Yv);have yV:¬Df F s<0:=by
  rcases Fz F s with⟨_,hn⟩|⟨i,k,e,_⟩
  .exact absurd I hn
  omega
 have m:Hid (∀X,bg (w.1.size+3) W X->Aa X w.1.size (Yh o L h f T (ed F) tc pa (ed d) pc U Z Y)/\Aa X (w.1.size+1) (Xw kind s n zB K ra rn rc)/\Aa X (w.1.size+2) z12):=λX D=>⟨Aa.same J (D.block _ Yv),Aa.same M (D.block _ Yv),Aa.same O (D.block _ Yv)⟩;have N:=Yw p;have j:w.1.size+3<=W.1.size:=Yv;have HR:Hid (Bd w w.1.size pa d):=t;have yA:Hid (Zz w W):=E;obtain⟨yJ,⟨v0,u,y,z,A,B,C,v7⟩,r,_⟩:=Yw l,Cq J,M 1 _ rfl;clear p P J O M t E H I l;delta D4;go_in;go_upto_region 1 with fail;rw[<-N.o];clear N;go_wp2_with fail;refine G.Ak ?_;rintro e a ⟨rfl,l⟩;have zZ:w.1.size+3<=a.1.size:=Zm j l.size;have yH:Hid (bg (w.1.size+3) W a):=l.ah j;have E:bg a.1.size a (a.alloc (bs #[] 148)):=Zy;have t:Hid (ej (a.alloc (bs #[] 148)) (w.1.size+3) 148 2 (Yz a.1.size 0 0) 0 []):=ownsRow_lit (base:=w.1.size+3) (e:=148) (size:=2) a #[] 0 Yv Yo rfl;have p:Hid (bg (w.1.size+3) W (a.alloc (bs #[] 148))):=yH.ag (E.ah zZ);generalize Df F s=fi at *
 clear G E l r v0 u y z A B C v7;go_wp2;go_loopw [5,6,7] (λv l i wr=>∃(k g c:Nat),k<=ed d/\i=Zg k/\l=.bool (Ev (d.take k) n)/\v=Yz g (ed (Cf (d.take k) n s)) c/\Hid (ej wr (w.1.size+3) 148 2 (Yz g (ed (Cf (d.take k) n s)) c) (ed (Cf (d.take k) n s)) (Af pC (Cf (d.take k) n s))/\bg (w.1.size+3) W wr)) (λ_ _ i _=>ed d -(intOf i).toNat)
 case atStart=>exact⟨0,a.1.size,0,Aw _,rfl,rfl,by simp[Cf,Ev],⟨by simpa [Cf,Ev,Af]using t.o,p⟩⟩
 clear t p;obtain⟨k,g,c,hk,rfl,rfl,rfl,M⟩:=hrel;have zE:bg w.1.size w wr:=yA.ag (M.2.ah Yv);have zU:w.1.size+3<=wr.1.size:=Zm j M.2.size;obtain⟨v0,u,y,z,A,B,C,v7⟩:=Cq (m _ M.2).1;obtain⟨r,G⟩:=Aa.c2 ((m _ M.2).2.1) 1 2;by_cases hlt:k<ed d
 case neg=>
  obtain rfl:k=ed d:=Yv
  have hO:=M.1;rw[Zt (Zx)]at hO |-;have p:Hid (Zz w wr):=zE;cases hDn:Ev d n with
  |true=>
   have t:=XH n s hDn;rw[t]at hO |-;have H:Hid (ej wr (w.1.size+3) 148 2 (Yz g (ed (Bj d n s)) c) (ed (Bj d n s)) (Af pC (Bj d n s))):=hO;have yK:=LX d n s;rw[t]at yK;obtain⟨f5,⟨y0,q0⟩,⟨y1,q1⟩,⟨y2,q2⟩,⟨y3,q3⟩,⟨y4,q4⟩,⟨y5,q5⟩,⟨y6,q6⟩,⟨y7,q7⟩,⟨y8,q8⟩,⟨y9,q9⟩,⟨O,yQ⟩,P,yR⟩:=((m _ M.2).1 5 _ rfl).2,Br (m _ M.2).2.2;clear hDn t zE M r G;by_cases hbig:100<ed (Bj d n s)
   .have S:(100:Int)<(ed (Bj d n s):Int):=Yv;have r:Hid (100<ed (Bj d n s)):=hbig;clear hbig hO;go_wp2;refine Co (ca (Yc 4)) Ew ?_;exact⟨p.ag (Tn.A (Bw wr (w.1.size+2) _ _ _ _ _ _ _ _ _ _ _ _) p.size J3),cr ⟨r,rfl⟩⟩
   have S:¬(100:Int)<(ed (Bj d n s):Int):=Yv;have r:Hid (ed (Bj d n s)<=100):=(by show _<=_;omega);clear hbig hO;go_wp2;refine Co (ca #[Ze,Zg o,Zg L,Zg h,Zg f,Cx T (ed F) tc,Yz g (ed (Bj d n s)) c,Cx U Z Y,Zc,Ze,Zc,Zc]) Ew ?_;have T':=(Tn.set (V:=[w.1.size,w.1.size+2]) wr w.1.size 5 (Yz g (ed (Bj d n s)) c) Yu).ag (Tn.ah (Bw (el wr (Zd (w.1.size) 5) (Yz g (ed (Bj d n s)) c)) (w.1.size+2) Ze (Zg o) (Zg L) (Zg h) (Zg f) (Cx T (ed F) tc) (Yz g (ed (Bj d n s)) c) (Cx U Z Y) Zc Ze Zc Zc) Yu)
   exact⟨p.ag (T'.A p.size J3),ct ⟨r,g,c,rfl,(Ar H (λq S=>T'.block q (Ab H S).2 (by have:=(Ab H S).1;simp;omega))).ah Yv⟩⟩
  |false=>
   have yU:=LX d n s;have t:=Abj n s hDn;obtain⟨b,l,w8,yC,zT,yB,yM⟩:=ML wr (w.1.size+3) _ (Cf d n s) hO ⟨n,s⟩ Yv zU 27;have b8:bg (w.1.size+3) wr w8:=Ae.grown yB zU (λq e=>(Ab hO e).1);have zN:bg (w.1.size+3) W w8:=M.2.ag b8;have p:Hid (Zz w w8):=p.ag (b8.ah Yv);have G:Hid (ed (Bj d n s)=ed (Cf d n s)+1):=(by show _=_;rw[<-t];simp);rw[t,G.o]at zT;obtain⟨H,f5,⟨⟨y0,q0⟩,⟨y1,q1⟩,⟨y2,q2⟩,⟨y3,q3⟩,⟨y4,q4⟩,⟨y5,q5⟩,⟨y6,q6⟩,⟨y7,q7⟩,⟨y8,q8⟩,⟨y9,q9⟩,⟨O,yQ⟩,P,yR⟩,z0,z1,z2,z3,z4,z5,z6,z7⟩:=Yw zT,((m _ zN).1 5 _ rfl).2,Br (m _ zN).2.2,Cq (m _ zN).1;clear hDn t zE M b8 yB yM zT zN hO;by_cases hbig:100<(ed (Cf d n s)+1)
   .have S:(100:Int)<(ed (Cf d n s):Int)+1:=Yv;have r:Hid (100<ed (Bj d n s)):=(by show _<_;rw[G.o];exact hbig);clear hbig;go_wp2_with (at_builtin;refine wpList_append_run rfl _ _ 27 27 rfl rfl rfl yC ?_);refine Co (ca (Yc 4)) Ew ?_;exact⟨p.ag (Tn.A (Bw w8 (w.1.size+2) _ _ _ _ _ _ _ _ _ _ _ _) p.size J3),cr ⟨r,rfl⟩⟩
   have S:¬(100:Int)<(ed (Cf d n s):Int)+1:=Yv;have M:¬(100:Int)<((ed (Cf d n s)+1:Nat):Int):=Yv;have r:Hid (ed (Bj d n s)<=100):=(by show _<=_;rw[G.o];omega);clear hbig;go_wp2_with (at_builtin;refine wpList_append_run rfl _ _ 27 27 rfl rfl rfl yC ?_);refine Co (ca #[Ze,Zg o,Zg L,Zg h,Zg f,Cx T (ed F) tc,Yz b (ed (Cf d n s)+1) l,Cx U Z Y,Zc,Ze,Zc,Zc]) Ew ?_;have T':=(Tn.set (V:=[w.1.size,w.1.size+2]) w8 w.1.size 5 (Yz b (ed (Cf d n s)+1) l) Yu).ag (Tn.ah (Bw (el w8 (Zd (w.1.size) 5) (Yz b (ed (Cf d n s)+1) l)) (w.1.size+2) Ze (Zg o) (Zg L) (Zg h) (Zg f) (Cx T (ed F) tc) (Yz b (ed (Cf d n s)+1) l) (Cx U Z Y) Zc Ze Zc Zc) Yu);have t:=(Ar H (λq S=>T'.block q (Ab H S).2 (by have:=(Ab H S).1;simp;omega))).ah (show w.1.size<=w.1.size+3 by omega);refine⟨p.ag (T'.A p.size J3),ct ⟨r,b,l,by rw[G.o],?_⟩⟩;rw[G.o];exact t
 obtain⟨R,zP,ha,hb,l⟩:=(Bd.A HR zE).at hlt;subst ha;have HG:Hid (d[k]?=ai d[k]):=Zv hlt;obtain⟨I,J⟩:=l k _ HG;have yI:∀X,bg (w.1.size+3) W X->eh X (Zd R (zP+k *2))=ai (C0 d[k].name)/\eh X (Zd R (zP+k *2+1))=ai (C0 d[k].sum):=λX D=>by have⟨b2,yT,e2,_,yL⟩:=(Bd.A HR (yA.ag (D.ah Yv))).at hlt;cases e2;exact yL k _ HG
 have yW:ed (Cf (d.take k) n s)<=1001:=by have:=LX (d.take k) n s;rw[Cl]at this;omega
 have zY:R<wr.1.size:=C8 zE.size;clear l;obtain⟨l,D,p,HD⟩:=Yw (Tu n s HG),Yw (Abi n s HG),Yw (Vq n s yJ HG),Yw (IP n HG);generalize d[k]=x at *
 generalize hGk:Cf (d.take k) n s=gk at *
 generalize hDk:Ev (d.take k) n=dk at *
 clear hGk hDk;obtain⟨HC,zO,yF⟩:=Yw yI,M.2,M.1;have xC:=zU;have xA:=zY;cases dk
 case' true=>
  have⟨t,E⟩:=p rfl;have X:=Yw E;have zC:Hid (Ev (d.take (k+1)) n=ay):=by show _=_;rw[HD.o];rfl
  have zA:(x.name.toList==n.toList)=ba:=BZ t;have S:(x.name.toList !=n.toList)=ay:=by simp[bne,zA]
  clear E l D p t M
 case' false=>
  cases hless:Op.bytesLess x.name.toList n.toList
  case' true=>
   have X:=Yw (l rfl hless);have zC:Hid (Ev (d.take (k+1)) n=ba):=F6;have t:x.name≠n:=λe=>by have:=Cz n;unfold less at this;rw[e,this]at hless;cases hless
   have zA:(x.name.toList==n.toList)=ba:=BZ t;have S:(x.name.toList !=n.toList)=ay:=(by simp[bne,zA]);clear l D p t M
  case' false=>
   have zM:=Yw (D rfl hless);have zC:Hid (Ev (d.take (k+1)) n=ay):=F6;clear l D p M;go_wp2;go_quiet (fail);have N:bg wr.1.size wr (wr.drewN nq):=Cg Ae _;generalize wr.drewN nq=wa at *
   have D:bg (w.1.size+3) W wa:=zO.ag (N.ah (Zm j zO.size));have zS:=Ai yF N;have zV:w.1.size+3<=wa.1.size:=Zm j D.size;have yN:R<wa.1.size:=Yv;clear I J r G v0 u y z A B C;obtain⟨v0,u,y,z,A,B,C,v7⟩:=Cq (m _ D).1;obtain⟨⟨r,G⟩,I,J⟩:=Aa.c2 ((m _ D).2.1) 1 2,HC wa D;obtain⟨b,l,wc,Q,P,O,_⟩:=ML wa (w.1.size+3) _ gk zS ⟨n,s⟩ Yl zV 27;have p:bg (w.1.size+3) W wc:=D.ag (Ae.grown O zV (λq e=>(Ab zS e).1));have yS:w.1.size+3<=wc.1.size:=Zm j p.size;have yO:R<wc.1.size:=Yv;have zG:=P;clear P O;go_wp2_with (at_builtin;refine wpList_append_run rfl _ _ 27 27 rfl rfl rfl Q ?_);clear Q;clear I J r G v0 u y z A B C;obtain⟨v0,u,y,z,A,B,C,v7⟩:=Cq (m _ p).1;obtain⟨⟨r,G⟩,I,J⟩:=Aa.c2 ((m _ p).2.1) 1 2,HC wc p;by_cases t:x.name=n
   .have zA:(x.name.toList==n.toList)=ay:=(by rw[t];simp);have S:(x.name.toList !=n.toList)=ba:=(by rw[t];simp);have X:Hid (Cf (d.take (k+1)) n s=gk++[⟨n,s⟩]):=(by show _=_;rw[zM.o,if_pos t,append_nil]);clear t zM;go_wp2;go_quiet (fail);have N:bg wc.1.size wc (wc.drewN nq):=Cg Ae _;generalize wc.drewN nq=o at *
    have E:bg (w.1.size+3) W o:=p.ag (N.ah (Zm j p.size));have zH:=Ai zG N;have zW:w.1.size+3<=o.1.size:=Zm j E.size;have yP:R<o.1.size:=Yv;clear I J r G v0 u y z A B C;obtain⟨v0,u,y,z,A,B,C,v7⟩:=Cq (m _ E).1;obtain⟨⟨r,G⟩,⟨I,J⟩,H⟩:=Aa.c2 ((m _ E).2.1) 1 2,HC o E,Yw (Zn zH E);clear zH E;go_wp2;exact⟨⟨k+1,b,l,Yv,Yn,by rw[zC.o],by rw[X.o];simp,⟨by rw[X.o];simpa using H.1,H.2⟩⟩,Ys⟩
   have zA:(x.name.toList==n.toList)=ba:=BZ t;have S:(x.name.toList !=n.toList)=ay:=(by simp[bne,zA]);have X:Hid (Cf (d.take (k+1)) n s=(gk++[⟨n,s⟩])++[x]):=(by show _=_;rw[zM.o,if_neg t]);clear t zM;go_wp2;go_quiet (fail);have N:bg wc.1.size wc (wc.drewN nq):=Cg Ae _;generalize wc.drewN nq=o at *
   have E:bg (w.1.size+3) W o:=p.ag (N.ah (Zm j p.size));have zH:=Ai zG N;have zW:w.1.size+3<=o.1.size:=Zm j E.size;have yP:R<o.1.size:=Yv;clear I J r G v0 u y z A B C;obtain⟨v0,u,y,z,A,B,C,v7⟩:=Cq (m _ E).1;obtain⟨⟨r,G⟩,I,J⟩:=Aa.c2 ((m _ E).2.1) 1 2,HC o E;obtain⟨g9,zX,we,zK,zJ,zI,_⟩:=ML o (w.1.size+3) _ (gk++[⟨n,s⟩]) zH x Yl zW 27;have t:bg (w.1.size+3) W we:=E.ag (Ae.grown zI zW (λq e=>(Ab zH e).1));have xB:w.1.size+3<=we.1.size:=Zm j t.size;have yZ:R<we.1.size:=Yv;have yE:=zJ;clear zJ zI;go_wp2_with (at_builtin;refine wpList_append_run rfl _ _ 27 27 rfl rfl rfl zK ?_);clear zK;clear I J r G v0 u y z A B C;obtain⟨v0,u,y,z,A,B,C,v7⟩:=Cq (m _ t).1;obtain⟨⟨r,G⟩,⟨I,J⟩,H⟩:=Aa.c2 ((m _ t).2.1) 1 2,HC we t,Yw (Zn yE t);clear yE t;go_wp2;exact⟨⟨k+1,g9,zX,Yv,Yn,by rw[zC.o],by rw[X.o];simp,⟨by rw[X.o];simpa using H.1,H.2⟩⟩,Ys⟩
 all_goals
  go_wp2;go_quiet (fail);have N:bg wr.1.size wr (wr.drewN nq):=Cg Ae _;generalize wr.drewN nq=wa at *
  have D:bg (w.1.size+3) W wa:=zO.ag (N.ah (Zm j zO.size));have zS:=Ai yF N;have zV:w.1.size+3<=wa.1.size:=Zm j D.size;have yN:R<wa.1.size:=Yv;clear I J r G v0 u y z A B C;obtain⟨v0,u,y,z,A,B,C,v7⟩:=Cq (m _ D).1;obtain⟨⟨r,G⟩,I,J⟩:=Aa.c2 ((m _ D).2.1) 1 2,HC wa D;go_wp2;go_quiet (fail);have N:bg wa.1.size wa (wa.drewN nq):=Cg Ae _;generalize wa.drewN nq=wb at *
  have zF:bg (w.1.size+3) W wb:=D.ag (N.ah (Zm j D.size));have yD:=Ai zS N;have yG:w.1.size+3<=wb.1.size:=Zm j zF.size;have yY:R<wb.1.size:=Yv;clear I J r G v0 u y z A B C;obtain⟨v0,u,y,z,A,B,C,v7⟩:=Cq (m _ zF).1;obtain⟨⟨r,G⟩,I,J⟩:=Aa.c2 ((m _ zF).2.1) 1 2,HC wb zF;obtain⟨b,l,wc,Q,P,O,_⟩:=ML wb (w.1.size+3) _ gk yD x Yl yG 27;have p:bg (w.1.size+3) W wc:=zF.ag (Ae.grown O yG (λq e=>(Ab yD e).1));have yS:w.1.size+3<=wc.1.size:=Zm j p.size;have yO:R<wc.1.size:=Yv;have zG:=P;clear P O;go_wp2_with (at_builtin;refine wpList_append_run rfl _ _ 27 27 rfl rfl rfl Q ?_);clear Q;clear I J r G v0 u y z A B C;obtain⟨v0,u,y,z,A,B,C,v7⟩:=Cq (m _ p).1;obtain⟨⟨r,G⟩,⟨I,J⟩,H⟩:=Aa.c2 ((m _ p).2.1) 1 2,HC wc p,Yw (Zn zG p);clear zG p;go_wp2;exact⟨⟨k+1,b,l,Yv,Yn,by rw[zC.o],by rw[X.o];simp,⟨by rw[X.o];simpa using H.1,H.2⟩⟩,Ys⟩
theorem OY(a:Zk)(c:Nat)(s:Zi)(w:Zh):
 D4 244 #[Cx a 0 c,Ce s,.func (.func 245) #[] #[]] w λe b=>e=C1 (.tuple #[Ze,.bool ba])/\Zz w b:=by
 unfold Ce CJ;delta D4;go_in;go_wp2;go_loopw [9,10] (λi j wr=>i=Zg 0/\j=Zg 0/\Zz w wr) (λ_ _ _=>0)
 case atStart=>exact⟨rfl,rfl,Zy⟩
 obtain⟨rfl,rfl,b⟩:=hrel;have d:=AA.ne wr;go_wp2;refine AN Yr Yr ?_
 repeat (go_big_quiet_step (fail))
 refine wpQuiet_nil ?_;intro m;go_wp2
 go_ret2
 exact⟨by first|rfl|simp[Act.put],b.ag (m.h.ah b.size)⟩
theorem Abk{O:Dg}{c:Zl}(s:Zi)(k:ej w d 160 8 O (ed c) (AR c))(q:ed c<=600)(n:s.size<=8)(o:∀x∈c,x.size=s.size)(f:c.Pairwise (λa b=>less a b=ay)):
 D4 244 #[O,Ce s,.func (.func 245) #[] #[]] w λe l=>∃i:Nat,e=C1 (.tuple #[Zg i,.bool (bq (c[i]?=ai s))])/\FT c s i/\Zz w l:=by
 rcases k.2 with⟨rfl,t⟩|⟨g,m,u,rfl,_⟩
 .have:c=[]:=A9 t;subst this;refine(OY an 0 s w).ah ?_;rintro e l ⟨rfl,p⟩;exact⟨0,Yu,⟨Zx,λj x h=>Yv,λj x _ r=>by simp at r⟩,p⟩
 exact Mq g m s k q n o f
theorem Adw{f:Nat}(m:Nat)(n:Zk)(o:Nat)(P L:Dg)(J A k g:Int)(c:C5)(s:Zi)(h:Aa w d [Zg J,.map (ai m),Zg A,Zg k,Zg g,Cx n (ed c) o,P,L])(j:ej w f 160 8 (Cx n (ed c) o) (ed c) (AR (c.map (·.sum))))(K:ed c<=600)(v:s.size<=8)(z:∀x∈c,x.sum.size=s.size)(l:(c.map (·.sum)).Pairwise (λa b=>less a b=ay)):
 D4 224 #[Yy d,Ce s] w λe p=>∃i:Nat,e=C1 (.tuple #[Zg i,.bool (bq ((c.map (·.sum))[i]?=ai s))])/\FT (c.map (·.sum)) s i/\Zz w p:=by
 have⟨W,q⟩:=Du w (Yk (kB s)) 160;have p:=(Av q).1;have u:Aa W w.1.size (AZ s):=by rw[q];exact Aa.new w (AZ s) 160
 have r:ej W.drew f 160 8 (Cw n c o) (ed (c.map (·.sum))) (AR (c.map (·.sum))):=by rw[A7];exact Ai j p.drew
 have HS:=Yw (Abk s r Yt v (λx t=>by obtain⟨y,H,rfl⟩:=mem_map.1 t;exact z y H) l);have G:eh W.drew (Zd d 5)=ai (Cw n c o)/\(eh W.drew (Zd (w.1.size) 0)=ai (.int .u8 (kB s 0))/\eh W.drew (Zd (w.1.size) 1)=ai (.int .u8 (kB s 1))/\eh W.drew (Zd (w.1.size) 2)=ai (.int .u8 (kB s 2))/\eh W.drew (Zd (w.1.size) 3)=ai (.int .u8 (kB s 3))/\eh W.drew (Zd (w.1.size) 4)=ai (.int .u8 (kB s 4))/\eh W.drew (Zd (w.1.size) 5)=ai (.int .u8 (kB s 5))/\eh W.drew (Zd (w.1.size) 6)=ai (.int .u8 (kB s 6))/\eh W.drew (Zd (w.1.size) 7)=ai (.int .u8 (kB s 7))):=⟨(Aa.A h p 5 _ rfl).1,Hz (w:=W.drew) u⟩;have t:=Yw q;clear q u r h j;unfold Ce CJ at *
 delta D4;go_in;go_upto_region 1 with fail;rw[<-t.o];clear t;obtain⟨I,r,t,u,B,C,D,E,F⟩:=G;go_region_with (go_at_call 244;refine HS.Ak ?_;rintro e M ⟨i,rfl,q,j⟩)
 all_goals
  have h:=Yw (Zn q (p.ag ((CA j).ah p.size)));clear q j I r t u B C D E F HS;go_wp2
  go_ret2
  exact⟨i,by first|rfl|simp[Act.put],h.1,h.2⟩
def DS(ks:List Kd)(x:Kd):List Kd:=ks.filter (fun k=>less k.sum x.sum)++[x]++ks.filter (fun k=> !(less k.sum x.sum))
theorem Ee{a:C5}{x u:Kd}:u∈DS a x↔u∈a++[x]:=by
 unfold DS;simp only[A5,A8,mem_singleton];cases less u.sum x.sum<;>simp;constructor
 .rintro(h|h)
  .exact ct h
  exact cr h
 rintro(h|h)
 .exact ct h
 exact cr h
theorem Qs(a:C5)(x:Kd):ed (DS a x)=ed a+1:=by
 unfold DS;rw[Am,Am];have:∀l:List Kd,ed (l.filter (λk=>less k.sum x.sum))+ed (l.filter (λk=> !(less k.sum x.sum)))=ed l:=by
  intro l;induction l with
  |nil=>rfl
  |cons y l ih=>cases h:less y.sum x.sum<;>simp[h]<;>omega
 have:=this a;simp;omega
theorem Tv{b:C5}{x:Kd}(h:FT (b.map (·.sum)) x.sum i):DS b x=b.take i++[x]++b.drop i:=by
 have f:∀k∈b.take i,less k.sum x.sum=ay:=λk a=>by have⟨j,c⟩:=A3 a;have g:=(Zw c).1;rw[Cl]at g;rw[getElem?_take_of_lt Yv]at c;exact h.lo j k.sum Yv gA
 have d:∀k∈b.drop i,less k.sum x.sum=ba:=λk a=>by have⟨j,c⟩:=A3 a;rw[getElem?_drop]at c;exact h.hi (i+j) k.sum Yv gA
 have e:=(take_append_drop i b).symm;unfold DS
 conv=>lhs;rw[e]
 rw[filter_append,filter_append,filter_eq_self.2 f,filter_eq_nil_iff.2 (λk a=>by rw[d k a];simp),filter_eq_nil_iff.2 (λk a=>by rw[f k a];simp),filter_eq_self.2 (λk a=>by rw[d k a];rfl)];simp
theorem Holds.same{B:Nat}{i:Int}{a:C5}{f:Lit->Option Value}(h:Holds W B i g f)(d:∀u,u∈a↔u∈g):Holds W B i a f:=by
 intro s j;rcases h s j with⟨b,c⟩|⟨u,l,m,b,c⟩
 .exact cr ⟨b,λ⟨k,hk,e⟩=>c ⟨k,(d k).1 hk,e⟩⟩
 exact ct ⟨u,l,m,(d u).2 b,c⟩
theorem Abl{O P L a:Option Nat}(h:(d::m::(O.toList++(P.toList++L.toList))).Nodup)(e:∀b∈d::m::(O.toList++(P.toList++L.toList)),b<n)(c:a=O\/∃g,a=ai g/\n<=g):(d::m::(a.toList++(P.toList++L.toList))).Nodup:=by
 rcases c with rfl|⟨g,rfl,f⟩
 .exact h
 cases O<;>cases P<;>cases L<;>simp_all<;>grind
theorem DU.newK{o:Zh}{c:Nat}{O:Dg}{b:Int}{C:C5}{y:C7}{x:C6}(h:DU w c d m O P L q p b j C y x)(v:Tn (d::m::(ef O).toList) w o){k:Dg}{l:C5}{a:Int}(r:Aa o d [Zg q,.map (ai m),Zg p,Zg b,Zg a,k,P,L])(B:∃n f,n<=1000000+a.toNat/\AY o 160 m n f/\BS o c (vB d m k P L) q l f)(A:ej o c 160 8 k (ed l) (AR (l.map (·.sum))))(z:ef k=ef O\/∃g,ef k=ai g/\w.1.size<=g):DU o c d m k P L q p b a l y x:=by
 have⟨D,s,t,u⟩:=DI h.R.ap;refine⟨⟨r,B,A,Ar h.R.co (λg i=>v.block g (Ab h.R.co i).2 (λe=> ?_)),Ar h.R.di (λg i=>v.block g (Ab h.R.di i).2 (λe=> ?_)),h.R.bd,h.R.bm,Abl h.R.ap h.R.dj z⟩⟩
 .rcases Bh.1 e with e|e
  .exact(t g i).1 e
  rcases Bh.1 e with e|e
  .exact(t g i).2.1 e
  exact(s g gA).2.2.1 i
 rcases Bh.1 e with e|e
 .exact(u g i).1 e
 rcases Bh.1 e with e|e
 .exact(u g i).2 e
 exact(s g gA).2.2.2 i
theorem Nw{a:C5}{x:Kd}(h:FT (a.map (·.sum)) x.sum i):(a.map (·.sum)).take i++[x.sum]++(a.map (·.sum)).drop i=(DS a x).map (·.sum):=by rw[Tv h];simp[map_take,map_drop]
theorem BS.snoc{a:Nat}{j:C5}{f:Lit->Option Value}(h:BS w a V c j f){x:Kd}{d:Zk}{rc:Nat}(t:(x.sum.size:Int)=c)(r:c<=8)(l:En w a V d x.C):BS w a V c (j++[x]) (upd f (keyL x.sum) (CG x d rc)):=by
 intro s m;by_cases he:keyL s=keyL x.sum
 .have:s=x.sum:=key_inj he Yv Yv;subst this;exact ct ⟨x,d,rc,Yu,rfl,DZ _ _ _,l⟩
 rw[DV _ _ he];have k:x.sum≠s:=gG;rcases h s m with⟨g,i⟩|⟨u,n,o,g,i,p,q⟩
 .refine cr ⟨g,λ⟨u,b,e⟩=> ?_⟩;rcases A5.1 b with b|b
  .exact i ⟨u,b,e⟩
  simp at b;subst b;exact k e
 exact gG
theorem BS.same{base:Nat}{g:Int}{d a:C5}{f:Lit->Option Value}(h:BS w base V g d f)(i:∀u,u∈a↔u∈d):BS w base V g a f:=by
 intro s j;rcases h s j with⟨b,c⟩|⟨u,l,m,b,c⟩
 .exact cr ⟨b,λ⟨k,hk,e⟩=>c ⟨k,(i k).1 hk,e⟩⟩
 exact gG
def Sf(w:Zh)(base:Nat)(V:List Nat)(m:Nat)(wd births:Int)(ks:List Kd):Prop:=∃n f,n<=1000000+births.toNat/\AY w 160 m n f/\BS w base V wd ks f
theorem Sf.O{j:Zh}{c:Nat}{U:List Nat}{k a:Int}{i:C5}(h:Sf w c V m k a i)(g:Tn U w j)(p:∀b∈U,b∈V)(q:m∉U):Sf j c V m k a i:=by obtain⟨n,f,l,e,o⟩:=h;exact⟨n,f,l,AY.same e (g.block m e.lt q),o.move g (λb d=> cr (p b d)) (λb d=> cr d)⟩
theorem HN.A{b:Zh}(h:HN w m N)(d:Zz w b):HN b m N:=by obtain⟨n,f,c,a⟩:=h;exact⟨n,f,c,a.ak d a.lt⟩
theorem HN.same{a:Zh}(h:HN w m N)(d:a.1[m]?=w.1[m]?):HN a m N:=by obtain⟨n,f,b,c⟩:=h;exact⟨n,f,b,AY.same c d⟩
theorem Abm{j:Nat}{O:Dg}{H J a:Int}{c:C5}{ps:C7}{ls:C6}(s n:Zi)(l:Zl)(D:Zk)(rc:Nat)(h:DU w j d m O P L H J q a c ps ls)(zA:Dv H c)(yA:(s.size:Int)=H)(hl:ed c<600)(yE:0<=a)(yF:a<1000000000)(M:En w j (vB d m O P L) D l):
 D4 214 #[Yy d,C0 s,ca #[C0 n,Cx D (ed l) rc]] w λe k=>e=C1 (.tuple #[])/\(∃O',DU k j d m O' P L H J q (a+1) (DS c ⟨s,a+1,n,l⟩) ps ls/\(ef O'=ef O\/∃g,ef O'=ai g/\w.1.size<=g))/\Tn (d::m::(ef O).toList) w k:=by
 have⟨r,t,zB⟩:=AB h.R.ord;subst zB;have⟨W0,B⟩:=Du w #[C0 n,Cw D l rc] 48;have y:=(Av B).1;obtain⟨I,o,X,F⟩:=(Av B).2.2,h.A y,D2 W0 d 4 (Zg (a+1));have yH:d<w.1.size:=h.R.box.lt;have E:Tn [d] W0 X:=by rw[F];exact Bi _ _ _ _
 have z:Aa X d [Zg H,.map (ai m),Zg J,Zg q,Zg (a+1),Cw r c t,P,L]:=by rw[F];exact o.R.box.set 4 _
 have C:=DI o.R.ap;have G:Aa X w.1.size [C0 n,Cw D l rc]:=Aa.same I (E.block _ I.lt Yt);have N:ej X j 160 8 (Cw r c t) (ed c) (AR (c.map (·.sum))):=Ar o.R.ord (λg k=>E.block g (Ab o.R.ord k).2 (by simp;exact(C.2.1 g k).1));have Z:Sf X j (vB d m (Cw r c t) P L) m H a c:=Sf.O o.R.map E (by intro b k;simp at k;subst k;simp[vB]) (by simp;exact λe=>C.1 e.symm);have V:En X j (vB d m (Cw r c t) P L) D l:=(M.move (U:=[]) (Tn.of y) Yu (λb k=> cr k)).move E (by intro b k;simp at k;subst k;exact cr Ja) (λb k=> cr k);obtain⟨c4,k4⟩:=o.R.box 4 _ rfl;obtain⟨c5,_⟩:=o.R.box 5 _ rfl;have yG:(a==1000000000)=ba:=Yt;obtain⟨zN,HX,T,HP⟩:=Yw B,Yw F,Yw h,Yw (Zn z (Zn G (Zn N (Zn Z V))));have HT:Hid (Tn [d] w X):=(Tn.of y).ag E;clear B F o h M I E z G N Z V y;delta D4;go_in;go_upto_region 1 with fail;rw[<-zN.o];go_wp2_with fail;rw[<-HX.o];refine(Nc s X).ah ?_;rintro e y ⟨rfl,M⟩;have⟨K,Y⟩:=Du y (Yk (kB s)) 160;have u:=(Av Y).1;have F:bg X.1.size X K:=M.ag (u.ah M.size);have h:Aa K y.1.size (AZ s):=by rw[Y];exact Aa.new y (AZ s) 160
 have⟨z,G,N,Z,V⟩:=HP.o;have yD:j<=X.1.size:=Zm T.lo HT.size;obtain⟨E,i,oK⟩:=z.A F,G.A F,Ai N F;have rK:En K j (vB d m (Cw r c t) P L) D l:=V.move (U:=[]) (Tn.of F) Yu (λb k=> cr k);obtain⟨n1,f,zI,A,hH⟩:=Sf.O Z (U:=[]) (Tn.of F) Yu Yu;have hM:=A;have C:=DI T.R.ap;obtain⟨B,zM,R,I⟩:=(hM.ak (Below.refl K.1.size K).drew hM.lt).put keyed underlying119 (val:=CG ⟨s,a+1,n,l⟩ D rc) Yo (CW s);have o:K.grownBy B (ai m):=FY I;have kl:y.1.size<K.1.size:=h.lt;have yJ:m<w.1.size:=by have⟨_,_,_,zP,_⟩:=T.R.map;exact zP.lt
 have yK:w.1.size<y.1.size:=by have h1:=M.size;have h2:=G.lt;omega
 have k5:Aa B y.1.size (AZ s):=Aa.az (v:=.int .u8 (kB s 0)) h o Yv;have W:Aa B d _:=Aa.az E o (λe=>C.1 e.symm);have t5:Aa B w.1.size [C0 n,Cw D l rc]:=Aa.az i o Yv;have P4:eh K.drew (Zd d 1)=ai (.map (ai m))/\eh K.drew (Zd d 4)=ai (Zg (a+1))/\eh K.drew (Zd (w.1.size) 0)=ai (C0 n)/\eh K.drew (Zd (w.1.size) 1)=ai (Cw D l rc)/\_:=⟨(E 1 _ rfl).1,(E 4 _ rfl).1,(i 0 _ rfl).1,(i 1 _ rfl).1,Hz (w:=K.drew) h⟩;have P5:eh B (Zd d 1)=ai (.map (ai m))/\eh B (Zd d 4)=ai (Zg (a+1))/\eh B (Zd (w.1.size) 0)=ai (C0 n)/\eh B (Zd (w.1.size) 1)=ai (Cw D l rc)/\_:=⟨(W 1 _ rfl).1,(W 4 _ rfl).1,(t5 0 _ rfl).1,(t5 1 _ rfl).1,Hz k5⟩;have o5:ej B j 160 8 (Cw r c t) (ed c) (AR (c.map (·.sum))):=ownsRow.kept oK o (ct (λe=>(C.2.1 m e).2.1 rfl));have Q:=Adw m r t P L H J q (a+1) c s W o5 Yv (C8 zA.w8) (λx S=>C8 (zA.sz x S)) zA.ff;unfold Ce CJ at Q zM;unfold CG at zM;obtain⟨HQ,S,HK⟩:=Yw Q,Yw (Zn W (Zn o5 (Zn k5 (Zn R (Zn o (Zn hH (Zn rK (Zn F zI)))))))),Yw Y;clear z G N Z V E i oK rK A hM Q Y HP W o5 k5 R I o hH t5 h F u c4 k4 c5;go_upto_region 5 with fail;rw[<-HK.o];go_region_held3 (λX=>eh X (Zd d 1)=ai (.map (ai m))/\eh X (Zd d 4)=ai (Zg (a+1))/\eh X (Zd (w.1.size) 0)=ai (C0 n)/\eh X (Zd (w.1.size) 1)=ai (Cw D l rc)/\(eh X (Zd (y.1.size) 0)=ai (.int .u8 (kB s 0))/\eh X (Zd (y.1.size) 1)=ai (.int .u8 (kB s 1))/\eh X (Zd (y.1.size) 2)=ai (.int .u8 (kB s 2))/\eh X (Zd (y.1.size) 3)=ai (.int .u8 (kB s 3))/\eh X (Zd (y.1.size) 4)=ai (.int .u8 (kB s 4))/\eh X (Zd (y.1.size) 5)=ai (.int .u8 (kB s 5))/\eh X (Zd (y.1.size) 6)=ai (.int .u8 (kB s 6))/\eh X (Zd (y.1.size) 7)=ai (.int .u8 (kB s 7))))
  (first|with_reducible exact P4|with_reducible exact P5)
  (fail)
 have⟨q0,q1,q2,q3,q4,q5,q6,q7⟩:=Hz S.2.2.1;go_wp2_with fail;refine HQ.Ak ?_;rintro e E ⟨i,rfl,zK,z⟩;have zE:=Aa.A S.1 z;have zX:=Aa.A (v:=.int .u8 (kB s 0)) S.2.2.1 z;have zJ:ej E j 160 8 (Cw r c t) (ed (c.map (·.sum))) (Af AZ (c.map (·.sum))):=by rw[A7];exact Ai S.2.1 z
 have zW:i<=ed c:=by have:=zK.le;rwa[A7]at this
 have⟨A,hA⟩:=Du E.drew (AZ s).toArray 160;have N:bg E.1.size E A:=by rw[hA];exact Ae.drew.alloc (Zx) _
 have zF:j<=E.1.size:=by have h1:=S.2.2.2.2.1.size;have h2:=z.size;have h3:=S.2.2.2.2.2.2.2.1.size;omega
 have G:=RL (ct ⟨rfl,rfl,rfl,rfl,rfl,rfl,rfl⟩) Uc Hd i (c.map (·.sum)) s E.1.size (Ai zJ N) (by rw[A7];omega) (by rw[A7];exact zW) (Zm zF N.size) (λe=>Nat.lt_irrefl _ (Ab zJ e).2) (by rw[hA];exact heap_alloc_new E.drew _);rw[A7,hA]at G;obtain⟨HI,Q,xA⟩:=Yw G,Yw zK,zE.A N;have zT:d<E.1.size:=zE.lt;obtain⟨⟨y5,_⟩,⟨r0,r1,r2,r3,r4,r5,r6,r7⟩,H6,zG⟩:=zE 5 _ rfl,Hz zX,Yw (Zn z (Zn N xA)),Yw hA;have zC:∀b,ef (Cw r c t)=ai b->b≠d/\b≠m:=λb k=>⟨(C.2.1 b k).1,(C.2.1 b k).2.1⟩;have zU:d<A.1.size:=xA.lt;go_upto_region 7 with fail;have zO:bg E.1.size E (E.alloc (bs (Yk (kB s)) 160)):=Zy;have a5:=(zO.cell (p:=⟨d,5,an⟩) zT).ag y5;unfold AZ CJ at HI
 go_region_law (first
  |(go_simp;go_at_call 237;refine HI.Ak ?_;rintro e V ⟨O',rfl,h,zV,zY⟩;have⟨oa',oc',zB⟩:=AB h;subst zB;have Z:A.grownBy V (ef (Cw r c t)):=(by rw[zG.o];exact zV);have x7:=Aa.same H6.2.2 (Z.block d zU (λe=>(zC d e.symm).1 rfl));obtain⟨f5,k5⟩:=x7 5 _ rfl))
 all_goals
  have o:ef (Cx oa' (ed c+1) oc')=ef (Cw r c t)\/ef (Cx oa' (ed c+1) oc')=ai A.1.size:=by rw[zG.o];exact zY
  have H7:=Yw (Zn x7 (Zn Z (Zn o h)));have Y:(∃u,DU (el V (Zd d 5) (Cx oa' (ed c+1) oc')) j d m u P L H J q (a+1) (DS c ⟨s,a+1,n,l⟩) ps ls/\(ef u=ef (Cw r c t)\/∃g,ef u=ai g/\w.1.size<=g))/\Tn (d::m::(ef (Cw r c t)).toList) w (el V (Zd d 5) (Cx oa' (ed c+1) oc')):=by
   obtain⟨⟨W,o5,yL,R,I,hH,rK,F,zI⟩,⟨z,N,xA⟩,x7,Z,o,h⟩:=S.o,H6.o,H7.o;have t1:Tn (d::m::(ef (Cw r c t)).toList) w X:=HT.ah Yu;have t2:Tn (d::(ef (Cw r c t)).toList) B (el V (Zd d 5) (Cx oa' (ed c+1) oc')):=(((Tn.of z).ag (Tn.of N)).ag ((CX Z).ah (λb k=>mem_cons_of_mem _ k))).ag ((Bi V d 5 _).ah Yu);have t3:Tn (d::m::(ef (Cw r c t)).toList) K (el V (Zd d 5) (Cx oa' (ed c+1) oc')):=(Tn.grown I Yu).ag (t2.ah (by intro b k;simp at k |-;rcases k with k|k<;>simp[k]));have tt:=(t1.ag (Tn.of F)).ag t3;have yC:w.1.size<=K.1.size:=Zm HT.size F.size;have yB:w.1.size<=A.1.size:=Zm (Zm (Zm yC I.size) z.size) N.size;have yI:∀b∈d::m::(ef (Cw r c t)).toList,j<=b:=by
    intro b k;rcases Bh.1 k with rfl|k
    .exact T.R.bd
    rcases Bh.1 k with rfl|k
    .exact T.R.bm
    exact(Ab T.R.ord (C9 k)).1
   have zZ:(el V (Zd d 5) (Cx oa' (ed c+1) oc')).1[m]?=B.1[m]?:=t2.block m R.lt (λe=>by
    rcases Bh.1 e with e|e
    .exact C.1 e.symm
    exact(zC m (C9 e)).2 rfl)
   have zS:=AY.same R zZ;have zH:ef (Cx oa' (ed c+1) oc')=ef (Cw r c t)\/∃g,ef (Cx oa' (ed c+1) oc')=ai g/\w.1.size<=g:=by
    rcases o with o|o
    .exact cr o
    exact ct ⟨_,o,yB⟩
   have g:∀b,ef (Cx oa' (ed c+1) oc')=ai b->b≠d:=λb k=>by
    rcases o with o|o
    .exact(zC b (o▸k)).1
    rw[o]at k;cases k;omega
   refine⟨⟨_,T.newK tt (x7.set 5 _) ⟨n1+1,_,Yv,zS,?_⟩ ?_ zH,zH⟩,tt⟩
   .refine((hH.snoc (x:=⟨s,a+1,n,l⟩) (rc:=rc) yA zA.w8 rK).same (λu=>Ee)).move t3 (λb k=> cr ?_) (λb k=> ?_)
    .unfold vB;simp only[Bh,A5]at k |-;rcases k with e|e|e
     .exact cr e
     .exact ct (cr e)
     exact ct (ct (cr e))
    unfold vB at k |-;simp only[Bh,A5]at k |-;rcases k with e|e|e|e|e
    .exact cr (cr e)
    .exact cr (ct (cr e))
    .rcases o with o|o
     .rw[o]at e;exact cr (ct (ct (cr e)))
     rw[o]at e;simp at e;exact ct (by have h1:=I.size;have h2:=z.size;have h3:=N.size;omega)
    .exact cr (ct (ct (ct (cr e))))
    exact cr (ct (ct (ct (ct e))))
   rw[Qs,<-Nw (x:=⟨s,a+1,n,l⟩) Q.o];exact BU h g 5 _
  have u:=Yw Y;go_wp2;go_end0;exact⟨rfl,u⟩
theorem XI{j:Nat}{O:Dg}{t a:Int}{f:C5}{x:C7}{u:C6}(s b:Zi)(o:Zk)(q p:Nat)(h:DU w j d m O P L y t c a f x u)(C:ed f=600\/a=1000000000):
 D4 214 #[Yy d,C0 s,ca #[C0 b,Cx o q p]] w λe g=>e=.panicked [{v:=bk 4 ⟨#[]⟩ ⟨#[]⟩,recovered:=ba}]/\Zz w g:=by
 have⟨D,E,r⟩:=AB h.R.ord;subst r;have⟨z,i⟩:=Du w #[C0 b,Cx o q p] 48;have g:=(Av i).1;have l:=h.A g;obtain⟨⟨A,B⟩,k,n⟩:=Aa.c2 l.R.box 4 5,Yw i,Yw g;clear i l h g;by_cases hk:ed f=600
 .have g:((ed f:Int)==600)=ay:=Yt;delta D4;go_in;go_upto_region 1 with fail;rw[<-k.o];go_wp2;exact⟨rfl,rfl,n⟩
 have g:((ed f:Int)==600)=ba:=Yt;delta D4;go_in;go_upto_region 1 with fail;rw[<-k.o];go_wp2;exact⟨rfl,rfl,n⟩
def Bm(text:Zi)(refs:Zl)(wd:Int):Zi:=CV (AH text refs wd).data.toList wd.toNat
theorem Rm{a:Int}(f:Lit->Option Value){B:Nat}(s:Zi)(j:AY w 160 m n f)(o:Holds W B a g f)(d:(s.size:Int)=a):
 (¬As g s/\D4 162 #[.agg #[Zg a,.map (ai m)],C0 s] w λe c=>e=C1 (.tuple #[.agg #[Zc,Ze,Zc,Zb],.bool ba])/\Zz w c)\/
 ∃x b h,x∈g/\x.sum=s/\Ad W B b x.C/\D4 162 #[.agg #[Zg a,.map (ai m)],C0 s] w λe c=>e=C1 (.tuple #[.agg #[C0 x.sum,Zg x.born,C0 x.Q,Cx b (ed x.C) h],.bool ay])/\Zz w c:=by
 rcases o s d with⟨i,c⟩|⟨x,b,h,i,c,k,l⟩
 .exact cr ⟨c,FR a f s j d _ _ _ _ _ ⟨_,_,_,rfl⟩ gA Yt⟩
 exact ct ⟨x,b,h,i,c,l,FR a f s j d _ _ _ _ _ ⟨_,_,_,rfl⟩ (by rw[k];rfl) gA⟩
def Afb(base d m:Nat)(O P L:Value)(wd now given births:Int)(ks:List Kd)(ps:List Pd)(ls:List Ld)(text:Zi)(refs:Zl)(w:Zh)(e:Ending)(w':Zh):Prop:=
 ((¬∀r∈refs,As ks r)/\e=.panicked [{v:=bk 2 ⟨#[]⟩ ⟨#[]⟩,recovered:=ba}]/\Zz w w')\/
 ((∀r∈refs,As ks r)/\(
   (∃k∈ks,k.sum=Bm text refs wd/\AH k.Q k.C wd=AH text refs wd/\e=.returned (.string (Bm text refs wd))/\Zz w w')\/
   (∃k∈ks,k.sum=Bm text refs wd/\AH k.Q k.C wd≠AH text refs wd/\e=.panicked [{v:=bk 3 (AH k.Q k.C wd) (AH text refs wd),recovered:=ba}]/\Zz w w')\/
   (¬As ks (Bm text refs wd)/\(ed ks=600\/births=1000000000)/\e=.panicked [{v:=bk 4 ⟨#[]⟩ ⟨#[]⟩,recovered:=ba}]/\Zz w w')\/
   (¬As ks (Bm text refs wd)/\ed ks<600/\births<1000000000/\e=.returned (.string (Bm text refs wd))/\(∃O',DU w' base d m O' P L wd now given (births+1) (DS ks ⟨Bm text refs wd,births+1,text,refs⟩) ps ls/\(ef O'=ef O\/∃g,ef O'=ai g/\w.1.size<=g))/\Tn (d::m::(ef O).toList) w w')))
theorem Abn{O:Dg}{l u:Int}{o:C5}{H:C7}{G:C6}(f:Zi)(a:Zl)(A:Zk)(N:Nat)(h:DU w n d m O P L l u j c o H G)(q:Dv l o)(h1:1<=l)(s:∀k∈o,k.Q.size<=maxLen)(zH:((Bm f a l).size:Int)=l)(zV:f.size<=maxLen)(yC:ed a<=1000)(zU:0<=c)(zZ:c<=1000000000)(hr:En w n (vB d m O P L) A a):
 D4 177 #[Yy d,ca #[C0 f,Cx A (ed a) N]] w (Afb n d m O P L l u j c o H G f a w):=by
 have⟨W,p⟩:=Du w #[C0 f,Cw A a N] 48;obtain⟨z,yE,t,v⟩:=(Av p).1,(Av p).2.1,(Av p).2.2,Yw p;have HD:Hid (∀X,Zz W X->DU X n d m O P L l u j c o H G/\En X n (vB d m O P L) A a/\Aa X w.1.size [C0 f,Cw A a N]/\Zz w X):=λX y=>by have F:=z.ag (y.ah Yv);exact⟨h.A F,hr.move (U:=[]) (Tn.of F) Yu (λb F=> cr F),Aa.A t y,F⟩
 obtain⟨y,zP,dm⟩:=Yw q,Yw s,h.lo;clear p h hr z q s;obtain⟨C,E⟩:=Aa.c2 t 0 1;delta D4;go_in;go_upto_region 1 with fail;rw[<-v.o];clear v;go_wp2;go_loopw [15] (λi wr=>∃(k:Nat),k<=ed a/\i=Zg k/\Hid ((∀r∈a.take k,As o r)/\Zz W wr)) (λi _=>ed a -(intOf i).toNat)
 case atStart=>exact⟨0,Aw _,rfl,⟨λr hr=>by simp at hr,Ae⟩⟩
 clear C E t;obtain⟨k,hk,rfl,t⟩:=hrel;have⟨v,B,M,J⟩:=HD wr t.2;have zA:=Yw v;have X:=Yw J;obtain⟨C,E⟩:=Aa.c2 M 0 1;by_cases hlt:k<ed a
 .obtain⟨b,yF,ha,yA,p⟩:=B.row.at hlt;subst ha;have HG:=Yw (Zv hlt);have K:=p k _ HG;have zS:=Yw (Zu hlt);clear p v B;generalize a[k]=r at *
  by_cases hth:As o r
  .have p:=Yw (EU zA.R y.sz hth);have Q:=Yw hth;clear hth;go_wp2_with fail;refine p.Ak ?_;rintro e h ⟨rfl,s⟩;have D:=Yw (t.2.ag (s.ah t.2.size));clear p s K C E M;go_wp2;refine⟨⟨k+1,Yv,Yn,⟨?_,D⟩⟩,Ys⟩;rw[zS.o];intro r' z;rcases A5.1 z with z|z
   .exact t.1 r' z
   simp at z;rw[z];exact Q.o
  have zM:=Yw (KW r zA.R y.sz hth);have Q:=Yw hth;clear hth;go_wp2_with fail;refine zM.Ak ?_;rintro e h ⟨rfl,s⟩;go_wp2;exact⟨rfl,cr ⟨λp=>Q (p r (Zs HG)),rfl,X.ag (s.ah X.size)⟩⟩
 obtain rfl:k=ed a:=Yv;have p:=t.1;rw[Zt (Zx)]at p;obtain⟨q,⟨K,_⟩,i⟩:=Yw p,v.R.box 0 _ rfl,Yw t.2;clear p t;have zX:=i.size;have p:bg wr.1.size wr wr.drew:=gB;have t:=Yw (Ki f A N a l wr.drew (Ad.U B.row p) Yv zV);clear v B;go_upto_region 6 with fail;go_region_with (go_at_call 165;refine t.Ak ?_;rintro e h ⟨rfl,s⟩)
 all_goals
  have D:=Yw (i.ag ((p.ag s).ah zX));have⟨I,V,Z,v⟩:=HD h D;obtain⟨T,_⟩:=I.R.box 0 _ rfl;have HS:=Yw (VT (AH f a l) l h (Km _ _ _) h1 y.w8);have zO:Hid (CV (AH f a l).data.toList l.toNat=Bm f a l):=rfl;rw[zO.o]at HS;generalize hFF:AH f a l=FF at *
  generalize hSS:Bm f a l=SS at *
  clear s K C E M t p J;go_wp2_with fail;refine HS.Ak ?_;rintro e B ⟨rfl,E⟩;have zJ:=Yw (D.ag (E.ah D.size));have⟨t,C,J,p⟩:=HD B zJ;obtain⟨⟨d0,d1⟩,r,zN,zT,s,n3,f3,yB,S,R⟩:=Aa.c2 t.R.box 0 1,Yw t,Yw C,Yw J,Yw p,t.R.map;clear E HS T I V Z v C J p t;rcases Rm f3 SS S R.holds zH with⟨p,E⟩|⟨x,xa,xc,T,zW,zI,E⟩
  .have I:=Yw E;have zB:=Yw p;clear E p S R;go_wp2_with fail;refine I.Ak ?_;rintro e w4 ⟨rfl,K⟩;have⟨Y,v⟩:=Du w4 #[Zc,Ze,Zc,Zb] 50;have Z:=(Av v).1;have p:Hid (Zz B Y):=gD;obtain⟨V,C,g⟩:=Yw v,r.A p,Aa.A zT p;obtain⟨y0,y1⟩:=Aa.c2 g 0 1;have t:=Yw (s.ag (p.ah s.size));by_cases hfull:ed o=600\/c=1000000000
   .have J:=Yw (XI SS f A (ed a) N C hfull);have zK:=Yw hfull;clear K v Z C g hfull d0 d1 I;go_upto_region 10 with fail;rw[<-V.o];go_wp2_with fail;refine J.Ak ?_;rintro e w5 ⟨rfl,M⟩;go_wp2;exact⟨rfl,ct ⟨q,ct (ct (cr ⟨hSS▸zB.o,zK,rfl,t.ag (M.ah t.size)⟩))⟩⟩
   have zG:ed o<600:=C8 y.len;have zF:c<1000000000:=Yv;have J:=Yw (Abm SS f a A N C y zH zG zU zF (En.move zN (U:=[]) (Tn.of p) Yu (λb F=> cr F)));clear K v Z C g hfull d0 d1 I;go_upto_region 10 with fail;rw[<-V.o];go_wp2_with fail;refine J.Ak ?_;rintro e w5 ⟨rfl,⟨O',g,zC⟩,zE⟩;have HQ:=Yw (Zn g (Zn zC zE));clear g zC zE J;go_wp2;go_ret;subst hSS;refine ct ⟨q,ct (ct (ct ⟨zB,zG,zF,rfl,⟨O',HQ.1,?_⟩,(Tn.of t).ag HQ.2.2⟩))⟩;rcases HQ.2.1 with e|⟨g,e,hg⟩
   .exact cr e
   exact ct ⟨g,e,Zm t.size hg⟩
  have I:=Yw E;have J:Hid (x∈o/\x.sum=SS):=gH;clear E S R;go_wp2_with fail;refine I.Ak ?_;rintro e w4 ⟨rfl,K⟩;have⟨Y,v⟩:=Du w4 #[C0 x.sum,Zg x.born,C0 x.Q,Cw xa x.C xc] 50;have Z:=(Av v).1;have p:Hid (Zz B Y):=gB;obtain⟨V,C,yK⟩:=Yw v,r.A p,(Av v).2.2;obtain⟨⟨y2,y3⟩,e0,_⟩:=Aa.c2 yK 2 3,C.R.box 0 _ rfl;have t:=Yw (s.ag (p.ah s.size));have S:bg Y.1.size Y Y.drew:=gB;have zY:=C.lo;have E:=Ad.U zI (p.ag (S.ah p.size));have R:=Yw (Ki x.Q xa xc x.C l Y.drew E (C8 (y.C x T).1) (zP x T));clear K v Z C yK d0 d1 I zI E T zW;go_upto_region 12 with fail;rw[<-V.o];go_region_with (go_at_call 165;refine R.Ak ?_;rintro e w5 ⟨rfl,M⟩)
  all_goals
   have C:=Yw (t.ag ((S.ag M).ah t.size));clear M y2 y3 e0 R;by_cases hsame:AH x.Q x.C l=FF
   .have I:(FF.toList !=FF.toList)=ba:=Yu;rw[hsame];have v:=Yw hsame;clear hsame;go_wp2;go_ret;subst hSS;exact ct ⟨q,cr ⟨x,J.1,J.2,v.ag hFF.symm,rfl,C⟩⟩
   have v:=Yw hsame;have K:=BZ hsame;have I:((AH x.Q x.C l).toList !=FF.toList)=ay:=gA;clear hsame;generalize hGG:AH x.Q x.C l=GG at *
   have E:=Yw hGG;clear hGG;go_wp2;subst hSS;refine⟨rfl,ct ⟨q,ct (cr ⟨x,J.1,J.2,?_,?_,C⟩)⟩⟩
   .rw[E.o,hFF];exact v.o
   rw[E.o,hFF];rfl
def CP(wd births:Int)(ks:List Kd)(text:Zi)(refs:Zl)(ks1:List Kd)(aj:Int):Prop:=
 (∃k∈ks,k.sum=Bm text refs wd/\AH k.Q k.C wd=AH text refs wd/\ks1=ks/\aj=births)\/
 (¬As ks (Bm text refs wd)/\ed ks<600/\births<1000000000/\ks1=DS ks ⟨Bm text refs wd,births+1,text,refs⟩/\aj=births+1)
def GC(wd given births:Int)(ks:List Kd)(ls:List Ld)(text:Zi)(refs:Zl)(c:Int)(a b:Zi):Prop:=
 ((¬∀r∈refs,As ks r)/\c=2/\a=⟨#[]⟩/\b=⟨#[]⟩)\/
 ((∀r∈refs,As ks r)/\(
   (∃k∈ks,k.sum=Bm text refs wd/\AH k.Q k.C wd≠AH text refs wd/\c=3/\a=AH k.Q k.C wd/\b=AH text refs wd)\/
   (¬As ks (Bm text refs wd)/\(ed ks=600\/births=1000000000)/\c=4/\a=⟨#[]⟩/\b=⟨#[]⟩)\/
   ((∃ks1 aj,CP wd births ks text refs ks1 aj)/\(ed ls=200\/given=1000000000)/\c=4/\a=⟨#[]⟩/\b=⟨#[]⟩)))
theorem CP.there{a:Int}{i:C5}{c:Zi}{b:Zl}{d:C5}(h:CP e a i c b d aj):As d (Bm c b e):=by
 rcases h with⟨k,f,g,_,rfl,_⟩|⟨_,_,_,rfl,_⟩
 .exact⟨k,f,g⟩
 exact⟨⟨Bm c b e,a+1,c,b⟩,Ee.2 Yu,rfl⟩
theorem CP.sz{a:Int}{i:C5}{d:Zi}{c:Zl}(h:CP e a i d c g aj)(f:∀k∈i,(k.sum.size:Int)=e)(hS:((Bm d c e).size:Int)=e):∀k∈g,(k.sum.size:Int)=e:=by
 rcases h with⟨k,b,j,_,rfl,_⟩|⟨_,_,_,rfl,_⟩
 .exact f
 intro k b;rcases A5.1 (Ee.1 b)with b|b
 .exact f k b
 simp at b;rw[b];exact hS
theorem OZ{q:Nat}{O:Dg}{f n:Int}{B:C5}{R:C7}{A:C6}(s I l:Zi)(t:Int){i:Zl}{F:Zk}(H:Nat)(h:DU w q d m O P L p y f n B R A)(x:Dv p B)(h1:1<=p)(yP:∀k∈B,k.Q.size<=maxLen)(zU:((Bm l i p).size:Int)=p)(yO:l.size<=maxLen)(yL:ed i<=1000)(yD:0<=n)(yE:n<=1000000000)(G:En w q (vB d m O P L) F i)(hl:ed A<=200)(yH:0<=f)(yX:f<=1000000000)(yJ:0<=y)(yK:y<=1000000000)(yM:0<=t)(yN:t<=1000000000):
 D4 136 #[Yy d,ca (Ye 1 s I t l F (ed i) H)] w λe o=>(∃c a b,GC p f n B A l i c a b/\e=.panicked [{v:=bk c a b,recovered:=ba}]/\Tn (vB d m O P L) w o)\/
  (∃z aj,(∀r∈i,As B r)/\CP p n B l i z aj/\ed A<200/\f<1000000000/\e=C1 (ca #[Ze,Ze,Ze,Ze,Ze,Zb,Zb,Zb,C0 (Bm l i p),Zg (f+1),Zc,Zc])/\∃O' L',DU o q d m O' P L' p y (f+1) aj z R (A++[⟨f+1,Bm l i p,y+t⟩])/\Tn (vB d m O P L) w o):=by
 have⟨W,u⟩:=Ag (((w.alloc (bs (Ye 1 s I t l F (ed i) H) 117)).alloc (bs Yd 81)).alloc (bs Yd 81));obtain⟨D,N,J⟩:=(Bq u).1,(Bq u).2.1,(Bq u).2.2.1;have zR:Aa W (w.1.size+1) z12:=by have h1:=Aa.new (w.alloc (bs (Ye 1 s I t l F (ed i) H) 117)) z12 81;rw[Aq]at h1;rw[u];exact Aa.A (v:=Ze) h1 (Zy)
 have Q:Aa W (w.1.size+2) z12:=by have h1:=Aa.new ((w.alloc (bs (Ye 1 s I t l F (ed i) H) 117)).alloc (bs Yd 81)) z12 81;rw[Aq,Aq]at h1;rw[u];exact h1
 have M:W.1[w.1.size+1]?=ai (bs Yd 81):=by rw[u,Below.heap_alloc _ _ _ Yu];have:=heap_alloc_new (w.alloc (bs (Ye 1 s I t l F (ed i) H) 117)) (bs Yd 81);rw[Aq]at this;exact this
 have K:W.1[w.1.size+2]?=ai (bs Yd 81):=by have:=heap_alloc_new ((w.alloc (bs (Ye 1 s I t l F (ed i) H) 117)).alloc (bs Yd 81)) (bs Yd 81);rw[Aq,Aq]at this;rw[u];exact this
 have E:=h.A D;have yW:=h.R.box.lt;have C:∀b∈vB d m O P L,b<w.1.size:=h.R.dj;have yV:q<=w.1.size:=h.lo;have HC:=Yw (Abn l i F H E x h1 yP zU yO yL yD yE (G.move (U:=[]) (Tn.of D) Yu (λb o=> cr o)));have HW:=Yw u;have HZ:Hid (Aa W (w.1.size+1) z12/\Aa W (w.1.size+2) z12/\W.1[w.1.size+1]?=ai (bs Yd 81)/\W.1[w.1.size+2]?=ai (bs Yd 81)/\Zz w W/\W.1.size=w.1.size+3/\Aa W w.1.size (Xw 1 s I t l F (ed i) H)):=gB;have zN:Hid (∀b∈vB d m O P L,b<w.1.size):=C;have zX:Hid (DU W q d m O P L p y f n B R A):=E;have zY:Hid (∀k∈B,(k.sum.size:Int)=p):=x.sz;obtain⟨e0,e3,e4,e5⟩:=Aa.c4 J 0 3 4 5;clear u h E zR Q M K D N J C G x;delta D4;go_in;go_upto_region 2 with fail;rw[<-HW.o];go_wp2_with fail;refine HC.Ak ?_;intro e C N;have zB:Tn (vB d m O P L) w W:=Tn.of HZ.2.2.2.2.1;obtain⟨hrefs,rfl,o⟩|⟨M,N⟩:=N
 .clear e0 e3 e4 e5;go_wp2;exact⟨rfl,cr ⟨2,_,_,cr ⟨hrefs,rfl,rfl,rfl⟩,rfl,zB.ag (Tn.of o)⟩⟩
 have zC:(∃c a b,GC p f n B A l i c a b/\e=.panicked [{v:=bk c a b,recovered:=ba}]/\Tn (vB d m O P L) W C)\/(e=C1 (C0 (Bm l i p))/\∃z aj Q,CP p n B l i z aj/\DU C q d m Q P L p y f aj z R A/\Tn (vB d m O P L) W C/\(ef Q=ef O\/∃g,ef Q=ai g/\W.1.size<=g)):=by
  rcases N with⟨k,hk,hs,hf,rfl,o⟩|⟨k,hk,hs,hf,rfl,o⟩|⟨Z,u,rfl,o⟩|⟨Z,yI,yG,rfl,⟨O',zF,zG⟩,ht⟩
  .exact ct ⟨rfl,B,n,O,cr ⟨k,hk,hs,hf,rfl,rfl⟩,zX.A o,Tn.of o,cr rfl⟩
  .exact cr ⟨3,_,_,ct ⟨M,cr ⟨k,hk,hs,hf,rfl,rfl,rfl⟩⟩,rfl,Tn.of o⟩
  .exact cr ⟨4,_,_,ct ⟨M,ct (cr ⟨Z,u,rfl,rfl,rfl⟩)⟩,rfl,Tn.of o⟩
  exact ct ⟨rfl,_,_,O',ct ⟨Z,yI,yG,rfl,rfl⟩,zF,ht.ah (by intro b o;unfold vB;simp at o |-;rcases o with rfl|rfl|o<;>simp[*]),zG⟩
 have zA:Hid (∀r∈i,As B r):=M;obtain⟨c,a,b,Z,rfl,ht⟩|⟨rfl,z,aj,Q,E,zH,K,zF⟩:=zC
 .clear e0 e3 e4 e5;go_wp2;exact⟨rfl,cr ⟨c,a,b,Z,rfl,zB.ag ht⟩⟩
 have zz:=HZ.2.2.2.2.2.1;have Y:∀j,w.1.size<=j->j∉vB d m O P L:=λj x h=>C8 (zN _ h);have zW:Aa C (w.1.size+1) z12:=Aa.same HZ.1 (K.block _ Yv (Y _ Yv));have g:Aa C (w.1.size+2) z12:=Aa.same HZ.2.1 (K.block _ Yv (Y _ Yv));have zV:Aa C w.1.size (Xw 1 s I t l F (ed i) H):=Aa.same HZ.2.2.2.2.2.2 (K.block _ Yv (Y _ Yv));have T:C.1[w.1.size+1]?=ai (bs Yd 81):=(K.block _ Yv (Y _ Yv)).ag HZ.2.2.1;have x:C.1[w.1.size+2]?=ai (bs Yd 81):=(K.block _ Yv (Y _ Yv)).ag HZ.2.2.2.1;have⟨X,hX⟩:=D2 C (w.1.size+2) 8 (C0 (Bm l i p));have tX:Tn [w.1.size+2] C X:=by rw[hX];exact Bi _ _ _ _
 have G:Aa X (w.1.size+2) (z12.set 8 (C0 (Bm l i p))):=by rw[hX];exact g.set 8 _
 have j:Aa X (w.1.size+1) z12:=gC;have zK:Aa X w.1.size (Xw 1 s I t l F (ed i) H):=gC;have J:DU X q d m Q P L p y f aj z R A:=zH.O tX (by intro b o;simp at o;subst o;exact⟨Yv,zH.fm x Yv⟩);obtain⟨o8,v8,D,S,zE,zP⟩:=(g 8 _ rfl).2,(g 8 _ rfl).1,E.sz zY zU,Yw (Zn E (Zn zH (Zn K zF))),Yw (Zn tX (Zn G (Zn j (Zn J (Zn x T))))),Yw hX;have zZ:Hid (∃r,X.1[w.1.size+2]?=ai (bs r 81)):=⟨_,by rw[hX,setCell_eq_setRow C _ _ _ _ _ _ x];exact setRow_heap C _ _ _ _ _ x⟩;obtain⟨yU,_⟩:=zK 3 _ rfl;have s8:=(G 8 _ rfl).1;have yT:w.1.size+2<X.1.size:=G.lt;by_cases u:ed A=200\/f=1000000000
 .have HL:=Yw (NX t J D E.there u);clear e0 e3 e4 e5 hX tX G j zK J zW g zV T x D HC;go_upto_region 5 with fail;rw[<-zP.o];go_wp2_with fail;refine HL.Ak ?_;rintro e r ⟨rfl,yF⟩;go_wp2;refine⟨rfl,cr ⟨4,_,_,ct ⟨zA,ct (ct ⟨⟨_,_,S.1⟩,u,rfl,rfl,rfl⟩)⟩,rfl,?_⟩⟩;have t0:=(zB.ag S.2.2.1).fresh zE.1 (show w.1.size<=w.1.size+2 by omega);exact t0.ag (Tn.of yF)
 have zT:ed A<200:=Yv;have zS:f<1000000000:=Yv;have HL:=Yw (PI t J D E.there zT yH zS yJ yK yM yN);clear e0 e3 e4 e5 hX tX G j zK J zW g zV T x D HC u;go_upto_region 5 with fail;rw[<-zP.o];go_wp2_with fail;refine HL.Ak ?_;rintro e r ⟨rfl,L',zI,zJ⟩;have⟨tX,G,j,J,x,T⟩:=zE.o;have D:∀b∈d::(ef L).toList,b<w.1.size:=λb o=>zN b (by unfold vB;simp at o |-;rcases o with rfl|o<;>simp[*]);have yS:Aa r (w.1.size+1) z12:=gC;have u:Aa r (w.1.size+2) (z12.set 8 (C0 (Bm l i p))):=gC;have yC:X.1[w.1.size+1]?=_:=(tX.block _ (C8 S.2.2.1.size) Yu).ag T;have yB:r.1[w.1.size+1]?=ai (bs Yd 81):=(zJ.block _ j.lt (λh=>C8 (D _ h))).ag yC;have⟨zM,yA⟩:=zZ.o;have zG:r.1[w.1.size+2]?=ai (bs zM 81):=(zJ.block _ G.lt (λh=>C8 (D _ h))).ag yA;obtain⟨g,⟨⟨y0,q0⟩,⟨y1,q1⟩,⟨y2,q2⟩,⟨y3,q3⟩,⟨y4,q4⟩,⟨y5,q5⟩,⟨y6,q6⟩,⟨y7,q7⟩,⟨y8,q8⟩,⟨y9,q9⟩,⟨yQ,xA⟩,yR,xB⟩,⟨v0,p0⟩,⟨v1,p1⟩,⟨v2,p2⟩,v3,p3⟩:=Yw (Zn zI (Zn zJ (Zn (zI.fm yB Yv) (zI.fm zG Yv)))),Br yS,u 0 _ rfl,u 1 _ rfl,u 2 _ rfl,u 3 _ rfl;obtain⟨⟨v4,p4⟩,⟨v5,p5⟩,⟨v6,p6⟩,⟨v7,p7⟩,⟨xF,p8⟩,⟨v9,p9⟩,⟨xC,yY⟩,xD,yZ⟩:=u 4 _ rfl,u 5 _ rfl,u 6 _ rfl,u 7 _ rfl,u 8 _ rfl,u 9 _ rfl,u 10 _ rfl,u 11 _ rfl;go_wp2;refine Co (ca #[Ze,Ze,Ze,Ze,Ze,Zb,Zb,Zb,C0 (Bm l i p),Zg (f+1),Zc,Zc]) (by simp[results,results136,go_sem,y0,y1,y2,y3,y4,y5,y6,y7,y8,y9,yQ,yR]) ?_;have T9:=(Tn.set (V:=[w.1.size+1,w.1.size+2]) r (w.1.size+2) 9 (Zg (f+1)) Yu).ag (Tn.ah (Bw (el r (Zd (w.1.size+2) 9) (Zg (f+1))) (w.1.size+1) Ze Ze Ze Ze Ze Zb Zb Zb (C0 (Bm l i p)) (Zg (f+1)) Zc Zc) Yu);refine ct ⟨z,aj,zA,S.1,zT,zS,rfl,Q,L',g.1.O T9 (by intro b o;simp at o;rcases o with rfl|rfl;exact⟨Yv,g.2.2.1⟩;exact⟨Yv,g.2.2.2⟩),?_⟩;have t0:=(zB.ag S.2.2.1).fresh zE.1 (show w.1.size<=w.1.size+2 by omega);have t1:=t0.ag (g.2.1.ah (V':=vB d m O P L) (by intro b o;unfold vB;simp at o |-;rcases o with rfl|o<;>simp[*]));exact⟨T9.os.ag t1.os,T9.tape.ag t1.tape,T9.output.ag t1.output,Zm t1.size T9.size,λb o hv=>(T9.block b (Zr o t1.size) Yt).ag (t1.block b o hv)⟩
def Abo(w w':Zh)(e:Ending)(wd now given births:Int)(T P L:Value)(ls:List Ld)(s:Zi)(hold:Int)(base:Nat):Prop:=
 Tn (ef L).toList w w'/\(((200<=ed ls\/1000000000<=given)/\e=.returned (ca #[Zg 4,Ze,Ze,Ze,Ze,Zb,Zb,Zb,Zc,Ze,Zc,Zc]))\/
  ((ed ls<200/\given<1000000000)/\∃g c,e=.returned (ca #[Ze,Zg wd,Zg now,Zg (given+1),Zg births,T,P,bx (ai ⟨g,0,an⟩) (ed ls+1) c,Zc,Zg (given+1),Zc,Zc])/\ej w' base 112 3 (bx (ai ⟨g,0,an⟩) (ed ls+1) c) (ed (ls++[(⟨given+1,s,now+hold⟩:Ld)])) (Af lC (ls++[(⟨given+1,s,now+hold⟩:Ld)]))/\(ef L=ai g\/w.1.size<=g)))
theorem Jf(u h a d:Int)(p m j:Zk)(t r o n k:Nat)(f:C6)(s:Zi)(hold:Int)(I:ej w i 112 3 (Cx j (ed f) k) (ed f) (Af lC f))(zA:i<=w.1.size)(hl:ed f<=1000)(zS:0<=a)(zT:a<=1000000000)(zH:0<=h)(zI:h<=1000000000)(zK:0<=hold)(zM:hold<=1000000000):
 D4 126 #[ca (Yg u h a d p t r m o n j (ed f) k),C0 s,Zg hold] w λe l=>Abo w l e u h a d (Cx p t r) (Cx m o n) (Cx j (ed f) k) f s hold i:=by
 have⟨W,l⟩:=Ag ((w.alloc (bs (Yg u h a d p t r m o n j (ed f) k) 30)).alloc (bs Yd 81));obtain⟨z,O,x⟩:=(AT l).1,(AT l).2.1,(AT l).2.2.1;have L:Aa W (w.1.size+1) z12:=by have h1:=Aa.new (w.alloc (bs (Yg u h a d p t r m o n j (ed f) k) 30)) z12 81;rw[Aq]at h1;rw[l];exact h1
 have G:=Yw l;have HB:=Yw z;by_cases hfull:200<=ed f\/1000000000<=a
 .obtain⟨⟨⟨R,q0⟩,⟨S,q1⟩,⟨T,q2⟩,⟨U,q3⟩,⟨Y,q4⟩,⟨Z,q5⟩,⟨y6,q6⟩,⟨y7,q7⟩,⟨y8,q8⟩,⟨y9,q9⟩,⟨E,zN⟩,F,zO⟩,⟨v0,v1,v2,v3,v4,v5,v6,v7⟩,HF⟩:=Br L,Cq x,Yw hfull;have A:(bq ((200:Int)<=(ed f:Int))=ay)\/(bq ((200:Int)<=(ed f:Int))=ba/\bq ((1000000000:Int)<=a)=ay):=Yt;clear l x L z O hfull I;rcases A with A|⟨A,zP⟩
  all_goals
   delta D4;go_in;go_upto_region 1 with fail;rw[<-G.o];clear G;go_wp2;refine Co (ca (Yc 4)) Ia ?_;exact⟨Tn.of (HB.ag (Tn.A (Bw W (w.1.size+1) _ _ _ _ _ _ _ _ _ _ _ _) HB.size gA)),cr ⟨HF,rfl⟩⟩
 have zF:ed f<200/\a<1000000000:=Yv;have⟨X,H⟩:=D2 W (w.1.size) 2 (Zg (a+1));have Q:Tn [w.1.size] W X:=by rw[H];exact Bi _ _ _ _
 have J:Aa X w.1.size (Yh u h (a+1) d p t r m o n j (ed f) k):=by rw[H];exact x.set 2 _
 have q:=Aa.same L (Q.block _ Yv Yu);have B:=z.ag (Q.A z.size Yu);have dm:∀g,ef (Cw j f k)=ai g->g<w.1.size:=λg y=>(Ab I y).2;have N:=Ai I B;have zX:w.1.size+2<=X.1.size:=gC;obtain⟨g,c,K,D,zJ,C,zG⟩:=Po X i _ f N (⟨a+1,s,h+hold⟩:Ld) Yv Yv 28;dsimp only at D;have P:=Aa.same J (C.block _ J.lt (λe=>C8 (dm _ e.symm)));obtain⟨b,⟨c2,f2⟩,c6,_⟩:=Aa.same q (C.block _ Yv (λe=>C8 (dm _ e.symm))),x 2 _ rfl,x 6 _ rfl;obtain⟨⟨d1,d2,d6⟩,⟨i0,i1,i2,i3,i4,i5,i6,i7⟩,⟨⟨R,q0⟩,⟨S,q1⟩,⟨T,q2⟩,⟨U,q3⟩,⟨Y,q4⟩,⟨Z,q5⟩,⟨y6,q6⟩,⟨y7,q7⟩,⟨y8,q8⟩,⟨y9,q9⟩,⟨E,zN⟩,F,zO⟩,k6⟩:=Aa.c3 J 1 2 6,Cq P,Br b,(P 6 _ rfl).2;have zW:=Ib zH zI zK zM;have zU:¬((200:Int)<=(ed f:Int)):=Yv;have zV:¬((1000000000:Int)<=a):=Yv;have M:=Yw H;have y:Hid (ej K i 112 3 (Yz g (ed f+1) c) (ed (f++[(⟨a+1,s,h+hold⟩:Ld)])) (Af lC (f++[(⟨a+1,s,h+hold⟩:Ld)]))/\X.grownBy K (ef (Cw j f k))/\(ef (Cw j f k)=ai g\/g=X.1.size+1)):=gD;obtain⟨zB,zE,zC⟩:=Yw B,Yw dm,Yw zF;clear l H x L J q Q P b z O N I zJ C zG B dm hfull;delta D4;go_in;go_upto_region 1 with fail;rw[<-G.o];clear G;go_upto_region 4 with fail;rw[<-M.o];clear M c2 f2 c6;go_wp2_with (at_builtin;refine wpList_append_run rfl _ _ 28 28 rfl rfl rfl D ?_);clear D d1 d2 d6;go_wp2;refine Co (ca #[Ze,Zg u,Zg h,Zg (a+1),Zg d,Cx p t r,Cx m o n,Yz g (ed f+1) c,Zc,Zg (a+1),Zc,Zc]) Ia ?_;have l:=(Tn.set (V:=[w.1.size,w.1.size+1]) K w.1.size 6 (Yz g (ed f+1) c) Yu).ag (Tn.ah (Bw (el K (Zd (w.1.size) 6) (Yz g (ed f+1) c)) (w.1.size+1) Ze (Zg u) (Zg h) (Zg (a+1)) (Zg d) (Cx p t r) (Cx m o n) (Yz g (ed f+1) c) Zc (Zg (a+1)) Zc Zc) Yu);have x:=(Tn.of zB).ag (CX y.2.1);have C:g<w.1.size\/w.1.size+2<=g:=by
  rcases y.2.2 with e|e
  .exact cr (zE g e)
  exact ct Yv
 refine⟨⟨l.os.ag x.os,l.tape.ag x.tape,l.output.ag x.output,Zm x.size l.size,λb z B=>(l.block b (Zr z x.size) Yt).ag (x.block b z B)⟩,ct ⟨zC,g,c,rfl,Ar y.1 (λq z=>l.block q (Ab y.1 z).2 ?_),?_⟩⟩
 .obtain rfl:g=q:=by simpa [ownBlock]using z
  simp;omega
 rcases y.2.2 with e|e
 .exact cr e
 exact ct Yv
theorem Lz(d:Nat)(V:List Nat)(p:Int)(s q x:Zi)(m:Int)(r:Zk)(u t:Nat)(E:Int->Zi->Zi->Prop)(z:Zi->Int->Zh->Prop)(w:Zh)(A:∀b∈V,b<w.1.size)(l:∀i g X k R n,z i g X->X.1[R]?=ai (bs n 81)->w.1.size<=R->Tn [R] X k->z i g k)(h:∀X,Zz w X->D4 136 #[Yy d,ca (Ye p s q m x r u t)] X fun e j=>(∃c a b,E c a b/\e=.panicked [{v:=bk c a b,recovered:=ba}]/\Tn V X j)\/(∃i g,e=C1 (ca #[Ze,Ze,Ze,Ze,Ze,Zb,Zb,Zb,C0 i,Zg g,Zc,Zc])/\z i g j/\Tn V X j)):
 D4 90 #[Yy d,ca (Ye p s q m x r u t)] w fun e j=>(∃c a b,E c a b/\e=C1 (ca (Cp c a b).toArray)/\Tn V w j)\/(∃i g,e=C1 (ca #[Ze,Ze,Ze,Ze,Ze,Zb,Zb,Zb,C0 i,Zg g,Zc,Zc])/\z i g j/\Tn V w j):=by
 suffices hs:∀Q:Ending->Zh->Prop,(∀c a b j,E c a b->Tn V w j->Q (.returned (ca (Cp c a b).toArray)) j)->(∀i g j,z i g j->Tn V w j->Q (.returned (ca #[Ze,Ze,Ze,Ze,Ze,Zb,Zb,Zb,C0 i,Zg g,Zc,Zc])) j)->D4 90 #[Yy d,ca (Ye p s q m x r u t)] w Q from
  hs _ (fun c a b j o k=> cr ⟨c,a,b,o,rfl,k⟩) (fun i g j o k=> ct ⟨i,g,rfl,o,k⟩)
 intro Q R X;obtain⟨U,Y,W,k⟩:=Yw R,Yw X,Ag ((w.alloc (bs (Ye p s q m x r u t) 117)).alloc (bs Yd 81));obtain⟨y,D,B⟩:=(AT k).1,(AT k).2.1,(AT k).2.2.1;have zR:Aa W (w.1.size+1) z12:=by have o:=Aa.new (w.alloc (bs (Ye p s q m x r u t) 117)) z12 81;rw[Aq]at o;rw[k];exact o
 have C:W.1[w.1.size+1]?=ai (bs Yd 81):=by have:=heap_alloc_new (w.alloc (bs (Ye p s q m x r u t) 117)) (bs Yd 81);rw[Aq]at this;rw[k];exact this
 obtain⟨⟨e0,e1,e2,e3,e4,e5⟩,HC,HW⟩:=Aa.c6 B 0 1 2 3 4 5,Yw (h W y),Yw k;have n:Hid (Aa W (w.1.size+1) z12/\W.1[w.1.size+1]?=ai (bs Yd 81)/\Zz w W/\W.1.size=w.1.size+2):=gB;have HV:=Yw A;have Z:=Yw l;clear k zR D B h C y A l
 go_enter_defers func90,ntmps90
 go_upto_region 1 with fail;rw[<-HW.o];go_wp2_with fail;refine HC.Ak ?_;intro e T zB;have zz:=n.2.2.2;have A:w.1.size+1∉V:=fun h=>by have:=HV _ h;omega
 obtain⟨c,a,b,zC,rfl,l⟩|⟨i,g,rfl,hy,l⟩:=zB
 .have D:=Aa.same n.1 (l.block _ Yv A);refine leaves_cons (f:=135) (args:= #[Yy (w.1.size+1)]) Yu F3 ?_;refine(Lm c a b D).mono ?_;rintro e u' j ⟨rfl,rfl,k,ht⟩;obtain⟨G,H,I,J,K,L,M,N⟩:=(k 0 _ rfl).1,(k 1 _ rfl).1,(k 2 _ rfl).1,(k 3 _ rfl).1,(k 4 _ rfl).1,(k 5 _ rfl).1,(k 6 _ rfl).1,(k 7 _ rfl).1;obtain⟨O,P,B,C⟩:=(k 8 _ rfl).1,(k 9 _ rfl).1,(k 10 _ rfl).1,(k 11 _ rfl).1;have y:Hid (E c a b/\Tn V w j):=⟨zC,Tn.fresh ((Tn.of n.2.2.1).trans l) ht Yv⟩;simp[Leaves,settle,results,results90,go_sem,G,H,I,J,K,L,M,N,O,P,B,C];exact U c a b _ y.1 y.2
 have D:=Aa.same n.1 (l.block _ Yv A);have zA:=(l.block _ Yv A).trans n.2.1;obtain⟨F,⟨G,q0⟩,⟨H,q1⟩,⟨I,q2⟩,⟨J,q3⟩,⟨K,q4⟩,⟨L,q5⟩,⟨M,q6⟩,⟨N,q7⟩,⟨O,q8⟩,⟨P,q9⟩,⟨B,zE⟩,C,zF⟩:=Yw (Zn hy (Zn l zA)),Br D;go_wp2;refine leaves_cons (f:=135) (args:= #[Yy (w.1.size+1)]) Yu F3 ?_;refine(Mv ⟨w.1.size+1,0,an⟩ _).mono ?_;rintro e u' j ⟨rfl,rfl,rfl⟩;have S:=Yw (Bw T (w.1.size+1) Ze Ze Ze Ze Ze Zb Zb Zb (C0 i) (Zg g) Zc Zc);have y:=Yw (Zn (Z i g _ _ _ _ F.1 F.2.2 Yv S) (Tn.fresh ((Tn.of n.2.2.1).trans F.2.1) S Yv));simp[Leaves,settle,results,results90,go_sem,G,H,I,J,K,L,M,N,O,P,B,C];exact Y i g _ y.1 y.2
