import Derived.Test.YtfehblndlffcmaaGreatDoorX04
import Derived.Test.YtfehblndlffcmaaGreatDoorX05
import Derived.Test.YtfehblndlffcmaaGreatDoorX06
set_option maxRecDepth 100000
set_option maxHeartbeats 16000000
open Option renaming some->an,none->ba
open Bool renaming true->bg,false->bq
open Go.RowKit renaming Below->bs
open Decidable renaming decide->bx
open Go.Obj renaming cells->ca
open Go.Value renaming slice->cr,agg->ct,ownBlock->ej
open Or renaming inl->dp,inr->eb
open List renaming length->eh,toArray->ei
open Go.World renaming cell?->ek,ownsRow->eo,grownBy->ep,setCell->ev
open Go renaming maxLen->ew
namespace Go.Proofs.YtfehblndlffcmaaGreatDoor
open ChangeShapes WideShapes ChangeAt RowKit _root_.Go.Proofs.Tryz List World Value
variable{a:Db}{k B n d b i m j base N:Nat}{x:Pd}{w W:Zh}{c q p y e aj:Int}{s:Zi}{O P L:Value}{g:C9}{V:List Nat}{z:Kd×Value}
theorem Tk{a:Da}{x:Ld}(n:Int)(c:a[k]?=an x):BD (a.take (k+1)) n=BD (a.take k) n++(if x.R=n then []else [x]):=by obtain⟨b,rfl⟩:=Zw c;unfold BD;rw[Zu b,filter_append];by_cases h:a[k].R=n<;>simp[h]
theorem NU(a:Da)(n:Int):eh (BD a n)=eh a↔¬∃x∈a,x.R=n:=by unfold BD;rw[length_filter_eq_length_iff];simp
def Vl(w w':Zh)(e:Ending)(wd now given births:Int)(T P:Value)(ls:List Ld)(n:Int):Prop:=
 bs w.1.size w w'/\(((¬∃x∈ls,x.R=n)/\e=.returned (ct #[Zg 5,Ze,Ze,Ze,Ze,Zb,Zb,Zb,Zc,Ze,Zc,Zc]))\/
  ((∃x∈ls,x.R=n)/\∃g c,e=.returned (ct #[Ze,Zg wd,Zg now,Zg given,Zg births,T,P,cr (an ⟨g,0,ba⟩) (eh (BD ls n)) c,Zc,Ze,Zc,Zc])/\eo w' w.1.size 83 3 (cr (an ⟨g,0,ba⟩) (eh (BD ls n)) c) (eh (BD ls n)) (Ad lC (BD ls n))))
theorem Tl(t h d b:Int)(p l:Zk){B:Zk}(s r o m E:Nat){a:Da}(n:Int)(f:AR w w.1.size B a)(hl:eh a<=1000):
 D8 81 #[ct (Yg t h d b p s r l o m B (eh a) E),Zg n] w λe j=>Vl w j e t h d b (C3 p s r) (C3 l o m) a n:=by
 have⟨W,j⟩:=Ag ((w.alloc (ca (Yg t h d b p s r l o m B (eh a) E) 30)).alloc (ca Yd 42));obtain⟨z,D,A⟩:=(AQ j).1,(AQ j).2.1,(AQ j).2.2.1;have C:Aa W (w.1.size+1) z12:=by have R:=Aa.new (w.alloc (ca (Yg t h d b p s r l o m B (eh a) E) 30)) z12 42;rw[Ao]at R;rw[j];exact R
 have K:Hid (∀X,bs (w.1.size+2) W X->Aa X w.1.size (Yh t h d b p s r l o m B (eh a) E)/\Aa X (w.1.size+1) z12):=λX u=>⟨Aa.same A (u.block _ Yv),Aa.same C (u.block _ Yv)⟩;have HW:=Yw j;have y:w.1.size+2<=W.1.size:=Yv;have HR:Hid (AR w w.1.size B a):=f;have zB:Hid (Zz w W):=z;have u:bs W.1.size W (W.alloc (ca #[] 83)):=Zy;have zC:Hid (eo (W.alloc (ca #[] 83)) (w.1.size+2) 83 3 (Yz W.1.size 0 0) 0 []):=ownsRow_lit (base:=w.1.size+2) (e:=83) (size:=3) W #[] 0 Yv Yo rfl;have zA:Hid (bs (w.1.size+2) W (W.alloc (ca #[] 83))):=u.ai y;clear j D A C f z u;delta D8;go_in;go_upto_region 1 with fail;rw[<-HW.o];go_wp2;go_loopw [5,6] (λv i wr=>∃(k g c:Nat),k<=eh a/\i=Zg k/\v=Yz g (eh (BD (a.take k) n)) c/\Hid (eo wr (w.1.size+2) 83 3 (Yz g (eh (BD (a.take k) n)) c) (eh (BD (a.take k) n)) (Ad lC (BD (a.take k) n))/\bs (w.1.size+2) W wr)) (λ_ i _=>eh a -(intOf i).toNat)
 case atStart=>exact⟨0,W.1.size,0,Aq _,rfl,by simp[BD],⟨by simpa [BD,Ad]using zC.o,zA⟩⟩
 obtain⟨k,g,c,hk,rfl,rfl,f⟩:=hrel;have j:bs w.1.size w wr:=zB.ag (f.2.ai Yv);have H:w.1.size+2<=wr.1.size:=Zm y f.2.size;obtain⟨v0,T,U,Y,Z,i,X,v7⟩:=Bi (K _ f.2).1;by_cases hlt:k<eh a
 .obtain⟨b',zG,ha,hb,u⟩:=(AR.A HR j).at hlt;subst ha;have O:Hid (a[k]?=an a[k]):=Zv hlt;obtain⟨L,P,S⟩:=u k _ O;have F:=Yw (Tk n O);have zF:eh (BD (a.take k) n)<=1000:=by have:=length_filter_le (λx:Ld=> !bx (x.R=n)) (a.take k);unfold BD;rw[C0]at this;omega
  clear u;generalize a[k]=x at *
  generalize hGk:BD (a.take k) n=gk at *
  clear hGk;by_cases hxn:x.R=n
  .have A:(x.R !=n)=bq:=(by simp[hxn]);have C:Hid (BD (a.take (k+1)) n=gk):=(by show _=_;rw[F.o,if_pos hxn,append_nil]);clear hxn;go_wp2;exact⟨⟨k+1,g,c,Yv,Yn,by rw[C.o],⟨by rw[C.o];exact f.1,f.2⟩⟩,Ys⟩
  have A:(x.R !=n)=bg:=by simp[hxn]
  have C:Hid (BD (a.take (k+1)) n=gk++[x]):=by show _=_;rw[F.o,if_neg hxn]
  clear hxn;obtain⟨Q,u,M,G,D,z,J⟩:=OH wr (w.1.size+2) _ gk f.1 x Yv H 28;have I:bs (w.1.size+2) wr M:=Ae.grown z H (λq e=>(Ac f.1 e).1);have N:Hid (eo M (w.1.size+2) 83 3 (Yz Q (eh gk+1) u) (eh (gk++[x])) (Ad lC (gk++[x]))/\bs (w.1.size+2) W M):=⟨D,f.2.ag I⟩;have zE:b'<wr.1.size:=Dl j.size;clear D z J I;go_wp2_with (at_builtin;refine wpList_append_run rfl _ _ 28 28 rfl rfl rfl G ?_);clear G L P S v0 T U Y Z i X;go_wp2;exact⟨⟨k+1,Q,u,Yv,Yn,by rw[C.o,Am];rfl,⟨by rw[C.o,Am];exact Am▸N.1,N.2⟩⟩,Ys⟩
 obtain rfl:k=eh a:=Yv;have hO:=f.1;rw[Zt (Zx)]at hO |-;have J:Hid (eo wr (w.1.size+2) 83 3 (Yz g (eh (BD a n)) c) (eh (BD a n)) (Ad lC (BD a n))):=hO;have z:Hid (Zz w wr):=j;obtain⟨⟨S,q0⟩,⟨T,q1⟩,⟨U,q2⟩,⟨Y,q3⟩,⟨Z,q4⟩,⟨i,q5⟩,⟨X,q6⟩,⟨y7,q7⟩,⟨y8,q8⟩,⟨y9,q9⟩,⟨G,zH⟩,I,zI⟩:=Bv (K _ f.2).2;have f6:=((K _ f.2).1 6 _ rfl).2;by_cases hex:∃x∈a,x.R=n
 .have L:¬eh (BD a n)=eh a:=λe=>(NU a n).1 e hex;have A:((eh (BD a n):Int)==(eh a:Int))=bq:=Yt;have D:Hid (∃x∈a,x.R=n):=hex;clear L hex hO j f;go_wp2;refine C1 (ct #[Ze,Zg t,Zg h,Zg d,Zg b,C3 p s r,C3 l o m,Yz g (eh (BD a n)) c,Zc,Ze,Zc,Zc]) K2 ?_;have P:=(Tn.set (V:=[w.1.size,w.1.size+1]) wr w.1.size 6 (Yz g (eh (BD a n)) c) Yu).ag (Tn.ai (BB (ev wr (Zd (w.1.size) 6) (Yz g (eh (BD a n)) c)) (w.1.size+1) Ze (Zg t) (Zg h) (Zg d) (Zg b) (C3 p s r) (C3 l o m) (Yz g (eh (BD a n)) c) Zc Ze Zc Zc) Yu);exact⟨z.ag (P.A z.size (by intro v L;simp at L;omega)),eb ⟨D,g,c,rfl,(Ar J (λq A=>P.block q (Ac J A).2 (by have:=(Ac J A).1;simp;omega))).ai Yv⟩⟩
 have e:eh (BD a n)=eh a:=(NU a n).2 hex;have A:((eh (BD a n):Int)==(eh a:Int))=bg:=Yt;have D:Hid (¬∃x∈a,x.R=n):=hex;clear e hex hO j f;go_wp2;refine C1 (ct (Yc 5)) K2 ?_;exact⟨z.ag (Tn.A (BB wr (w.1.size+1) _ _ _ _ _ _ _ _ _ _ _ _) z.size (by intro v L;simp at L;omega)),dp ⟨D,rfl⟩⟩
theorem Ms(w:Zh)(a:Nat)(v:D4)(b:Db)(y:eo w a 81 2 v (eh b) (Ad pC b))(x:Pd)(t:eh b<=1000000)(k:a<=w.1.size)(l:TypeId):
 ∃g c f,(Builtin.append_ #[27,27] l #[v,Yz w.1.size 1 1]).run prog (w.alloc (ca #[C4 x.name,C4 x.sum] 81))=.ok (Yz g (eh b+1) c) f/\eo f a 81 2 (Yz g (eh b+1) c) (eh (b++[x])) (Ad pC (b++[x]))/\ep w f (ej v)/\(ej v=an g\/g=w.1.size+1):=by
 have⟨A,s,n,o,p⟩:=info_parts Hq;have m:=Ah y (Ae.alloc (Zx) (ca #[C4 x.name,C4 x.sum] 81));have r:∀j u,(Ad pC [x])[j]?=an u->ek (w.alloc (ca #[C4 x.name,C4 x.sum] 81)) ((⟨w.1.size,0,ba⟩:Addr).add j)=an u:=by intro j u h;rw[A7,Ay];exact(Aa.new w [C4 x.name,C4 x.sum] 81 j u (by simpa [Ad,pC]using h)).1
 obtain⟨B,f,z,i,q,_,d⟩:=run_append_own_at (P:=prog) (w.alloc (ca #[C4 x.name,C4 x.sum] 81)) a 27 l 81 A _ 2 32 underlying27 s n o p rfl Yq v (eh b) (Ad pC b) m ⟨w.1.size,0,ba⟩ 1 1 (Ad pC [x]) (by simp[Ad,pC]) r (by intro u h;simp[Ad,pC]at h;rcases h with rfl|rfl<;>rfl) Yo Yv Yt;obtain⟨g,c,rfl,_,_⟩:=BK i (λe=>by subst e;rcases i.2 with⟨_,t⟩|⟨_,_,_,e,_⟩<;>first|omega|cases e);refine⟨g,c,f,z,?_,(grownBy_alloc w _ _).ag q,?_⟩
 .rw[Fp,Am];exact i
 rcases d with d|d
 .exact dp d.symm
 right;simpa [ownBlock]using d
theorem Rc(n:Zi)(c:a[k]?=an x):Bh (a.take (k+1)) n=Bh (a.take k) n++(if x.name=n then []else [x]):=by obtain⟨b,rfl⟩:=Zw c;unfold Bh;rw[Zu b,filter_append];by_cases h:a[k].name=n<;>simp[h]
theorem Mt(a:Db)(n:Zi):eh (Bh a n)=eh a↔¬∃x∈a,x.name=n:=by unfold Bh;rw[length_filter_eq_length_iff];simp
def RO(w w':Zh)(e:Ending)(wd now given births:Int)(T P:Value)(ls:List Pd)(n:Zi):Prop:=
 bs w.1.size w w'/\(((¬∃x∈ls,x.name=n)/\e=.returned (ct #[Zg 5,Ze,Ze,Ze,Ze,Zb,Zb,Zb,Zc,Ze,Zc,Zc]))\/
  ((∃x∈ls,x.name=n)/\∃g c,e=.returned (ct #[Ze,Zg wd,Zg now,Zg given,Zg births,T,cr (an ⟨g,0,ba⟩) (eh (Bh ls n)) c,P,Zc,Ze,Zc,Zc])/\eo w' w.1.size 81 2 (cr (an ⟨g,0,ba⟩) (eh (Bh ls n)) c) (eh (Bh ls n)) (Ad pC (Bh ls n))))
theorem Rd(t h d b:Int)(p l:Zk){B:Zk}(s r o m E:Nat)(n:Zi)(f:AS w w.1.size B a)(hl:eh a<=1000):
 D8 78 #[ct (Yg t h d b p s r B (eh a) E l o m),C4 n] w λe j=>RO w j e t h d b (C3 p s r) (C3 l o m) a n:=by
 have⟨W,j⟩:=Ag ((w.alloc (ca (Yg t h d b p s r B (eh a) E l o m) 30)).alloc (ca Yd 42));obtain⟨D,H,F⟩:=(AQ j).1,(AQ j).2.1,(AQ j).2.2.1;have G:Aa W (w.1.size+1) z12:=by have S:=Aa.new (w.alloc (ca (Yg t h d b p s r B (eh a) E l o m) 30)) z12 42;rw[Ao]at S;rw[j];exact S
 have L:Hid (∀X,bs (w.1.size+2) W X->Aa X w.1.size (Yh t h d b p s r B (eh a) E l o m)/\Aa X (w.1.size+1) z12):=λX u=>⟨Aa.same F (u.block _ Yv),Aa.same G (u.block _ Yv)⟩;have A:=Yw j;have y:w.1.size+2<=W.1.size:=Yv;have HR:Hid (AS w w.1.size B a):=f;have zA:Hid (Zz w W):=D;have C:bs W.1.size W (W.alloc (ca #[] 81)):=Zy;have z:Hid (eo (W.alloc (ca #[] 81)) (w.1.size+2) 81 2 (Yz W.1.size 0 0) 0 []):=ownsRow_lit (base:=w.1.size+2) (e:=81) (size:=2) W #[] 0 Yv Yo rfl;have u:Hid (bs (w.1.size+2) W (W.alloc (ca #[] 81))):=C.ai y;clear j H F G f D C;delta D8;go_in;go_upto_region 1 with fail;rw[<-A.o];clear A;go_wp2;go_loopw [5,6] (λv i wr=>∃(k g c:Nat),k<=eh a/\i=Zg k/\v=Yz g (eh (Bh (a.take k) n)) c/\Hid (eo wr (w.1.size+2) 81 2 (Yz g (eh (Bh (a.take k) n)) c) (eh (Bh (a.take k) n)) (Ad pC (Bh (a.take k) n))/\bs (w.1.size+2) W wr)) (λ_ i _=>eh a -(intOf i).toNat)
 case atStart=>exact⟨0,W.1.size,0,Aq _,rfl,by simp[Bh],⟨by simpa [Bh,Ad]using z.o,u⟩⟩
 clear z u;obtain⟨k,g,c,hk,rfl,rfl,f⟩:=hrel;have j:bs w.1.size w wr:=zA.ag (f.2.ai Yv);have I:w.1.size+2<=wr.1.size:=Zm y f.2.size;obtain⟨v0,T,U,Y,Z,i,X,v7⟩:=Bi (L _ f.2).1;by_cases hlt:k<eh a
 .obtain⟨b',zE,ha,hb,u⟩:=(AS.A HR j).at hlt;subst ha;have P:Hid (a[k]?=an a[k]):=Zv hlt;obtain⟨M,Q⟩:=u k _ P;have F:=Yw (Rc n P);have zC:eh (Bh (a.take k) n)<=1000:=by have:=length_filter_le (λx:Pd=> !bx (x.name=n)) (a.take k);unfold Bh;rw[C0]at this;omega
  clear u;generalize a[k]=x at *
  generalize hGk:Bh (a.take k) n=gk at *
  clear hGk;by_cases hxn:x.name=n
  .have A:(x.name.toList !=n.toList)=bq:=(by rw[hxn];simp);have G:(x.name.toList==n.toList)=bg:=(by rw[hxn];simp);have C:Hid (Bh (a.take (k+1)) n=gk):=(by show _=_;rw[F.o,if_pos hxn,append_nil]);clear hxn;go_wp2;exact⟨⟨k+1,g,c,Yv,Yn,by rw[C.o],⟨by rw[C.o];exact f.1,f.2⟩⟩,Ys⟩
  have G:(x.name.toList==n.toList)=bq:=BJ hxn;have A:(x.name.toList !=n.toList)=bg:=by simp[bne,G]
  have C:Hid (Bh (a.take (k+1)) n=gk++[x]):=by show _=_;rw[F.o,if_neg hxn]
  clear hxn;obtain⟨R,u,N,H,D,z,K⟩:=Ms wr (w.1.size+2) _ gk f.1 x Yv I 27;have J:bs (w.1.size+2) wr N:=Ae.grown z I (λq e=>(Ac f.1 e).1);have O:Hid (eo N (w.1.size+2) 81 2 (Yz R (eh gk+1) u) (eh (gk++[x])) (Ad pC (gk++[x]))/\bs (w.1.size+2) W N):=⟨D,f.2.ag J⟩;have zB:b'<wr.1.size:=Dl j.size;clear D z K J;go_wp2_with (at_builtin;refine wpList_append_run rfl _ _ 27 27 rfl rfl rfl H ?_);clear H M Q v0 T U Y Z i X;go_wp2;exact⟨⟨k+1,R,u,Yv,Yn,by rw[C.o,Am];rfl,⟨by rw[C.o,Am];exact Am▸O.1,O.2⟩⟩,Ys⟩
 obtain rfl:k=eh a:=Yv;have hO:=f.1;rw[Zt (Zx)]at hO |-;have K:Hid (eo wr (w.1.size+2) 81 2 (Yz g (eh (Bh a n)) c) (eh (Bh a n)) (Ad pC (Bh a n))):=hO;have z:Hid (Zz w wr):=j;obtain⟨⟨T,q0⟩,⟨U,q1⟩,⟨Y,q2⟩,⟨Z,q3⟩,⟨i,q4⟩,⟨X,q5⟩,⟨y6,q6⟩,⟨y7,q7⟩,⟨y8,q8⟩,⟨y9,q9⟩,⟨H,zF⟩,J,zG⟩:=Bv (L _ f.2).2;have f6:=((L _ f.2).1 5 _ rfl).2;by_cases hex:∃x∈a,x.name=n
 .have M:¬eh (Bh a n)=eh a:=λe=>(Mt a n).1 e hex;have A:((eh (Bh a n):Int)==(eh a:Int))=bq:=Yt;have D:Hid (∃x∈a,x.name=n):=hex;clear M hex hO j f;go_wp2;refine C1 (ct #[Ze,Zg t,Zg h,Zg d,Zg b,C3 p s r,Yz g (eh (Bh a n)) c,C3 l o m,Zc,Ze,Zc,Zc]) J8 ?_;have Q:=(Tn.set (V:=[w.1.size,w.1.size+1]) wr w.1.size 5 (Yz g (eh (Bh a n)) c) Yu).ag (Tn.ai (BB (ev wr (Zd (w.1.size) 5) (Yz g (eh (Bh a n)) c)) (w.1.size+1) Ze (Zg t) (Zg h) (Zg d) (Zg b) (C3 p s r) (Yz g (eh (Bh a n)) c) (C3 l o m) Zc Ze Zc Zc) Yu);exact⟨z.ag (Q.A z.size (by intro v M;simp at M;omega)),eb ⟨D,g,c,rfl,(Ar K (λq A=>Q.block q (Ac K A).2 (by have:=(Ac K A).1;simp;omega))).ai Yv⟩⟩
 have e:eh (Bh a n)=eh a:=(Mt a n).2 hex;have A:((eh (Bh a n):Int)==(eh a:Int))=bg:=Yt;have D:Hid (¬∃x∈a,x.name=n):=hex;clear e hex hO j f;go_wp2;refine C1 (ct (Yc 5)) J8 ?_;exact⟨z.ag (Tn.A (BB wr (w.1.size+1) _ _ _ _ _ _ _ _ _ _ _ _) z.size (by intro v M;simp at M;omega)),dp ⟨D,rfl⟩⟩
def Ee(ps:List Pd)(n:Zi):Bool:= !(ps.all (fun x=>less x.name n))
def Cc(ps:List Pd)(n s:Zi):List Pd:=ps.filter (fun x=>less x.name n)++(if Ee ps n then [⟨n,s⟩]else [])++ps.filter (fun x=> !(less x.name n)&& !bx (x.name=n))
theorem IG(n:Zi)(c:a[k]?=an x):Ee (a.take (k+1)) n=(Ee (a.take k) n|| !(less x.name n)):=by obtain⟨b,rfl⟩:=Zw c;unfold Ee;rw[Zu b,all_append];simp
theorem Gh{n:Zi}(h:Ee a n=bq):a.filter (λx=> !(less x.name n)&& !bx (x.name=n))=[]:=by
 rw[filter_eq_nil_iff];intro x b;have:less x.name n=bg:=by unfold Ee at h;simp only[Bool.not_eq_false']at h;exact all_eq_true.1 h x b
 simp[this]
theorem Tm(n s:Zi)(e:a[k]?=an x)(b:Ee (a.take k) n=bq)(d:less x.name n=bg):Cc (a.take (k+1)) n s=Cc (a.take k) n s++[x]:=by have c:=IG n e;rw[b,d]at c;unfold Cc;rw[Gh b,Gh gA,c,b];obtain⟨f,rfl⟩:=Zw e;rw[Zu f,filter_append];simp[d]
theorem Aam(n s:Zi)(e:a[k]?=an x)(b:Ee (a.take k) n=bq)(d:less x.name n=bq):Cc (a.take (k+1)) n s=Cc (a.take k) n s++[⟨n,s⟩]++(if x.name=n then []else [x]):=by
 have c:=IG n e;rw[b,d]at c;unfold Cc;rw[Gh b,c,b];have g:=Gh b;obtain⟨f,rfl⟩:=Zw e;rw[Zu f,filter_append,filter_append,g];by_cases hn:a[k].name=n
 .simp[hn,Ct]
 simp[d,hn]
theorem Vm{c:Db}(n s:Zi)(f:c.Pairwise (λa b=>less a.name b.name=bg))(p:c[k]?=an x)(g:Ee (c.take k) n=bg):x.name≠n/\Cc (c.take (k+1)) n s=Cc (c.take k) n s++[x]:=by
 have m:=IG n p;rw[g,Bool.true_or]at m;obtain⟨i,rfl⟩:=Zw p;have⟨y,u,l⟩:∃y∈c.take k,less y.name n=bq:=by unfold Ee at g;simpa using g
 obtain⟨j,r⟩:=A9 u;have⟨q,e⟩:=Zw r;rw[C0]at q;rw[getElem_take]at e;have d:=pairwise_iff_getElem.1 f j k Yv i Yv;rw[e]at d;have t:less c[k].name n=bq:=by
  cases h:less c[k].name n with
  |false=>rfl
  |true=>rw[Cx d h]at l;cases l
 have o:c[k].name≠n:=gG;refine⟨o,?_⟩;unfold Cc;rw[m,g,Zu i,filter_append,filter_append];simp[t,o]
theorem WV(n s:Zi)(b:Ee a n=bg):Cc a n s=Bn a n s:=by unfold Cc Bn;rw[b];rfl
theorem Aan(n s:Zi)(b:Ee a n=bq):Cc a n s++[⟨n,s⟩]=Bn a n s:=by unfold Cc Bn;rw[b,Gh b];simp
theorem LC(a:Db)(n s:Zi):eh (Cc a n s)<=eh a+1:=by
 have h:∀(l:Db),eh (l.filter (λx=>less x.name n))+eh (l.filter (λx=> !(less x.name n)&& !bx (x.name=n)))<=eh l:=by
  intro l;induction l with
  |nil=>simp
  |cons x l ih=>rw[filter_cons,filter_cons];cases less x.name n<;>by_cases hn:x.name=n<;>simp[hn]<;>omega
 have:=h a;unfold Cc;rw[Am,Am];split<;>simp<;>omega
def YN(w w':Zh)(e:Ending)(wd now given births:Int)(T L:Value)(ps:List Pd)(n s:Zi):Prop:=
 bs w.1.size w w'/\((100<eh (Bn ps n s)/\e=.returned (ct #[Zg 4,Ze,Ze,Ze,Ze,Zb,Zb,Zb,Zc,Ze,Zc,Zc]))\/
  (eh (Bn ps n s)<=100/\∃g c,e=.returned (ct #[Ze,Zg wd,Zg now,Zg given,Zg births,T,cr (an ⟨g,0,ba⟩) (eh (Bn ps n s)) c,L,Zc,Ze,Zc,Zc])/\eo w' w.1.size 81 2 (cr (an ⟨g,0,ba⟩) (eh (Bn ps n s)) c) (eh (Bn ps n s)) (Ad pC (Bn ps n s))))
theorem Vn(o L h f kind zB:Int){T pa:Zk}(U ra:Zk)(tc pc Y Z rn rc:Nat){F:C9}{d:Db}(n:Zi)(K:Zi)(H:Br w w.1.size T F)(t:AS w w.1.size pa d)(yX:eh F<=1000)(hl:eh d<=1000)(I:AA F s)(l:d.Pairwise (λa b=>less a.name b.name=bg)):
 D8 77 #[ct (Yg o L h f T (eh F) tc pa (eh d) pc U Z Y),ct (Ye kind s n zB K ra rn rc)] w λe j=>YN w j e o L h f (C3 T (eh F) tc) (C3 U Z Y) d n s:=by
 have⟨W,p⟩:=Ag (((w.alloc (ca (Yg o L h f T (eh F) tc pa (eh d) pc U Z Y) 30)).alloc (ca (Ye kind s n zB K ra rn rc) 91)).alloc (ca Yd 42));obtain⟨E,P,J⟩:=(BI p).1,(BI p).2.1,(BI p).2.2.1;have M:Aa W (w.1.size+1) (Xz kind s n zB K ra rn rc):=by have h1:=Aa.new (w.alloc (ca (Yg o L h f T (eh F) tc pa (eh d) pc U Z Y) 30)) (Xz kind s n zB K ra rn rc) 91;rw[Ao]at h1;rw[p];exact Aa.A h1 (Zy)
 have O:Aa W (w.1.size+2) z12:=by have h1:=Aa.new ((w.alloc (ca (Yg o L h f T (eh F) tc pa (eh d) pc U Z Y) 30)).alloc (ca (Ye kind s n zB K ra rn rc) 91)) z12 42;rw[Ao,Ao]at h1;rw[p];exact h1
 have G:=Yw (Dt o L h f T tc (C3 pa (eh d) pc) (C3 U Z Y) F s W w.1.size (Br.A H E) E.size Yv);have yV:¬CC F s<0:=by
  rcases CU F s with⟨_,hn⟩|⟨i,k,e,_⟩
  .exact absurd I hn
  omega
 have m:Hid (∀X,bs (w.1.size+3) W X->Aa X w.1.size (Yh o L h f T (eh F) tc pa (eh d) pc U Z Y)/\Aa X (w.1.size+1) (Xz kind s n zB K ra rn rc)/\Aa X (w.1.size+2) z12):=λX D=>⟨Aa.same J (D.block _ Yv),Aa.same M (D.block _ Yv),Aa.same O (D.block _ Yv)⟩;have N:=Yw p;have j:w.1.size+3<=W.1.size:=Yv;have HR:Hid (AS w w.1.size pa d):=t;have yA:Hid (Zz w W):=E;obtain⟨yJ,⟨v0,u,y,z,A,B,C,v7⟩,r,_⟩:=Yw l,Bi J,M 1 _ rfl;clear p P J O M t E H I l;delta D8;go_in;go_upto_region 1 with fail;rw[<-N.o];clear N;go_wp2_with fail;refine G.Aj ?_;rintro e a ⟨rfl,l⟩;have zZ:w.1.size+3<=a.1.size:=Zm j l.size;have yH:Hid (bs (w.1.size+3) W a):=l.ai j;have E:bs a.1.size a (a.alloc (ca #[] 81)):=Zy;have t:Hid (eo (a.alloc (ca #[] 81)) (w.1.size+3) 81 2 (Yz a.1.size 0 0) 0 []):=ownsRow_lit (base:=w.1.size+3) (e:=81) (size:=2) a #[] 0 Yv Yo rfl;have p:Hid (bs (w.1.size+3) W (a.alloc (ca #[] 81))):=yH.ag (E.ai zZ);generalize CC F s=fi at *
 clear G E l r v0 u y z A B C v7;go_wp2;go_loopw [5,6,7] (λv l i wr=>∃(k g c:Nat),k<=eh d/\i=Zg k/\l=.bool (Ee (d.take k) n)/\v=Yz g (eh (Cc (d.take k) n s)) c/\Hid (eo wr (w.1.size+3) 81 2 (Yz g (eh (Cc (d.take k) n s)) c) (eh (Cc (d.take k) n s)) (Ad pC (Cc (d.take k) n s))/\bs (w.1.size+3) W wr)) (λ_ _ i _=>eh d -(intOf i).toNat)
 case atStart=>exact⟨0,a.1.size,0,Aq _,rfl,rfl,by simp[Cc,Ee],⟨by simpa [Cc,Ee,Ad]using t.o,p⟩⟩
 clear t p;obtain⟨k,g,c,hk,rfl,rfl,rfl,M⟩:=hrel;have zE:bs w.1.size w wr:=yA.ag (M.2.ai Yv);have zU:w.1.size+3<=wr.1.size:=Zm j M.2.size;obtain⟨v0,u,y,z,A,B,C,v7⟩:=Bi (m _ M.2).1;obtain⟨r,G⟩:=Aa.c2 ((m _ M.2).2.1) 1 2;by_cases hlt:k<eh d
 case neg=>
  obtain rfl:k=eh d:=Yv
  have hO:=M.1;rw[Zt (Zx)]at hO |-;have p:Hid (Zz w wr):=zE;cases hDn:Ee d n with
  |true=>
   have t:=WV n s hDn;rw[t]at hO |-;have H:Hid (eo wr (w.1.size+3) 81 2 (Yz g (eh (Bn d n s)) c) (eh (Bn d n s)) (Ad pC (Bn d n s))):=hO;have yK:=LC d n s;rw[t]at yK;obtain⟨f5,⟨y0,q0⟩,⟨y1,q1⟩,⟨y2,q2⟩,⟨y3,q3⟩,⟨y4,q4⟩,⟨y5,q5⟩,⟨y6,q6⟩,⟨y7,q7⟩,⟨y8,q8⟩,⟨y9,q9⟩,⟨O,yQ⟩,P,yR⟩:=((m _ M.2).1 5 _ rfl).2,Bv (m _ M.2).2.2;clear hDn t zE M r G;by_cases hbig:100<eh (Bn d n s)
   .have S:(100:Int)<(eh (Bn d n s):Int):=Yv;have r:Hid (100<eh (Bn d n s)):=hbig;clear hbig hO;go_wp2;refine C1 (ct (Yc 4)) F4 ?_;exact⟨p.ag (Tn.A (BB wr (w.1.size+2) _ _ _ _ _ _ _ _ _ _ _ _) p.size L4),dp ⟨r,rfl⟩⟩
   have S:¬(100:Int)<(eh (Bn d n s):Int):=Yv;have r:Hid (eh (Bn d n s)<=100):=(by show _<=_;omega);clear hbig hO;go_wp2;refine C1 (ct #[Ze,Zg o,Zg L,Zg h,Zg f,C3 T (eh F) tc,Yz g (eh (Bn d n s)) c,C3 U Z Y,Zc,Ze,Zc,Zc]) F4 ?_;have T':=(Tn.set (V:=[w.1.size,w.1.size+2]) wr w.1.size 5 (Yz g (eh (Bn d n s)) c) Yu).ag (Tn.ai (BB (ev wr (Zd (w.1.size) 5) (Yz g (eh (Bn d n s)) c)) (w.1.size+2) Ze (Zg o) (Zg L) (Zg h) (Zg f) (C3 T (eh F) tc) (Yz g (eh (Bn d n s)) c) (C3 U Z Y) Zc Ze Zc Zc) Yu)
   exact⟨p.ag (T'.A p.size L4),eb ⟨r,g,c,rfl,(Ar H (λq S=>T'.block q (Ac H S).2 (by have:=(Ac H S).1;simp;omega))).ai Yv⟩⟩
  |false=>
   have yU:=LC d n s;have t:=Aan n s hDn;obtain⟨b,l,w8,yC,zT,yB,yM⟩:=Ms wr (w.1.size+3) _ (Cc d n s) hO ⟨n,s⟩ Yv zU 27;have b8:bs (w.1.size+3) wr w8:=Ae.grown yB zU (λq e=>(Ac hO e).1);have zN:bs (w.1.size+3) W w8:=M.2.ag b8;have p:Hid (Zz w w8):=p.ag (b8.ai Yv);have G:Hid (eh (Bn d n s)=eh (Cc d n s)+1):=(by show _=_;rw[<-t];simp);rw[t,G.o]at zT;obtain⟨H,f5,⟨⟨y0,q0⟩,⟨y1,q1⟩,⟨y2,q2⟩,⟨y3,q3⟩,⟨y4,q4⟩,⟨y5,q5⟩,⟨y6,q6⟩,⟨y7,q7⟩,⟨y8,q8⟩,⟨y9,q9⟩,⟨O,yQ⟩,P,yR⟩,z0,z1,z2,z3,z4,z5,z6,z7⟩:=Yw zT,((m _ zN).1 5 _ rfl).2,Bv (m _ zN).2.2,Bi (m _ zN).1;clear hDn t zE M b8 yB yM zT zN hO;by_cases hbig:100<(eh (Cc d n s)+1)
   .have S:(100:Int)<(eh (Cc d n s):Int)+1:=Yv;have r:Hid (100<eh (Bn d n s)):=(by show _<_;rw[G.o];exact hbig);clear hbig;go_wp2_with (at_builtin;refine wpList_append_run rfl _ _ 27 27 rfl rfl rfl yC ?_);refine C1 (ct (Yc 4)) F4 ?_;exact⟨p.ag (Tn.A (BB w8 (w.1.size+2) _ _ _ _ _ _ _ _ _ _ _ _) p.size L4),dp ⟨r,rfl⟩⟩
   have S:¬(100:Int)<(eh (Cc d n s):Int)+1:=Yv;have M:¬(100:Int)<((eh (Cc d n s)+1:Nat):Int):=Yv;have r:Hid (eh (Bn d n s)<=100):=(by show _<=_;rw[G.o];omega);clear hbig;go_wp2_with (at_builtin;refine wpList_append_run rfl _ _ 27 27 rfl rfl rfl yC ?_);refine C1 (ct #[Ze,Zg o,Zg L,Zg h,Zg f,C3 T (eh F) tc,Yz b (eh (Cc d n s)+1) l,C3 U Z Y,Zc,Ze,Zc,Zc]) F4 ?_;have T':=(Tn.set (V:=[w.1.size,w.1.size+2]) w8 w.1.size 5 (Yz b (eh (Cc d n s)+1) l) Yu).ag (Tn.ai (BB (ev w8 (Zd (w.1.size) 5) (Yz b (eh (Cc d n s)+1) l)) (w.1.size+2) Ze (Zg o) (Zg L) (Zg h) (Zg f) (C3 T (eh F) tc) (Yz b (eh (Cc d n s)+1) l) (C3 U Z Y) Zc Ze Zc Zc) Yu);have t:=(Ar H (λq S=>T'.block q (Ac H S).2 (by have:=(Ac H S).1;simp;omega))).ai (show w.1.size<=w.1.size+3 by omega);refine⟨p.ag (T'.A p.size L4),eb ⟨r,b,l,by rw[G.o],?_⟩⟩;rw[G.o];exact t
 obtain⟨R,zP,ha,hb,l⟩:=(AS.A HR zE).at hlt;subst ha;have HG:Hid (d[k]?=an d[k]):=Zv hlt;obtain⟨I,J⟩:=l k _ HG;have yI:∀X,bs (w.1.size+3) W X->ek X (Zd R (zP+k *2))=an (C4 d[k].name)/\ek X (Zd R (zP+k *2+1))=an (C4 d[k].sum):=λX D=>by have⟨b2,yT,e2,_,yL⟩:=(AS.A HR (yA.ag (D.ai Yv))).at hlt;cases e2;exact yL k _ HG
 have yW:eh (Cc (d.take k) n s)<=1001:=by have:=LC (d.take k) n s;rw[C0]at this;omega
 have zY:R<wr.1.size:=Dl zE.size;clear l;obtain⟨l,D,p,HD⟩:=Yw (Tm n s HG),Yw (Aam n s HG),Yw (Vm n s yJ HG),Yw (IG n HG);generalize d[k]=x at *
 generalize hGk:Cc (d.take k) n s=gk at *
 generalize hDk:Ee (d.take k) n=dk at *
 clear hGk hDk;obtain⟨HC,zO,yF⟩:=Yw yI,M.2,M.1;have xC:=zU;have xA:=zY;cases dk
 case' true=>
  have⟨t,E⟩:=p rfl;have X:=Yw E;have zC:Hid (Ee (d.take (k+1)) n=bg):=by show _=_;rw[HD.o];rfl
  have zA:(x.name.toList==n.toList)=bq:=BJ t;have S:(x.name.toList !=n.toList)=bg:=by simp[bne,zA]
  clear E l D p t M
 case' false=>
  cases hless:Op.bytesLess x.name.toList n.toList
  case' true=>
   have X:=Yw (l rfl hless);have zC:Hid (Ee (d.take (k+1)) n=bq):=Hh;have t:x.name≠n:=λe=>by have:=Ct n;unfold less at this;rw[e,this]at hless;cases hless
   have zA:(x.name.toList==n.toList)=bq:=BJ t;have S:(x.name.toList !=n.toList)=bg:=(by simp[bne,zA]);clear l D p t M
  case' false=>
   have zM:=Yw (D rfl hless);have zC:Hid (Ee (d.take (k+1)) n=bg):=Hh;clear l D p M;go_wp2;go_quiet (fail);have N:bs wr.1.size wr (wr.drewN nq):=Bx Ae _;generalize wr.drewN nq=wa at *
   have D:bs (w.1.size+3) W wa:=zO.ag (N.ai (Zm j zO.size));have zS:=Ah yF N;have zV:w.1.size+3<=wa.1.size:=Zm j D.size;have yN:R<wa.1.size:=Yv;clear I J r G v0 u y z A B C;obtain⟨v0,u,y,z,A,B,C,v7⟩:=Bi (m _ D).1;obtain⟨⟨r,G⟩,I,J⟩:=Aa.c2 ((m _ D).2.1) 1 2,HC wa D;obtain⟨b,l,wc,Q,P,O,_⟩:=Ms wa (w.1.size+3) _ gk zS ⟨n,s⟩ Yl zV 27;have p:bs (w.1.size+3) W wc:=D.ag (Ae.grown O zV (λq e=>(Ac zS e).1));have yS:w.1.size+3<=wc.1.size:=Zm j p.size;have yO:R<wc.1.size:=Yv;have zG:=P;clear P O;go_wp2_with (at_builtin;refine wpList_append_run rfl _ _ 27 27 rfl rfl rfl Q ?_);clear Q;clear I J r G v0 u y z A B C;obtain⟨v0,u,y,z,A,B,C,v7⟩:=Bi (m _ p).1;obtain⟨⟨r,G⟩,I,J⟩:=Aa.c2 ((m _ p).2.1) 1 2,HC wc p;by_cases t:x.name=n
   .have zA:(x.name.toList==n.toList)=bg:=(by rw[t];simp);have S:(x.name.toList !=n.toList)=bq:=(by rw[t];simp);have X:Hid (Cc (d.take (k+1)) n s=gk++[⟨n,s⟩]):=(by show _=_;rw[zM.o,if_pos t,append_nil]);clear t zM;go_wp2;go_quiet (fail);have N:bs wc.1.size wc (wc.drewN nq):=Bx Ae _;generalize wc.drewN nq=o at *
    have E:bs (w.1.size+3) W o:=p.ag (N.ai (Zm j p.size));have zH:=Ah zG N;have zW:w.1.size+3<=o.1.size:=Zm j E.size;have yP:R<o.1.size:=Yv;clear I J r G v0 u y z A B C;obtain⟨v0,u,y,z,A,B,C,v7⟩:=Bi (m _ E).1;obtain⟨⟨r,G⟩,⟨I,J⟩,H⟩:=Aa.c2 ((m _ E).2.1) 1 2,HC o E,Yw (Zn zH E);clear zH E;go_wp2;exact⟨⟨k+1,b,l,Yv,Yn,by rw[zC.o],by rw[X.o];simp,⟨by rw[X.o];simpa using H.1,H.2⟩⟩,Ys⟩
   have zA:(x.name.toList==n.toList)=bq:=BJ t;have S:(x.name.toList !=n.toList)=bg:=(by simp[bne,zA]);have X:Hid (Cc (d.take (k+1)) n s=(gk++[⟨n,s⟩])++[x]):=(by show _=_;rw[zM.o,if_neg t]);clear t zM;go_wp2;go_quiet (fail);have N:bs wc.1.size wc (wc.drewN nq):=Bx Ae _;generalize wc.drewN nq=o at *
   have E:bs (w.1.size+3) W o:=p.ag (N.ai (Zm j p.size));have zH:=Ah zG N;have zW:w.1.size+3<=o.1.size:=Zm j E.size;have yP:R<o.1.size:=Yv;clear I J r G v0 u y z A B C;obtain⟨v0,u,y,z,A,B,C,v7⟩:=Bi (m _ E).1;obtain⟨⟨r,G⟩,I,J⟩:=Aa.c2 ((m _ E).2.1) 1 2,HC o E;obtain⟨g9,zX,we,zK,zJ,zI,_⟩:=Ms o (w.1.size+3) _ (gk++[⟨n,s⟩]) zH x Yl zW 27;have t:bs (w.1.size+3) W we:=E.ag (Ae.grown zI zW (λq e=>(Ac zH e).1));have xB:w.1.size+3<=we.1.size:=Zm j t.size;have yZ:R<we.1.size:=Yv;have yE:=zJ;clear zJ zI;go_wp2_with (at_builtin;refine wpList_append_run rfl _ _ 27 27 rfl rfl rfl zK ?_);clear zK;clear I J r G v0 u y z A B C;obtain⟨v0,u,y,z,A,B,C,v7⟩:=Bi (m _ t).1;obtain⟨⟨r,G⟩,⟨I,J⟩,H⟩:=Aa.c2 ((m _ t).2.1) 1 2,HC we t,Yw (Zn yE t);clear yE t;go_wp2;exact⟨⟨k+1,g9,zX,Yv,Yn,by rw[zC.o],by rw[X.o];simp,⟨by rw[X.o];simpa using H.1,H.2⟩⟩,Ys⟩
 all_goals
  go_wp2;go_quiet (fail);have N:bs wr.1.size wr (wr.drewN nq):=Bx Ae _;generalize wr.drewN nq=wa at *
  have D:bs (w.1.size+3) W wa:=zO.ag (N.ai (Zm j zO.size));have zS:=Ah yF N;have zV:w.1.size+3<=wa.1.size:=Zm j D.size;have yN:R<wa.1.size:=Yv;clear I J r G v0 u y z A B C;obtain⟨v0,u,y,z,A,B,C,v7⟩:=Bi (m _ D).1;obtain⟨⟨r,G⟩,I,J⟩:=Aa.c2 ((m _ D).2.1) 1 2,HC wa D;go_wp2;go_quiet (fail);have N:bs wa.1.size wa (wa.drewN nq):=Bx Ae _;generalize wa.drewN nq=wb at *
  have zF:bs (w.1.size+3) W wb:=D.ag (N.ai (Zm j D.size));have yD:=Ah zS N;have yG:w.1.size+3<=wb.1.size:=Zm j zF.size;have yY:R<wb.1.size:=Yv;clear I J r G v0 u y z A B C;obtain⟨v0,u,y,z,A,B,C,v7⟩:=Bi (m _ zF).1;obtain⟨⟨r,G⟩,I,J⟩:=Aa.c2 ((m _ zF).2.1) 1 2,HC wb zF;obtain⟨b,l,wc,Q,P,O,_⟩:=Ms wb (w.1.size+3) _ gk yD x Yl yG 27;have p:bs (w.1.size+3) W wc:=zF.ag (Ae.grown O yG (λq e=>(Ac yD e).1));have yS:w.1.size+3<=wc.1.size:=Zm j p.size;have yO:R<wc.1.size:=Yv;have zG:=P;clear P O;go_wp2_with (at_builtin;refine wpList_append_run rfl _ _ 27 27 rfl rfl rfl Q ?_);clear Q;clear I J r G v0 u y z A B C;obtain⟨v0,u,y,z,A,B,C,v7⟩:=Bi (m _ p).1;obtain⟨⟨r,G⟩,⟨I,J⟩,H⟩:=Aa.c2 ((m _ p).2.1) 1 2,HC wc p,Yw (Zn zG p);clear zG p;go_wp2;exact⟨⟨k+1,b,l,Yv,Yn,by rw[zC.o],by rw[X.o];simp,⟨by rw[X.o];simpa using H.1,H.2⟩⟩,Ys⟩
theorem Oy(a:Zk)(c:Nat)(s:Zi)(w:Zh):
 D8 196 #[C3 a 0 c,CA s,.func (.func 197) #[] #[]] w λe b=>e=C5 (.tuple #[Ze,.bool bq])/\Zz w b:=by
 unfold CA Dg;delta D8;go_in;go_wp2;go_loopw [9,10] (λi j wr=>i=Zg 0/\j=Zg 0/\Zz w wr) (λ_ _ _=>0)
 case atStart=>exact⟨rfl,rfl,Zy⟩
 obtain⟨rfl,rfl,b⟩:=hrel;have d:=Aw.ne wr;go_wp2;refine AP Yr Yr ?_
 repeat (go_big_quiet_step (fail))
 refine wpQuiet_nil ?_;intro m;go_wp2
 go_ret2
 exact⟨by first|rfl|simp[Act.put],b.ag (m.h.ai b.size)⟩
theorem Aao{c:Zl}(s:Zi)(k:eo w d 122 8 O (eh c) (AV c))(q:eh c<=600)(n:s.size<=8)(o:∀x∈c,x.size=s.size)(f:c.Pairwise (λa b=>less a b=bg)):
 D8 196 #[O,CA s,.func (.func 197) #[] #[]] w λe l=>∃i:Nat,e=C5 (.tuple #[Zg i,.bool (bx (c[i]?=an s))])/\FH c s i/\Zz w l:=by
 rcases k.2 with⟨rfl,t⟩|⟨g,m,u,rfl,_⟩
 .have:c=[]:=B8 t;subst this;refine(Oy ba 0 s w).ai ?_;rintro e l ⟨rfl,p⟩;exact⟨0,Yu,⟨Zx,λj x h=>Yv,λj x _ r=>by simp at r⟩,p⟩
 exact LW g m s k q n o f
theorem Acs{f:Nat}(m:Nat)(n:Zk)(o:Nat)(P L:D4)(K B k g:Int)(c:C9)(s:Zi)(h:Aa w d [Zg K,.map (an m),Zg B,Zg k,Zg g,C3 n (eh c) o,P,L])(j:eo w f 122 8 (C3 n (eh c) o) (eh c) (AV (c.map (·.sum))))(M:eh c<=600)(z:s.size<=8)(A:∀x∈c,x.sum.size=s.size)(l:(c.map (·.sum)).Pairwise (λa b=>less a b=bg)):
 D8 173 #[Yy d,CA s] w λe p=>∃i:Nat,e=C5 (.tuple #[Zg i,.bool (bx ((c.map (·.sum))[i]?=an s))])/\FH (c.map (·.sum)) s i/\Zz w p:=by
 have⟨W,q⟩:=D6 w (Yk (kB s)) 122;have p:=(Ax q).1;have v:Aa W w.1.size (Bt s):=by rw[q];exact Aa.new w (Bt s) 122
 have r:eo W.drew f 122 8 (C2 n c o) (eh (c.map (·.sum))) (AV (c.map (·.sum))):=by rw[B0];exact Ah j p.drew
 have t:=Yw (Aao s r Yt z (λx u=>by obtain⟨y,I,rfl⟩:=mem_map.1 u;exact A y I) l);have H:ek W.drew (Zd d 5)=an (C2 n c o)/\(ek W.drew (Zd (w.1.size) 0)=an (.int .u8 (kB s 0))/\ek W.drew (Zd (w.1.size) 1)=an (.int .u8 (kB s 1))/\ek W.drew (Zd (w.1.size) 2)=an (.int .u8 (kB s 2))/\ek W.drew (Zd (w.1.size) 3)=an (.int .u8 (kB s 3))/\ek W.drew (Zd (w.1.size) 4)=an (.int .u8 (kB s 4))/\ek W.drew (Zd (w.1.size) 5)=an (.int .u8 (kB s 5))/\ek W.drew (Zd (w.1.size) 6)=an (.int .u8 (kB s 6))/\ek W.drew (Zd (w.1.size) 7)=an (.int .u8 (kB s 7))):=⟨(Aa.A h p 5 _ rfl).1,Ib (w:=W.drew) v⟩;have u:=Yw q;clear q v r h j;unfold CA Dg at *
 delta D8;go_in;go_upto_region 1 with fail;rw[<-u.o];clear u;obtain⟨J,r,u,v,C,D,E,F,G⟩:=H;go_region_with (go_at_call 196;refine t.Aj ?_;rintro e N ⟨i,rfl,q,j⟩)
 all_goals
  have h:=Yw (Zn q (p.ag ((BO j).ai p.size)));clear q j J r u v C D E F G t;go_wp2
  go_ret2
  exact⟨i,by first|rfl|simp[Act.put],h.1,h.2⟩
def DP(ks:List Kd)(x:Kd):List Kd:=ks.filter (fun k=>less k.sum x.sum)++[x]++ks.filter (fun k=> !(less k.sum x.sum))
theorem Iq{a:C9}{x u:Kd}:u∈DP a x↔u∈a++[x]:=by
 unfold DP;simp only[Bw,B6,mem_singleton];cases less u.sum x.sum<;>simp;constructor
 .rintro(h|h)
  .exact eb h
  exact dp h
 rintro(h|h)
 .exact eb h
 exact dp h
theorem Qc(a:C9)(x:Kd):eh (DP a x)=eh a+1:=by
 unfold DP;rw[Am,Am];have:∀l:List Kd,eh (l.filter (λk=>less k.sum x.sum))+eh (l.filter (λk=> !(less k.sum x.sum)))=eh l:=by
  intro l;induction l with
  |nil=>rfl
  |cons y l ih=>cases h:less y.sum x.sum<;>simp[h]<;>omega
 have:=this a;simp;omega
theorem Tp{b:C9}{x:Kd}(h:FH (b.map (·.sum)) x.sum i):DP b x=b.take i++[x]++b.drop i:=by
 have f:∀k∈b.take i,less k.sum x.sum=bg:=λk a=>by have⟨j,c⟩:=A9 a;have g:=(Zw c).1;rw[C0]at g;rw[getElem?_take_of_lt Yv]at c;exact h.lo j k.sum Yv gA
 have d:∀k∈b.drop i,less k.sum x.sum=bq:=λk a=>by have⟨j,c⟩:=A9 a;rw[getElem?_drop]at c;exact h.hi (i+j) k.sum Yv gA
 have e:=(take_append_drop i b).symm;unfold DP
 conv=>lhs;rw[e]
 rw[filter_append,filter_append,filter_eq_self.2 f,filter_eq_nil_iff.2 (λk a=>by rw[d k a];simp),filter_eq_nil_iff.2 (λk a=>by rw[f k a];simp),filter_eq_self.2 (λk a=>by rw[d k a];rfl)];simp
theorem Holds.same{i:Int}{a:C9}{f:Lit->Option Value}(h:Holds W B i g f)(d:∀u,u∈a↔u∈g):Holds W B i a f:=by
 intro s j;rcases h s j with⟨b,c⟩|⟨u,l,m,b,c⟩
 .exact dp ⟨b,λ⟨k,hk,e⟩=>c ⟨k,(d k).1 hk,e⟩⟩
 exact eb ⟨u,l,m,(d u).2 b,c⟩
theorem Aap{O P L a:Option Nat}(h:(d::m::(O.toList++(P.toList++L.toList))).Nodup)(e:∀b∈d::m::(O.toList++(P.toList++L.toList)),b<n)(c:a=O\/∃g,a=an g/\n<=g):(d::m::(a.toList++(P.toList++L.toList))).Nodup:=by
 rcases c with rfl|⟨g,rfl,f⟩
 .exact h
 cases O<;>cases P<;>cases L<;>simp_all<;>grind
theorem DU.newK{o:Zh}{c:Nat}{b j:Int}{C:C9}{y:Db}{x:Da}(h:DU w c d m O P L q p b j C y x)(v:Tn (d::m::(ej O).toList) w o){k:D4}{l:C9}{a:Int}(r:Aa o d [Zg q,.map (an m),Zg p,Zg b,Zg a,k,P,L])(B:∃n f,n<=1000000+a.toNat/\Bb o 122 m n f/\BS o c (vB d m k P L) q l f)(A:eo o c 122 8 k (eh l) (AV (l.map (·.sum))))(z:ej k=ej O\/∃g,ej k=an g/\w.1.size<=g):DU o c d m k P L q p b a l y x:=by
 have⟨D,s,t,u⟩:=Dv h.U.ap;refine⟨⟨r,B,A,Ar h.U.de (λg i=>v.block g (Ac h.U.de i).2 (λe=> ?_)),Ar h.U.dh (λg i=>v.block g (Ac h.U.dh i).2 (λe=> ?_)),h.U.bd,h.U.bm,Aap h.U.ap h.U.db z⟩⟩
 .rcases Cf.1 e with e|e
  .exact(t g i).1 e
  rcases Cf.1 e with e|e
  .exact(t g i).2.1 e
  exact(s g gA).2.2.1 i
 rcases Cf.1 e with e|e
 .exact(u g i).1 e
 rcases Cf.1 e with e|e
 .exact(u g i).2 e
 exact(s g gA).2.2.2 i
theorem Nc{a:C9}{x:Kd}(h:FH (a.map (·.sum)) x.sum i):(a.map (·.sum)).take i++[x.sum]++(a.map (·.sum)).drop i=(DP a x).map (·.sum):=by rw[Tp h];simp[map_take,map_drop]
theorem BS.snoc{a:Nat}{j:C9}{f:Lit->Option Value}(h:BS w a V c j f){x:Kd}{d:Zk}{rc:Nat}(t:(x.sum.size:Int)=c)(r:c<=8)(l:Er w a V d x.D):BS w a V c (j++[x]) (upd f (keyL x.sum) (Ep x d rc)):=by
 intro s m;by_cases he:keyL s=keyL x.sum
 .have:s=x.sum:=key_inj he Yv Yv;subst this;exact eb ⟨x,d,rc,Yu,rfl,DL _ _ _,l⟩
 rw[DG _ _ he];have k:x.sum≠s:=gG;rcases h s m with⟨g,i⟩|⟨u,n,o,g,i,p,q⟩
 .refine dp ⟨g,λ⟨u,b,e⟩=> ?_⟩;rcases Bw.1 b with b|b
  .exact i ⟨u,b,e⟩
  simp at b;subst b;exact k e
 exact gG
theorem BS.same{g:Int}{d a:C9}{f:Lit->Option Value}(h:BS w base V g d f)(i:∀u,u∈a↔u∈d):BS w base V g a f:=by
 intro s j;rcases h s j with⟨b,c⟩|⟨u,l,m,b,c⟩
 .exact dp ⟨b,λ⟨k,hk,e⟩=>c ⟨k,(i k).1 hk,e⟩⟩
 exact gG
def RP(w:Zh)(base:Nat)(V:List Nat)(m:Nat)(wd births:Int)(ks:List Kd):Prop:=∃n f,n<=1000000+births.toNat/\Bb w 122 m n f/\BS w base V wd ks f
theorem RP.S{j:Zh}{c:Nat}{U:List Nat}{k a:Int}{i:C9}(h:RP w c V m k a i)(g:Tn U w j)(p:∀b∈U,b∈V)(q:m∉U):RP j c V m k a i:=by obtain⟨n,f,l,e,o⟩:=h;exact⟨n,f,l,Bb.same e (g.block m e.lt q),o.move g (λb d=> dp (p b d)) (λb d=> dp d)⟩
theorem HN.A{b:Zh}(h:HN w m N)(d:Zz w b):HN b m N:=by obtain⟨n,f,c,a⟩:=h;exact⟨n,f,c,a.ah d a.lt⟩
theorem HN.same{a:Zh}(h:HN w m N)(d:a.1[m]?=w.1[m]?):HN a m N:=by obtain⟨n,f,b,c⟩:=h;exact⟨n,f,b,Bb.same c d⟩
theorem Aaq{H J a:Int}{c:C9}{ps:Db}{ls:Da}(s n:Zi)(l:Zl)(D:Zk)(rc:Nat)(h:DU w j d m O P L H J q a c ps ls)(zA:Fi H c)(yA:(s.size:Int)=H)(hl:eh c<600)(yE:0<=a)(yF:a<1000000000)(M:Er w j (vB d m O P L) D l):
 D8 162 #[Yy d,C4 s,ct #[C4 n,C3 D (eh l) rc]] w λe k=>e=C5 (.tuple #[])/\(∃O',DU k j d m O' P L H J q (a+1) (DP c ⟨s,a+1,n,l⟩) ps ls/\(ej O'=ej O\/∃g,ej O'=an g/\w.1.size<=g))/\Tn (d::m::(ej O).toList) w k:=by
 have⟨r,t,zB⟩:=Au h.U.ord;subst zB;have⟨W0,B⟩:=D6 w #[C4 n,C2 D l rc] 76;have y:=(Ax B).1;obtain⟨I,o,X,F⟩:=(Ax B).2.2,h.A y,D7 W0 d 4 (Zg (a+1));have yH:d<w.1.size:=h.U.box.lt;have E:Tn [d] W0 X:=by rw[F];exact AX _ _ _ _
 have z:Aa X d [Zg H,.map (an m),Zg J,Zg q,Zg (a+1),C2 r c t,P,L]:=by rw[F];exact o.U.box.set 4 _
 have C:=Dv o.U.ap;have G:Aa X w.1.size [C4 n,C2 D l rc]:=Aa.same I (E.block _ I.lt Yt);have N:eo X j 122 8 (C2 r c t) (eh c) (AV (c.map (·.sum))):=Ar o.U.ord (λg k=>E.block g (Ac o.U.ord k).2 (by simp;exact(C.2.1 g k).1));have Z:RP X j (vB d m (C2 r c t) P L) m H a c:=RP.S o.U.map E (by intro b k;simp at k;subst k;simp[vB]) (by simp;exact λe=>C.1 e.symm);have V:Er X j (vB d m (C2 r c t) P L) D l:=(M.move (U:=[]) (Tn.of y) Yu (λb k=> dp k)).move E (by intro b k;simp at k;subst k;exact dp N1) (λb k=> dp k);obtain⟨c4,k4⟩:=o.U.box 4 _ rfl;obtain⟨c5,_⟩:=o.U.box 5 _ rfl;have yG:(a==1000000000)=bq:=Yt;obtain⟨zN,HX,T,HP⟩:=Yw B,Yw F,Yw h,Yw (Zn z (Zn G (Zn N (Zn Z V))));have HT:Hid (Tn [d] w X):=(Tn.of y).ag E;clear B F o h M I E z G N Z V y;delta D8;go_in;go_upto_region 1 with fail;rw[<-zN.o];go_wp2_with fail;rw[<-HX.o];refine(MN s X).ai ?_;rintro e y ⟨rfl,M⟩;have⟨K,Y⟩:=D6 y (Yk (kB s)) 122;have u:=(Ax Y).1;have F:bs X.1.size X K:=M.ag (u.ai M.size);have h:Aa K y.1.size (Bt s):=by rw[Y];exact Aa.new y (Bt s) 122
 have⟨z,G,N,Z,V⟩:=HP.o;have yD:j<=X.1.size:=Zm T.lo HT.size;obtain⟨E,i,oK⟩:=z.A F,G.A F,Ah N F;have rK:Er K j (vB d m (C2 r c t) P L) D l:=V.move (U:=[]) (Tn.of F) Yu (λb k=> dp k);obtain⟨n1,f,zI,A,hH⟩:=RP.S Z (U:=[]) (Tn.of F) Yu Yu;have hM:=A;have C:=Dv T.U.ap;obtain⟨B,zM,R,I⟩:=(hM.ah (Below.refl K.1.size K).drew hM.lt).put keyed underlying98 (val:=Ep ⟨s,a+1,n,l⟩ D rc) Yo (EF s);have o:ep K B (an m):=FV I;have kl:y.1.size<K.1.size:=h.lt;have yJ:m<w.1.size:=by have⟨_,_,_,zP,_⟩:=T.U.map;exact zP.lt
 have yK:w.1.size<y.1.size:=by have h1:=M.size;have h2:=G.lt;omega
 have k5:Aa B y.1.size (Bt s):=Aa.au (v:=.int .u8 (kB s 0)) h o Yv;have W:Aa B d _:=Aa.au E o (λe=>C.1 e.symm);have t5:Aa B w.1.size [C4 n,C2 D l rc]:=Aa.au i o Yv;have P4:ek K.drew (Zd d 1)=an (.map (an m))/\ek K.drew (Zd d 4)=an (Zg (a+1))/\ek K.drew (Zd (w.1.size) 0)=an (C4 n)/\ek K.drew (Zd (w.1.size) 1)=an (C2 D l rc)/\_:=⟨(E 1 _ rfl).1,(E 4 _ rfl).1,(i 0 _ rfl).1,(i 1 _ rfl).1,Ib (w:=K.drew) h⟩;have P5:ek B (Zd d 1)=an (.map (an m))/\ek B (Zd d 4)=an (Zg (a+1))/\ek B (Zd (w.1.size) 0)=an (C4 n)/\ek B (Zd (w.1.size) 1)=an (C2 D l rc)/\_:=⟨(W 1 _ rfl).1,(W 4 _ rfl).1,(t5 0 _ rfl).1,(t5 1 _ rfl).1,Ib k5⟩;have o5:eo B j 122 8 (C2 r c t) (eh c) (AV (c.map (·.sum))):=ownsRow.kept oK o (eb (λe=>(C.2.1 m e).2.1 rfl));have Q:=Acs m r t P L H J q (a+1) c s W o5 Yv (Dl zA.w8) (λx S=>Dl (zA.sz x S)) zA.dz;unfold CA Dg at Q zM;unfold Ep at zM;obtain⟨HQ,S,HK⟩:=Yw Q,Yw (Zn W (Zn o5 (Zn k5 (Zn R (Zn o (Zn hH (Zn rK (Zn F zI)))))))),Yw Y;clear z G N Z V E i oK rK A hM Q Y HP W o5 k5 R I o hH t5 h F u c4 k4 c5;go_upto_region 5 with fail;rw[<-HK.o];go_region_held3 (λX=>ek X (Zd d 1)=an (.map (an m))/\ek X (Zd d 4)=an (Zg (a+1))/\ek X (Zd (w.1.size) 0)=an (C4 n)/\ek X (Zd (w.1.size) 1)=an (C2 D l rc)/\(ek X (Zd (y.1.size) 0)=an (.int .u8 (kB s 0))/\ek X (Zd (y.1.size) 1)=an (.int .u8 (kB s 1))/\ek X (Zd (y.1.size) 2)=an (.int .u8 (kB s 2))/\ek X (Zd (y.1.size) 3)=an (.int .u8 (kB s 3))/\ek X (Zd (y.1.size) 4)=an (.int .u8 (kB s 4))/\ek X (Zd (y.1.size) 5)=an (.int .u8 (kB s 5))/\ek X (Zd (y.1.size) 6)=an (.int .u8 (kB s 6))/\ek X (Zd (y.1.size) 7)=an (.int .u8 (kB s 7))))
  (first|with_reducible exact P4|with_reducible exact P5)
  (fail)
 have⟨q0,q1,q2,q3,q4,q5,q6,q7⟩:=Ib S.2.2.1;go_wp2_with fail;refine HQ.Aj ?_;rintro e E ⟨i,rfl,zK,z⟩;have zE:=Aa.A S.1 z;have zX:=Aa.A (v:=.int .u8 (kB s 0)) S.2.2.1 z;have zJ:eo E j 122 8 (C2 r c t) (eh (c.map (·.sum))) (Ad Bt (c.map (·.sum))):=by rw[B0];exact Ah S.2.1 z
 have zW:i<=eh c:=by have:=zK.le;rwa[B0]at this
 have⟨A,hA⟩:=D6 E.drew (ei (Bt s)) 122;have N:bs E.1.size E A:=by rw[hA];exact Ae.drew.alloc (Zx) _
 have zF:j<=E.1.size:=by have h1:=S.2.2.2.2.1.size;have h2:=z.size;have h3:=S.2.2.2.2.2.2.2.1.size;omega
 have G:=Rv (eb ⟨rfl,rfl,rfl,rfl,rfl,rfl,rfl⟩) TM Hg i (c.map (·.sum)) s E.1.size (Ah zJ N) N8 (by rw[B0];exact zW) (Zm zF N.size) (λe=>Nat.lt_irrefl _ (Ac zJ e).2) (by rw[hA];exact heap_alloc_new E.drew _);rw[B0,hA]at G;obtain⟨HI,Q,xA⟩:=Yw G,Yw zK,zE.A N;have zT:d<E.1.size:=zE.lt;obtain⟨⟨y5,_⟩,⟨r0,r1,r2,r3,r4,r5,r6,r7⟩,H6,zG⟩:=zE 5 _ rfl,Ib zX,Yw (Zn z (Zn N xA)),Yw hA;have zC:∀b,ej (C2 r c t)=an b->b≠d/\b≠m:=λb k=>⟨(C.2.1 b k).1,(C.2.1 b k).2.1⟩;have zU:d<A.1.size:=xA.lt;go_upto_region 7 with fail;have zO:bs E.1.size E (E.alloc (ca (Yk (kB s)) 122)):=Zy;have a5:=(zO.cell (p:=⟨d,5,ba⟩) zT).ag y5;unfold Bt Dg at HI
 go_region_law (first
  |(go_simp;go_at_call 186;refine HI.Aj ?_;rintro e V ⟨O',rfl,h,zV,zY⟩;have⟨oa',oc',zB⟩:=Au h;subst zB;have Z:ep A V (ej (C2 r c t)):=(by rw[zG.o];exact zV);have x7:=Aa.same H6.2.2 (Z.block d zU (λe=>(zC d e.symm).1 rfl));obtain⟨f5,k5⟩:=x7 5 _ rfl))
 all_goals
  have o:ej (C3 oa' (eh c+1) oc')=ej (C2 r c t)\/ej (C3 oa' (eh c+1) oc')=an A.1.size:=by rw[zG.o];exact zY
  have H7:=Yw (Zn x7 (Zn Z (Zn o h)));have Y:(∃u,DU (ev V (Zd d 5) (C3 oa' (eh c+1) oc')) j d m u P L H J q (a+1) (DP c ⟨s,a+1,n,l⟩) ps ls/\(ej u=ej (C2 r c t)\/∃g,ej u=an g/\w.1.size<=g))/\Tn (d::m::(ej (C2 r c t)).toList) w (ev V (Zd d 5) (C3 oa' (eh c+1) oc')):=by
   obtain⟨⟨W,o5,yL,R,I,hH,rK,F,zI⟩,⟨z,N,xA⟩,x7,Z,o,h⟩:=S.o,H6.o,H7.o;have t1:Tn (d::m::(ej (C2 r c t)).toList) w X:=HT.ai Yu;have t2:Tn (d::(ej (C2 r c t)).toList) B (ev V (Zd d 5) (C3 oa' (eh c+1) oc')):=(((Tn.of z).ag (Tn.of N)).ag ((Du Z).ai (λb k=>mem_cons_of_mem _ k))).ag ((AX V d 5 _).ai Yu);have t3:Tn (d::m::(ej (C2 r c t)).toList) K (ev V (Zd d 5) (C3 oa' (eh c+1) oc')):=(Tn.grown I Yu).ag (t2.ai (by intro b k;simp at k |-;rcases k with k|k<;>simp[k]));have tt:=(t1.ag (Tn.of F)).ag t3;have yC:w.1.size<=K.1.size:=Zm HT.size F.size;have yB:w.1.size<=A.1.size:=Zm (Zm (Zm yC I.size) z.size) N.size;have yI:∀b∈d::m::(ej (C2 r c t)).toList,j<=b:=by
    intro b k;rcases Cf.1 k with rfl|k
    .exact T.U.bd
    rcases Cf.1 k with rfl|k
    .exact T.U.bm
    exact(Ac T.U.ord (D2 k)).1
   have zZ:(ev V (Zd d 5) (C3 oa' (eh c+1) oc')).1[m]?=B.1[m]?:=t2.block m R.lt (λe=>by
    rcases Cf.1 e with e|e
    .exact C.1 e.symm
    exact(zC m (D2 e)).2 rfl)
   have zS:=Bb.same R zZ;have zH:ej (C3 oa' (eh c+1) oc')=ej (C2 r c t)\/∃g,ej (C3 oa' (eh c+1) oc')=an g/\w.1.size<=g:=by
    rcases o with o|o
    .exact dp o
    exact eb ⟨_,o,yB⟩
   have g:∀b,ej (C3 oa' (eh c+1) oc')=an b->b≠d:=λb k=>by
    rcases o with o|o
    .exact(zC b (o▸k)).1
    rw[o]at k;cases k;omega
   refine⟨⟨_,T.newK tt (x7.set 5 _) ⟨n1+1,_,Yv,zS,?_⟩ ?_ zH,zH⟩,tt⟩
   .refine((hH.snoc (x:=⟨s,a+1,n,l⟩) (rc:=rc) yA zA.w8 rK).same (λu=>Iq)).move t3 (λb k=> dp ?_) (λb k=> ?_)
    .unfold vB;simp only[Cf,Bw]at k |-;rcases k with e|e|e
     .exact dp e
     .exact eb (dp e)
     exact eb (eb (dp e))
    unfold vB at k |-;simp only[Cf,Bw]at k |-;rcases k with e|e|e|e|e
    .exact dp (dp e)
    .exact dp (eb (dp e))
    .rcases o with o|o
     .rw[o]at e;exact dp (eb (eb (dp e)))
     rw[o]at e;simp at e;exact eb (by have h1:=I.size;have h2:=z.size;have h3:=N.size;omega)
    .exact dp (eb (eb (eb (dp e))))
    exact dp (eb (eb (eb (eb e))))
   rw[Qc,<-Nc (x:=⟨s,a+1,n,l⟩) Q.o];exact BM h g 5 _
  have u:=Yw Y;go_wp2;go_end0;exact⟨rfl,u⟩
theorem WW{t a:Int}{f:C9}{x:Db}{u:Da}(s b:Zi)(o:Zk)(q p:Nat)(h:DU w j d m O P L y t c a f x u)(C:eh f=600\/a=1000000000):
 D8 162 #[Yy d,C4 s,ct #[C4 b,C3 o q p]] w λe g=>e=.panicked [{v:=Cq 4 ⟨#[]⟩ ⟨#[]⟩,recovered:=bq}]/\Zz w g:=by
 have⟨D,E,r⟩:=Au h.U.ord;subst r;have⟨z,i⟩:=D6 w #[C4 b,C3 o q p] 76;have g:=(Ax i).1;have l:=h.A g;obtain⟨⟨A,B⟩,k,n⟩:=Aa.c2 l.U.box 4 5,Yw i,Yw g;clear i l h g;by_cases hk:eh f=600
 .have g:((eh f:Int)==600)=bg:=Yt;delta D8;go_in;go_upto_region 1 with fail;rw[<-k.o];go_wp2;exact⟨rfl,rfl,n⟩
 have g:((eh f:Int)==600)=bq:=Yt;delta D8;go_in;go_upto_region 1 with fail;rw[<-k.o];go_wp2;exact⟨rfl,rfl,n⟩
def Bm(text:Zi)(refs:Zl)(wd:Int):Zi:=Ds (AG text refs wd).data.toList wd.toNat
theorem Re{a:Int}(f:Lit->Option Value)(s:Zi)(j:Bb w 122 m n f)(o:Holds W B a g f)(d:(s.size:Int)=a):
 (¬AA g s/\D8 161 #[.agg #[Zg a,.map (an m)],C4 s] w λe c=>e=C5 (.tuple #[.agg #[Zc,Ze,Zc,Zb],.bool bq])/\Zz w c)\/
 ∃x b h,x∈g/\x.sum=s/\Ab W B b x.D/\D8 161 #[.agg #[Zg a,.map (an m)],C4 s] w λe c=>e=C5 (.tuple #[.agg #[C4 x.sum,Zg x.born,C4 x.i,C3 b (eh x.D) h],.bool bg])/\Zz w c:=by
 rcases o s d with⟨i,c⟩|⟨x,b,h,i,c,k,l⟩
 .exact dp ⟨c,Iw a f s j d _ _ _ _ _ ⟨_,_,_,rfl⟩ gA Yt⟩
 exact eb ⟨x,b,h,i,c,l,Iw a f s j d _ _ _ _ _ ⟨_,_,_,rfl⟩ (by rw[k];rfl) gA⟩
def Aec(base d m:Nat)(O P L:Value)(wd now given births:Int)(ks:List Kd)(ps:List Pd)(ls:List Ld)(text:Zi)(refs:Zl)(w:Zh)(e:Ending)(w':Zh):Prop:=
 ((¬∀r∈refs,AA ks r)/\e=.panicked [{v:=Cq 2 ⟨#[]⟩ ⟨#[]⟩,recovered:=bq}]/\Zz w w')\/
 ((∀r∈refs,AA ks r)/\(
   (∃k∈ks,k.sum=Bm text refs wd/\AG k.i k.D wd=AG text refs wd/\e=.returned (.string (Bm text refs wd))/\Zz w w')\/
   (∃k∈ks,k.sum=Bm text refs wd/\AG k.i k.D wd≠AG text refs wd/\e=.panicked [{v:=Cq 3 (AG k.i k.D wd) (AG text refs wd),recovered:=bq}]/\Zz w w')\/
   (¬AA ks (Bm text refs wd)/\(eh ks=600\/births=1000000000)/\e=.panicked [{v:=Cq 4 ⟨#[]⟩ ⟨#[]⟩,recovered:=bq}]/\Zz w w')\/
   (¬AA ks (Bm text refs wd)/\eh ks<600/\births<1000000000/\e=.returned (.string (Bm text refs wd))/\(∃O',DU w' base d m O' P L wd now given (births+1) (DP ks ⟨Bm text refs wd,births+1,text,refs⟩) ps ls/\(ej O'=ej O\/∃g,ej O'=an g/\w.1.size<=g))/\Tn (d::m::(ej O).toList) w w')))
theorem Aar{l u j:Int}{o:C9}{H:Db}{G:Da}(f:Zi)(a:Zl)(A:Zk)(N:Nat)(h:DU w n d m O P L l u j c o H G)(q:Fi l o)(h1:1<=l)(s:∀k∈o,k.i.size<=ew)(zH:((Bm f a l).size:Int)=l)(zV:f.size<=ew)(yC:eh a<=1000)(zU:0<=c)(zZ:c<=1000000000)(hr:Er w n (vB d m O P L) A a):
 D8 134 #[Yy d,ct #[C4 f,C3 A (eh a) N]] w (Aec n d m O P L l u j c o H G f a w):=by
 have⟨W,p⟩:=D6 w #[C4 f,C2 A a N] 76;obtain⟨z,yE,t,v⟩:=(Ax p).1,(Ax p).2.1,(Ax p).2.2,Yw p;have HD:Hid (∀X,Zz W X->DU X n d m O P L l u j c o H G/\Er X n (vB d m O P L) A a/\Aa X w.1.size [C4 f,C2 A a N]/\Zz w X):=λX y=>by have F:=z.ag (y.ai Yv);exact⟨h.A F,hr.move (U:=[]) (Tn.of F) Yu (λb F=> dp F),Aa.A t y,F⟩
 obtain⟨y,zP,gx⟩:=Yw q,Yw s,h.lo;clear p h hr z q s;obtain⟨C,E⟩:=Aa.c2 t 0 1;delta D8;go_in;go_upto_region 1 with fail;rw[<-v.o];clear v;go_wp2;go_loopw [15] (λi wr=>∃(k:Nat),k<=eh a/\i=Zg k/\Hid ((∀r∈a.take k,AA o r)/\Zz W wr)) (λi _=>eh a -(intOf i).toNat)
 case atStart=>exact⟨0,Aq _,rfl,⟨λr hr=>by simp at hr,Ae⟩⟩
 clear C E t;obtain⟨k,hk,rfl,t⟩:=hrel;have⟨v,B,R,J⟩:=HD wr t.2;have zA:=Yw v;have X:=Yw J;obtain⟨C,E⟩:=Aa.c2 R 0 1;by_cases hlt:k<eh a
 .obtain⟨b,yF,ha,yA,p⟩:=B.row.at hlt;subst ha;have HG:=Yw (Zv hlt);have M:=p k _ HG;have zS:=Yw (Zu hlt);clear p v B;generalize a[k]=r at *
  by_cases hth:AA o r
  .have p:=Yw (EM zA.U y.sz hth);have Q:=Yw hth;clear hth;go_wp2_with fail;refine p.Aj ?_;rintro e h ⟨rfl,s⟩;have D:=Yw (t.2.ag (s.ai t.2.size));clear p s M C E R;go_wp2;refine⟨⟨k+1,Yv,Yn,⟨?_,D⟩⟩,Ys⟩;rw[zS.o];intro r' z;rcases Bw.1 z with z|z
   .exact t.1 r' z
   simp at z;rw[z];exact Q.o
  have zM:=Yw (KF r zA.U y.sz hth);have Q:=Yw hth;clear hth;go_wp2_with fail;refine zM.Aj ?_;rintro e h ⟨rfl,s⟩;go_wp2;exact⟨rfl,dp ⟨λp=>Q (p r (Zs HG)),rfl,X.ag (s.ai X.size)⟩⟩
 obtain rfl:k=eh a:=Yv;have p:=t.1;rw[Zt (Zx)]at p;obtain⟨q,⟨M,_⟩,i⟩:=Yw p,v.U.box 0 _ rfl,Yw t.2;clear p t;have zX:=i.size;have p:bs wr.1.size wr wr.drew:=gB;have t:=Yw (Np f N l (Ab.X B.row p) Yv zV);clear v B;go_upto_region 6 with fail;go_region_with (go_at_call 159;refine t.Aj ?_;rintro e h ⟨rfl,s⟩)
 all_goals
  have D:=Yw (i.ag ((p.ag s).ai zX));have⟨I,V,Z,v⟩:=HD h D;obtain⟨T,_⟩:=I.U.box 0 _ rfl;have K:=Yw (VM (AG f a l) l h (FT _ _ _) h1 y.w8);have zO:Hid (Ds (AG f a l).data.toList l.toNat=Bm f a l):=rfl;rw[zO.o]at K;generalize hFF:AG f a l=FF at *
  generalize hSS:Bm f a l=SS at *
  clear s M C E R t p J;go_wp2_with fail;refine K.Aj ?_;rintro e B ⟨rfl,E⟩;have zJ:=Yw (D.ag (E.ai D.size));have⟨t,C,J,p⟩:=HD B zJ;obtain⟨⟨d0,d1⟩,r,zN,zT,s,n3,f3,yB,S,R⟩:=Aa.c2 t.U.box 0 1,Yw t,Yw C,Yw J,Yw p,t.U.map;clear E K T I V Z v C J p t;rcases Re f3 SS S R.holds zH with⟨p,E⟩|⟨x,xa,xc,T,zW,zI,E⟩
  .have I:=Yw E;have zB:=Yw p;clear E p S R;go_wp2_with fail;refine I.Aj ?_;rintro e w4 ⟨rfl,K⟩;have⟨Y,v⟩:=D6 w4 #[Zc,Ze,Zc,Zb] 78;have Z:=(Ax v).1;have p:Hid (Zz B Y):=gD;obtain⟨V,C,g⟩:=Yw v,r.A p,Aa.A zT p;obtain⟨y0,y1⟩:=Aa.c2 g 0 1;have t:=Yw (s.ag (p.ai s.size));by_cases hfull:eh o=600\/c=1000000000
   .have J:=Yw (WW SS f A (eh a) N C hfull);have zK:=Yw hfull;clear K v Z C g hfull d0 d1 I;go_upto_region 10 with fail;rw[<-V.o];go_wp2_with fail;refine J.Aj ?_;rintro e w5 ⟨rfl,M⟩;go_wp2;exact⟨rfl,eb ⟨q,eb (eb (dp ⟨hSS▸zB.o,zK,rfl,t.ag (M.ai t.size)⟩))⟩⟩
   have zG:eh o<600:=Dl y.len;have zF:c<1000000000:=Yv;have J:=Yw (Aaq SS f a A N C y zH zG zU zF (Er.move zN (U:=[]) (Tn.of p) Yu (λb F=> dp F)));clear K v Z C g hfull d0 d1 I;go_upto_region 10 with fail;rw[<-V.o];go_wp2_with fail;refine J.Aj ?_;rintro e w5 ⟨rfl,⟨O',g,zC⟩,zE⟩;have HQ:=Yw (Zn g (Zn zC zE));clear g zC zE J;go_wp2;go_ret;subst hSS;refine eb ⟨q,eb (eb (eb ⟨zB,zG,zF,rfl,⟨O',HQ.1,?_⟩,(Tn.of t).ag HQ.2.2⟩))⟩;rcases HQ.2.1 with e|⟨g,e,hg⟩
   .exact dp e
   exact eb ⟨g,e,Zm t.size hg⟩
  have I:=Yw E;have J:Hid (x∈o/\x.sum=SS):=gH;clear E S R;go_wp2_with fail;refine I.Aj ?_;rintro e w4 ⟨rfl,K⟩;have⟨Y,v⟩:=D6 w4 #[C4 x.sum,Zg x.born,C4 x.i,C2 xa x.D xc] 78;have Z:=(Ax v).1;have p:Hid (Zz B Y):=gB;obtain⟨V,C,yK⟩:=Yw v,r.A p,(Ax v).2.2;obtain⟨⟨y2,y3⟩,e0,_⟩:=Aa.c2 yK 2 3,C.U.box 0 _ rfl;have t:=Yw (s.ag (p.ai s.size));have S:bs Y.1.size Y Y.drew:=gB;have zY:=C.lo;have E:=Ab.X zI (p.ag (S.ai p.size));have R:=Yw (Np x.i xc l E (Dl (y.D x T).1) (zP x T));clear K v Z C yK d0 d1 I zI E T zW;go_upto_region 12 with fail;rw[<-V.o];go_region_with (go_at_call 159;refine R.Aj ?_;rintro e w5 ⟨rfl,M⟩)
  all_goals
   have C:=Yw (t.ag ((S.ag M).ai t.size));clear M y2 y3 e0 R;by_cases hsame:AG x.i x.D l=FF
   .have I:(FF.toList !=FF.toList)=bq:=Yu;rw[hsame];have v:=Yw hsame;clear hsame;go_wp2;go_ret;subst hSS;exact eb ⟨q,dp ⟨x,J.1,J.2,v.ag hFF.symm,rfl,C⟩⟩
   have v:=Yw hsame;have K:=BJ hsame;have I:((AG x.i x.D l).toList !=FF.toList)=bg:=gA;clear hsame;generalize hGG:AG x.i x.D l=GG at *
   have E:=Yw hGG;clear hGG;go_wp2;subst hSS;refine⟨rfl,eb ⟨q,eb (dp ⟨x,J.1,J.2,?_,?_,C⟩)⟩⟩
   .rw[E.o,hFF];exact v.o
   rw[E.o,hFF];rfl
def CJ(wd births:Int)(ks:List Kd)(text:Zi)(refs:Zl)(ks1:List Kd)(aj:Int):Prop:=
 (∃k∈ks,k.sum=Bm text refs wd/\AG k.i k.D wd=AG text refs wd/\ks1=ks/\aj=births)\/
 (¬AA ks (Bm text refs wd)/\eh ks<600/\births<1000000000/\ks1=DP ks ⟨Bm text refs wd,births+1,text,refs⟩/\aj=births+1)
def GI(wd given births:Int)(ks:List Kd)(ls:List Ld)(text:Zi)(refs:Zl)(c:Int)(a b:Zi):Prop:=
 ((¬∀r∈refs,AA ks r)/\c=2/\a=⟨#[]⟩/\b=⟨#[]⟩)\/
 ((∀r∈refs,AA ks r)/\(
   (∃k∈ks,k.sum=Bm text refs wd/\AG k.i k.D wd≠AG text refs wd/\c=3/\a=AG k.i k.D wd/\b=AG text refs wd)\/
   (¬AA ks (Bm text refs wd)/\(eh ks=600\/births=1000000000)/\c=4/\a=⟨#[]⟩/\b=⟨#[]⟩)\/
   ((∃ks1 aj,CJ wd births ks text refs ks1 aj)/\(eh ls=200\/given=1000000000)/\c=4/\a=⟨#[]⟩/\b=⟨#[]⟩)))
theorem CJ.there{a:Int}{i:C9}{c:Zi}{b:Zl}{d:C9}(h:CJ e a i c b d aj):AA d (Bm c b e):=by
 rcases h with⟨k,f,g,_,rfl,_⟩|⟨_,_,_,rfl,_⟩
 .exact⟨k,f,g⟩
 exact⟨⟨Bm c b e,a+1,c,b⟩,Iq.2 Yu,rfl⟩
theorem CJ.sz{a:Int}{i:C9}{d:Zi}{c:Zl}(h:CJ e a i d c g aj)(f:∀k∈i,(k.sum.size:Int)=e)(hS:((Bm d c e).size:Int)=e):∀k∈g,(k.sum.size:Int)=e:=by
 rcases h with⟨k,b,j,_,rfl,_⟩|⟨_,_,_,rfl,_⟩
 .exact f
 intro k b;rcases Bw.1 (Iq.1 b)with b|b
 .exact f k b
 simp at b;rw[b];exact hS
theorem Oz{q:Nat}{f n:Int}{B:C9}{R:Db}{A:Da}(s I l:Zi)(t:Int){i:Zl}{F:Zk}(H:Nat)(h:DU w q d m O P L p y f n B R A)(x:Fi p B)(h1:1<=p)(yP:∀k∈B,k.i.size<=ew)(zU:((Bm l i p).size:Int)=p)(yO:l.size<=ew)(yL:eh i<=1000)(yD:0<=n)(yE:n<=1000000000)(G:Er w q (vB d m O P L) F i)(hl:eh A<=200)(yH:0<=f)(yX:f<=1000000000)(yJ:0<=y)(yK:y<=1000000000)(yM:0<=t)(yN:t<=1000000000):
 D8 97 #[Yy d,ct (Ye 1 s I t l F (eh i) H)] w λe o=>(∃c a b,GI p f n B A l i c a b/\e=.panicked [{v:=Cq c a b,recovered:=bq}]/\Tn (vB d m O P L) w o)\/
  (∃z aj,(∀r∈i,AA B r)/\CJ p n B l i z aj/\eh A<200/\f<1000000000/\e=C5 (ct #[Ze,Ze,Ze,Ze,Ze,Zb,Zb,Zb,C4 (Bm l i p),Zg (f+1),Zc,Zc])/\∃O' L',DU o q d m O' P L' p y (f+1) aj z R (A++[⟨f+1,Bm l i p,y+t⟩])/\Tn (vB d m O P L) w o):=by
 have⟨W,u⟩:=Ag (((w.alloc (ca (Ye 1 s I t l F (eh i) H) 91)).alloc (ca Yd 42)).alloc (ca Yd 42));obtain⟨D,N,J⟩:=(BI u).1,(BI u).2.1,(BI u).2.2.1;have zR:Aa W (w.1.size+1) z12:=by have h1:=Aa.new (w.alloc (ca (Ye 1 s I t l F (eh i) H) 91)) z12 42;rw[Ao]at h1;rw[u];exact Aa.A (v:=Ze) h1 (Zy)
 have Q:Aa W (w.1.size+2) z12:=by have h1:=Aa.new ((w.alloc (ca (Ye 1 s I t l F (eh i) H) 91)).alloc (ca Yd 42)) z12 42;rw[Ao,Ao]at h1;rw[u];exact h1
 have M:W.1[w.1.size+1]?=an (ca Yd 42):=by rw[u,Below.heap_alloc _ _ _ Yu];have:=heap_alloc_new (w.alloc (ca (Ye 1 s I t l F (eh i) H) 91)) (ca Yd 42);rw[Ao]at this;exact this
 have K:W.1[w.1.size+2]?=an (ca Yd 42):=by have:=heap_alloc_new ((w.alloc (ca (Ye 1 s I t l F (eh i) H) 91)).alloc (ca Yd 42)) (ca Yd 42);rw[Ao,Ao]at this;rw[u];exact this
 have E:=h.A D;have yW:=h.U.box.lt;have C:∀b∈vB d m O P L,b<w.1.size:=h.U.db;have yV:q<=w.1.size:=h.lo;have HC:=Yw (Aar l i F H E x h1 yP zU yO yL yD yE (G.move (U:=[]) (Tn.of D) Yu (λb o=> dp o)));have HW:=Yw u;have HZ:Hid (Aa W (w.1.size+1) z12/\Aa W (w.1.size+2) z12/\W.1[w.1.size+1]?=an (ca Yd 42)/\W.1[w.1.size+2]?=an (ca Yd 42)/\Zz w W/\W.1.size=w.1.size+3/\Aa W w.1.size (Xz 1 s I t l F (eh i) H)):=gB;have zN:Hid (∀b∈vB d m O P L,b<w.1.size):=C;have zX:Hid (DU W q d m O P L p y f n B R A):=E;have zY:Hid (∀k∈B,(k.sum.size:Int)=p):=x.sz;obtain⟨e0,e3,e4,e5⟩:=Aa.c4 J 0 3 4 5;clear u h E zR Q M K D N J C G x;delta D8;go_in;go_upto_region 2 with fail;rw[<-HW.o];go_wp2_with fail;refine HC.Aj ?_;intro e C N;have zB:Tn (vB d m O P L) w W:=Tn.of HZ.2.2.2.2.1;obtain⟨hrefs,rfl,o⟩|⟨M,N⟩:=N
 .clear e0 e3 e4 e5;go_wp2;exact⟨rfl,dp ⟨2,_,_,dp ⟨hrefs,rfl,rfl,rfl⟩,rfl,zB.ag (Tn.of o)⟩⟩
 have zC:(∃c a b,GI p f n B A l i c a b/\e=.panicked [{v:=Cq c a b,recovered:=bq}]/\Tn (vB d m O P L) W C)\/(e=C5 (C4 (Bm l i p))/\∃z aj Q,CJ p n B l i z aj/\DU C q d m Q P L p y f aj z R A/\Tn (vB d m O P L) W C/\(ej Q=ej O\/∃g,ej Q=an g/\W.1.size<=g)):=by
  rcases N with⟨k,hk,hs,hf,rfl,o⟩|⟨k,hk,hs,hf,rfl,o⟩|⟨Z,u,rfl,o⟩|⟨Z,yI,yG,rfl,⟨O',zF,zG⟩,ht⟩
  .exact eb ⟨rfl,B,n,O,dp ⟨k,hk,hs,hf,rfl,rfl⟩,zX.A o,Tn.of o,dp rfl⟩
  .exact dp ⟨3,_,_,eb ⟨M,dp ⟨k,hk,hs,hf,rfl,rfl,rfl⟩⟩,rfl,Tn.of o⟩
  .exact dp ⟨4,_,_,eb ⟨M,eb (dp ⟨Z,u,rfl,rfl,rfl⟩)⟩,rfl,Tn.of o⟩
  exact eb ⟨rfl,_,_,O',eb ⟨Z,yI,yG,rfl,rfl⟩,zF,ht.ai (by intro b o;unfold vB;simp at o |-;rcases o with rfl|rfl|o<;>simp[*]),zG⟩
 have zA:Hid (∀r∈i,AA B r):=M;obtain⟨c,a,b,Z,rfl,ht⟩|⟨rfl,z,aj,Q,E,zH,K,zF⟩:=zC
 .clear e0 e3 e4 e5;go_wp2;exact⟨rfl,dp ⟨c,a,b,Z,rfl,zB.ag ht⟩⟩
 have zz:=HZ.2.2.2.2.2.1;have Y:∀j,w.1.size<=j->j∉vB d m O P L:=λj x h=>Dl (zN _ h);have zW:Aa C (w.1.size+1) z12:=Aa.same HZ.1 (K.block _ Yv (Y _ Yv));have g:Aa C (w.1.size+2) z12:=Aa.same HZ.2.1 (K.block _ Yv (Y _ Yv));have zV:Aa C w.1.size (Xz 1 s I t l F (eh i) H):=Aa.same HZ.2.2.2.2.2.2 (K.block _ Yv (Y _ Yv));have T:C.1[w.1.size+1]?=an (ca Yd 42):=(K.block _ Yv (Y _ Yv)).ag HZ.2.2.1;have x:C.1[w.1.size+2]?=an (ca Yd 42):=(K.block _ Yv (Y _ Yv)).ag HZ.2.2.2.1;have⟨X,hX⟩:=D7 C (w.1.size+2) 8 (C4 (Bm l i p));have tX:Tn [w.1.size+2] C X:=by rw[hX];exact AX _ _ _ _
 have G:Aa X (w.1.size+2) (z12.set 8 (C4 (Bm l i p))):=by rw[hX];exact g.set 8 _
 have j:Aa X (w.1.size+1) z12:=gC;have zK:Aa X w.1.size (Xz 1 s I t l F (eh i) H):=gC;have J:DU X q d m Q P L p y f aj z R A:=zH.S tX (by intro b o;simp at o;subst o;exact⟨Yv,zH.fe x Yv⟩);obtain⟨o8,v8,D,S,zE,zP⟩:=(g 8 _ rfl).2,(g 8 _ rfl).1,E.sz zY zU,Yw (Zn E (Zn zH (Zn K zF))),Yw (Zn tX (Zn G (Zn j (Zn J (Zn x T))))),Yw hX;have zZ:Hid (∃r,X.1[w.1.size+2]?=an (ca r 42)):=⟨_,by rw[hX,setCell_eq_setRow C _ _ _ _ _ _ x];exact setRow_heap C _ _ _ _ _ x⟩;obtain⟨yU,_⟩:=zK 3 _ rfl;have s8:=(G 8 _ rfl).1;have yT:w.1.size+2<X.1.size:=G.lt;by_cases u:eh A=200\/f=1000000000
 .have HL:=Yw (NA t J D E.there u);clear e0 e3 e4 e5 hX tX G j zK J zW g zV T x D HC;go_upto_region 5 with fail;rw[<-zP.o];go_wp2_with fail;refine HL.Aj ?_;rintro e r ⟨rfl,yF⟩;go_wp2;refine⟨rfl,dp ⟨4,_,_,eb ⟨zA,eb (eb ⟨⟨_,_,S.1⟩,u,rfl,rfl,rfl⟩)⟩,rfl,?_⟩⟩;have t0:=(zB.ag S.2.2.1).fresh zE.1 (show w.1.size<=w.1.size+2 by omega);exact t0.ag (Tn.of yF)
 have zT:eh A<200:=Yv;have zS:f<1000000000:=Yv;have HL:=Yw (Ph t J D E.there zT yH zS yJ yK yM yN);clear e0 e3 e4 e5 hX tX G j zK J zW g zV T x D HC u;go_upto_region 5 with fail;rw[<-zP.o];go_wp2_with fail;refine HL.Aj ?_;rintro e r ⟨rfl,L',zI,zJ⟩;have⟨tX,G,j,J,x,T⟩:=zE.o;have D:∀b∈d::(ej L).toList,b<w.1.size:=λb o=>zN b (by unfold vB;simp at o |-;rcases o with rfl|o<;>simp[*]);have yS:Aa r (w.1.size+1) z12:=gC;have u:Aa r (w.1.size+2) (z12.set 8 (C4 (Bm l i p))):=gC;have yC:X.1[w.1.size+1]?=_:=(tX.block _ (Dl S.2.2.1.size) Yu).ag T;have yB:r.1[w.1.size+1]?=an (ca Yd 42):=(zJ.block _ j.lt (λh=>Dl (D _ h))).ag yC;have⟨zM,yA⟩:=zZ.o;have zG:r.1[w.1.size+2]?=an (ca zM 42):=(zJ.block _ G.lt (λh=>Dl (D _ h))).ag yA;obtain⟨g,⟨⟨y0,q0⟩,⟨y1,q1⟩,⟨y2,q2⟩,⟨y3,q3⟩,⟨y4,q4⟩,⟨y5,q5⟩,⟨y6,q6⟩,⟨y7,q7⟩,⟨y8,q8⟩,⟨y9,q9⟩,⟨yQ,xA⟩,yR,xB⟩,⟨v0,p0⟩,⟨v1,p1⟩,⟨v2,p2⟩,v3,p3⟩:=Yw (Zn zI (Zn zJ (Zn (zI.fe yB Yv) (zI.fe zG Yv)))),Bv yS,u 0 _ rfl,u 1 _ rfl,u 2 _ rfl,u 3 _ rfl;obtain⟨⟨v4,p4⟩,⟨v5,p5⟩,⟨v6,p6⟩,⟨v7,p7⟩,⟨xF,p8⟩,⟨v9,p9⟩,⟨xC,yY⟩,xD,yZ⟩:=u 4 _ rfl,u 5 _ rfl,u 6 _ rfl,u 7 _ rfl,u 8 _ rfl,u 9 _ rfl,u 10 _ rfl,u 11 _ rfl;go_wp2;refine C1 (ct #[Ze,Ze,Ze,Ze,Ze,Zb,Zb,Zb,C4 (Bm l i p),Zg (f+1),Zc,Zc]) (by simp[results,results97,go_sem,y0,y1,y2,y3,y4,y5,y6,y7,y8,y9,yQ,yR]) ?_;have T9:=(Tn.set (V:=[w.1.size+1,w.1.size+2]) r (w.1.size+2) 9 (Zg (f+1)) Yu).ag (Tn.ai (BB (ev r (Zd (w.1.size+2) 9) (Zg (f+1))) (w.1.size+1) Ze Ze Ze Ze Ze Zb Zb Zb (C4 (Bm l i p)) (Zg (f+1)) Zc Zc) Yu);refine eb ⟨z,aj,zA,S.1,zT,zS,rfl,Q,L',g.1.S T9 (by intro b o;simp at o;rcases o with rfl|rfl;exact⟨Yv,g.2.2.1⟩;exact⟨Yv,g.2.2.2⟩),?_⟩;have t0:=(zB.ag S.2.2.1).fresh zE.1 (show w.1.size<=w.1.size+2 by omega);have t1:=t0.ag (g.2.1.ai (V':=vB d m O P L) (by intro b o;unfold vB;simp at o |-;rcases o with rfl|o<;>simp[*]));exact⟨T9.os.ag t1.os,T9.tape.ag t1.tape,T9.output.ag t1.output,Zm t1.size T9.size,λb o hv=>(T9.block b (Zr o t1.size) Yt).ag (t1.block b o hv)⟩
def Aas(w w':Zh)(e:Ending)(wd now given births:Int)(T P L:Value)(ls:List Ld)(s:Zi)(hold:Int)(base:Nat):Prop:=
 Tn (ej L).toList w w'/\(((200<=eh ls\/1000000000<=given)/\e=.returned (ct #[Zg 4,Ze,Ze,Ze,Ze,Zb,Zb,Zb,Zc,Ze,Zc,Zc]))\/
  ((eh ls<200/\given<1000000000)/\∃g c,e=.returned (ct #[Ze,Zg wd,Zg now,Zg (given+1),Zg births,T,P,cr (an ⟨g,0,ba⟩) (eh ls+1) c,Zc,Zg (given+1),Zc,Zc])/\eo w' base 83 3 (cr (an ⟨g,0,ba⟩) (eh ls+1) c) (eh (ls++[(⟨given+1,s,now+hold⟩:Ld)])) (Ad lC (ls++[(⟨given+1,s,now+hold⟩:Ld)]))/\(ej L=an g\/w.1.size<=g)))
theorem IP(u h a d:Int)(p m j:Zk)(t r o n k:Nat)(f:Da)(s:Zi)(hold:Int)(I:eo w i 83 3 (C3 j (eh f) k) (eh f) (Ad lC f))(zA:i<=w.1.size)(hl:eh f<=1000)(zS:0<=a)(zT:a<=1000000000)(zH:0<=h)(zI:h<=1000000000)(zK:0<=hold)(zM:hold<=1000000000):
 D8 80 #[ct (Yg u h a d p t r m o n j (eh f) k),C4 s,Zg hold] w λe l=>Aas w l e u h a d (C3 p t r) (C3 m o n) (C3 j (eh f) k) f s hold i:=by
 have⟨W,l⟩:=Ag ((w.alloc (ca (Yg u h a d p t r m o n j (eh f) k) 30)).alloc (ca Yd 42));obtain⟨z,O,x⟩:=(AQ l).1,(AQ l).2.1,(AQ l).2.2.1;have L:Aa W (w.1.size+1) z12:=by have h1:=Aa.new (w.alloc (ca (Yg u h a d p t r m o n j (eh f) k) 30)) z12 42;rw[Ao]at h1;rw[l];exact h1
 have G:=Yw l;have HB:=Yw z;by_cases hfull:200<=eh f\/1000000000<=a
 .obtain⟨⟨⟨R,q0⟩,⟨S,q1⟩,⟨T,q2⟩,⟨U,q3⟩,⟨Y,q4⟩,⟨Z,q5⟩,⟨y6,q6⟩,⟨y7,q7⟩,⟨y8,q8⟩,⟨y9,q9⟩,⟨E,zN⟩,F,zO⟩,⟨v0,v1,v2,v3,v4,v5,v6,v7⟩,HF⟩:=Bv L,Bi x,Yw hfull;have A:(bx ((200:Int)<=(eh f:Int))=bg)\/(bx ((200:Int)<=(eh f:Int))=bq/\bx ((1000000000:Int)<=a)=bg):=Yt;clear l x L z O hfull I;rcases A with A|⟨A,zP⟩
  all_goals
   delta D8;go_in;go_upto_region 1 with fail;rw[<-G.o];clear G;go_wp2;refine C1 (ct (Yc 4)) J9 ?_;exact⟨Tn.of (HB.ag (Tn.A (BB W (w.1.size+1) _ _ _ _ _ _ _ _ _ _ _ _) HB.size gA)),dp ⟨HF,rfl⟩⟩
 have zF:eh f<200/\a<1000000000:=Yv;have⟨X,H⟩:=D7 W (w.1.size) 2 (Zg (a+1));have Q:Tn [w.1.size] W X:=by rw[H];exact AX _ _ _ _
 have J:Aa X w.1.size (Yh u h (a+1) d p t r m o n j (eh f) k):=by rw[H];exact x.set 2 _
 have q:=Aa.same L (Q.block _ Yv Yu);have B:=z.ag (Q.A z.size Yu);have gx:∀g,ej (C2 j f k)=an g->g<w.1.size:=λg y=>(Ac I y).2;have N:=Ah I B;have zX:w.1.size+2<=X.1.size:=gC;obtain⟨g,c,K,D,zJ,C,zG⟩:=OH X i _ f N (⟨a+1,s,h+hold⟩:Ld) Yv Yv 28;dsimp only at D;have P:=Aa.same J (C.block _ J.lt (λe=>Dl (gx _ e.symm)));obtain⟨b,⟨c2,f2⟩,c6,_⟩:=Aa.same q (C.block _ Yv (λe=>Dl (gx _ e.symm))),x 2 _ rfl,x 6 _ rfl;obtain⟨⟨d1,d2,d6⟩,⟨i0,i1,i2,i3,i4,i5,i6,i7⟩,⟨⟨R,q0⟩,⟨S,q1⟩,⟨T,q2⟩,⟨U,q3⟩,⟨Y,q4⟩,⟨Z,q5⟩,⟨y6,q6⟩,⟨y7,q7⟩,⟨y8,q8⟩,⟨y9,q9⟩,⟨E,zN⟩,F,zO⟩,k6⟩:=Aa.c3 J 1 2 6,Bi P,Bv b,(P 6 _ rfl).2;have zW:=Ie zH zI zK zM;have zU:¬((200:Int)<=(eh f:Int)):=Yv;have zV:¬((1000000000:Int)<=a):=Yv;have M:=Yw H;have y:Hid (eo K i 83 3 (Yz g (eh f+1) c) (eh (f++[(⟨a+1,s,h+hold⟩:Ld)])) (Ad lC (f++[(⟨a+1,s,h+hold⟩:Ld)]))/\ep X K (ej (C2 j f k))/\(ej (C2 j f k)=an g\/g=X.1.size+1)):=gD;obtain⟨zB,zE,zC⟩:=Yw B,Yw gx,Yw zF;clear l H x L J q Q P b z O N I zJ C zG B gx hfull;delta D8;go_in;go_upto_region 1 with fail;rw[<-G.o];clear G;go_upto_region 4 with fail;rw[<-M.o];clear M c2 f2 c6;go_wp2_with (at_builtin;refine wpList_append_run rfl _ _ 28 28 rfl rfl rfl D ?_);clear D d1 d2 d6;go_wp2;refine C1 (ct #[Ze,Zg u,Zg h,Zg (a+1),Zg d,C3 p t r,C3 m o n,Yz g (eh f+1) c,Zc,Zg (a+1),Zc,Zc]) J9 ?_;have l:=(Tn.set (V:=[w.1.size,w.1.size+1]) K w.1.size 6 (Yz g (eh f+1) c) Yu).ag (Tn.ai (BB (ev K (Zd (w.1.size) 6) (Yz g (eh f+1) c)) (w.1.size+1) Ze (Zg u) (Zg h) (Zg (a+1)) (Zg d) (C3 p t r) (C3 m o n) (Yz g (eh f+1) c) Zc (Zg (a+1)) Zc Zc) Yu);have x:=(Tn.of zB).ag (Du y.2.1);have C:g<w.1.size\/w.1.size+2<=g:=by
  rcases y.2.2 with e|e
  .exact dp (zE g e)
  exact eb Yv
 refine⟨⟨l.os.ag x.os,l.tape.ag x.tape,l.output.ag x.output,Zm x.size l.size,λb z B=>(l.block b (Zr z x.size) Yt).ag (x.block b z B)⟩,eb ⟨zC,g,c,rfl,Ar y.1 (λq z=>l.block q (Ac y.1 z).2 ?_),?_⟩⟩
 .obtain rfl:g=q:=by simpa [ownBlock]using z
  simp;omega
 rcases y.2.2 with e|e
 .exact dp e
 exact eb Yv
theorem Mu(w:Zh)(b:Nat)(v:D4)(d:List (Kd×Value))(B:eo w b 78 4 v (eh d) (Ad kC d))(z:Kd×Value)(D:∃a n c,z.2=C3 a n c)(A:eh d<=1000000)(m:b<=w.1.size)(o:TypeId):
 ∃g f i,(Builtin.append_ #[26,26] o #[v,Yz w.1.size 1 1]).run prog (w.alloc (ca #[C4 z.1.sum,Zg z.1.born,C4 z.1.i,z.2] 78))=.ok (Yz g (eh d+1) f) i/\eo i b 78 4 (Yz g (eh d+1) f) (eh (d++[z])) (Ad kC (d++[z]))/\ep w i (ej v)/\(ej v=an g\/g=w.1.size+1):=by
 have⟨E,y,q,r,s⟩:=info_parts Hx;have p:=Ah B (Ae.alloc (Zx) (ca #[C4 z.1.sum,Zg z.1.born,C4 z.1.i,z.2] 78));have x:∀j u,(Ad kC [z])[j]?=an u->ek (w.alloc (ca #[C4 z.1.sum,Zg z.1.born,C4 z.1.i,z.2] 78)) ((⟨w.1.size,0,ba⟩:Addr).add j)=an u:=by intro j u k;rw[A7,Ay];exact(Aa.new w [C4 z.1.sum,Zg z.1.born,C4 z.1.i,z.2] 78 j u (by simpa [Ad,kC]using k)).1
 obtain⟨F,i,C,l,t,_,h⟩:=run_append_own_at (P:=prog) (w.alloc (ca #[C4 z.1.sum,Zg z.1.born,C4 z.1.i,z.2] 78)) b 26 o 78 E _ 4 64 underlying26 y q r s rfl Yq v (eh d) (Ad kC d) p ⟨w.1.size,0,ba⟩ 1 1 (Ad kC [z]) (by simp[Ad,kC]) x (by intro u k;obtain⟨a,n,c,e⟩:=D;simp[Ad,kC,e]at k;rcases k with rfl|rfl|rfl|rfl<;>rfl) Yo Yv Yt;obtain⟨g,f,rfl,_,_⟩:=BK l (λe=>by subst e;rcases l.2 with⟨_,A⟩|⟨_,_,_,e,_⟩<;>first|omega|cases e);refine⟨g,f,i,C,?_,(grownBy_alloc w _ _).ag t,?_⟩
 .rw[Fp,Am];exact l
 rcases h with h|h
 .exact dp h.symm
 right;simpa [ownBlock]using h
def zD(zs:List (Kd×Value))(s:Zi):Bool:= !(zs.all (fun z=>less z.1.sum s))
def zQ(zs:List (Kd×Value))(one:Kd×Value):List (Kd×Value):=zs.filter (fun z=>less z.1.sum one.1.sum)++(if zD zs one.1.sum then [one]else [])++zs.filter (fun z=> !(less z.1.sum one.1.sum))
def CR(zs:List (Kd×Value))(one:Kd×Value):List (Kd×Value):=zs.filter (fun z=>less z.1.sum one.1.sum)++[one]++zs.filter (fun z=> !(less z.1.sum one.1.sum))
theorem WX(b:List (Kd×Value))(a:Kd×Value):(CR b a).map (·.1)=DP (b.map (·.1)) a.1:=by unfold CR DP;rw[map_append,map_append,filter_map,filter_map];rfl
theorem LD{b:List (Kd×Value)}{a:Kd×Value}(h:z∈CR b a):z∈b\/z=a:=by
 unfold CR at h;simp only[Bw,B6,mem_singleton]at h;rcases h with(h|h)|h
 .exact dp h.1
 .exact eb h
 exact dp h.1
theorem KN{a:List (Kd×Value)}{x:Kd×Value}(s:Zi)(c:a[k]?=an x):zD (a.take (k+1)) s=(zD (a.take k) s|| !(less x.1.sum s)):=by obtain⟨b,rfl⟩:=Zw c;unfold zD;rw[Zu b,all_append];simp
theorem Jz{a:List (Kd×Value)}(h:zD a s=bq):a.filter (λz=> !(less z.1.sum s))=[]:=by
 rw[filter_eq_nil_iff];intro x b;have:less x.1.sum s=bg:=by unfold zD at h;simp only[Bool.not_eq_false']at h;exact all_eq_true.1 h x b
 simp[this]
theorem WY{b:List (Kd×Value)}{x:Kd×Value}(a:Kd×Value)(f:b[k]?=an x)(c:zD (b.take k) a.1.sum=bq)(e:less x.1.sum a.1.sum=bg):zQ (b.take (k+1)) a=zQ (b.take k) a++[x]:=by have d:=KN a.1.sum f;rw[c,e]at d;unfold zQ;rw[Jz c,Jz gA,d,c];obtain⟨g,rfl⟩:=Zw f;rw[Zu g,filter_append];simp[e]
theorem Aed{b:List (Kd×Value)}{x:Kd×Value}(a:Kd×Value)(g:b[k]?=an x)(c:zD (b.take k) a.1.sum=bq)(f:less x.1.sum a.1.sum=bq):zQ (b.take (k+1)) a=zQ (b.take k) a++[a]++[x]:=by have d:=KN a.1.sum g;rw[c,f]at d;have e:=Jz c;unfold zQ;rw[e,d,c];obtain⟨h,rfl⟩:=Zw g;rw[Zu h,filter_append,filter_append,e];simp[f]
theorem Aat{d:List (Kd×Value)}{x:Kd×Value}(c:Kd×Value)(g:(d.map (·.1.sum)).Pairwise (λa b=>less a b=bg))(n:d[k]?=an x)(i:zD (d.take k) c.1.sum=bg):zQ (d.take (k+1)) c=zQ (d.take k) c++[x]:=by
 have m:=KN c.1.sum n;rw[i,Bool.true_or]at m;obtain⟨p,rfl⟩:=Zw n;have⟨y,s,l⟩:∃y∈d.take k,less y.1.sum c.1.sum=bq:=by unfold zD at i;simpa using i
 obtain⟨j,q⟩:=A9 s;have⟨o,e⟩:=Zw q;rw[C0]at o;rw[getElem_take]at e;have f:=pairwise_iff_getElem.1 g j k Yt Yt Yv;rw[getElem_map,getElem_map,e]at f;have r:less d[k].1.sum c.1.sum=bq:=by
  cases h:less d[k].1.sum c.1.sum with
  |false=>rfl
  |true=>rw[Cx f h]at l;cases l
 unfold zQ;rw[m,i,Zu p,filter_append,filter_append];simp[r]
theorem Acu{b:List (Kd×Value)}(a:Kd×Value)(c:zD b a.1.sum=bg):zQ b a=CR b a:=by unfold zQ CR;rw[c];rfl
theorem Aee{b:List (Kd×Value)}(a:Kd×Value)(c:zD b a.1.sum=bq):zQ b a++[a]=CR b a:=by unfold zQ CR;rw[c,Jz c];simp
theorem Vo(b:List (Kd×Value))(a:Kd×Value):eh (zQ b a)<=eh b+1:=by
 have h:∀(l:List (Kd×Value)),eh (l.filter (λz=>less z.1.sum a.1.sum))+eh (l.filter (λz=> !(less z.1.sum a.1.sum)))=eh l:=by
  intro l;induction l with
  |nil=>rfl
  |cons y l ih=>cases hl:less y.1.sum a.1.sum<;>simp[hl]<;>omega
 have:=h b;unfold zQ;rw[Am,Am];split<;>simp<;>omega
theorem Nd{a:C9}(h:AA a s):∃(i:Nat) (k:Kd),CC a s=(i:Int)/\a[i]?=an k/\k.sum=s:=by
 rcases CU a s with⟨_,d⟩|⟨i,k,e,b,c⟩
 .exact absurd h d
 exact⟨i,k,e,b,c⟩
theorem Ja{a:C9}(h:¬AA a s):CC a s<0:=by
 rcases CU a s with⟨e,_⟩|⟨i,k,e,b,c⟩
 .omega
 exact absurd ⟨k,Zs b,c⟩ h
def Tq(lbase b0:Nat)(wd now given births num:Int)(zs:List (Kd×Value))(P L:Value)(ls:List Ld)(text:Zi)(refs:Zl)(w:Zh)(e:Ending)(w':Zh):Prop:=
 Tn (ej L).toList w w'/\(
  (∃c a b,GI wd given births (zs.map (·.1)) ls text refs c a b/\e=.returned (ct (ei (Cr c a b))))\/
  (∃ks1 aj g gc zs1 g2 c2,(∀r∈refs,AA (zs.map (·.1)) r)/\CJ wd births (zs.map (·.1)) text refs ks1 aj/\eh ls<200/\given<1000000000/\
    e=.returned (ct #[Ze,Zg wd,Zg now,Zg (given+1),Zg aj,cr (an ⟨g,0,ba⟩) (eh zs1) gc,P,cr (an ⟨g2,0,ba⟩) (eh ls+1) c2,.string (Bm text refs wd),Zg (given+1),Zc,Zc])/\
    zs1.map (·.1)=ks1/\Bs w' g 0 zs1/\g<w'.1.size/\((g=b0/\zs1=zs)\/w.1.size<=g)/\(∀z∈zs1,z∈zs\/∃ad n rc,z.2=cr (an ad) n rc/\w.1.size<=ad.block)/\(ej L=an g2\/w.1.size<=g2)/\eo w' lbase 83 3 (cr (an ⟨g2,0,ba⟩) (eh ls+1) c2) (eh (ls++[(⟨given+1,Bm text refs wd,now+num⟩:Ld)])) (Ad lC (ls++[(⟨given+1,Bm text refs wd,now+num⟩:Ld)]))/\g≠g2/\∀z∈zs1,∀ad n rc,z.2=cr (an ad) n rc->z.1.D≠[]->ad.block≠g2))
theorem Bs.S{t:Zh}{u:List (Kd×Value)}(h:Bs w b m u)(q:Tn V w t)(F:b<w.1.size)(E:b∉V)(H:∀z∈u,∀d n r,z.2=C3 (an d) n r->z.1.D≠[]->d.block∉V):Bs t b m u:=by
 intro i z l;have⟨⟨A,B,C,D⟩,d,r,v,p⟩:=h i z l;have g:∀o,ek t (Zd b o)=ek w (Zd b o):=λo=>cell?_of_block (a:=⟨b,o,ba⟩) (q.block b F E);refine⟨⟨(g _).ag A,(g _).ag B,(g _).ag C,(g _).ag D⟩,d,r,v,?_⟩;by_cases hre:z.1.D=[]
 .exact dp hre
 rcases p with p|⟨f,c,e,k,y⟩
 .exact dp p
 cases e;have x:f∉V:=H z (Zs l) _ _ _ v hre;exact eb ⟨f,c,rfl,Zr k q.size,λj s G=>(cell?_of_block (a:=⟨f,c+j,ba⟩) (q.block f k x)).ag (y j s G)⟩
theorem Bs.cu{f:List (Kd×Value)}(h:Bs w b j f)(p:z∈f){c:Addr}{q:Nat}(l:z.2=C3 (an c) n q)(o:z.1.D≠[]):c.block<w.1.size:=by
 have⟨i,m⟩:=A9 p;have⟨_,r,s,d,a⟩:=h i z m;rw[l]at d;cases d;rcases a with a|⟨t,k,e,g,_⟩
 .exact absurd a o
 cases e;exact g
theorem Aff{f g i j:D4}(h:Aa w b [f,g,i,j])(a c d e:D4):Aa (ev (ev (ev (ev w (Zd b 0) a) (Zd b 1) c) (Zd b 2) d) (Zd b 3) e) b [a,c,d,e]:=
 (((h.set 0 a).set 1 c).set 2 d).set 3 e
theorem WZ{a:Nat}{e:TypeId}{size:Nat}{v:D4}{d:Zj}(h:eo w a e size v n d)(c:∀g,ej v=an g->g≠b)(f i j k:D4):eo (ev (ev (ev (ev w (Zd b 0) f) (Zd b 1) i) (Zd b 2) j) (Zd b 3) k) a e size v n d:=
 BM (BM (BM (BM h c 0 _) c 1 _) c 2 _) c 3 _
theorem Tr{a:Zh}(h:bs B a w)(c:B<=b)(d e f g:D4):bs B a (ev (ev (ev (ev w (Zd b 0) d) (Zd b 1) e) (Zd b 2) f) (Zd b 3) g):=
 (((h.setCell c d).setCell c e).setCell c f).setCell c g
structure YO (w:Zh) (lbase:Nat) (wd now given births num:Int) (ta:Zk) (b:Nat) (zs:List (Kd×Value)) (la:Zk) (lc:Nat) (ls:List Ld) (text:Zi) (refs:Zl) (ra:Zk) (rc:Nat):Prop where
 tb:ta=an ⟨b,0,ba⟩\/zs=[]
 rn:ra=ba->eh refs=0/\rc=0
 z:Bs w b 0 zs
 bl:b<w.1.size
 lo:eo w lbase 83 3 (cr la (eh ls) lc) (eh ls) (Ad lC ls)
 lb:lbase<=w.1.size
 bL:an b≠ej (Value.slice la (eh ls) lc)
 zL:∀z∈zs,∀ad n rc,z.2=cr (an ad) n rc->z.1.D≠[]->an ad.block≠ej (Value.slice la (eh ls) lc)
 r:Ab w w.1.size ra refs
 ok:Fi wd (zs.map (·.1))
 w1:1<=wd
 cj:∀z∈zs,z.1.i.size<=ew
 tl:text.size<=ew
 rl:eh refs<=1000
 b0:0<=births
 b1:births<=1000000000
 g0:0<=given
 g1:given<=1000000000
 n0:0<=now
 n1:now<=1000000000
 t0:0<=num
 t1:num<=1000000000
 nl:eh ls<=200
theorem Aau(b:Zi)(a:Zl)(c:Int)(h:1<=c):((Bm b a c).size:Int)=c:=Jl ⟨⟨#[]⟩,0,b,a⟩ c h
