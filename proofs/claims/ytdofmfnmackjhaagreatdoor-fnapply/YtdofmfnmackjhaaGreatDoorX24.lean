import Derived.Test.YtdofmfnmackjhaaGreatDoorX22
import Derived.Test.YtdofmfnmackjhaaGreatDoorX23
set_option maxRecDepth 100000
set_option maxHeartbeats 16000000
namespace Go.Proofs.YtdofmfnmackjhaaGreatDoor
open ChangeShapes WideShapes ChangeAt RowKit _root_.Go.Proofs.Tryz List World Value
variable{a d e c l o f i m v p u q:Int}{k R:Nat}{x:Pd}{n s b g B:Zi}{j t:Dv}{w:Zh}{h:Zl}
theorem Mv(w:Zh)(a:Nat)(v:D4)(b:Dy)(y:w.ownsRow a 71 2 v b.length (Ab pC b))(x:Pd)(t:b.length<=1000000)(k:a<=w.1.size)(l:TypeId):
 ∃g c f,(Builtin.append_ #[24,24] l #[v,Yz w.1.size 1 1]).run prog (w.alloc (.cells #[C4 x.name,C4 x.sum] 71))=.ok (Yz g (b.length+1) c) f/\f.ownsRow a 71 2 (Yz g (b.length+1) c) (b++[x]).length (Ab pC (b++[x]))/\w.grownBy f v.ownBlock/\(v.ownBlock=some g\/g=w.1.size+1):=by
 have⟨A,s,n,o,p⟩:=info_parts GP;have m:=Ah y (Ad.alloc (Zx) (.cells #[C4 x.name,C4 x.sum] 71));have r:∀j u,(Ab pC [x])[j]?=some u->(w.alloc (.cells #[C4 x.name,C4 x.sum] 71)).cell? ((⟨w.1.size,0,none⟩:Addr).add j)=some u:=by intro j u h;rw[A3,A0];exact(Aa.new w [C4 x.name,C4 x.sum] 71 j u (by simpa [Ab,pC]using h)).1
 obtain⟨B,f,z,i,q,_,d⟩:=run_append_own_at (P:=prog) (w.alloc (.cells #[C4 x.name,C4 x.sum] 71)) a 24 l 71 A _ 2 32 underlying24 s n o p rfl Yq v b.length (Ab pC b) m ⟨w.1.size,0,none⟩ 1 1 (Ab pC [x]) (by simp[Ab,pC]) r (by intro u h;simp[Ab,pC]at h;rcases h with rfl|rfl<;>rfl) Yo Yv Yt
 obtain⟨g,c,rfl,_,_⟩:=BF i (λe=>by subst e;rcases i.2 with⟨_,t⟩|⟨_,_,_,e,_⟩<;>first|omega|cases e);refine⟨g,c,f,z,?_,(grownBy_alloc w _ _).ah q,?_⟩
 .rw[Fb,Ak];exact i
 .rcases d with d|d
  .exact .inl d.symm
  .right;simpa [ownBlock]using d
theorem Rb{a:Dy}(n:Zi)(c:a[k]?=some x):Bd (a.take (k+1)) n=Bd (a.take k) n++(if x.name=n then []else [x]):=by obtain⟨b,rfl⟩:=Zw c;unfold Bd;rw[Zu b,filter_append];by_cases h:a[k].name=n<;>simp[h]
theorem Mw(a:Dy)(n:Zi):(Bd a n).length=a.length↔¬∃x∈a,x.name=n:=by unfold Bd;rw[length_filter_eq_length_iff];simp
def RJ(w w':Zh)(e:Ending)(wd now given births:Int)(T P:Value)(ls:List Pd)(n:Zi):Prop:=
 Below w.1.size w w'/\(((¬∃x∈ls,x.name=n)/\e=.returned (.agg #[Zg 5,Ze,Ze,Ze,Ze,Zb,Zb,Zb,Zc,Ze,Zc,Zc]))\/
  ((∃x∈ls,x.name=n)/\∃g c,e=.returned (.agg #[Ze,Zg wd,Zg now,Zg given,Zg births,T,.slice (some ⟨g,0,none⟩) (Bd ls n).length c,P,Zc,Ze,Zc,Zc])/\w'.ownsRow w.1.size 71 2 (.slice (some ⟨g,0,none⟩) (Bd ls n).length c) (Bd ls n).length (Ab pC (Bd ls n))))
theorem Rc(t h d b:Int)(p l B:Zk)(s r o m F:Nat)(a:Dy)(n:Zi)(w:Zh)(f:AU w w.1.size B a)(hl:a.length<=1000):
 D8 72 #[.agg (Yg t h d b p s r B a.length F l o m),C4 n] w λe j=>RJ w j e t h d b (C3 p s r) (C3 l o m) a n:=by
 have⟨W,j⟩:=Ae ((w.alloc (.cells (Yg t h d b p s r B a.length F l o m) 27)).alloc (.cells Xz 36));have E:=(Bi j).1;have A:=(Bi j).2.1;have G:=(Bi j).2.2.1;have H:Aa W (w.1.size+1) z12:=by have T:=Aa.new (w.alloc (.cells (Yg t h d b p s r B a.length F l o m) 27)) z12 36;rw[Al]at T;rw[j];exact T
 have M:Hid (∀X,Below (w.1.size+2) W X->Aa X w.1.size (Yh t h d b p s r B a.length F l o m)/\Aa X (w.1.size+1) z12):=λX u=>⟨Aa.same G (u.block _ Yv),Aa.same H (u.block _ Yv)⟩;have C:=Yw j;have zE:Hid (W.1.size=w.1.size+2):=A;have y:w.1.size+2<=W.1.size:=Yv
 have HR:Hid (AU w w.1.size B a):=f;have zA:Hid (Zz w W):=E;have D:Below W.1.size W (W.alloc (.cells #[] 71)):=Zy;have z:Hid ((W.alloc (.cells #[] 71)).ownsRow (w.1.size+2) 71 2 (Yz W.1.size 0 0) 0 []):=ownsRow_lit (base:=w.1.size+2) (e:=71) (size:=2) W #[] 0 Yv Yo rfl;have u:Hid (Below (w.1.size+2) W (W.alloc (.cells #[] 71))):=D.aj y
 clear j A G H f E D;go_enter func72,ntmps72;go_upto_region 1 with fail;rw[<-C.o];clear C;go_wp2
 go_loopw [5,6] (λv i wr=>∃(k g c:Nat),k<=a.length/\i=Zg k/\v=Yz g (Bd (a.take k) n).length c/\Hid (wr.ownsRow (w.1.size+2) 71 2 (Yz g (Bd (a.take k) n).length c) (Bd (a.take k) n).length (Ab pC (Bd (a.take k) n))/\Below (w.1.size+2) W wr)) (λ_ i _=>a.length -(intOf i).toNat)
 case atStart=>exact⟨0,W.1.size,0,Az _,rfl,by simp[Bd],⟨by simpa [Bd,Ab]using z.o,u⟩⟩
 case round=>
  clear z u;obtain⟨k,g,c,hk,rfl,rfl,f⟩:=hrel;have j:Below w.1.size w wr:=zA.ah (f.2.aj Yv);have I:w.1.size+2<=wr.1.size:=Zm y f.2.size;obtain⟨v0,R,U,Y,Z,i,X,v7⟩:=Be (M _ f.2).1;by_cases hlt:k<a.length
  .obtain⟨b',zG,ha,hb,u⟩:=(AU.A HR j).at hlt;subst ha;have Q:Hid (a[k]?=some a[k]):=Zv hlt;obtain⟨L,N⟩:=u k _ Q;have G:=Yw (Rb n Q);have zF:(Bd (a.take k) n).length<=1000:=by have:=length_filter_le (λx:Pd=> !decide (x.name=n)) (a.take k);unfold Bd;rw[Ct]at this;omega
   clear u;generalize a[k]=x at *
   generalize hGk:Bd (a.take k) n=gk at *
   have zC:=Yw hGk;clear hGk;by_cases hxn:x.name=n
   .have A:(x.name.toList !=n.toList)=false:=by rw[hxn];simp
    have H:(x.name.toList==n.toList)=true:=by rw[hxn];simp
    have C:Hid (Bd (a.take (k+1)) n=gk):=by show _=_;rw[G.o,if_pos hxn,append_nil]
    clear hxn;go_wp2;exact⟨⟨k+1,g,c,Yv,Yn,by rw[C.o],⟨by rw[C.o];exact f.1,f.2⟩⟩,Ys⟩
   .have H:(x.name.toList==n.toList)=false:=Br hxn;have A:(x.name.toList !=n.toList)=true:=by simp[bne,H]
    have C:Hid (Bd (a.take (k+1)) n=gk++[x]):=by show _=_;rw[G.o,if_neg hxn]
    clear hxn;obtain⟨S,u,O,E,D,z,K⟩:=Mv wr (w.1.size+2) _ gk f.1 x Yv I 24;have J:Below (w.1.size+2) wr O:=Ad.grown z I (λq e=>(Ac f.1 e).1);have P:Hid (O.ownsRow (w.1.size+2) 71 2 (Yz S (gk.length+1) u) (gk++[x]).length (Ab pC (gk++[x]))/\Below (w.1.size+2) W O):=⟨D,f.2.ah J⟩;have zB:b'<wr.1.size:=Dz j.size
    clear D z K J;go_wp2_with (at_builtin;refine wpList_append_run rfl _ _ 24 24 rfl rfl rfl E ?_);clear E L N v0 R U Y Z i X;go_wp2;exact⟨⟨k+1,S,u,Yv,Yn,by rw[C.o,Ak];rfl,⟨by rw[C.o,Ak];exact Ak▸P.1,P.2⟩⟩,Ys⟩
  .obtain rfl:k=a.length:=Yv
   have E:=f.1;rw[Zt (Zx)]at E |-;have L:=Yw E;have z:Hid (Zz w wr):=j;obtain⟨⟨U,q0⟩,⟨Y,q1⟩,⟨Z,q2⟩,⟨i,q3⟩,⟨X,q4⟩,⟨y5,q5⟩,⟨y6,q6⟩,⟨y7,q7⟩,⟨y8,q8⟩,⟨y9,q9⟩,⟨J,zH⟩,K,zI⟩:=Bf (M _ f.2).2;have f6:=((M _ f.2).1 5 _ rfl).2;by_cases hex:∃x∈a,x.name=n
   .have N:¬(Bd a n).length=a.length:=λe=>(Mw a n).1 e hex;have A:(((Bd a n).length:Int)==(a.length:Int))=false:=Yt
    have D:Hid (∃x∈a,x.name=n):=hex;clear N hex E j f;go_wp2;refine C0 (.agg #[Ze,Zg t,Zg h,Zg d,Zg b,C3 p s r,Yz g (Bd a n).length c,C3 l o m,Zc,Ze,Zc,Zc]) (by simp[results,results72,go_sem,U,Y,Z,i,X,y5,y6,y7,y8,y9,J,K]) ?_
    have R:=(Tn.set (V:=[w.1.size,w.1.size+1]) wr w.1.size 5 (Yz g (Bd a n).length c) Yu).ah (Tn.aj (Bs (wr.setCell (Zd (w.1.size) 5) (Yz g (Bd a n).length c)) (w.1.size+1) Ze (Zg t) (Zg h) (Zg d) (Zg b) (C3 p s r) (Yz g (Bd a n).length c) (C3 l o m) Zc Ze Zc Zc) Yu)
    exact⟨z.ah (R.A z.size (by intro v N;simp at N;omega)),.inr ⟨D,g,c,rfl,(As L (λq A=>R.block q (Ac L A).2 (by have:=(Ac L A).1;simp;omega))).aj Yv⟩⟩
   .have e:(Bd a n).length=a.length:=(Mw a n).2 hex;have A:(((Bd a n).length:Int)==(a.length:Int))=true:=Yt
    have D:Hid (¬∃x∈a,x.name=n):=hex;clear e hex E j f;go_wp2;refine C0 (.agg (Xy 5)) (by simp[results,results72,go_sem,U,Y,Z,i,X,y5,y6,y7,y8,y9,J,K]) ?_;exact⟨z.ah (Tn.A (Bs wr (w.1.size+1) _ _ _ _ _ _ _ _ _ _ _ _) z.size (by intro v N;simp at N;omega)),.inl ⟨D,rfl⟩⟩
def DX(ps:List Pd)(n:Zi):Bool:= !(ps.all (fun x=>less x.name n))
def Cb(ps:List Pd)(n s:Zi):List Pd:=ps.filter (fun x=>less x.name n)++(if DX ps n then [⟨n,s⟩]else [])++ps.filter (fun x=> !(less x.name n)&& !decide (x.name=n))
theorem Ij{a:Dy}(n:Zi)(c:a[k]?=some x):DX (a.take (k+1)) n=(DX (a.take k) n|| !(less x.name n)):=by obtain⟨b,rfl⟩:=Zw c;unfold DX;rw[Zu b,all_append];simp
theorem FI{a:Dy}(h:DX a n=false):a.filter (λx=> !(less x.name n)&& !decide (x.name=n))=[]:=by
 rw[filter_eq_nil_iff];intro x b;have:less x.name n=true:=by unfold DX at h;simp only[Bool.not_eq_false']at h;exact all_eq_true.1 h x b
 simp[this]
theorem Th{a:Dy}(n s:Zi)(e:a[k]?=some x)(c:DX (a.take k) n=false)(d:less x.name n=true):Cb (a.take (k+1)) n s=Cb (a.take k) n s++[x]:=by have b:=Ij n e;rw[c,d]at b;unfold Cb;rw[FI c,FI (by rw[b];rfl),b,c];obtain⟨f,rfl⟩:=Zw e;rw[Zu f,filter_append];simp[d]
theorem YZ{a:Dy}(n s:Zi)(e:a[k]?=some x)(b:DX (a.take k) n=false)(d:less x.name n=false):Cb (a.take (k+1)) n s=Cb (a.take k) n s++[⟨n,s⟩]++(if x.name=n then []else [x]):=by
 have c:=Ij n e;rw[b,d]at c;unfold Cb;rw[FI b,c,b];have g:=FI b;obtain⟨f,rfl⟩:=Zw e;rw[Zu f,filter_append,filter_append,g];by_cases hn:a[k].name=n
 .simp[hn,By]
 .simp[d,hn]
theorem UL{d:Dy}(n s:Zi)(g:d.Pairwise (λa b=>less a.name b.name=true))(p:d[k]?=some x)(i:DX (d.take k) n=true):x.name≠n/\Cb (d.take (k+1)) n s=Cb (d.take k) n s++[x]:=by
 have m:=Ij n p;rw[i,Bool.true_or]at m;obtain⟨l,rfl⟩:=Zw p;have⟨y,v,f⟩:∃y∈d.take k,less y.name n=false:=by unfold DX at i;simpa using i
 obtain⟨j,t⟩:=A5 v;have⟨q,e⟩:=Zw t;rw[Ct]at q;rw[getElem_take]at e;have c:=pairwise_iff_getElem.1 g j k Yv l Yv;rw[e]at c;have u:less d[k].name n=false:=by
  cases h:less d[k].name n with
  |false=>rfl
  |true=>rw[BV c h]at f;cases f
 have o:d[k].name≠n:=λr=>by rw[r]at c;rw[c]at f;cases f
 refine⟨o,?_⟩;unfold Cb;rw[m,i,Zu l,filter_append,filter_append];simp[u,o]
theorem We{a:Dy}(n s:Zi)(b:DX a n=true):Cb a n s=Bh a n s:=by unfold Cb Bh;rw[b];rfl
theorem ZA{a:List Pd}(n s:Zi)(b:DX a n=false):Cb a n s++[⟨n,s⟩]=Bh a n s:=by unfold Cb Bh;rw[b,FI b];simp
theorem Lw(a:Dy)(n s:Zi):(Cb a n s).length<=a.length+1:=by
 have h:∀(l:Dy),(l.filter (λx=>less x.name n)).length+(l.filter (λx=> !(less x.name n)&& !decide (x.name=n))).length<=l.length:=by
  intro l;induction l with
  |nil=>simp
  |cons x l ih=>rw[filter_cons,filter_cons];cases less x.name n<;>by_cases hn:x.name=n<;>simp[hn]<;>omega
 have:=h a;unfold Cb;rw[Ak,Ak];split<;>simp<;>omega
def XD(w w':Zh)(e:Ending)(wd now given births:Int)(T L:Value)(ps:List Pd)(n s:Zi):Prop:=
 Below w.1.size w w'/\((100<(Bh ps n s).length/\e=.returned (.agg #[Zg 4,Ze,Ze,Ze,Ze,Zb,Zb,Zb,Zc,Ze,Zc,Zc]))\/
  ((Bh ps n s).length<=100/\∃g c,e=.returned (.agg #[Ze,Zg wd,Zg now,Zg given,Zg births,T,.slice (some ⟨g,0,none⟩) (Bh ps n s).length c,L,Zc,Ze,Zc,Zc])/\w'.ownsRow w.1.size 71 2 (.slice (some ⟨g,0,none⟩) (Bh ps n s).length c) (Bh ps n s).length (Ab pC (Bh ps n s))))
theorem UM(o L h f kind zB:Int)(T pa U ra:Zk)(tc pc Y Z rn rc:Nat)(F:Dj)(d:Dy)(n s K:Zi)(w:Zh)(H:AW w w.1.size T F)(t:AU w w.1.size pa d)(yX:F.length<=1000)(hl:d.length<=1000)(I:Am F s)(l:d.Pairwise (λa b=>less a.name b.name=true)):
 D8 71 #[.agg (Yg o L h f T F.length tc pa d.length pc U Z Y),.agg (Yd kind s n zB K ra rn rc)] w λe j=>XD w j e o L h f (C3 T F.length tc) (C3 U Z Y) d n s:=by
 have⟨W,p⟩:=Ae (((w.alloc (.cells (Yg o L h f T F.length tc pa d.length pc U Z Y) 27)).alloc (.cells (Yd kind s n zB K ra rn rc) 32)).alloc (.cells Xz 36));have E:=(BI p).1;have P:=(BI p).2.1;have J:=(BI p).2.2.1;have M:Aa W (w.1.size+1) (Yc kind s n zB K ra rn rc):=by have h1:=Aa.new (w.alloc (.cells (Yg o L h f T F.length tc pa d.length pc U Z Y) 27)) (Yc kind s n zB K ra rn rc) 32;rw[Al]at h1;rw[p];exact Aa.A h1 (Zy)
 have O:Aa W (w.1.size+2) z12:=by have h1:=Aa.new ((w.alloc (.cells (Yg o L h f T F.length tc pa d.length pc U Z Y) 27)).alloc (.cells (Yd kind s n zB K ra rn rc) 32)) z12 36;rw[Al,Al]at h1;rw[p];exact h1
 have G:=Yw (Dk o L h f T tc (C3 pa d.length pc) (C3 U Z Y) F s W w.1.size (AW.A H E) E.size Yv);have yV:¬Cu F s<0:=by
  rcases CP F s with⟨_,hn⟩|⟨i,k,e,_⟩
  .exact absurd I hn
  .omega
 have m:Hid (∀X,Below (w.1.size+3) W X->Aa X w.1.size (Yh o L h f T F.length tc pa d.length pc U Z Y)/\Aa X (w.1.size+1) (Yc kind s n zB K ra rn rc)/\Aa X (w.1.size+2) z12):=λX D=>⟨Aa.same J (D.block _ Yv),Aa.same M (D.block _ Yv),Aa.same O (D.block _ Yv)⟩;have N:=Yw p;have j:w.1.size+3<=W.1.size:=Yv
 have HR:Hid (AU w w.1.size pa d):=t;have zZ:Hid (Zz w W):=E;have yI:=Yw l;have⟨v0,u,y,z,A,B,C,v7⟩:=Be J;obtain⟨r,_⟩:=M 1 _ rfl;clear p P J O M t E H I l;go_enter func71,ntmps71;go_upto_region 1 with fail;rw[<-N.o];clear N;go_wp2_with fail;refine G.Ai ?_;rintro e a ⟨rfl,l⟩;have zY:w.1.size+3<=a.1.size:=Zm j l.size;have yG:Hid (Below (w.1.size+3) W a):=l.aj j
 have E:Below a.1.size a (a.alloc (.cells #[] 71)):=Zy;have t:Hid ((a.alloc (.cells #[] 71)).ownsRow (w.1.size+3) 71 2 (Yz a.1.size 0 0) 0 []):=ownsRow_lit (base:=w.1.size+3) (e:=71) (size:=2) a #[] 0 Yv Yo rfl;have p:Hid (Below (w.1.size+3) W (a.alloc (.cells #[] 71))):=yG.ah (E.aj zY);generalize Cu F s=fi at *
 clear G E l r v0 u y z A B C v7;go_wp2
 go_loopw [5,6,7] (λv l i wr=>∃(k g c:Nat),k<=d.length/\i=Zg k/\l=.bool (DX (d.take k) n)/\v=Yz g (Cb (d.take k) n s).length c/\Hid (wr.ownsRow (w.1.size+3) 71 2 (Yz g (Cb (d.take k) n s).length c) (Cb (d.take k) n s).length (Ab pC (Cb (d.take k) n s))/\Below (w.1.size+3) W wr)) (λ_ _ i _=>d.length -(intOf i).toNat)
 case atStart=>exact⟨0,a.1.size,0,Az _,rfl,rfl,by simp[Cb,DX],⟨by simpa [Cb,DX,Ab]using t.o,p⟩⟩
 case round=>
  clear t p;obtain⟨k,g,c,hk,rfl,rfl,rfl,M⟩:=hrel;have zE:Below w.1.size w wr:=zZ.ah (M.2.aj Yv);have zT:w.1.size+3<=wr.1.size:=Zm j M.2.size;obtain⟨v0,u,y,z,A,B,C,v7⟩:=Be (m _ M.2).1;obtain⟨r,G⟩:=Aa.c2 ((m _ M.2).2.1) 1 2;by_cases hlt:k<d.length
  .obtain⟨R,zP,ha,hb,l⟩:=(AU.A HR zE).at hlt;subst ha;have HG:Hid (d[k]?=some d[k]):=Zv hlt;obtain⟨I,J⟩:=l k _ HG;have yH:∀X,Below (w.1.size+3) W X->X.cell? (Zd R (zP+k *2))=some (C4 d[k].name)/\X.cell? (Zd R (zP+k *2+1))=some (C4 d[k].sum):=λX D=>by have⟨b2,yS,e2,_,yK⟩:=(AU.A HR (zZ.ah (D.aj Yv))).at hlt;cases e2;exact yK k _ HG
   have yW:(Cb (d.take k) n s).length<=1001:=by have:=Lw (d.take k) n s;rw[Ct]at this;omega
   have zX:R<wr.1.size:=Dz zE.size
   clear l;have l:=Yw (Th n s HG);have D:=Yw (YZ n s HG);have p:=Yw (UL n s yI HG);have HD:=Yw (Ij n HG);generalize d[k]=x at *
   generalize hGk:Cb (d.take k) n s=gk at *
   generalize hDk:DX (d.take k) n=dk at *
   have yT:=Yw hGk;clear hGk hDk;have HC:=Yw yH;have zO:=M.2;have yE:=M.1;have xC:=zT;have xA:=zX;cases dk
   case' true=>
    have⟨t,E⟩:=p rfl;have X:=Yw E;have zC:Hid (DX (d.take (k+1)) n=true):=by show _=_;rw[HD.o];rfl
    have zA:(x.name.toList==n.toList)=false:=Br t;have S:(x.name.toList !=n.toList)=true:=by simp[bne,zA]
    clear E l D p t M
   case' false=>
    cases hless:Op.bytesLess x.name.toList n.toList
    case' true=>
     have X:=Yw (l rfl hless);have zC:Hid (DX (d.take (k+1)) n=false):=by show _=_;rw[HD.o];unfold less;rw[hless];rfl
     have t:x.name≠n:=λe=>by have:=By n;unfold less at this;rw[e,this]at hless;cases hless
     have zA:(x.name.toList==n.toList)=false:=Br t;have S:(x.name.toList !=n.toList)=true:=by simp[bne,zA]
     clear l D p t M
    case' false=>
     have zM:=Yw (D rfl hless);have zC:Hid (DX (d.take (k+1)) n=true):=by show _=_;rw[HD.o];unfold less;rw[hless];rfl
     clear l D p M;go_wp2;go_quiet (fail);have N:Below wr.1.size wr (wr.drewN nq):=Bg Ad _;generalize wr.drewN nq=wa at *
     have D:Below (w.1.size+3) W wa:=zO.ah (N.aj (Zm j zO.size));have zR:=Ah yE N;have zU:w.1.size+3<=wa.1.size:=Zm j D.size;have yM:R<wa.1.size:=Yv
     clear I J r G v0 u y z A B C;obtain⟨v0,u,y,z,A,B,C,v7⟩:=Be (m _ D).1;obtain⟨r,G⟩:=Aa.c2 ((m _ D).2.1) 1 2;have⟨I,J⟩:=HC wa D;obtain⟨b,l,wc,Q,P,O,_⟩:=Mv wa (w.1.size+3) _ gk zR ⟨n,s⟩ Yl zU 24;have p:Below (w.1.size+3) W wc:=D.ah (Ad.grown O zU (λq e=>(Ac zR e).1));have yR:w.1.size+3<=wc.1.size:=Zm j p.size
     have yN:R<wc.1.size:=Yv
     have zG:=P;clear P O;go_wp2_with (at_builtin;refine wpList_append_run rfl _ _ 24 24 rfl rfl rfl Q ?_);clear Q;clear I J r G v0 u y z A B C;obtain⟨v0,u,y,z,A,B,C,v7⟩:=Be (m _ p).1;obtain⟨r,G⟩:=Aa.c2 ((m _ p).2.1) 1 2;have⟨I,J⟩:=HC wc p;by_cases t:x.name=n
     .have zA:(x.name.toList==n.toList)=true:=by rw[t];simp
      have S:(x.name.toList !=n.toList)=false:=by rw[t];simp
      have X:Hid (Cb (d.take (k+1)) n s=gk++[⟨n,s⟩]):=by show _=_;rw[zM.o,if_pos t,append_nil]
      clear t zM;go_wp2;go_quiet (fail);have N:Below wc.1.size wc (wc.drewN nq):=Bg Ad _;generalize wc.drewN nq=o at *
      have E:Below (w.1.size+3) W o:=p.ah (N.aj (Zm j p.size));have zH:=Ah zG N;have zV:w.1.size+3<=o.1.size:=Zm j E.size;have yO:R<o.1.size:=Yv
      clear I J r G v0 u y z A B C;obtain⟨v0,u,y,z,A,B,C,v7⟩:=Be (m _ E).1;obtain⟨r,G⟩:=Aa.c2 ((m _ E).2.1) 1 2;have⟨I,J⟩:=HC o E;have H:=Yw (Zn zH E);clear zH E;go_wp2;exact⟨⟨k+1,b,l,Yv,Yn,by rw[zC.o],by rw[X.o];simp,⟨by rw[X.o];simpa using H.1,H.2⟩⟩,Ys⟩
     .have zA:(x.name.toList==n.toList)=false:=Br t;have S:(x.name.toList !=n.toList)=true:=by simp[bne,zA]
      have X:Hid (Cb (d.take (k+1)) n s=(gk++[⟨n,s⟩])++[x]):=by show _=_;rw[zM.o,if_neg t]
      clear t zM;go_wp2;go_quiet (fail);have N:Below wc.1.size wc (wc.drewN nq):=Bg Ad _;generalize wc.drewN nq=o at *
      have E:Below (w.1.size+3) W o:=p.ah (N.aj (Zm j p.size));have zH:=Ah zG N;have zV:w.1.size+3<=o.1.size:=Zm j E.size;have yO:R<o.1.size:=Yv
      clear I J r G v0 u y z A B C;obtain⟨v0,u,y,z,A,B,C,v7⟩:=Be (m _ E).1;obtain⟨r,G⟩:=Aa.c2 ((m _ E).2.1) 1 2;have⟨I,J⟩:=HC o E;obtain⟨g9,zW,we,zK,zJ,zI,_⟩:=Mv o (w.1.size+3) _ (gk++[⟨n,s⟩]) zH x Yl zV 24;have t:Below (w.1.size+3) W we:=E.ah (Ad.grown zI zV (λq e=>(Ac zH e).1));have xB:w.1.size+3<=we.1.size:=Zm j t.size
      have yZ:R<we.1.size:=Yv
      have yD:=zJ;clear zJ zI;go_wp2_with (at_builtin;refine wpList_append_run rfl _ _ 24 24 rfl rfl rfl zK ?_);clear zK;clear I J r G v0 u y z A B C;obtain⟨v0,u,y,z,A,B,C,v7⟩:=Be (m _ t).1;obtain⟨r,G⟩:=Aa.c2 ((m _ t).2.1) 1 2;have⟨I,J⟩:=HC we t;have H:=Yw (Zn yD t);clear yD t;go_wp2
      exact⟨⟨k+1,g9,zW,Yv,Yn,by rw[zC.o],by rw[X.o];simp,⟨by rw[X.o];simpa using H.1,H.2⟩⟩,Ys⟩
   all_goals
    go_wp2;go_quiet (fail);have N:Below wr.1.size wr (wr.drewN nq):=Bg Ad _;generalize wr.drewN nq=wa at *
    have D:Below (w.1.size+3) W wa:=zO.ah (N.aj (Zm j zO.size));have zR:=Ah yE N;have zU:w.1.size+3<=wa.1.size:=Zm j D.size;have yM:R<wa.1.size:=Yv
    clear I J r G v0 u y z A B C;obtain⟨v0,u,y,z,A,B,C,v7⟩:=Be (m _ D).1;obtain⟨r,G⟩:=Aa.c2 ((m _ D).2.1) 1 2;have⟨I,J⟩:=HC wa D;go_wp2;go_quiet (fail);have N:Below wa.1.size wa (wa.drewN nq):=Bg Ad _;generalize wa.drewN nq=wb at *
    have zF:Below (w.1.size+3) W wb:=D.ah (N.aj (Zm j D.size));have yC:=Ah zR N;have yF:w.1.size+3<=wb.1.size:=Zm j zF.size;have yY:R<wb.1.size:=Yv
    clear I J r G v0 u y z A B C;obtain⟨v0,u,y,z,A,B,C,v7⟩:=Be (m _ zF).1;obtain⟨r,G⟩:=Aa.c2 ((m _ zF).2.1) 1 2;have⟨I,J⟩:=HC wb zF;obtain⟨b,l,wc,Q,P,O,_⟩:=Mv wb (w.1.size+3) _ gk yC x Yl yF 24;have p:Below (w.1.size+3) W wc:=zF.ah (Ad.grown O yF (λq e=>(Ac yC e).1));have yR:w.1.size+3<=wc.1.size:=Zm j p.size
    have yN:R<wc.1.size:=Yv
    have zG:=P;clear P O;go_wp2_with (at_builtin;refine wpList_append_run rfl _ _ 24 24 rfl rfl rfl Q ?_);clear Q;clear I J r G v0 u y z A B C;obtain⟨v0,u,y,z,A,B,C,v7⟩:=Be (m _ p).1;obtain⟨r,G⟩:=Aa.c2 ((m _ p).2.1) 1 2;have⟨I,J⟩:=HC wc p;have H:=Yw (Zn zG p);clear zG p;go_wp2
    exact⟨⟨k+1,b,l,Yv,Yn,by rw[zC.o],by rw[X.o];simp,⟨by rw[X.o];simpa using H.1,H.2⟩⟩,Ys⟩
  .obtain rfl:k=d.length:=Yv
   have O:=M.1;rw[Zt (Zx)]at O |-;have p:Hid (Zz w wr):=zE;cases hDn:DX d n with
   |true=>
    have t:=We n s hDn;rw[t]at O |-;have H:=Yw O;have yJ:=Lw d n s;rw[t]at yJ;have f5:=((m _ M.2).1 5 _ rfl).2;obtain⟨⟨y0,q0⟩,⟨y1,q1⟩,⟨y2,q2⟩,⟨y3,q3⟩,⟨y4,q4⟩,⟨y5,q5⟩,⟨y6,q6⟩,⟨y7,q7⟩,⟨y8,q8⟩,⟨y9,q9⟩,⟨P,yP⟩,Q,yQ⟩:=Bf (m _ M.2).2.2;clear hDn t zE M r G;by_cases hbig:100<(Bh d n s).length
    .have S:(100:Int)<((Bh d n s).length:Int):=Yv
     have r:Hid (100<(Bh d n s).length):=hbig;clear hbig O;go_wp2;refine C0 (.agg (Xy 4)) (by simp[results,results71,go_sem,y0,y1,y2,y3,y4,y5,y6,y7,y8,y9,P,Q]) ?_;exact⟨p.ah (Tn.A (Bs wr (w.1.size+2) _ _ _ _ _ _ _ _ _ _ _ _) p.size (by intro v hv;simp at hv;omega)),.inl ⟨r,rfl⟩⟩
    .have S:¬(100:Int)<((Bh d n s).length:Int):=Yv
     have r:Hid ((Bh d n s).length<=100):=by show _<=_;omega
     clear hbig O;go_wp2;refine C0 (.agg #[Ze,Zg o,Zg L,Zg h,Zg f,C3 T F.length tc,Yz g (Bh d n s).length c,C3 U Z Y,Zc,Ze,Zc,Zc]) (by simp[results,results71,go_sem,y0,y1,y2,y3,y4,y5,y6,y7,y8,y9,P,Q]) ?_
     have T':=(Tn.set (V:=[w.1.size,w.1.size+2]) wr w.1.size 5 (Yz g (Bh d n s).length c) Yu).ah (Tn.aj (Bs (wr.setCell (Zd (w.1.size) 5) (Yz g (Bh d n s).length c)) (w.1.size+2) Ze (Zg o) (Zg L) (Zg h) (Zg f) (C3 T F.length tc) (Yz g (Bh d n s).length c) (C3 U Z Y) Zc Ze Zc Zc) Yu)
     exact⟨p.ah (T'.A p.size (by intro v hv;simp at hv;omega)),.inr ⟨r,g,c,rfl,(As H (λq S=>T'.block q (Ac H S).2 (by have:=(Ac H S).1;simp;omega))).aj Yv⟩⟩
   |false=>
    have yU:=Lw d n s;have t:=ZA n s hDn;obtain⟨b,l,w8,yB,zS,yA,yL⟩:=Mv wr (w.1.size+3) _ (Cb d n s) O ⟨n,s⟩ Yv zT 24;have b8:Below (w.1.size+3) wr w8:=Ad.grown yA zT (λq e=>(Ac O e).1);have zN:Below (w.1.size+3) W w8:=M.2.ah b8;have p:Hid (Zz w w8):=p.ah (b8.aj Yv);have G:Hid ((Bh d n s).length=(Cb d n s).length+1):=by show _=_;rw[<-t];simp
    rw[t,G.o]at zS;have H:=Yw zS;have f5:=((m _ zN).1 5 _ rfl).2;obtain⟨⟨y0,q0⟩,⟨y1,q1⟩,⟨y2,q2⟩,⟨y3,q3⟩,⟨y4,q4⟩,⟨y5,q5⟩,⟨y6,q6⟩,⟨y7,q7⟩,⟨y8,q8⟩,⟨y9,q9⟩,⟨P,yP⟩,Q,yQ⟩:=Bf (m _ zN).2.2;obtain⟨z0,z1,z2,z3,z4,z5,z6,z7⟩:=Be (m _ zN).1;clear hDn t zE M b8 yA yL zS zN O;by_cases hbig:100<((Cb d n s).length+1)
    .have S:(100:Int)<((Cb d n s).length:Int)+1:=Yv
     have r:Hid (100<(Bh d n s).length):=by show _<_;rw[G.o];exact hbig
     clear hbig;go_wp2_with (at_builtin;refine wpList_append_run rfl _ _ 24 24 rfl rfl rfl yB ?_);refine C0 (.agg (Xy 4)) (by simp[results,results71,go_sem,y0,y1,y2,y3,y4,y5,y6,y7,y8,y9,P,Q]) ?_;exact⟨p.ah (Tn.A (Bs w8 (w.1.size+2) _ _ _ _ _ _ _ _ _ _ _ _) p.size (by intro v hv;simp at hv;omega)),.inl ⟨r,rfl⟩⟩
    .have S:¬(100:Int)<((Cb d n s).length:Int)+1:=Yv
     have M:¬(100:Int)<(((Cb d n s).length+1:Nat):Int):=Yv
     have r:Hid ((Bh d n s).length<=100):=by show _<=_;rw[G.o];omega
     clear hbig;go_wp2_with (at_builtin;refine wpList_append_run rfl _ _ 24 24 rfl rfl rfl yB ?_);refine C0 (.agg #[Ze,Zg o,Zg L,Zg h,Zg f,C3 T F.length tc,Yz b ((Cb d n s).length+1) l,C3 U Z Y,Zc,Ze,Zc,Zc]) (by simp[results,results71,go_sem,y0,y1,y2,y3,y4,y5,y6,y7,y8,y9,P,Q]) ?_
     have T':=(Tn.set (V:=[w.1.size,w.1.size+2]) w8 w.1.size 5 (Yz b ((Cb d n s).length+1) l) Yu).ah (Tn.aj (Bs (w8.setCell (Zd (w.1.size) 5) (Yz b ((Cb d n s).length+1) l)) (w.1.size+2) Ze (Zg o) (Zg L) (Zg h) (Zg f) (C3 T F.length tc) (Yz b ((Cb d n s).length+1) l) (C3 U Z Y) Zc Ze Zc Zc) Yu)
     have t:=(As H (λq S=>T'.block q (Ac H S).2 (by have:=(Ac H S).1;simp;omega))).aj (show w.1.size<=w.1.size+3 by omega);refine⟨p.ah (T'.A p.size (by intro v hv;simp at hv;omega)),.inr ⟨r,b,l,by rw[G.o],?_⟩⟩;rw[G.o];exact t
theorem Mx(w:Zh)(b:Nat)(v:D4)(d:List (Kd×Value))(B:w.ownsRow b 68 4 v d.length (Ab kC d))(z:Kd×Value)(D:∃a n c,z.2=C3 a n c)(A:d.length<=1000000)(m:b<=w.1.size)(o:TypeId):
 ∃g f i,(Builtin.append_ #[23,23] o #[v,Yz w.1.size 1 1]).run prog (w.alloc (.cells #[C4 z.1.sum,Zg z.1.born,C4 z.1.J,z.2] 68))=.ok (Yz g (d.length+1) f) i/\i.ownsRow b 68 4 (Yz g (d.length+1) f) (d++[z]).length (Ab kC (d++[z]))/\w.grownBy i v.ownBlock/\(v.ownBlock=some g\/g=w.1.size+1):=by
 have⟨E,y,q,r,s⟩:=info_parts GY;have p:=Ah B (Ad.alloc (Zx) (.cells #[C4 z.1.sum,Zg z.1.born,C4 z.1.J,z.2] 68));have x:∀j u,(Ab kC [z])[j]?=some u->(w.alloc (.cells #[C4 z.1.sum,Zg z.1.born,C4 z.1.J,z.2] 68)).cell? ((⟨w.1.size,0,none⟩:Addr).add j)=some u:=by intro j u k;rw[A3,A0];exact(Aa.new w [C4 z.1.sum,Zg z.1.born,C4 z.1.J,z.2] 68 j u (by simpa [Ab,kC]using k)).1
 obtain⟨F,i,C,l,t,_,h⟩:=run_append_own_at (P:=prog) (w.alloc (.cells #[C4 z.1.sum,Zg z.1.born,C4 z.1.J,z.2] 68)) b 23 o 68 E _ 4 64 underlying23 y q r s rfl Yq v d.length (Ab kC d) p ⟨w.1.size,0,none⟩ 1 1 (Ab kC [z]) (by simp[Ab,kC]) x (by intro u k;obtain⟨a,n,c,e⟩:=D;simp[Ab,kC,e]at k;rcases k with rfl|rfl|rfl|rfl<;>rfl) Yo Yv Yt
 obtain⟨g,f,rfl,_,_⟩:=BF l (λe=>by subst e;rcases l.2 with⟨_,A⟩|⟨_,_,_,e,_⟩<;>first|omega|cases e);refine⟨g,f,i,C,?_,(grownBy_alloc w _ _).ah t,?_⟩
 .rw[Fb,Ak];exact l
 .rcases h with h|h
  .exact .inl h.symm
  .right;simpa [ownBlock]using h
def zD(zs:List (Kd×Value))(s:Zi):Bool:= !(zs.all (fun z=>less z.1.sum s))
def zQ(zs:List (Kd×Value))(one:Kd×Value):List (Kd×Value):=zs.filter (fun z=>less z.1.sum one.1.sum)++(if zD zs one.1.sum then [one]else [])++zs.filter (fun z=> !(less z.1.sum one.1.sum))
def CM(zs:List (Kd×Value))(one:Kd×Value):List (Kd×Value):=zs.filter (fun z=>less z.1.sum one.1.sum)++[one]++zs.filter (fun z=> !(less z.1.sum one.1.sum))
theorem Wf(b:List (Kd×Value))(a:Kd×Value):(CM b a).map (·.1)=De (b.map (·.1)) a.1:=by unfold CM De;rw[map_append,map_append,filter_map,filter_map];rfl
theorem Lx{b:List (Kd×Value)}{a z:Kd×Value}(h:z∈CM b a):z∈b\/z=a:=by
 unfold CM at h;simp only[A7,Bb,mem_singleton]at h;rcases h with(h|h)|h
 .exact .inl h.1
 .exact .inr h
 .exact .inl h.1
theorem KA{a:List (Kd×Value)}{x:Kd×Value}(s:Zi)(c:a[k]?=some x):zD (a.take (k+1)) s=(zD (a.take k) s|| !(less x.1.sum s)):=by obtain⟨b,rfl⟩:=Zw c;unfold zD;rw[Zu b,all_append];simp
theorem Jb{a:List (Kd×Value)}(h:zD a s=false):a.filter (λz=> !(less z.1.sum s))=[]:=by
 rw[filter_eq_nil_iff];intro x b;have:less x.1.sum s=true:=by unfold zD at h;simp only[Bool.not_eq_false']at h;exact all_eq_true.1 h x b
 simp[this]
theorem Wg{b:List (Kd×Value)}{x:Kd×Value}(a:Kd×Value)(f:b[k]?=some x)(d:zD (b.take k) a.1.sum=false)(e:less x.1.sum a.1.sum=true):zQ (b.take (k+1)) a=zQ (b.take k) a++[x]:=by have c:=KA a.1.sum f;rw[d,e]at c;unfold zQ;rw[Jb d,Jb (by rw[c];rfl),c,d];obtain⟨g,rfl⟩:=Zw f;rw[Zu g,filter_append];simp[e]
theorem Abx{b:List (Kd×Value)}{x:Kd×Value}(a:Kd×Value)(g:b[k]?=some x)(c:zD (b.take k) a.1.sum=false)(f:less x.1.sum a.1.sum=false):zQ (b.take (k+1)) a=zQ (b.take k) a++[a]++[x]:=by have d:=KA a.1.sum g;rw[c,f]at d;have e:=Jb c;unfold zQ;rw[e,d,c];obtain⟨h,rfl⟩:=Zw g;rw[Zu h,filter_append,filter_append,e];simp[f]
theorem ZB{d:List (Kd×Value)}{x:Kd×Value}(c:Kd×Value)(g:(d.map (·.1.sum)).Pairwise (fun a b=>less a b=true))(o:d[k]?=some x)(i:zD (d.take k) c.1.sum=true):zQ (d.take (k+1)) c=zQ (d.take k) c++[x]:=by
 have n:=KA c.1.sum o;rw[i,Bool.true_or]at n;obtain⟨l,rfl⟩:=Zw o;obtain⟨y,s,m⟩:∃y∈d.take k,less y.1.sum c.1.sum=false:=by unfold zD at i;simpa using i
 obtain⟨j,q⟩:=List.getElem?_of_mem s;obtain⟨p,e⟩:=Zw q;rw[List.length_take]at p;rw[List.getElem_take]at e;have f:=List.pairwise_iff_getElem.1 g j k Yt (by simpa using l) Yv;rw[List.getElem_map,List.getElem_map,e]at f;have r:less d[k].1.sum c.1.sum=false:=by
  cases h:less d[k].1.sum c.1.sum with
  |false=>rfl
  |true=>rw[BV f h]at m;cases m
 unfold zQ;rw[n,i,Zu l,List.filter_append,List.filter_append];simp[r]
theorem Aav{b:List (Kd×Value)}(a:Kd×Value)(c:zD b a.1.sum=true):zQ b a=CM b a:=by unfold zQ CM;rw[c];rfl
theorem Aby{b:List (Kd×Value)}(a:Kd×Value)(c:zD b a.1.sum=false):zQ b a++[a]=CM b a:=by unfold zQ CM;rw[c,Jb c];simp
theorem UN(b:List (Kd×Value))(a:Kd×Value):(zQ b a).length<=b.length+1:=by
 have h:∀(l:List (Kd×Value)),(l.filter (λz=>less z.1.sum a.1.sum)).length+(l.filter (λz=> !(less z.1.sum a.1.sum))).length=l.length:=by
  intro l;induction l with
  |nil=>rfl
  |cons y l ih=>cases hl:less y.1.sum a.1.sum<;>simp[hl]<;>omega
 have:=h b;unfold zQ;rw[Ak,Ak];split<;>simp<;>omega
theorem Nf{a:Dj}(h:Am a s):∃(i:Nat) (k:Kd),Cu a s=(i:Int)/\a[i]?=some k/\k.sum=s:=by
 rcases CP a s with⟨_,d⟩|⟨i,k,e,b,c⟩
 .exact absurd h d
 .exact⟨i,k,e,b,c⟩
theorem IJ{a:Dj}(h:¬Am a s):Cu a s<0:=by
 rcases CP a s with⟨e,_⟩|⟨i,k,e,b,c⟩
 .omega
 .exact absurd ⟨k,Zs b,c⟩ h
theorem ZC(g d m:Nat)(O P L:Value)(r p f c:Int)(o:List Kd)(j:List Pd)(t:List Ld)(n s:Zi)(w:Zh)(h:DU w g d m O P L r p f c o j t)(u:∀k∈o,(k.sum.size:Int)=r)(l:Am o s)(z:j.length<=100)(i:j.Pairwise (fun a b=>less a.name b.name=true))(q:(∃x∈j,x.name=n)\/j.length<100):
 Calls prog 92 #[Yy d,.string n,.string s] w fun e v=>e=.returned (.tuple #[])/\∃y,DU v g d m O y L r p f c o (Bh j n s) t/\Tn (d::P.ownBlock.toList) w v:=by
 by_cases hth:∃x∈j,x.name=n
 .exact YT g d m O P L r p f c o j t n s w h u l Yv i hth
 .exact YU g d m O P L r p f c o j t n s w h u l (by rcases q with h|h;exact absurd h hth;exact h) i hth
theorem OD(g d m:Nat)(O P L:D4)(r j f c:Int)(l:Dj)(i:Dy)(q:Dv)(s n B:Zi)(u:Int)(y:Zk)(A z:Nat)(w:Zh)(h:DU w g d m O P L r j f c l i q)(C:∀k∈l,(k.sum.size:Int)=r)(t:Am l s)(E:i.length<=100)(p:i.Pairwise (λa b=>less a.name b.name=true))(o:(∃x∈i,x.name=n)\/i.length<100):
 D8 62 #[Yy d,.agg (Yd 2 s n u B y A z)] w λe v=>e=C5 (.agg z12.toArray)/\∃D,DU v g d m O D L r j f c l (Bh i n s) q/\Tn (d::P.ownBlock.toList) w v:=
 Gj g d m O P L r j f c l i q s n B u y A z w h 2 (λV=>V) (λ_=>L) j (Bh i n s) q (d::P.ownBlock.toList) (λb v=>h.I.dj b (by unfold vB;simp at v |-;rcases v with rfl|v<;>simp[*])) (.inl ⟨rfl,λW D=>ZC g d m O P L r j f c l i q n s W D C t E p o⟩)
theorem My(f d m:Nat)(O P L:D4)(G E c a:Int)(q:Dj)(y:Dy)(u:Dv)(s x C:Zi)(o:Int)(z:Zk)(B A:Nat)(w:Zh)(j:Dr w f d m O P L G E c a q y u)(T:Ev G q)(hp:y.length<=100)(hl:u.length<=200)(U:Am q s)(r:¬(((∃p∈y,p.sum=s)\/∃l∈u,l.sum=s)\/∃k∈q,s∈k.B)):
 D8 62 #[Yy d,.agg (Yd 7 s x o C z B A)] w λe g=>e=C5 (.agg z12.toArray)/\∃t,Dr g f d m t P L G E c a (CJ q s) y u/\t.ownBlock=O.ownBlock/\Tn (vB d m O P L) w g:=by
 have⟨W,g⟩:=Ae (((w.alloc (.cells (Yd 7 s x o C z B A) 32)).alloc (.cells Xz 36)).alloc (.cells Xz 36));have R:=(BI g).1;have H:=(BI g).2.1;have Z:W.cell? (Zd (w.1.size) 0)=some (Zg 7):=by rw[g];simp[go_sem]
 have k:W.cell? (Zd (w.1.size) 1)=some (C4 s):=by rw[g];simp[go_sem]
 have K:Aa W (w.1.size+1) z12:=by have n:=Aa.new (w.alloc (.cells (Yd 7 s x o C z B A) 32)) z12 36;rw[Al]at n;rw[g];exact Aa.A (v:=Ze) n (Zy)
 have J:Aa W (w.1.size+2) z12:=by have n:=Aa.new ((w.alloc (.cells (Yd 7 s x o C z B A) 32)).alloc (.cells z12.toArray 36)) z12 36;rw[Al,Al]at n;rw[g];exact n
 have N:=Yw (j.A R);have F:Hid (∀b∈vB d m O P L,b<w.1.size):=by
  intro b i;unfold vB at i;simp only[Bv,A7,A8]at i;rcases i with rfl|rfl|i|i|i
  .exact j.box.lt
  .exact(j.map.choose_spec.choose_spec.2.1).lt
  .exact(Ac j.ord i).2
  .exact(Ac j.cj i).2
  .exact(Ac j.dq i).2
 have Y:Hid (W.1[w.1.size+1]?=some (.cells Xz 36)):=by show _=_;rw[g,Below.heap_alloc _ _ _ Yu];have:=heap_alloc_new (w.alloc (.cells (Yd 7 s x o C z B A) 32)) (.cells Xz 36);rw[Al]at this;exact this
 have M:f<=w.1.size:=by have:=j.bd;have:=j.box.lt;omega
 have I:=Yw g;have Q:=Yw (Zn K J);have D:=Yw H;clear g j K J H;go_enter func62,ntmps62;go_upto_region 2 with fail;rw[<-I.o];clear I;go_wp2_with fail;refine(VH f d m O P L G E c a q y u s W N T hp hl U r).aj ?_;rintro e K ⟨rfl,t,H,S,g,_⟩;have J:=Aa.same Q.1 (g.block _ (Dz D.o) (λh=>Dz (F _ h)))
 have I:=Aa.same Q.2 (g.block _ (Dz D.o) (λh=>Dz (F _ h)));have⟨⟨l,q0⟩,⟨p,q1⟩,⟨y2,q2⟩,⟨y3,q3⟩,⟨y4,q4⟩,⟨y5,q5⟩,⟨y6,q6⟩,⟨y7,q7⟩,⟨y8,q8⟩,⟨y9,q9⟩,⟨V,zA⟩,X,zB⟩:=Bf J;have⟨⟨v0,_⟩,⟨v1,_⟩,⟨v2,_⟩,⟨v3,_⟩,⟨v4,_⟩,⟨v5,_⟩,⟨v6,_⟩,⟨v7,_⟩,⟨v8,_⟩,⟨v9,_⟩,⟨zC,_⟩,zE,_⟩:=Bf I;have j:=Yw (Zn H (Zn S g));clear H S g J I Z k N;go_wp2;have J:w.1.size+1∉vB d m t P L:=λh=>by
  have:w.1.size+1∈vB d m O P L:=by unfold vB at h |-;rw[j.2.1]at h;exact h
  have:=F _ this;omega
 have I:∀g H,K.1[w.1.size+1]?≠some (.cells g 9 H):=λg H e=>by have n:=j.2.2.block (w.1.size+1) (Dz D.o) (λh=>Dz (F _ h));rw[e,Y.o]at n;simp at n
 refine C0 (.agg z12.toArray) (by simp[results,results62,go_sem,l,p,y2,y3,y4,y5,y6,y7,y8,y9,V,X,z12]) ⟨rfl,t,Dr.apart j.1 (Bs K _ _ _ _ _ _ _ _ _ _ _ _ _) Yv J I,j.2.1,Tn.fresh ((Tn.of R).ah j.2.2) (Bs K _ _ _ _ _ _ _ _ _ _ _ _ _) Yv⟩
theorem Ly(c d m:Nat)(O P L:D4)(r n b a:Int)(g:Dj)(i:Dy)(h:Dv)(s x B:Zi)(o:Int)(y:Zk)(A z:Nat)(w:Zh)(u:Dr w c d m O P L r n b a g i h)(C:Ev r g)(G:i.length<=100)(F:h.length<=200)(D:Am g s)(j:((∃p∈i,p.sum=s)\/∃l∈h,l.sum=s)\/∃k∈g,s∈k.B):
 D8 62 #[Yy d,.agg (Yd 7 s x o B y A z)] w λe f=>e=.panicked [{v:=Cl 6 ⟨#[]⟩ ⟨#[]⟩,recovered:=false}]/\Zz w f:=by
 have⟨W,f⟩:=Ae (((w.alloc (.cells (Yd 7 s x o B y A z) 32)).alloc (.cells Xz 36)).alloc (.cells Xz 36));have q:=(BI f).1;have H:W.cell? (Zd (w.1.size) 0)=some (Zg 7):=by rw[f];simp[go_sem]
 have I:W.cell? (Zd (w.1.size) 1)=some (C4 s):=by rw[f];simp[go_sem]
 have E:=Yw (u.A q);have t:=Yw f;clear f u;go_enter func62,ntmps62;go_upto_region 2 with fail;rw[<-t.o];clear t;go_wp2_with fail;refine(Uq c d m O P L r n b a g i h s W E C G F D j).aj ?_;rintro e t ⟨rfl,f⟩;exact⟨rfl,rfl,q.ah (f.aj q.size)⟩
theorem Qb(c d m:Nat)(O P L:D4)(j i b a:Int)(f:Dj)(o:Dy)(n:Dv)(s:Zi)(w:Zh)(l:Dr w c d m O P L j i b a f o n)(g:∀k∈f,(k.sum.size:Int)=j)(h:¬Am f s):
 D8 96 #[Yy d,C4 s] w λe p=>e=.panicked [{v:=Cl 2 ⟨#[]⟩ ⟨#[]⟩,recovered:=false}]/\Zz w p:=by
 have HN:=Yw (Ky c d m O P L j i b a f o n s w l g h);clear l g h;go_enter func96,ntmps96;go_wp2_with fail;refine HN.Ai ?_;rintro e h ⟨rfl,g⟩;go_wp2;exact⟨rfl,rfl,g⟩
theorem Js(c d m:Nat)(O P L:D4)(l h b a:Int)(g:Dj)(r:Dy)(p:Dv)(s q y:Zi)(i:Int)(t:Zk)(x u:Nat)(w:Zh)(o:Dr w c d m O P L l h b a g r p)(z:∀k∈g,(k.sum.size:Int)=l)(A:¬Am g s):
 D8 62 #[Yy d,.agg (Yd 7 s q i y t x u)] w λe f=>e=.panicked [{v:=Cl 2 ⟨#[]⟩ ⟨#[]⟩,recovered:=false}]/\Zz w f:=by
 have⟨W,f⟩:=Ae (((w.alloc (.cells (Yd 7 s q i y t x u) 32)).alloc (.cells Xz 36)).alloc (.cells Xz 36));have j:=(BI f).1;have C:W.cell? (Zd (w.1.size) 0)=some (Zg 7):=by rw[f];simp[go_sem]
 have D:W.cell? (Zd (w.1.size) 1)=some (C4 s):=by rw[f];simp[go_sem]
 have B:=Yw (o.A j);have n:=Yw f;clear f o;go_enter func62,ntmps62;go_upto_region 2 with fail;rw[<-n.o];clear n;go_wp2_with fail;refine(Qb c d m O P L l h b a g r p s W B z A).aj ?_;rintro e n ⟨rfl,f⟩;exact⟨rfl,rfl,j.ah (f.aj j.size)⟩
structure Rs where
 j:Zi
 le:Int
 D:Int
 F:Int
 C:Int
 ks:List Kd
 ps:List Pd
 ls:List Ld
def BP(wd now given births:Int)(ks:List Kd)(ps:List Pd)(ls:List Ld)(kd:Int)(s nm:Zi)(num:Int)(text:Zi)(refs:Zl)(r:Rs):Prop:=
 (kd=1/\(∀r∈refs,Am ks r)/\ls.length<200/\given<1000000000/\∃ks1 ai,CA wd births ks text refs ks1 ai/\r=⟨AX text refs wd,given+1,now,given+1,ai,ks1,ps,ls++[⟨given+1,AX text refs wd,now+num⟩]⟩)\/
 (kd=2/\Am ks s/\((∃x∈ps,x.name=nm)\/ps.length<100)/\r=⟨⟨#[]⟩,0,now,given,births,ks,Bh ps nm s,ls⟩)\/
 (kd=3/\(∃x∈ps,x.name=nm)/\r=⟨⟨#[]⟩,0,now,given,births,ks,Bd ps nm,ls⟩)\/
 (kd=4/\Am ks s/\ls.length<200/\given<1000000000/\r=⟨⟨#[]⟩,given+1,now,given+1,births,ks,ps,ls++[⟨given+1,s,now+num⟩]⟩)\/
 (kd=5/\(∃x∈ls,x.G=num)/\r=⟨⟨#[]⟩,0,now,given,births,ks,ps,Bu ls num⟩)\/
 (kd=6/\now+num<=1000000000/\r=⟨⟨#[]⟩,0,now+num,given,births,ks,ps,AT ls (now+num)⟩)\/
 (kd=7/\Am ks s/\¬GM ps ls ks s/\r=⟨⟨#[]⟩,0,now,given,births,CJ ks s,ps,ls⟩)
def Ep(wd now given births:Int)(ks:List Kd)(ps:List Pd)(ls:List Ld)(kd:Int)(s nm:Zi)(num:Int)(text:Zi)(refs:Zl)(c:Int)(a b:Zi):Prop:=
 (kd=1/\Gk wd given births ks ls text refs c a b)\/
 (a=⟨#[]⟩/\b=⟨#[]⟩/\(
   (kd=2/\((¬Am ks s/\c=2)\/(Am ks s/\(¬∃x∈ps,x.name=nm)/\ps.length=100/\c=4)))\/
   (kd=3/\(¬∃x∈ps,x.name=nm)/\c=5)\/
   (kd=4/\((¬Am ks s/\c=2)\/(Am ks s/\(ls.length=200\/given=1000000000)/\c=4)))\/
   (kd=5/\(¬∃x∈ls,x.G=num)/\c=5)\/
   (kd=6/\1000000000<now+num/\c=4)\/
   (kd=7/\((¬Am ks s/\c=2)\/(Am ks s/\GM ps ls ks s/\c=6)))))
structure GB (wd now given births:Int) (ks:List Kd) (ps:List Pd) (ls:List Ld) (kd num:Int) (text:Zi) (refs:Zl):Prop where
 bt:Ev wd ks
 w1:1<=wd
 np:ps.length<=100
 nl:ls.length<=200
 cg:ps.Pairwise (fun a b=>less a.name b.name=true)
 di:ls.Pairwise (fun a b=>a.G<b.G)
 de:0<=now
 ct:now<=1000000000
 br:0<=given
 bh:given<=1000000000
 az:0<=births
 ai:births<=1000000000
 jz:1<=kd
 jx:kd<=7
 gw:0<=num
 gz:num<=1000000000
 cz:∀k∈ks,k.J.size<=maxLen
 jt:text.size<=maxLen
 kj:refs.length<=1000
theorem EK(b:Zi)(a:Zl)(c:Int)(h:1<=c):((AX b a c).size:Int)=c:=Fx ⟨⟨#[]⟩,0,b,a⟩ c h
def Qc(base d m:Nat)(wd:Int)(r:Rs)(w:Zh):Prop:=∃O P L,Dr w base d m O P L wd r.D r.F r.C r.ks r.ps r.ls
theorem Ti(k d m:Nat)(O P L:D4)(z o g f:Int)(t:Dj)(p:Dy)(u:Dv)(H:Int)(s y:Zi)(n:Int)(l:Zi)(j:Zl)(C:Zk)(D:Nat)(w:Zh)(h:DU w k d m O P L z o g f t p u)(i:GB z o g f t p u H n l j)(Y:DG w k (vB d m O P L) C j):
 D8 62 #[Yy d,.agg (Yd H s y n l C j.length D)] w λe B=>(∃c a b,Ep z o g f t p u H s y n l j c a b/\e=.panicked [{v:=Cl c a b,recovered:=false}]/\Tn (vB d m O P L) w B)\/(∃A q,e=C5 (.agg #[Ze,Ze,Ze,Ze,Ze,Zb,Zb,Zb,C4 A,Zg q,Zc,Zc])/\(∃r,BP z o g f t p u H s y n l j r/\r.j=A/\r.le=q/\Qc k d m z r B)/\Tn (vB d m O P L) w B):=by
 have S:∀b∈d::P.ownBlock.toList,b∈vB d m O P L:=by intro b q;unfold vB;simp at q |-;rcases q with rfl|q<;>simp[*]
 have R:∀b∈d::L.ownBlock.toList,b∈vB d m O P L:=by intro b q;unfold vB;simp at q |-;rcases q with rfl|q<;>simp[*]
 have I:∀X,Zz w X->DU X k d m O P L z o g f t p u:=λX E=>h.A E;obtain rfl|rfl|rfl|rfl|rfl|rfl|rfl:H=1\/H=2\/H=3\/H=4\/H=5\/H=6\/H=7:=by have:=i.jz;have:=i.jx;omega
 .refine(OC k d m O P L z o g f t p u s y l n j C D w h i.bt i.w1 i.cz (EK _ _ _ i.w1) i.jt i.kj i.az i.ai Y i.nl i.br i.bh i.de i.ct i.gw i.gz).aj ?_;rintro e B (⟨c,a,b,W,rfl,F⟩|⟨T,ai,M,Z,K,J,rfl,U,Q,G,F⟩)
  .exact .inl ⟨c,a,b,.inl ⟨rfl,W⟩,rfl,F⟩
  .exact .inr ⟨_,_,rfl,⟨_,.inl ⟨rfl,M,K,J,T,ai,Z,rfl⟩,rfl,rfl,⟨_,_,_,G.I⟩⟩,F⟩
 .by_cases hth:Am t s
  .by_cases hroom:(∃x∈p,x.name=y)\/p.length<100
   .refine(OD k d m O P L z o g f t p u s y l n C j.length D w h i.bt.sz hth i.np i.cg hroom).aj ?_;rintro e B ⟨rfl,V,G,F⟩;exact .inr ⟨_,_,rfl,⟨_,.inr (.inl ⟨rfl,hth,hroom,rfl⟩),rfl,rfl,⟨_,_,_,G.I⟩⟩,F.aj S⟩
   .have N:¬∃x∈p,x.name=y:=λe=>hroom (.inl e);have A:p.length=100:=by have:=i.np;have r:¬p.length<100:=λe=>hroom (.inr e);omega
    refine(JX d s y l n C j.length D 4 ⟨#[]⟩ ⟨#[]⟩ w (λX E=>Wc k d m O P L z o g f t p u y s X (I X E) i.bt.sz hth A i.cg N)).aj ?_;rintro e B ⟨rfl,q⟩;exact .inl ⟨4,_,_,.inr ⟨rfl,rfl,.inl ⟨rfl,.inr ⟨hth,N,A,rfl⟩⟩⟩,rfl,Tn.of q⟩
  .refine(JX d s y l n C j.length D 2 ⟨#[]⟩ ⟨#[]⟩ w (λX E=>QY k d m O P L z o g f t p u y s X (I X E) i.bt.sz hth)).aj ?_;rintro e B ⟨rfl,q⟩;exact .inl ⟨2,_,_,.inr ⟨rfl,rfl,.inl ⟨rfl,.inl ⟨hth,rfl⟩⟩⟩,rfl,Tn.of q⟩
 .by_cases hth:∃x∈p,x.name=y
  .refine(Mo k d m O P L z o g f t p u s y l n C j.length D w h (Dz i.np) i.cg hth).aj ?_;rintro e B ⟨rfl,V,G,F⟩;exact .inr ⟨_,_,rfl,⟨_,.inr (.inr (.inl ⟨rfl,hth,rfl⟩)),rfl,rfl,⟨_,_,_,G.I⟩⟩,F.aj S⟩
  .refine(Na d s y l n C j.length D 5 ⟨#[]⟩ ⟨#[]⟩ w (λX E=>VW k d m O P L z o g f t p u y X (I X E) (Dz i.np) i.cg hth)).aj ?_;rintro e B ⟨rfl,q⟩;exact .inl ⟨5,_,_,.inr ⟨rfl,rfl,.inr (.inl ⟨rfl,hth,rfl⟩)⟩,rfl,Tn.of q⟩
 .by_cases hth:Am t s
  .by_cases A:u.length=200\/g=1000000000
   .refine(IH d s y l n C j.length D 4 ⟨#[]⟩ ⟨#[]⟩ w (λX E=>NZ k d m O P L z o g f t p u s n X (I X E) i.bt.sz hth A)).aj ?_;rintro e B ⟨rfl,q⟩;exact .inl ⟨4,_,_,.inr ⟨rfl,rfl,.inr (.inr (.inl ⟨rfl,.inr ⟨hth,A,rfl⟩⟩))⟩,rfl,Tn.of q⟩
   .have K:u.length<200:=Dz i.nl
    have J:g<1000000000:=Dz i.bh
    refine(Mp k d m O P L z o g f t p u s y l n C j.length D w h i.bt.sz hth K i.br J i.de i.ct i.gw i.gz).aj ?_;rintro e B ⟨rfl,Q,G,F⟩;exact .inr ⟨_,_,rfl,⟨_,.inr (.inr (.inr (.inl ⟨rfl,hth,K,J,rfl⟩))),rfl,rfl,⟨_,_,_,G.I⟩⟩,F.aj R⟩
  .refine(IH d s y l n C j.length D 2 ⟨#[]⟩ ⟨#[]⟩ w (λX E=>PX k d m O P L z o g f t p u s n X (I X E) i.bt.sz hth)).aj ?_;rintro e B ⟨rfl,q⟩;exact .inl ⟨2,_,_,.inr ⟨rfl,rfl,.inr (.inr (.inl ⟨rfl,.inl ⟨hth,rfl⟩⟩))⟩,rfl,Tn.of q⟩
 .by_cases hth:∃x∈u,x.G=n
  .refine(MY k d m O P L z o g f t p u s y l n C j.length D w h i.nl i.di hth).aj ?_;rintro e B ⟨rfl,Q,G,F⟩;exact .inr ⟨_,_,rfl,⟨_,.inr (.inr (.inr (.inr (.inl ⟨rfl,hth,rfl⟩)))),rfl,rfl,⟨_,_,_,G.I⟩⟩,F.aj R⟩
  .refine(Ou d s y l n C j.length D 5 ⟨#[]⟩ ⟨#[]⟩ w (λX E=>YQ k d m O P L z o g f t p u n X (I X E) i.nl i.di hth)).aj ?_;rintro e B ⟨rfl,q⟩;exact .inl ⟨5,_,_,.inr ⟨rfl,rfl,.inr (.inr (.inr (.inl ⟨rfl,hth,rfl⟩)))⟩,rfl,Tn.of q⟩
 .by_cases hs:o+n<=1000000000
  .refine(MZ k d m O P L z o g f t p u s y l n C j.length D w h i.nl i.de i.gw hs).aj ?_;rintro e B ⟨rfl,Q,G,F⟩;exact .inr ⟨_,_,rfl,⟨_,.inr (.inr (.inr (.inr (.inr (.inl ⟨rfl,hs,rfl⟩))))),rfl,rfl,⟨_,_,_,G.I⟩⟩,F.aj R⟩
  .refine(Ov d s y l n C j.length D 4 ⟨#[]⟩ ⟨#[]⟩ w (λX E=>UB k d m O P L z o g f t p u n X (I X E) i.de i.ct i.gw i.gz Yv)).aj ?_;rintro e B ⟨rfl,q⟩;exact .inl ⟨4,_,_,.inr ⟨rfl,rfl,.inr (.inr (.inr (.inr (.inl ⟨rfl,Yv,rfl⟩))))⟩,rfl,Tn.of q⟩
 .by_cases hth:Am t s
  .by_cases huse:GM p u t s
   .refine(Ly k d m O P L z o g f t p u s y l n C j.length D w h.I i.bt i.np i.nl hth huse).aj ?_;rintro e B ⟨rfl,q⟩;exact .inl ⟨6,_,_,.inr ⟨rfl,rfl,.inr (.inr (.inr (.inr (.inr ⟨rfl,.inr ⟨hth,huse,rfl⟩⟩))))⟩,rfl,Tn.of q⟩
   .refine(My k d m O P L z o g f t p u s y l n C j.length D w h.I i.bt i.np i.nl hth huse).aj ?_;rintro e B ⟨rfl,U,G,_,F⟩;exact .inr ⟨_,_,rfl,⟨_,.inr (.inr (.inr (.inr (.inr (.inr ⟨rfl,hth,huse,rfl⟩))))),rfl,rfl,⟨_,_,_,G⟩⟩,F⟩
  .refine(Js k d m O P L z o g f t p u s y l n C j.length D w h.I i.bt.sz hth).aj ?_;rintro e B ⟨rfl,q⟩;exact .inl ⟨2,_,_,.inr ⟨rfl,rfl,.inr (.inr (.inr (.inr (.inr ⟨rfl,.inl ⟨hth,rfl⟩⟩))))⟩,rfl,Tn.of q⟩
section
theorem Ik{A:Type}{R:A->A->Prop}(l:∀a b c,R a b->R b c->R a c){e:List A}(h:∀(j:Nat) p q,e[j]?=some p->e[j+1]?=some q->R p q):e.Pairwise R:=by
 have m:∀(d i:Nat) u v,e[i]?=some u->e[i+d+1]?=some v->R u v:=by
  intro d;induction d with
  |zero=>intro i u v g f;exact h i u v g f
  |succ d ih=>intro i u v g f;have s:=(Zw f).1;have k:e[i+d+1]?=some e[i+d+1]:=Zv Yv;exact l _ _ _ (ih i u _ g k) (h _ _ _ k (by rw[show i+d+1+1=i+(d+1)+1 by omega];exact f))
 rw[pairwise_iff_getElem];intro i j n o r;exact m (j -i -1) i _ _ (Zv n) (by rw[show i+(j -i -1)+1=j by omega];exact Zv o)
theorem AJ.ak{b:Int}{c:Dj}{l:Dy}(h:AJ d e b a c l j):∀k∈c,Fk k.J k.B d:=λk g=>by have⟨i,f⟩:=A5 g;exact Bj (h.th i k f).ok
theorem AJ.bt{g:Int}{f:Dj}{w:Dy}(h:AJ g o d c f w t):Ev g f:=by
 have x:∀k∈f,(k.sum.size:Int)=g:=λk e=>by have⟨i,r⟩:=A5 e;rw[(h.th i k r).sum];exact Fx k g h.bn.gm
 have l:(f.map (·.sum)).Pairwise (λa b=>less a b=true):=by refine WU (λj p q m n=> ?_);rw[getElem?_map]at m n;obtain⟨u,s,rfl⟩:=Option.map_eq_some_iff.1 m;obtain⟨v,m,rfl⟩:=Option.map_eq_some_iff.1 n;exact(h.th (j+1) v m).up j u rfl s
 exact⟨KJ l,l,x,λk e=>⟨Dz (h.ak k e).B,NH (h.ak k e).all⟩,h.nth,h.bn.ib⟩
theorem Ee{e:Zi}{a:Zl}(h:Bp c s e d b a f=true):1<=c/\c<=7/\WR c.toNat s e d b a f:=by unfold Bp at h;simp only[Bool.and_eq_true,decide_eq_true_eq]at h;exact⟨h.1.1,h.1.2,Gg h.2⟩
theorem Qd{c:Zi}{a:Zl}(h:Bp f s g e c a i=true):a.length<=30:=by
 unfold Bp at h;simp only[Bool.and_eq_true,decide_eq_true_eq]at h;have d:=h.2;unfold CI at d;simp only[Bool.and_eq_true,decide_eq_true_eq]at d;have b:=d.2.2.2.2;unfold Ir at b;split at b
 .exact(Bj b).B
 .have j:=(of_decide_eq_true b).2;omega
theorem GB.of{r:Int}{x:Dj}{z:Dy}{y:Dv}(h:AJ r l f d x z y){w:Int}{E:Zi}{i:Zl}(v:Bp w s E m g i r=true)(B:g.size<=maxLen):GB r l f d x z y w m g i:=by
 have⟨C,D,e⟩:=Ee v;refine⟨h.bt,h.bn.gm,h.np,h.nl,?_,?_,h.bn.ct,h.bn.ic,h.bn.bh,h.bn.gg,h.bn.ai,h.bn.ff,C,D,e.n0,e.n1,λk A=> ?_,B,Dz (Qd v)⟩
 .exact Ik (R:=λ(a b:Pd)=>less a.name b.name=true) (λa b c t u=>BV t u) (λj p q n o=>(h.cj (j+1) q o).up j p rfl n)
 .exact Ik (R:=λ(a b:Ld)=>a.G<b.G) (λa b c t u=>Yv) (λj p q n o=>(h.bu (j+1) q o).up j p rfl n)
 .have:=(h.ak k A).J;unfold maxLen;omega
theorem Ef(b:Dj)(x:Kd):(De b x).Perm (x::b):=by unfold De;have c:(b.filter (λk=>less k.sum x.sum)++b.filter (λk=> !(less k.sum x.sum))).Perm b:=filter_append_perm _ _;rw[append_assoc];exact(perm_middle (a:=x) (l₁:=b.filter (λk=>less k.sum x.sum)) (l₂:=b.filter (λk=> !(less k.sum x.sum)))).ah (c.cons x)
theorem Iy(a:Dy)(n s:Zi):(Bh a n s).length<=a.length+1/\((∃x∈a,x.name=n)->(Bh a n s).length<=a.length):=by
 have h:∀(l:Dy),(l.filter (λx=>less x.name n)).length+(l.filter (λx=> !(less x.name n)&& !decide (x.name=n))).length+(l.filter (λx=>decide (x.name=n))).length=l.length:=by
  intro l;induction l with
  |nil=>rfl
  |cons x l ih=>
   by_cases hn:x.name=n
   .simp[hn,By];omega
   .cases hl:less x.name n<;>simp[hl,hn]<;>omega
 have b:=h a;unfold Bh;rw[Ak,Ak];refine⟨Yt,λ⟨x,hx,hxn⟩=> ?_⟩;have c:0<(a.filter (λx=>decide (x.name=n))).length:=length_pos_of_mem (Bb.2 ⟨hx,D2 hxn⟩);simp;omega
structure XE (wd:Int) (r:Rs):Prop where
 nd:(r.ks.map (·.sum)).Nodup
 sz:∀k∈r.ks,(k.sum.size:Int)=wd
 nk:r.ks.length<=600
 np:r.ps.length<=100
 nl:r.ls.length<=200
 B:∀k∈r.ks,k.B.length<=30
theorem BP.fits{b:Int}{o:Dj}{x:Dy}{v:Dv}(h:AJ l m i b o x v){y:Int}{w:Zi}{n:Int}{f:Zl}(B:Bp y s w n g f l=true){r:Rs}(t:BP l m i b o x v y s w n g f r):XE l r:=by
 have a:=h.bt;have j:∀k∈o,k.B.length<=30:=λk a=>(h.ak k a).B;rcases t with⟨rfl,_,C,_,F,G,t,rfl⟩|⟨_,_,c,rfl⟩|⟨_,_,rfl⟩|⟨_,_,C,_,rfl⟩|⟨_,_,rfl⟩|⟨_,_,rfl⟩|⟨_,_,_,rfl⟩
 .have p:(v++[(⟨i+1,AX g f l,m+n⟩:Ld)]).length<=200:=Yt
  rcases t with⟨_,_,_,_,rfl,rfl⟩|⟨A,E,_,rfl,rfl⟩
  .exact⟨a.nd,a.sz,h.nth,h.np,p,j⟩
  .have q:=Ef o ⟨AX g f l,b+1,g,f⟩;refine⟨?_,λk d=> ?_,?_,h.np,p,λk d=> ?_⟩
   .rw[(q.map (·.sum)).nodup_iff,map_cons,nodup_cons];refine⟨λz=>A ?_,a.nd⟩;have⟨u,D,e⟩:=mem_map.1 z;exact⟨u,D,e⟩
   .rcases Bv.1 (q.mem_iff.1 d)with rfl|d
    .exact EK _ _ _ h.bn.gm
    .exact a.sz k d
   .show(De _ _).length<=600;rw[Lv];omega
   .rcases Bv.1 (q.mem_iff.1 d)with rfl|d
    .exact(Bj ((Ee B).2.2.fp rfl)).B
    .exact j k d
 .have:=Iy x w s;refine⟨a.nd,a.sz,h.nth,?_,h.nl,j⟩;rcases c with c|c
  .exact Zm (this.2 c) h.np
  .exact Zm this.1 Yv
 .exact⟨a.nd,a.sz,h.nth,Zm (length_filter_le _ _) h.np,h.nl,j⟩
 .exact⟨a.nd,a.sz,h.nth,h.np,Yt,j⟩
 .exact⟨a.nd,a.sz,h.nth,h.np,Zm (length_filter_le _ _) h.nl,j⟩
 .exact⟨a.nd,a.sz,h.nth,h.np,Zm (length_filter_le _ _) h.nl,j⟩
 .exact⟨a.nd.sublist (List.Sublist.map _ filter_sublist),λk d=>a.sz k (Bb.1 d).1,Zm (length_filter_le _ _) h.nth,h.np,h.nl,λk d=>j k (Bb.1 d).1⟩
theorem Ep.code{l:Dj}{o:Dy}{m:Dv}{k:Int}{j:Int}{f:Zl}{a:Zi}(h:Ep p i e d l o m k s n j g f c a b):2<=c/\c<=6:=by rcases h with⟨_,⟨_,rfl,_⟩|⟨_,⟨_,_,_,_,rfl,_⟩|⟨_,_,rfl,_⟩|⟨_,_,rfl,_⟩⟩⟩|⟨_,_,⟨_,⟨_,rfl⟩|⟨_,_,_,rfl⟩⟩|⟨_,_,rfl⟩|⟨_,⟨_,rfl⟩|⟨_,_,rfl⟩⟩|⟨_,_,rfl⟩|⟨_,_,rfl⟩|⟨_,⟨_,rfl⟩|⟨_,_,rfl⟩⟩⟩<;>omega
theorem Dr.dz{j d m:Nat}{O P L:D4}{g b:Int}{r:Dj}{t:Dy}{s:Dv}(h:Dr w j d m O P L u o g b r t s){l:Array Value}(i:w.1[R]?=some (.cells l 36))(q:R≠d):R∉vB d m O P L:=by
 unfold vB;simp only[Bv,A7,A8,not_or];refine⟨q,?_,?_,?_,?_⟩
 .rintro rfl;have⟨n,f,_,p,_⟩:=h.map;obtain⟨D,⟨v,clock,k,_⟩,_⟩:=p;rw[i]at k;cases k
 .intro e;have⟨c,a⟩:=Cz h.ord e;rw[i]at a;simp at a
 .intro e;have⟨c,a⟩:=Cz h.cj e;rw[i]at a;simp at a
 .intro e;have⟨c,a⟩:=Cz h.dq e;rw[i]at a;simp at a
theorem Qc.stays{a d m:Nat}{r:Rs}{g:Zh}{j:Array Value}(h:Qc a d m i r w)(f:w.1[R]?=some (.cells j 36))(k:a<=R)(l:R≠d)(n:Tn [R] w g):Qc a d m i r g:=by obtain⟨O,P,L,b⟩:=h;exact⟨O,P,L,b.apart n k (b.dz f l) (λc o e=>by rw[f]at e;simp at e)⟩
end
section
structure FN (wd now given births:Int) (ks:List Kd) (ps:List Pd) (ls:List Ld):Prop where
 bt:Ev wd ks
 w1:1<=wd
 np:ps.length<=100
 nl:ls.length<=200
 cg:ps.Pairwise (fun a b=>less a.name b.name=true)
 di:ls.Pairwise (fun a b=>a.G<b.G)
 de:0<=now
 ct:now<=1000000000
 br:0<=given
 bh:given<=1000000000
 az:0<=births
 ai:births<=1000000000
 cz:∀k∈ks,k.J.size<=2000
 fc:∀k∈ks,k.B.length<=30
 gi:∀x∈ls,x.G<=given
theorem FN.zero(b:1<=a)(c:a<=8):FN a 0 0 0 [] [] []:=
 ⟨⟨Yu,Yu,Yu,by intro k d;simp at d,Yu,c⟩,b,Yu,Yu,Yu,Yu,Yv,Yv,Yv,Yv,Yv,Yv,Yu,Yu,Yu⟩
theorem FN.kf{b:Int}{m:Dj}{o:Dy}{n:Dv}{u:Zi}{g:Int}{c:Zi}{d:Zl}(h:FN i f b a m o n)(j:Bp l s u g c d i=true)(q:c.size<=maxLen):GB i f b a m o n l g c d:=by have⟨r,t,e⟩:=Ee j;exact⟨h.bt,h.w1,h.np,h.nl,h.cg,h.di,h.de,h.ct,h.br,h.bh,h.az,h.ai,r,t,e.n0,e.n1,λk p=>by have:=h.cz k p;unfold maxLen;omega,q,Dz (Qd j)⟩
theorem Wh{a:Zi}{c:Zl}(h:Bp f s g e a c i=true):a.size<=2000:=by
 unfold Bp at h;simp only[Bool.and_eq_true,decide_eq_true_eq]at h;have d:=h.2;unfold CI at d;simp only[Bool.and_eq_true,decide_eq_true_eq]at d;have b:=d.2.2.2.2;unfold Ir at b;split at b
 .exact(Bj b).J
 .have j:=(of_decide_eq_true b).1;omega
theorem Rd{g:Dy}(n s:Zi)(h:g.Pairwise (λa b=>less a.name b.name=true)):(Bh g n s).Pairwise (λa b=>less a.name b.name=true):=by
 unfold Bh;rw[pairwise_append,pairwise_append];have e:∀y∈g.filter (λx=> !(less x.name n)&& !decide (x.name=n)),less n y.name=true:=λy d=>by have f:=(Bb.1 d).2;simp only[Bool.and_eq_true,Bool.not_eq_true',decide_eq_false_iff_not]at f;exact Ps f.1 f.2
 refine⟨⟨h.filter _,Yu,λx c y d=> ?_⟩,h.filter _,λx c y d=> ?_⟩
 .rw[mem_singleton]at d;subst d;exact(Bb.1 c).2
 .rcases A7.1 c with c|c
  .exact BV (Bb.1 c).2 (e y d)
  .rw[mem_singleton]at c;subst c;exact e y d
theorem Re{f:Dj}{x:Kd}(h:(f.map (·.sum)).Pairwise (λa b=>less a b=true))(j:¬Am f x.sum):((De f x).map (·.sum)).Pairwise (λa b=>less a b=true):=by
 rw[pairwise_map]at h |-;unfold De;rw[pairwise_append,pairwise_append];have g:∀y∈f.filter (λk=> !(less k.sum x.sum)),less x.sum y.sum=true:=λy c=>by have⟨l,i⟩:=Bb.1 c;simp only[Bool.not_eq_true']at i;exact Ps i (λe=>j ⟨y,l,e⟩)
 refine⟨⟨h.filter _,Yu,λy c z d=> ?_⟩,h.filter _,λy c z d=> ?_⟩
 .rw[mem_singleton]at d;subst d;exact(Bb.1 c).2
 .rcases A7.1 c with c|c
  .exact BV (Bb.1 c).2 (g z d)
  .rw[mem_singleton]at c;subst c;exact g z d
theorem Ev.drop{b:Dj}(h:Ev d b)(t:Zi):Ev d (CJ b t):=by have a:(CJ b t).Sublist b:=filter_sublist;exact⟨h.nd.sublist (a.map _),h.dm.sublist (a.map _),λk c=>h.sz k (a.subset c),λk c=>h.B k (a.subset c),Zm a.length_le h.len,h.w8⟩
theorem FN.step{v:Dj}{E:Dy}{w:Dv}{G:Int}{f:Zl}(h:FN o p c d v E w)(K:Bp G s B q g f o=true){r:Rs}(n:BP o p c d v E w G s B q g f r):FN o r.D r.F r.C r.ks r.ps r.ls:=by
 obtain⟨W,X,e⟩:=Ee K;have R:=e.n0;have S:=e.n1;have m:∀x:Ld,x.G=c+1->(w++[x]).Pairwise (λa b=>a.G<b.G)/\∀y∈w++[x],y.G<=c+1:=λx A=>by
  refine⟨?_,λy n=> ?_⟩
  .rw[pairwise_append];refine⟨h.di,Yu,λy n z i=> ?_⟩;rw[mem_singleton]at i;subst i;have:=h.gi y n;omega
  .rcases A7.1 n with n|n
   .have:=h.gi y n;omega
   .rw[mem_singleton]at n;subst n;omega
 rcases n with⟨rfl,_,M,L,T,U,n,rfl⟩|⟨_,_,l,rfl⟩|⟨_,_,rfl⟩|⟨_,_,M,L,rfl⟩|⟨_,_,rfl⟩|⟨_,O,rfl⟩|⟨_,_,_,rfl⟩
 .have C:(w++[(⟨c+1,AX g f o,p+q⟩:Ld)]).length<=200:=Yt
  have t:=m ⟨c+1,AX g f o,p+q⟩ rfl;have H:=h.br;have u:=Bj (e.fp rfl);rcases n with⟨_,_,_,_,rfl,rfl⟩|⟨J,Q,V,rfl,rfl⟩
  .exact⟨h.bt,h.w1,h.np,C,h.cg,t.1,h.de,h.ct,by show 0<=c+1;omega,by show c+1<=_;omega,h.az,h.ai,h.cz,h.fc,t.2⟩
  .have N:=Ef v ⟨AX g f o,d+1,g,f⟩;have P:=h.az;have j:∀k∈De v ⟨AX g f o,d+1,g,f⟩,k=⟨AX g f o,d+1,g,f⟩\/k∈v:=λk i=>Bv.1 (N.mem_iff.1 i);have I:Ev o (De v ⟨AX g f o,d+1,g,f⟩):=by
    have F:=Re (x:=⟨AX g f o,d+1,g,f⟩) h.bt.dm J;refine⟨KJ F,F,λk i=> ?_,λk i=> ?_,by rw[Lv];omega,h.bt.w8⟩
    .rcases j k i with rfl|i
     .exact EK _ _ _ h.w1
     .exact h.bt.sz k i
    .rcases j k i with rfl|i
     .exact⟨by have:=u.B;show f.length<=_;omega,NH u.all⟩
     .exact h.bt.B k i
   refine⟨I,h.w1,h.np,C,h.cg,t.1,h.de,h.ct,by show 0<=c+1;omega,by show c+1<=_;omega,by show 0<=d+1;omega,by show d+1<=_;omega,λk i=> ?_,λk i=> ?_,t.2⟩
   .rcases j k i with rfl|i
    .exact u.J
    .exact h.cz k i
   .rcases j k i with rfl|i
    .exact u.B
    .exact h.fc k i
 .have D:=Iy E B s;refine⟨h.bt,h.w1,?_,h.nl,Rd B s h.cg,h.di,h.de,h.ct,h.br,h.bh,h.az,h.ai,h.cz,h.fc,h.gi⟩;rcases l with l|l
  .exact Zm (D.2 l) h.np
  .exact Zm D.1 Yv
 .exact⟨h.bt,h.w1,Zm (length_filter_le _ _) h.np,h.nl,h.cg.filter _,h.di,h.de,h.ct,h.br,h.bh,h.az,h.ai,h.cz,h.fc,h.gi⟩
 .have t:=m ⟨c+1,s,p+q⟩ rfl;have H:=h.br;exact⟨h.bt,h.w1,h.np,Yt,h.cg,t.1,h.de,h.ct,by show 0<=c+1;omega,by show c+1<=_;omega,h.az,h.ai,h.cz,h.fc,t.2⟩
 .exact⟨h.bt,h.w1,h.np,Zm (length_filter_le _ _) h.nl,h.cg,h.di.filter _,h.de,h.ct,h.br,h.bh,h.az,h.ai,h.cz,h.fc,λx A=>h.gi x (Bb.1 A).1⟩
 .have:=h.de;exact⟨h.bt,h.w1,h.np,Zm (length_filter_le _ _) h.nl,h.cg,h.di.filter _,by show 0<=p+q;omega,O,h.br,h.bh,h.az,h.ai,h.cz,h.fc,λx A=>h.gi x (Bb.1 A).1⟩
 .exact⟨h.bt.drop s,h.w1,h.np,h.nl,h.cg,h.di,h.de,h.ct,h.br,h.bh,h.az,h.ai,λk i=>h.cz k (Bb.1 i).1,λk i=>h.fc k (Bb.1 i).1,h.gi⟩
end
section
theorem CA.gj{h:Dj}{c:Zi}{b:Zl}{f g:Dj}(l:CA i a h c b f d)(m:CA i a h c b g e):f=g/\d=e:=by
 rcases l with⟨k,n,o,_,rfl,rfl⟩|⟨j,_,_,rfl,rfl⟩<;>rcases m with⟨k',hk',hs',_,rfl,rfl⟩|⟨hno',_,_,rfl,rfl⟩
 .exact⟨rfl,rfl⟩
 .exact absurd ⟨k,n,o⟩ hno'
 .exact absurd ⟨k',hk',hs'⟩ j
 .exact⟨rfl,rfl⟩
theorem Gk.gj{g:Int}{n:Dj}{D:Dv}{f:Zi}{e:Zl}(s:(n.map (·.sum)).Nodup){C:Int}{a A:Zi}(v:Gk m g d n D f e c a b)(w:Gk m g d n D f e C A B):c=C/\a=A/\b=B:=by
 have t:∀k∈n,k.sum=AX f e m->AB k.J k.B m≠AB f e m->∀q u,¬CA m d n f e q u:=by
  intro k j l x q u y;rcases y with⟨z,h,i,o,_⟩|⟨p,_⟩
  .have:=FT s j h (l.ah i.symm);subst this;exact x o
  .exact p ⟨k,j,l⟩
 rcases v with⟨E,rfl,rfl,rfl⟩|⟨r,v⟩<;>rcases w with⟨hn',rfl,rfl,rfl⟩|⟨hall',w⟩
 .exact⟨rfl,rfl,rfl⟩
 .exact absurd hall' E
 .exact absurd r hn'
 .rcases v with⟨k,j,l,x,rfl,rfl,rfl⟩|⟨p,_,rfl,rfl,rfl⟩|⟨⟨q,u,y⟩,_,rfl,rfl,rfl⟩<;>rcases w with⟨z,h,i,o,rfl,rfl,rfl⟩|⟨hno',_,rfl,rfl,rfl⟩|⟨⟨ks2,b2,hy'⟩,_,rfl,rfl,rfl⟩
  .have:=FT s j h (l.ah i.symm);subst this;exact⟨rfl,rfl,rfl⟩
  .exact absurd ⟨k,j,l⟩ hno'
  .exact absurd hy' (t k j l x _ _)
  .exact absurd ⟨z,h,i⟩ p
  .exact⟨rfl,rfl,rfl⟩
  .exact⟨rfl,rfl,rfl⟩
  .exact absurd y (t z h i o _ _)
  .exact⟨rfl,rfl,rfl⟩
  .exact⟨rfl,rfl,rfl⟩
theorem Gk.not{m:Dj}{f:Zl}(w:(m.map (·.sum)).Nodup){a:Zi}(y:Gk u e d m t g f c a b){B:Dj}{x:Int}(o:CA u d m g f B x)(n:∀r∈f,Am m r)(F:t.length<200)(E:e<1000000000):False:=by
 rcases y with⟨A,_⟩|⟨_,⟨k,p,q,z,_⟩|⟨j,h,_⟩|⟨_,h,_⟩⟩
 .exact A n
 .rcases o with⟨s,i,l,v,_⟩|⟨j,_⟩
  .have:=FT w p i (q.ah l.symm);subst this;exact z v
  .exact j ⟨k,p,q⟩
 .rcases o with⟨s,i,l,_⟩|⟨_,C,D,_⟩
  .exact j ⟨s,i,l⟩
  .omega
 .omega
theorem Ep.gj{k g:Int}{m:Dj}{u:Dy}{r:Dv}{t:Zi}{i:Zi}(x:(m.map (·.sum)).Nodup){a o:Zi}(d:Ep v k g f m u r q s t l i h c a b)(e:Ep v k g f m u r q s t l i h p n o):c=p/\a=n/\b=o:=by
 rcases d with⟨y,d⟩|⟨rfl,rfl,d⟩<;>rcases e with⟨hk',e⟩|⟨rfl,rfl,e⟩
 .exact d.gj x e
 .omega
 .omega
 .refine⟨?_,rfl,rfl⟩;rcases d with⟨j,⟨d,rfl⟩|⟨d,w,z,rfl⟩⟩|⟨j,d,rfl⟩|⟨j,⟨d,rfl⟩|⟨d,w,rfl⟩⟩|⟨j,d,rfl⟩|⟨j,d,rfl⟩|⟨j,⟨d,rfl⟩|⟨d,w,rfl⟩⟩<;>rcases e with⟨k2,⟨e,rfl⟩|⟨e,x2,y2,rfl⟩⟩|⟨k2,e,rfl⟩|⟨k2,⟨e,rfl⟩|⟨e,x2,rfl⟩⟩|⟨k2,e,rfl⟩|⟨k2,e,rfl⟩|⟨k2,⟨e,rfl⟩|⟨e,x2,rfl⟩⟩<;>first|rfl|omega|exact absurd e d|exact absurd d e
theorem BP.gj{n b:Int}{i:Dj}{l:Dy}{h:Int}{k:Zi}{g:Int}{d:Zi}{c:Zl}{r m:Rs}(o:BP n f b a i l j h s k g d c r)(p:BP n f b a i l j h s k g d c m):r=m:=by rcases o with⟨e,_,_,_,t,u,q,rfl⟩|⟨e,_,_,rfl⟩|⟨e,_,rfl⟩|⟨e,_,_,_,rfl⟩|⟨e,_,rfl⟩|⟨e,_,rfl⟩|⟨e,_,_,rfl⟩<;>rcases p with⟨k2,_,_,_,ks2,b2,y2,rfl⟩|⟨k2,_,_,rfl⟩|⟨k2,_,rfl⟩|⟨k2,_,_,_,rfl⟩|⟨k2,_,rfl⟩|⟨k2,_,rfl⟩|⟨k2,_,_,rfl⟩<;>first|rfl|omega|(obtain⟨rfl,rfl⟩:=q.gj y2;rfl)
theorem Ep.not{o:Dj}{u:Dy}{q:Dv}{t:Zi}{n:Int}{i:Zi}(w:(o.map (·.sum)).Nodup){a:Zi}{r:Rs}(d:Ep v m f e o u q p s t n i h c a b)(x:BP v m f e o u q p s t n i h r):False:=by rcases x with⟨k,l,z,y,B,C,A,_⟩|⟨k,j,g,_⟩|⟨k,j,_⟩|⟨k,j,g,D,_⟩|⟨k,j,_⟩|⟨k,j,_⟩|⟨k,j,g,_⟩<;>rcases d with⟨k1,d⟩|⟨_,_,⟨k1,⟨d,_⟩|⟨d,x1,z1,_⟩⟩|⟨k1,d,_⟩|⟨k1,⟨d,_⟩|⟨d,x1,_⟩⟩|⟨k1,d,_⟩|⟨k1,d,_⟩|⟨k1,⟨d,_⟩|⟨d,x1,_⟩⟩⟩<;>first|omega|exact absurd j d|exact absurd x1 g|exact d.not w A l z y|(rcases g with g|g;exact x1 g;omega)
end
theorem Tj(w:Zh)(a:Nat):Ba w a Zb Zb Zb [] [] [] []:=
 ⟨rfl,⟨rfl,.inl ⟨rfl,rfl⟩⟩,λi k r b=>(by simp at b),⟨rfl,.inl ⟨rfl,rfl⟩⟩,⟨rfl,.inl ⟨rfl,rfl⟩⟩,nodup_nil⟩
structure An where
 code:Int
 wd:Int
 D:Int
 F:Int
 C:Int
 le:Int
 j:Zi
 a:Zi
 b:Zi
 ks:List Kd
 ps:List Pd
 ls:List Ld
def r0:Rs:=⟨⟨#[]⟩,0,0,0,0,[],[],[]⟩
def KW(wd:Int)(r:Rs)(x:Zi)(r':Rs):Prop:=(Bo x wd).ok=true/\BP wd r.D r.F r.C r.ks r.ps r.ls (Bo x wd).k (Bo x wd).sum (Bo x wd).name (Bo x wd).n (Bo x wd).t (Bo x wd).ss r'
def Bad(wd:Int)(r:Rs)(x:Zi):Prop:=(Bo x wd).ok=false\/∃c a b,Ep wd r.D r.F r.C r.ks r.ps r.ls (Bo x wd).k (Bo x wd).sum (Bo x wd).name (Bo x wd).n (Bo x wd).t (Bo x wd).ss c a b
def CZ(wd:Int):Rs->Zl->Rs->Prop
 |r,[],r'=>r'=r
 |r,x::xs,r'=>∃r1,KW wd r x r1/\CZ wd r1 xs r'
def MA(wd:Int)(xs:Zl)(n:Nat):Prop:=∃k r x,n=k+1/\xs[k]?=some x/\CZ wd r0 (xs.take k) r/\Bad wd r x
def Rs.ok(wd:Int)(r:Rs):Prop:=FN wd r.D r.F r.C r.ks r.ps r.ls
theorem CZ.snoc{x:Zi}{a b:Rs}(d:KW c a x b):∀{xs:Zl} {r:Rs},CZ c r xs a->CZ c r (xs++[x]) b
 |[],r,h=>by obtain rfl:a=r:=h;exact⟨b,d,rfl⟩
 |y::ys,r,h=>by obtain⟨g,e,f⟩:=h;exact⟨g,e,CZ.snoc d f⟩
theorem KW.gj{r a b:Rs}{x:Zi}(h:KW c r x a)(k:KW c r x b):a=b:=h.2.gj k.2
theorem KW.ok{r b:Rs}{x:Zi}(h:KW a r x b)(c:r.ok a):b.ok a:=FN.step c (Ih h.1).1 h.2
theorem KW.not{r g:Rs}{x:Zi}(h:KW d r x g)(f:r.ok d):¬Bad d r x:=by
 rintro(e|⟨c,a,b,e⟩)
 .rw[h.1]at e;cases e
 .exact e.not f.bt.nd h.2
theorem CZ.gj:∀{xs:Zl} {r a b:Rs},CZ e r xs a->CZ e r xs b->a=b
 |[],r,a,b,h,k=>by have c:=h;have d:=k;rw[c,d]
 |x::xs,r,a,b,h,k=>by obtain⟨i,c,d⟩:=h;obtain⟨j,f,g⟩:=k;obtain rfl:=c.gj f;exact CZ.gj d g
theorem CZ.ok:∀{xs:Zl} {r r':Rs},CZ a r xs r'->r.ok a->r'.ok a
 |[],r,r',h,hr=>by obtain rfl:r'=r:=h;exact hr
 |x::xs,r,r',h,hr=>by obtain⟨d,b,c⟩:=h;exact CZ.ok c (b.ok hr)
theorem CZ.at{wd:Int}:∀{xs:Zl} {r r':Rs},CZ wd r xs r'->∀{k:Nat} {x:Zi},xs[k]?=some x->∃a b,CZ wd r (xs.take k) a/\KW wd a x b
 |[],r,r',h,k,x,hx=>by simp at hx
 |y::ys,r,r',h,k,x,hx=>by
  obtain⟨d,c,e⟩:=h;cases k with
  |zero=>simp at hx;subst hx;exact⟨r,d,rfl,c⟩
  |succ k=>obtain⟨a,b,f,g⟩:=CZ.at e (k:=k) (x:=x) (D2 hx);exact⟨a,b,⟨d,c,f⟩,g⟩
theorem FJ(b:1<=a)(c:a<=8):r0.ok a:=FN.zero b c
theorem MA.not{c:Zl}{n:Nat}{r:Rs}(d:1<=a)(i:a<=8)(h:MA a c n):¬CZ a r0 c r:=λj=>by obtain⟨k,m,x,rfl,l,b,e⟩:=h;have⟨o,p,f,g⟩:=j.at l;obtain rfl:=b.gj f;exact g.not (b.ok (FJ d i)) e
def RK(wd:Int)(xs:Zl)(x:An):Prop:=
 (¬((1<=wd/\wd<=8)/\xs.length<=4000)/\x=⟨1,0,0,0,0,0,⟨#[]⟩,⟨#[]⟩,⟨#[]⟩,[],[],[]⟩)\/
 (((1<=wd/\wd<=8)/\xs.length<=4000)/\(
   (∃n:Nat,MA wd xs n/\x=⟨7,0,0,0,0,n,⟨#[]⟩,⟨#[]⟩,⟨#[]⟩,[],[],[]⟩)\/
   (∃r,CZ wd r0 xs r/\x=⟨0,wd,r.D,r.F,r.C,0,⟨#[]⟩,⟨#[]⟩,⟨#[]⟩,r.ks,r.ps,r.ls⟩)))
theorem Eo.A{B:Nat}{V a:Zh}(h:Zz V a):Eo B V a:=⟨h.size,λb _ _ c _=>(h.block b (A2.1 c).1).ah c⟩
def Acs(wd:Int)(xs:Zl)(w:Zh)(e:Ending)(w':Zh):Prop:=
 ∃(x:An) (T P L:Value) (rs:Zj),RK wd xs x/\e=.returned (.agg #[Zg x.code,Zg x.wd,Zg x.D,Zg x.F,Zg x.C,T,P,L,.string x.j,Zg x.le,.string x.a,.string x.b])/\Ba w' w.1.size T P L rs x.ks x.ps x.ls/\Zz w w'
