import Derived.Test.YtdofmfnmackjhaaGreatDoorX14
import Derived.Test.YtdofmfnmackjhaaGreatDoorX10
import Derived.Test.YtdofmfnmackjhaaGreatDoorX02
import Derived.Test.YtdofmfnmackjhaaGreatDoorX11
set_option maxRecDepth 100000
set_option maxHeartbeats 16000000
namespace Go.Proofs.YtdofmfnmackjhaaGreatDoor
open ChangeShapes WideShapes ChangeAt RowKit _root_.Go.Proofs.Tryz List World Value
variable{w e:Zh}{b a c k i B base base' n j:Nat}{d:Int}{P L v:Value}{x:Kd}{f:Zl}{V:List Nat}{l:Zj}{y:Zk}
def Bm(w:Zh)(b off:Nat)(zs:List (Kd×Value)):Prop:=
 ∀i z,zs[i]?=some z->(w.cell? (Zd b (off+i *4))=some (.string z.1.sum)/\w.cell? (Zd b (off+i *4+1))=some (Zg z.1.born)/\w.cell? (Zd b (off+i *4+2))=some (.string z.1.J)/\w.cell? (Zd b (off+i *4+3))=some z.2)/\∃ad rc,z.2=.slice (some ad) z.1.B.length rc/\Af w w.1.size (some ad) z.1.B
theorem Bm.A{f:List (Kd×Value)}(h:Bm w b a f)(c:Zz w e)(d:b<w.1.size):Bm e b a f:=by intro i z q;have⟨⟨j,k,l,m⟩,g,r,n,o⟩:=h i z q;exact⟨⟨(c.cell (p:=⟨b,a+i *4,none⟩) d).ah j,(c.cell (p:=⟨b,a+i *4+1,none⟩) d).ah k,(c.cell (p:=⟨b,a+i *4+2,none⟩) d).ah l,(c.cell (p:=⟨b,a+i *4+3,none⟩) d).ah m⟩,g,r,n,Af.aj (Af.A o c) c.size⟩
theorem Bm.dx{d:List (Kd×Value)}(h:Bm w b c d)(n:b<w.1.size):AW w w.1.size (some ⟨b,c,none⟩) (d.map (·.1)):=by
 refine .inr ⟨b,c,rfl,n,λi k a=> ?_⟩;rw[getElem?_map]at a;cases hz:d[i]? with
 |none=>rw[hz]at a;cases a
 |some z=>rw[hz]at a;cases a;have⟨⟨e,f,g,j⟩,a,o,l,m⟩:=h i z hz;exact⟨e,f,g,some a,o,by rw[j,l],m⟩
theorem Bm.own{g e:Nat}{a:List (Kd×Value)}(h:w.ownsRow c 68 4 (Yz g a.length e) a.length (Ab kC a))(k:∀z∈a,∃b d,z.2=C3 (some b) z.1.B.length d/\Af w w.1.size (some b) z.1.B):Bm w g 0 a:=by
 intro i z d;have l:=(Zw d).1;have b:∀j,j<4->w.cell? (Zd g (i *4+j))=(kC z)[j]?:=λj f=>(h.cellAt (i *4+j) Yv).ah (BN Cn d f);refine⟨⟨?_,?_,?_,?_⟩,k z (Zs d)⟩
 .rw[A0];simpa [kC]using b 0 Yq
 .rw[A0];simpa [kC]using b 1 Yq
 .rw[A0];simpa [kC]using b 2 Yq
 .rw[A0];simpa [kC]using b 3 Yq
def BK(zs:List (Kd×Value))(s:Zi):List (Kd×Value):=zs.filter (fun z=> !decide (z.1.sum=s))
theorem JY(a:List (Kd×Value))(s:Zi):(BK a s).map (·.1)=CJ (a.map (·.1)) s:=by unfold BK CJ;rw[filter_map];rfl
theorem SQ{a:List (Kd×Value)}{z:Kd×Value}(s:Zi)(c:a[k]?=some z):BK (a.take (k+1)) s=BK (a.take k) s++(if z.1.sum=s then []else [z]):=by obtain⟨b,rfl⟩:=Zw c;unfold BK;rw[Zu b,filter_append];by_cases h:a[k].1.sum=s<;>simp[h]
theorem Be{e c a:Int}{T:D4}(h:Aa w b [Zg e,Zg d,Zg c,Zg a,T,P,L]):Aw w b e d c a T P L:=
 ⟨(h 0 _ rfl).1,(h 1 _ rfl).1,(h 2 _ rfl).1,(h 3 _ rfl).1,(h 4 _ rfl).1,(h 5 _ rfl).1,(h 6 _ rfl).1,h.lt⟩
def GM(ps:List Pd)(ls:List Ld)(ks:List Kd)(s:Zi):Prop:=((∃p∈ps,p.sum=s)\/∃l∈ls,l.sum=s)\/∃k∈ks,s∈k.B
def RG(w w':Zh)(e:Ending)(wd now given births:Int)(P L:Value)(zs:List (Kd×Value))(ps:List Pd)(ls:List Ld)(s:Zi):Prop:=
 Below w.1.size w w'/\((GM ps ls (zs.map (·.1)) s/\e=.returned (.agg #[Zg 6,Ze,Ze,Ze,Ze,Zb,Zb,Zb,Zc,Ze,Zc,Zc]))\/
  (¬GM ps ls (zs.map (·.1)) s/\∃g c,e=.returned (.agg #[Ze,Zg wd,Zg now,Zg given,Zg births,.slice (some ⟨g,0,none⟩) (BK zs s).length c,P,L,Zc,Ze,Zc,Zc])/\Bm w' g 0 (BK zs s)/\w.1.size<=g/\g<w'.1.size))
theorem Mq(A m f a:Int)(b t I E D:Nat)(p l:Zk)(d:List (Kd×Value))(o:Dy)(n:Dv)(s:Zi)(w:Zh)(F:Bm w b t d)(zP:b<w.1.size)(K:AU w w.1.size p o)(H:AS w w.1.size l n)(yT:d.length<=600)(yQ:o.length<=100)(yP:n.length<=200)(hr:∀z∈d,z.1.B.length<=1000)(C:Am (d.map (·.1)) s):
 D8 76 #[.agg (Yg A m f a (some ⟨b,t,none⟩) d.length I p o.length E l n.length D),C4 s] w λe r=>RG w r e A m f a (C3 p o.length E) (C3 l n.length D) d o n s:=by
 have⟨W,r⟩:=Ae ((w.alloc (.cells (Yg A m f a (some ⟨b,t,none⟩) d.length I p o.length E l n.length D) 27)).alloc (.cells Xz 36));have hB:=(Bi r).1;have yS:=(Bi r).2.1;have xW:Aw W w.1.size A m f a (C3 (some ⟨b,t,none⟩) d.length I) (C3 p o.length E) (C3 l n.length D):=by rw[r];exact Aw.ag (Aw.new w A m f a _ _ _ 27) (Zy) Yu
 have L:Aa W (w.1.size+1) z12:=by have h:=Aa.new (w.alloc (.cells (Yg A m f a (some ⟨b,t,none⟩) d.length I p o.length E l n.length D) 27)) z12 36;rw[Al]at h;rw[r];exact h
 have HF:=Dk A m f a (some ⟨b,t,none⟩) I (C3 p o.length E) (C3 l n.length D) (d.map (·.1)) s W w.1.size (AW.A (F.dx zP) hB) hB.size (by rw[A9];omega);rw[A9]at HF;have yO:0<=Cu (d.map (·.1)) s:=by
  rcases CP (d.map (·.1)) s with⟨_,hn⟩|⟨i,k,e,_⟩
  .exact absurd C hn
  .omega
 have B:=Yw HF;have yC:=Yw L;have zY:Hid (Aa W _ _):=(Bi r).2.2.1;have zX:w.1.size+1<W.1.size:=Yv
 have HZ:=Yw F;have zJ:=Yw (Zn K H);have G:=Yw r;have J:=Yw xW;clear r F K H L HF C;obtain⟨C,K,L,N,O,P,c,x7⟩:=xW;go_enter func76,ntmps76;go_upto_region 1 with fail;rw[<-G.o];clear G;go_wp2_with fail;refine B.Ai ?_;rintro e w1 ⟨rfl,M⟩;have yM:¬Cu (d.map (·.1)) s<0:=Yv
 have r:=Yw (Aw.A J M);have⟨Q,R,S,U,X,Y,Z,y7⟩:=r.o;have H:Below w.1.size w w1:=hB.ah (M.aj hB.size);clear C K L N O P c B;generalize Cu (d.map (·.1)) s=fi at *
 go_wp2_with fail;refine(SD A m f a (C3 (some ⟨b,t,none⟩) d.length I) p l E D o n s w1 (AU.aj (AU.A zJ.1 H) H.size) (AS.aj (AS.A zJ.2 H) H.size) Yv Yv).aj ?_;rintro e G ⟨L,rfl,B,N⟩;have zA:Below w.1.size w G:=H.ah (N.aj H.size);have C:=Yw (Aw.A r N);have K:Aa G (w.1.size+1) z12:=Aa.A (v:=Ze) (Aa.A (v:=Ze) yC M) N;have zE:=Yw K;have zI:=Yw B
 clear B Q R S U X Y Z K;cases L
 .obtain⟨v0,v1,v2,v3,v4,v5,v6,v7⟩:=C.o;have yG:w.1.size+2<=G.1.size:=by have:=M.size;have:=N.size;omega
  have B:Below G.1.size G (G.alloc (.cells #[] 68)):=Zy;go_wp2
  go_loopw [5,6] (λv i wr=>∃(k g c:Nat),k<=d.length/\i=Zg k/\v=Yz g (BK (d.take k) s).length c/\Hid (wr.ownsRow (w.1.size+2) 68 4 (Yz g (BK (d.take k) s).length c) (BK (d.take k) s).length (Ab kC (BK (d.take k) s))/\(∀z∈d.take k,¬s∈z.1.B)/\Aa wr w.1.size (Yh A m f a (some ⟨b,t,none⟩) d.length I p o.length E l n.length D)/\Aa wr (w.1.size+1) z12/\Zz w wr)) (λ_ i _=>d.length -(intOf i).toNat)
  case atStart=>
   refine⟨0,G.1.size,0,Az _,rfl,by simp[BK],⟨?_,(λz F=>by simp at F),Aa.A (Aa.A (Aa.A zY M) N) B,Aa.A (v:=Ze) zE B,zA.ah (B.aj zA.size)⟩⟩;have:=ownsRow_lit (base:=w.1.size+2) (e:=68) (size:=4) G #[] 0 yG Yo rfl;simpa [BK,Ab]using this
  case round=>
   clear r J zE C v0 v1 v2 v3 v4 v5 v6 v7 B;obtain⟨k,g,c,hk,rfl,rfl,B⟩:=hrel;have⟨v0,v1,v2,v3,v4,v5,v6,v7⟩:=Be B.2.2.1;have r:=B.2.2.2.2;have yU:=r.size;by_cases hlt:k<d.length
   .have HG:Hid (d[k]?=some d[k]):=Zv hlt;obtain⟨⟨c0,c1,c2,c3⟩,J,K,T,h5⟩:=(Bm.A HZ r zP) k _ HG;have yR:=hr _ (getElem_mem hlt);have zK:=Yw (SQ s HG);have yL:b<wr.1.size:=Yv
    have yA:=Yw h5;have yB:Hid (d.take (k+1)=d.take k++[d[k]]):=Zu hlt;rw[T]at c3;have H4:=Yw T;clear h5 T;generalize d[k]=z at *
    have yN:(BK (d.take k) s).length<=600:=by have:=length_filter_le (λz:Kd×Value=> !decide (z.1.sum=s)) (d.take k);unfold BK;rw[Ct]at this;omega
    go_wp2_with fail;refine(Fq (some J) K z.1.B s wr wr.1.size yA Yv).aj ?_;rintro e w3 ⟨rfl,rfl⟩;by_cases hin:s∈z.1.B
    .have C:z.1.B.any (λx=>decide (x=s))=true:=D2 hin
     rw[C];have⟨⟨Q,q0⟩,⟨R,q1⟩,⟨S,q2⟩,⟨U,q3⟩,⟨X,q4⟩,⟨Y,q5⟩,⟨Z,q6⟩,⟨y7,q7⟩,⟨y8,q8⟩,⟨y9,q9⟩,⟨O,zV⟩,P,zW⟩:=Bf B.2.2.2.1;have yD:=Yw hin;clear hin C c0 c1 c2 c3 v0 v1 v2 v3 v4 v5 v6;go_wp2
     refine C0 (.agg (Xy 6)) (by simp[results,results76,go_sem,Q,R,S,U,X,Y,Z,y7,y8,y9,O,P]) ⟨r.ah (Tn.A (Bs _ (w.1.size+1) _ _ _ _ _ _ _ _ _ _ _ _) r.size Yu),.inl ⟨.inr ⟨z.1,mem_map.2 ⟨z,Zs HG,rfl⟩,yD⟩,rfl⟩⟩
    .have C:z.1.B.any (λx=>decide (x=s))=false:=by rw[any_eq_false];intro x hx e;exact hin (of_decide_eq_true e▸hx)
     rw[C];have zH:Hid (∀y∈d.take (k+1),¬s∈y.1.B):=by
      rw[yB.o];intro y hy;rcases A7.1 hy with hy|hy
      .exact B.2.1 y hy
      .simp at hy;rw[hy];exact hin
     clear hin C;by_cases hzs:z.1.sum=s
     .have hq:(z.1.sum.toList !=s.toList)=false:=by rw[hzs];simp
      have zU:(z.1.sum.toList==s.toList)=true:=by rw[hzs];simp
      have C:=zK.o;rw[if_pos hzs,append_nil]at C;have L:=Yw C;clear C hzs;go_wp2;exact⟨⟨k+1,g,c,Yv,Yn,by rw[L.o],⟨by rw[L.o];exact B.1,zH,B.2.2⟩⟩,Ys⟩
     .have zU:(z.1.sum.toList==s.toList)=false:=Br hzs;have hq:(z.1.sum.toList !=s.toList)=true:=by simp[bne,zU]
      have C:=zK.o;rw[if_neg hzs]at C;have L:=Yw C;clear C hzs;have⟨i0,hi,yH,yI,zC⟩:=info_parts GY;have zT:=Ac B.1 (g:=g) rfl;go_wp2_with (first
       |(at_builtin;refine wpList_append_own_at _ rfl _ _ 23 rfl (w.1.size+2) 68 i0 _ 4 64 underlying23 hi yH yI zC rfl Yq _ (BK (d.take k) s).length (Ab kC (BK (d.take k) s)) rfl ?d0 ⟨w3.1.size,0,none⟩ 1 1 (kC (z.1,C3 (some J) z.1.B.length K)) rfl rfl ?d2 ?d3 ?d4 ?d5 ?d6 ?_)
       |go_in)
      case d0=>exact Ah B.1 (Zy)
      case d2=>
       intro j u hu;rw[A3,A0];exact((Aa.new w3 (kC (z.1,C3 (some J) z.1.B.length K)) 68) j u hu).1
      case d3=>
       intro u hu;simp[kC]at hu;rcases hu with rfl|rfl|rfl|rfl<;>rfl
      case d4=>unfold maxLen;omega
      case d5=>omega
      case d6=>simp;omega
      intro v4 w4 zB zS yF yE;obtain⟨g4,c4,rfl,yJ,yK⟩:=BF zB (λe=>by subst e;rcases zB.2 with⟨_,hn⟩|⟨_,_,_,e,_⟩<;>first|omega|cases e);have b4:Below w3.1.size w3 (w3.alloc (.cells #[C4 z.1.sum,Zg z.1.born,C4 z.1.J,C3 (some J) z.1.B.length K] 68)):=Zy;have C:w3.grownBy w4 (some g):=Aj (Ag _ b4) zS;have zC:z.2=C3 (some J) z.1.B.length K:=H4.o
      have zG:(BK (d.take (k+1)) s).length=(BK (d.take k) s).length+1:=by rw[L.o];simp
      have zN:Ab kC (BK (d.take (k+1)) s)=Ab kC (BK (d.take k) s)++kC (z.1,C3 (some J) z.1.B.length K):=by rw[L.o,Bn,<-zC];simp[Ab]
      have HF:Hid (w4.ownsRow (w.1.size+2) 68 4 (Yz g4 (BK (d.take (k+1)) s).length c4) (BK (d.take (k+1)) s).length (Ab kC (BK (d.take (k+1)) s))/\(∀y∈d.take (k+1),¬s∈y.1.B)/\Aa w4 w.1.size (Yh A m f a (some ⟨b,t,none⟩) d.length I p o.length E l n.length D)/\Aa w4 (w.1.size+1) z12/\Zz w w4):=by
       refine⟨by rw[zG,zN];exact zB,zH,?_,?_,r.grown C Yv (λq hq=>by cases hq;omega)⟩
       .exact Aa.aw B.2.2.1 C Yv
       .exact Aa.aw (v:=Ze) B.2.2.2.1 C Yv
      clear zB zS C yF yE b4 zN zC c0 c1 c2 c3 v0 v1 v2 v3 v4 v5 v6;have zZ:=Yw zG;clear zG;go_wp2;exact⟨⟨k+1,g4,c4,Yv,Yn,by rw[zZ.o],HF⟩,Ys⟩
   .obtain rfl:k=d.length:=Yv
    have zO:=B.o;rw[Zt (Zx)]at zO;obtain⟨h,h2,h3,T,h5⟩:=zO;have zT:=Ac h (g:=g) rfl;have C:=Yw (Zn h (Zn h2 h5));have⟨⟨Q,q0⟩,⟨R,q1⟩,⟨S,q2⟩,⟨U,q3⟩,⟨X,q4⟩,⟨Y,q5⟩,⟨Z,q6⟩,⟨y7,q7⟩,⟨y8,q8⟩,⟨y9,q9⟩,⟨O,zV⟩,P,zW⟩:=Bf T;have f4:=(h3 4 _ rfl).2;have H3:=Yw h3;clear h h2 h3 T h5;rw[Zt (Zx)];go_wp2
    have T:∀a0 a1 a2 a3 a4 a5 a6 a7 a8 a9 h zM c4,Tn [w.1.size,w.1.size+1] wr _:=λa0 a1 a2 a3 a4 a5 a6 a7 a8 a9 h zM c4=>(Tn.set (V:=[w.1.size,w.1.size+1]) wr w.1.size 4 c4 Yu).ah (Tn.aj (Bs (wr.setCell (Zd (w.1.size) 4) c4) (w.1.size+1) a0 a1 a2 a3 a4 a5 a6 a7 a8 a9 h zM) Yu)
    refine C0 (.agg #[Ze,Zg A,Zg m,Zg f,Zg a,Yz g (BK d s).length c,C3 p o.length E,C3 l n.length D,Zc,Ze,Zc,Zc]) (by simp[results,results76,go_sem,Q,R,S,U,X,Y,Z,y7,y8,y9,O,P]) ?_;have T':=T Ze (Zg A) (Zg m) (Zg f) (Zg a) (Yz g (BK d s).length c) (C3 p o.length E) (C3 l n.length D) Zc Ze Zc Zc (Yz g (BK d s).length c)
    have zF:=C.2.2.ah (Tn.A T' C.2.2.size Yu);refine⟨zF,.inr ⟨?_,g,c,rfl,Bm.own (As C.1 (λq hq=>T'.block q (Ac C.1 hq).2 (by have:=(Ac C.1 hq).1;simp;omega))) (λz F=> ?_),Yv,Zr zT.2 T'.size⟩⟩
    .rintro(h|⟨x,hx,q⟩)
     .have:=zI.2 h;simp at this
     .obtain⟨z,F,rfl⟩:=mem_map.1 hx;exact C.2.1 z F q
    .obtain⟨i,hi⟩:=A5 (Bb.1 F).1;have⟨_,J,K,e,q⟩:=HZ i z hi;exact⟨J,K,e,Af.aj (Af.A q zF) zF.size⟩
 .obtain⟨⟨Q,q0⟩,⟨R,q1⟩,⟨S,q2⟩,⟨U,q3⟩,⟨X,q4⟩,⟨Y,q5⟩,⟨Z,q6⟩,⟨y7,q7⟩,⟨y8,q8⟩,⟨y9,q9⟩,⟨O,zV⟩,P,zW⟩:=Bf zE;go_wp2;refine C0 (.agg (Xy 6)) (by simp[results,results76,go_sem,Q,R,S,U,X,Y,Z,y7,y8,y9,O,P]) ⟨zA.ah (Tn.A (Bs G (w.1.size+1) _ _ _ _ _ _ _ _ _ _ _ _) zA.size Yu),.inl ⟨.inl (zI.1 trivial),rfl⟩⟩
section
open Go.ChangeShapes Go.WideShapes Go.ChangeAt Go.RowKit Go.Lib
theorem FX:∃i:TypeInfo,prog.info? 75=some i/\i.zero=some (.agg Cp)/\i.size=8/\i.bytes=8:=by have⟨e,d,a,b,c⟩:=info_parts Ks;exact⟨e,d,a,b,c⟩
theorem Iv{x:Zi}(c:w.1[b]?=some (.cells (Au x).toArray 75 (0,0))):∀j u,(Ab Au [x])[j]?=some u->w.cell? (Zd b j)=some u:=by intro j u a;rw[Ab,flatMap_cons,flatMap_nil,append_nil]at a;simp only[cell?,c];rw[<-a];simp
theorem Ox(P:D4)(b:Zl)(x:Zi)(r:Nat)(w:Zh)(a:Nat)(n:w.ownsRow a 75 8 P b.length (Ab Au b))(E:b.length<=600)(d:a<=w.1.size)(p:w.1[r]?=some (.cells (Au x).toArray 75 (0,0))):
 D8 139 #[P,Zg b.length,Yz r 1 1] w λe s=>∃c,e=C5 c/\s.ownsRow a 75 8 c (b.length+1) (Ab Au (b++[x]))/\w.grownBy s P.ownBlock/\(c.ownBlock=P.ownBlock\/c.ownBlock=some w.1.size):=by
 obtain⟨A,c,h,i,k⟩:=FX;obtain⟨q,s,o,f,m,_,t⟩:=run_append_own_at (P:=prog) w a 87 87 75 A _ 8 8 underlying87 c h i k rfl Yq P b.length (Ab Au b) n ⟨r,0,none⟩ 1 1 (Ab Au [x]) (by rw[Bq EF];rfl) (λj u l=>by rw[A3,A0];exact Iv p j u l) (Dx _) Yo Yv d;rw[<-Bn]at f;have l:=Yw (Zn f (Zn m t));clear f m t
 rcases n.2 with⟨e,v⟩|⟨g,t,B,e,D,z,C,f,m,y⟩
 .subst e;rw[v]at l |-;clear n p c h i k;go_enter func139,ntmps139;go_wp2_with (at_builtin;refine Lib.wpList_append_run _ rfl _ _ _ _ rfl _ _ rfl rfl _ _ o ?_);go_ret;exact⟨q,rfl,l⟩
 .subst e;clear n p c h i k z m y;unfold maxLen at f;by_cases hc:t=b.length
  .subst hc;go_enter func139,ntmps139;go_wp2_with (at_builtin;refine Lib.wpList_append_run _ rfl _ _ _ _ rfl _ _ rfl rfl _ _ o ?_);go_ret;exact⟨q,rfl,l⟩
  .go_enter func139,ntmps139;go_wp2_with (at_builtin;refine Lib.wpList_append_run _ rfl _ _ _ _ rfl _ _ rfl rfl _ _ o ?_);go_ret;exact⟨q,rfl,l⟩
theorem Mr(g b i:Nat)(a:Zl)(x:Zi)(r:Nat)(w:Zh)(l:Nat)(u:w.ownsRow l 75 8 (Yz g a.length b) a.length (Ab Au a))(hl:a.length<=600)(hi:i<a.length)(z:a.length+1<=b)(F:r≠g)(p:w.1[r]?=some (.cells (Au x).toArray 75 (0,0))):
 D8 139 #[Yz g a.length b,Zg i,Yz r 1 1] w λe c=>e=C5 (Yz g (a.length+1) b)/\c.ownsRow l 75 8 (Yz g (a.length+1) b) (a.length+1) (Ab Au (a.take i++[x]++a.drop i))/\w.grownBy c (some g):=by
 obtain⟨H,d,L,y,M⟩:=FX;have⟨f,A,W,I,D,J⟩:∃f,w.1[g]?=some (.cells f 75 (0,0))/\a.length<=b/\b<=maxLen/\f.size=b *8/\f.toList.take (a.length *8)=Ab Au a:=by
  rcases u.2 with⟨e,_⟩|⟨g',N,f,e,hb,A,O,P,Q,R⟩
  .cases e
  .cases e;exact⟨f,A,O,P,Q,R⟩
 have G:=Bq EF a;have B:(Ab Au [x]).length=8:=by rw[Bq EF];rfl
 have E:((Ab Au a).drop (i *8)).length=(a.length -i) *8:=by rw[length_drop,G];omega
 have c:∀j,j<b *8->(w.cell? (Zd g j)).isSome=true:=λj m=>by simp only[cell?,A];rw[Cf Yv];rfl
 have K:∀n k,(callFunc 161 #[Yz r 1 1,C3 (some ⟨g,(i+1) *8,none⟩) n k]).run prog w=.ok (.value (.bool false)) w:=λn k=>by
  rw[run_callFunc_extern func161 Yr Yr Yr (e:=Extern.SlicesOverlaps.overlaps #[87,87] #[4]) Yr,
   Lib.run_overlaps_apart w 87 4 75 underlying87 8 (λw=>by simp[sizeOf,typeInfo,d,y]) ⟨r,0,none⟩ ⟨g,(i+1) *8,none⟩ 1 1 n k F 75 75 ((Au x).toArray:Array Value).size f.size (by simp only[shape?,p]) (by simp only[shape?,A]) (by rw[D];omega) (by simp only[frozen?,p];rfl) (by simp[frozen?,p])]
  rfl
 have s:∀q o k,(Builtin.copy_ #[87,87] q #[C3 (some ⟨g,(i+1) *8,none⟩) (a.length+1 -(i+1)) o,C3 (some ⟨g,i *8,none⟩) (a.length+1 -i) k]).run prog w.drew=.ok (goInt (Nat.min (a.length+1 -i) (a.length+1 -(i+1)))) (w.drew.setCells g ((i+1) *8) ((Ab Au a).drop (i *8))):=λq o k=>
  CG w.drew 87 87 q 75 H 8 g ((i+1) *8) (a.length+1 -(i+1)) o ⟨g,i *8,none⟩ (a.length+1 -i) k ((Ab Au a).drop (i *8)) underlying87 d y (by rw[E];congr 1;show _=min _ _;omega)
   (fun j v m=>by
     rw[A3];rw[getElem?_drop]at m;have:=(Zw m).1;exact(u.cellAt _ Yv).ah m)
   (λj m=>c _ Yv) (λj _=>u.frozenAt _) (λv p=>Dx _ v (mem_of_mem_drop p))
 obtain⟨n,k⟩:=Ae (w.drew.setCells g ((i+1) *8) ((Ab Au a).drop (i *8)));have C:∀q o,(Builtin.copy_ #[87,87] q #[C3 (some ⟨g,i *8,none⟩) (a.length+1 -i) o,Yz r 1 1]).run prog n=.ok (goInt (Nat.min 1 (a.length+1 -i))) (n.setCells g (i *8) (Ab Au [x])):=λq o=>
  CG n 87 87 q 75 H 8 g (i *8) (a.length+1 -i) o ⟨r,0,none⟩ 1 1 (Ab Au [x]) underlying87 d y (by rw[B,show Nat.min 1 (a.length+1 -i)=1 from Nat.min_eq_left Yv,Nat.one_mul])
   (fun j v m=>by
     rw[A3,A0,k,cell?_setCells_out g _ _ _ _ (λh _=>absurd h F)];exact Iv p j v m)
   (λj m=>by rw[k];exact Hv g ((Ab Au a).drop (i *8)) ((i+1) *8) w.drew (λt m=>c _ Yv) (i *8+j) (c _ Yv)) (λj _=>by rw[k,frozen?_setCells];exact u.frozenAt _) (Dx _)
 have m:(n.setCells g (i *8) (Ab Au [x])).ownsRow l 75 8 (Yz g (a.length+1) b) (a.length+1) (Ab Au (a.take i++[x]++a.drop i))/\w.grownBy (n.setCells g (i *8) (Ab Au [x])) (some g):=by
  refine⟨?_,?_⟩
  .rw[Bn,Bn,<-FR EF a i Yv,<-EE EF a i Yv,k];exact Nu (w:=w.drew) (Ah u (Ad.drew)) Yv B z
  .rw[k];exact Aj (Dn (Ci g _ _ _)) (Ci g _ _ _)
 have o:=Yw m;rw[<-k]at s;unfold maxLen at I;have y:¬((i:Int)=(a.length:Int)):=Yv
 have X:(0:Int)<=(i:Int)+1:=Yv
 have Y:(i:Int)+1<=(a.length:Int)+1:=Yv
 have Z:((i:Int)+1).toNat=i+1:=Yv
 have h:((a.length:Int)+1).toNat=a.length+1:=Yv
 have j:(0:Int)<=(a.length:Int)+1:=Yv
 have t:(a.length:Int)+1<=(b:Int):=Yv
 have q:¬(b=i+1):=Yv
 have S:¬(b=i):=Yv
 have T:i<=a.length+1:=Yv
 have U:(i:Int)<=(a.length:Int)+1:=Yv
 have V:(i:Int)<=(a.length:Int):=Yv
 have mixed:prog.follows .mixedOrders=true:=Yr
 have v:IntKind.i64.wrap ((i:Int)+1)=(i:Int)+1:=by rw[IntKind.wrap_i64];omega
 have zA:IntKind.i64.wrap ((a.length:Int)+1)=(a.length:Int)+1:=by rw[IntKind.wrap_i64];omega
 clear u c m p A J D d L M G B E k;go_enter func139,ntmps139;go_wp2_with (simp only[K])
 go_region_law_o (refine Ez rfl _ _ 87 87 rfl (C3 (some ⟨g,(i+1) *8,none⟩) (a.length+1 -(i+1)) (b -(i+1))) (C3 (some ⟨g,i *8,none⟩) (a.length+1 -i) (b -i)) (by simp[Act.eval,Act.put]) (by simp[Act.eval,Act.put]) (s 3 (b -(i+1)) (b -i)) ?_)
 go_wp2_with (at_builtin;refine DI _ rfl _ _ 87 87 rfl _ _ rfl rfl (C _ _) ?_);go_ret;exact⟨rfl,o⟩
theorem Nb(g c i:Nat)(a:Zl)(x:Zi)(H:Nat)(w:Zh)(k:Nat)(E:w.ownsRow k 75 8 (Yz g a.length c) a.length (Ab Au a))(hl:a.length<=600)(hi:i<a.length)(D:c<a.length+1)(C:k<=w.1.size)(F:w.1[H]?=some (.cells (Au x).toArray 75 (0,0))):
 D8 139 #[Yz g a.length c,Zg i,Yz H 1 1] w λe d=>∃G,e=C5 (Yz w.1.size (a.length+1) G)/\d.ownsRow k 75 8 (Yz w.1.size (a.length+1) G) (a.length+1) (Ab Au (a.take i++[x]++a.drop i))/\w.grownBy d none:=by
 obtain⟨R,l,Z,A,M⟩:=FX;have J:g<w.1.size:=(Ac E rfl).2;have Y:=(A2.1 F).1;have zM:a.length<=c:=by
  rcases E.2 with⟨e,_⟩|⟨g',zE,zF,e,y,hg,h1,h2,h3,h4⟩
  .cases e
  .cases e;exact h1
 have z:=Bq EF a;have L:(Ab Au [x]).length=8:=by rw[Bq EF];rfl
 have V:((Ab Au a).drop (i *8)).length=(a.length -i) *8:=by rw[length_drop,z];omega
 have K:((Ab Au a).take (i *8)).length=i *8:=by rw[Ct,z];omega
 have hold:(Builtin.firstCells R.size i (Yz g i c)).run prog w.drew=.ok ((Ab Au a).take (i *8)).toArray w.drew:=by
  rw[A];exact run_firstCells_some w.drew 8 i ⟨g,0,none⟩ i c ((Ab Au a).take (i *8)) K (λj v f=>by
   rw[A3,A0];rw[getElem?_take]at f;split at f
   .exact(E.cellAt _ Yv).ah f
   .cases f)
 have⟨G,O⟩:=Ae (grownCap w (a.length+1) c 75);have⟨p,zC,U⟩:∃p:Array Value,p=Value.cells (.agg Cp)/\p.size=8:=⟨_,rfl,Yr⟩;have⟨B,N⟩:∃B:Zj,B=(Builtin.zeroCells p (a.length+1 -i)).toList++(Builtin.zeroCells p (G -(a.length+1))).toList:=⟨_,rfl⟩;have zB:a.length+1<=G:=by rw[O];exact grownCap_ge w _ _ _
 have u:G<=maxLen:=by rw[O];exact grownCap_le_maxLen w (a.length+1) c 75 Yo
 have zA:i *8+B.length=G *8:=by rw[N];simp[Builtin.zeroCells,U];omega
 have X:∀n,(Builtin.append_ #[87,3] n #[Yz g i c,Zg ((a.length:Int)+1 -(i:Int))]).run prog w=
  .ok (Yz w.1.size (a.length+1) G) (w.drew.alloc (.cells ((Ab Au a).take (i *8)++B).toArray 75)):=λn=>by
  have W:i+(a.length+1 -i)=a.length+1:=Yv
  have h:=Lib.run_append_grow_zeros (P:=prog) w 87 3 n 75 R _ .i64 .i64 underlying87 underlying3 l Z (some ⟨g,0,none⟩) i c ((Ab Au a).take (i *8)) hold (a.length+1 -i) Yv (by rw[A];omega) Yv Yv (by rw[M];omega) (by rw[M,W];exact growslice_fits D Yv);rw[W,<-O,<-zC]at h;rw[show(a.length:Int)+1 -(i:Int)=((a.length+1 -i:Nat):Int) by omega,h,N]
  have e:((Ab Au a).take (i *8)).toArray++Builtin.zeroCells p (a.length+1 -i)++Builtin.zeroCells p (G -(a.length+1))=((Ab Au a).take (i *8)++((Builtin.zeroCells p (a.length+1 -i)).toList++(Builtin.zeroCells p (G -(a.length+1))).toList)).toArray:=by apply Array.toList_inj.1;simp
  rw[e]
 have⟨d,q⟩:=D6 w.drew ((Ab Au a).take (i *8)++B).toArray 75;have m:d.1[w.1.size]?=some (.cells ((Ab Au a).take (i *8)++B).toArray 75 (0,0)):=by rw[q];exact heap_alloc_new w.drew _
 have Q:∀j,j<G *8->(d.cell? (Zd (w.1.size) j)).isSome=true:=λj f=>by simp only[cell?,m];rw[Cf (by simp[K];omega)];rfl
 have I:∀j,d.frozen? ⟨w.1.size,j,none⟩=false:=λj=>by simp[frozen?,m]
 have hO:∀b,b<w.1.size->d.1[b]?=w.1[b]?:=λb y=>by rw[q];exact GH w.drew _ y
 have S:∀n s,(Builtin.copy_ #[87,87] n #[C3 (some ⟨w.1.size,i *8,none⟩) (a.length+1 -i) s,Yz H 1 1]).run prog d=.ok (goInt (Nat.min 1 (a.length+1 -i))) (d.setCells w.1.size (i *8) (Ab Au [x])):=λn s=>
  CG d 87 87 n 75 R 8 w.1.size (i *8) (a.length+1 -i) s ⟨H,0,none⟩ 1 1 (Ab Au [x]) underlying87 l A (by rw[L,show Nat.min 1 (a.length+1 -i)=1 from Nat.min_eq_left Yv,Nat.one_mul])
   (fun j v f=>by
     rw[A3,A0,cell?_of_block (hO H Y)];exact Iv F j v f)
   (λj f=>Q _ Yv) (λj _=>I _) (Dx _)
 obtain⟨r,o⟩:=Ae ((d.setCells w.1.size (i *8) (Ab Au [x])).drew);have T:∀n s t,(Builtin.copy_ #[87,87] n #[C3 (some ⟨w.1.size,(i+1) *8,none⟩) (a.length+1 -(i+1)) s,C3 (some ⟨g,i *8,none⟩) (a.length -i) t]).run prog r=.ok (goInt (Nat.min (a.length -i) (a.length+1 -(i+1)))) (r.setCells w.1.size ((i+1) *8) ((Ab Au a).drop (i *8))):=λn s t=>
  CG r 87 87 n 75 R 8 w.1.size ((i+1) *8) (a.length+1 -(i+1)) s ⟨g,i *8,none⟩ (a.length -i) t ((Ab Au a).drop (i *8)) underlying87 l A (by rw[V];congr 1;show _=min _ _;omega)
   (fun j v f=>by
     rw[getElem?_drop]at f;have:=(Zw f).1;rw[A3,o,GF,cell?_setCells_out _ _ _ _ _ (λh _=>absurd h (Nat.ne_of_lt J)),cell?_of_block (hO g J)];exact(E.cellAt _ Yv).ah f)
   (λj f=>by rw[o,GF];exact Hv w.1.size (Ab Au [x]) (i *8) d (λt f=>Q _ Yv) ((i+1) *8+j) (Q _ Yv)) (λj _=>by rw[o,Jy,frozen?_setCells];exact I _) (λv F=>Dx _ v (mem_of_mem_drop F))
 have f:(r.setCells w.1.size ((i+1) *8) ((Ab Au a).drop (i *8))).ownsRow k 75 8 (Yz w.1.size (a.length+1) G) (a.length+1) (Ab Au (a.take i++[x]++a.drop i))/\w.grownBy (r.setCells w.1.size ((i+1) *8) ((Ab Au a).drop (i *8))) none:=by
  refine⟨?_,?_⟩
  .rw[Bn,Bn,<-FR EF a i Yv,<-EE EF a i Yv,o,<-Jw];exact Ah (OR (w:=d) z Yv L C m zA zB u) (Ad.drew)
  .have s1:d.1.size=w.1.size+1:=by rw[q];simp
   have n:w.grownBy d none:=by rw[q];exact⟨rfl,rfl,rfl,Yu,λb y _=>GH w.drew _ y⟩
   have s:d.grownBy (r.setCells w.1.size ((i+1) *8) ((Ab Au a).drop (i *8))) (some w.1.size):=by rw[o];exact Aj (Aj (Ci w.1.size (Ab Au [x]) (i *8) d) (KI _ _)) (Ci w.1.size ((Ab Au a).drop (i *8)) ((i+1) *8) _)
   exact⟨s.os.ah n.os,s.tape.ah n.tape,s.output.ah n.output,Zm n.size s.size,λb y _=>(s.block b Yv Yt).ah (n.block b y Yu)⟩
 have j:=Yw f;have b:G<=9223372036854775807:=by unfold maxLen at u;omega
 have zR:¬((i:Int)=(a.length:Int)):=Yv
 have zS:(c:Int)<(a.length:Int)+1:=Yv
 have zN:(0:Int)<=(i:Int)+1:=Yv
 have zO:(i:Int)+1<=(a.length:Int)+1:=Yv
 have zP:((i:Int)+1).toNat=i+1:=Yv
 have t:¬(c=i):=Yv
 have v:¬(G=i):=Yv
 have zG:¬(G=i+1):=Yv
 have zH:i<=a.length+1:=Yv
 have zJ:(i:Int)<=(a.length:Int)+1:=Yv
 have zK:(i:Int)<=(a.length:Int):=Yv
 have mixed:prog.follows .mixedOrders=true:=Yr
 have zI:i<=c:=Yv
 have zT:IntKind.i64.wrap ((i:Int)+1)=(i:Int)+1:=by rw[IntKind.wrap_i64];omega
 have zU:IntKind.i64.wrap ((a.length:Int)+1)=(a.length:Int)+1:=by rw[IntKind.wrap_i64];omega
 have zV:IntKind.i64.wrap ((a.length:Int)+1 -(i:Int))=(a.length:Int)+1 -(i:Int):=by rw[IntKind.wrap_i64];omega
 rw[<-q]at X;clear E f F l Z M z L V K hold O N zA m Q I hO q J Y;go_enter func139,ntmps139;go_wp2_with (first
  |(at_builtin;refine Lib.wpList_append_run _ rfl _ _ _ _ rfl _ _ rfl rfl _ _ (X _) ?_)
  |(at_builtin;refine DI _ rfl _ _ 87 87 rfl _ _ rfl rfl (S _ _) ?_))
 go_region_law_o (refine Ez rfl _ _ 87 87 rfl (C3 (some ⟨w.1.size,(i+1) *8,none⟩) (a.length+1 -(i+1)) (G -(i+1))) (C3 (some ⟨g,i *8,none⟩) (a.length -i) (c -i)) (by simp[Act.eval,Act.put]) (by simp[Act.eval,Act.put]) (by rw[<-o];exact T 3 (G -(i+1)) (c -i)) ?_)
 go_wp2;go_ret;rw[<-o];exact⟨G,rfl,j⟩
theorem Oy(P:D4)(i:Nat)(c:Zl)(x:Zi)(j:Nat)(w:Zh)(a:Nat)(l:w.ownsRow a 75 8 P c.length (Ab Au c))(o:c.length<=600)(B:i<=c.length)(d:a<=w.1.size)(s:P.ownBlock≠some j)(p:w.1[j]?=some (.cells (Au x).toArray 75 (0,0))):
 D8 139 #[P,Zg i,Yz j 1 1] w λe m=>∃f,e=C5 f/\m.ownsRow a 75 8 f (c.length+1) (Ab Au (c.take i++[x]++c.drop i))/\w.grownBy m P.ownBlock/\(f.ownBlock=P.ownBlock\/f.ownBlock=some w.1.size):=by
 rcases Bz i c.length with h|h
 .rcases l.2 with⟨e,C⟩|⟨g,k,t,e,r,A,u,v,y,z⟩
  .omega
  .subst e;rcases Bz k (c.length+1)with n|n
   .refine Calls.mono (Nb g k i c x j w a l o h n d p) ?_;rintro e m ⟨G,rfl,q,f⟩;exact⟨_,rfl,q,⟨f.os,f.tape,f.output,f.size,λb r _=>f.block b r Yu⟩,.inr rfl⟩
   .refine Calls.mono (Mr g k i c x j w a l o h n (λe=>s (by rw[e];rfl)) p) ?_;rintro e m ⟨rfl,q,f⟩;exact⟨_,rfl,q,f,.inl rfl⟩
 .obtain rfl:i=c.length:=Yv
  rw[take_length,drop_length,append_nil];exact Ox P c x j w a l o d p
end
theorem Oz(a:Zk)(c:Nat)(s:Zi)(w:Zh):
 D8 149 #[C3 a 0 c,Ca s,.func (.func 150) #[] #[]] w λe b=>e=C5 (.tuple #[Ze,.bool false])/\Zz w b:=by
 unfold Ca Cy;go_enter func149,ntmps149;go_wp2
 go_loopw [9,10] (λi j wr=>i=Zg 0/\j=Zg 0/\Zz w wr) (λ_ _ _=>0)
 case atStart=>exact⟨rfl,rfl,Zy⟩
 case round=>
  obtain⟨rfl,rfl,b⟩:=hrel;have d:=Ao.ne wr;go_wp2;refine Ax Yr Yr ?_
  repeat (go_big_quiet_step (fail))
  refine wpQuiet_nil ?_;intro m;go_wp2
  go_ret2
  exact⟨by first|rfl|simp[Act.put],b.ah (m.h.aj b.size)⟩
theorem YR(d:Nat)(O:D4)(c:Zl)(s:Zi)(w:Zh)(k:w.ownsRow d 75 8 O c.length (AH c))(q:c.length<=600)(n:s.size<=8)(o:∀x∈c,x.size=s.size)(f:c.Pairwise (λa b=>less a b=true)):
 D8 149 #[O,Ca s,.func (.func 150) #[] #[]] w λe l=>∃i:Nat,e=C5 (.tuple #[Zg i,.bool (decide (c[i]?=some s))])/\Fp c s i/\Zz w l:=by
 rcases k.2 with⟨rfl,t⟩|⟨g,m,u,rfl,_⟩
 .have:c=[]:=Bl t;subst this;refine(Oz none 0 s w).aj ?_;rintro e l ⟨rfl,p⟩;exact⟨0,Yu,⟨Zx,λj x h=>Yv,λj x _ r=>by simp at r⟩,p⟩
 .exact LX g m c s w d k q n o f
theorem Aas(f d m:Nat)(n:Zk)(o:Nat)(P L:D4)(M B k g:Int)(c:Dj)(s:Zi)(w:Zh)(h:Aa w d [Zg M,.map (some m),Zg B,Zg k,Zg g,C3 n c.length o,P,L])(j:w.ownsRow f 75 8 (C3 n c.length o) c.length (AH (c.map (·.sum))))(I:c.length<=600)(z:s.size<=8)(A:∀x∈c,x.sum.size=s.size)(l:(c.map (·.sum)).Pairwise (λa b=>less a b=true)):
 D8 128 #[Yy d,Ca s] w λe p=>∃i:Nat,e=C5 (.tuple #[Zg i,.bool (decide ((c.map (·.sum))[i]?=some s))])/\Fp (c.map (·.sum)) s i/\Zz w p:=by
 have⟨W,q⟩:=D6 w (Yk (kB s)) 75;have p:=(AE q).1;have v:Aa W w.1.size (Au s):=by rw[q];exact Aa.new w (Au s) 75
 have r:W.drew.ownsRow f 75 8 (C1 n c o) (c.map (·.sum)).length (AH (c.map (·.sum))):=by rw[A9];exact Ah j p.drew
 have t:=Yw (YR f (C1 n c o) (c.map (·.sum)) s W.drew r (by rw[A9];exact I) z (λx u=>by obtain⟨y,J,rfl⟩:=mem_map.1 u;exact A y J) l)
 have H:W.drew.cell? (Zd d 5)=some (C1 n c o)/\(W.drew.cell? (Zd (w.1.size) 0)=some (.int .u8 (kB s 0))/\W.drew.cell? (Zd (w.1.size) 1)=some (.int .u8 (kB s 1))/\W.drew.cell? (Zd (w.1.size) 2)=some (.int .u8 (kB s 2))/\W.drew.cell? (Zd (w.1.size) 3)=some (.int .u8 (kB s 3))/\W.drew.cell? (Zd (w.1.size) 4)=some (.int .u8 (kB s 4))/\W.drew.cell? (Zd (w.1.size) 5)=some (.int .u8 (kB s 5))/\W.drew.cell? (Zd (w.1.size) 6)=some (.int .u8 (kB s 6))/\W.drew.cell? (Zd (w.1.size) 7)=some (.int .u8 (kB s 7))):=⟨(Aa.A h p 5 _ rfl).1,Hd (w:=W.drew) v⟩
 have u:=Yw q;clear q v r h j;unfold Ca Cy at *
 go_enter func128,ntmps128;go_upto_region 1 with fail;rw[<-u.o];clear u;obtain⟨K,r,u,v,C,D,E,F,G⟩:=H;go_region_with (go_at_call 149;refine t.Ai ?_;rintro e N ⟨i,rfl,q,j⟩)
 all_goals
  have h:=Yw (Zn q (p.ah ((Dm j).aj p.size)));clear q j K r u v C D E F G t;go_wp2
  go_ret2
  exact⟨i,by first|rfl|simp[Act.put],h.1,h.2⟩
def De(ks:List Kd)(x:Kd):List Kd:=ks.filter (fun k=>less k.sum x.sum)++[x]++ks.filter (fun k=> !(less k.sum x.sum))
theorem Ho{a:Dj}{u:Kd}:u∈De a x↔u∈a++[x]:=by
 unfold De;simp only[A7,Bb,mem_singleton];cases less u.sum x.sum<;>simp
 .constructor
  .rintro(h|h)
   .exact .inr h
   .exact .inl h
  .rintro(h|h)
   .exact .inr h
   .exact .inl h
theorem Lv(a:Dj)(x:Kd):(De a x).length=a.length+1:=by
 unfold De;rw[Ak,Ak];have:∀l:List Kd,(l.filter (λk=>less k.sum x.sum)).length+(l.filter (λk=> !(less k.sum x.sum))).length=l.length:=by
  intro l;induction l with
  |nil=>rfl
  |cons y l ih=>cases h:less y.sum x.sum<;>simp[h]<;>omega
 have:=this a;simp;omega
theorem SR{b:Dj}(h:Fp (b.map (·.sum)) x.sum i):De b x=b.take i++[x]++b.drop i:=by
 have f:∀k∈b.take i,less k.sum x.sum=true:=λk a=>by have⟨j,c⟩:=A5 a;have g:=(Zw c).1;rw[Ct]at g;rw[getElem?_take_of_lt Yv]at c;exact h.lo j k.sum Yv (by rw[getElem?_map,c];rfl)
 have d:∀k∈b.drop i,less k.sum x.sum=false:=λk a=>by have⟨j,c⟩:=A5 a;rw[getElem?_drop]at c;exact h.hi (i+j) k.sum Yv (by rw[getElem?_map,c];rfl)
 have e:=(take_append_drop i b).symm;unfold De
 conv=>lhs;rw[e]
 rw[filter_append,filter_append,filter_eq_self.2 f,filter_eq_nil_iff.2 (λk a=>by rw[d k a];simp),filter_eq_nil_iff.2 (λk a=>by rw[f k a];simp),filter_eq_self.2 (λk a=>by rw[d k a];rfl)];simp
theorem Holds.same{W:Zh}{i:Int}{g a:Dj}{f:Lit->Option Value}(h:Holds W B i g f)(d:∀u,u∈a↔u∈g):Holds W B i a f:=by
 intro s j;rcases h s j with⟨b,c⟩|⟨u,l,m,b,c⟩
 .exact .inl ⟨b,λ⟨k,hk,e⟩=>c ⟨k,(d k).1 hk,e⟩⟩
 .exact .inr ⟨u,l,m,(d u).2 b,c⟩
def Ar(w:Zh)(base:Nat)(v:Value)(ss:Zl):Prop:=
 (v=Zb/\ss=[])\/∃g off cap,v=.slice (some ⟨g,off,none⟩) ss.length cap/\base<=g/\g<w.1.size/\ss.length<=cap/\cap<=maxLen/\
   (∀j,j<cap->(w.cell? (Zd g (off+j))).isSome=true/\w.frozen? ⟨g,off+j,none⟩=false)/\
   ∀i s,ss[i]?=some s->w.cell? (Zd g (off+i))=some (.string s)
theorem Ar.nil(w:Zh)(a:Nat):Ar w a Zb []:=.inl ⟨rfl,rfl⟩
theorem Ar.own{c:Zl}(h:w.ownsRow b 9 1 v c.length (c.map string)):Ar w b v c:=by
 rcases h.2 with⟨rfl,q⟩|⟨g,l,d,rfl,m,e,n,p,f,r⟩
 .exact .inl ⟨rfl,Bl q⟩
 .have o:=(A2.1 e).1;have a:∀j,w.cell? (Zd g (0+j))=d[j]?:=λj=>by rw[A0];simp[cell?,e]
  refine .inr ⟨g,0,l,rfl,m,o,n,p,λj k=>⟨?_,?_⟩,λi s f=> ?_⟩
  .rw[a,Cf Yv];rfl
  .simp[frozen?,e]
  .have t:=(Zw f).1;rw[a];have k:(d.toList.take (c.length *1))[i]?=some (C4 s):=by rw[r];simp[f]
   rw[getElem?_take_of_lt Yv]at k;simpa using k
theorem Ar.row{d:Zl}(h:Ar w c v d):∃a b,v=C3 a d.length b/\Af w w.1.size a d:=by
 rcases h with⟨rfl,rfl⟩|⟨g,e,b,rfl,j,f,_,_,_,i⟩
 .exact⟨none,0,rfl,.inl rfl⟩
 .exact⟨_,b,rfl,.inr ⟨g,e,rfl,f,i⟩⟩
theorem Ar.stays{c:Zh}(h:Ar w a v f)(r:w.1.size<=c.1.size)(b:∀g,Ap v=some g->c.1[g]?=w.1[g]?):Ar c a v f:=by
 rcases h with h|⟨g,l,k,rfl,m,q,n,o,d,p⟩
 .exact .inl h
 .exact .inr ⟨g,l,k,rfl,m,Yv,n,o,λj e=>⟨by rw[cell?_of_block (b g rfl)];exact(d j e).1,by rw[frozen?_of_block (b g rfl)];exact(d j e).2⟩,λi s e=>(cell?_of_block (b g rfl)).ah (p i s e)⟩
theorem Ar.g{e:Zl}(h:Ar w a v e){g:Nat}(b:Ap v=some g):a<=g/\g<w.1.size:=by
 rcases h with⟨rfl,_⟩|⟨j,i,f,rfl,c,d,_⟩
 .cases b
 .cases b;exact⟨c,d⟩
theorem Ar.A{c:Zh}{b:Zl}(h:Ar w base v b)(a:Zz w c):Ar c base v b:=
 h.stays a.size (λg e=>a.block g (h.g e).2)
theorem Ar.K{d:Zh}{c:Zl}(h:Ar w a v c)(b:Tn V w d)(f:∀g,Ap v=some g->g∉V):Ar d a v c:=
 h.stays b.size (λg e=>b.block g (h.g e).2 (f g e))
theorem Ar.mono{a:Zl}(h:Ar w base v a)(e:base'<=base):Ar w base' v a:=by
 rcases h with h|⟨g,c,b,rfl,d,rest⟩
 .exact .inl h
 .exact .inr ⟨g,c,b,rfl,Yv,rest⟩
abbrev Ar.aj:=@Ar.mono
theorem Ar.fresh(w:Zh)(d:Nat)(b:Zl)(c:Nat)(z:Array Value)(h:d<=w.1.size)(f:b.length<=c)(g:c<=maxLen)(l:z.size=c -b.length):
 Ar (w.drew.alloc (.cells ((b.map string).toArray++z) 9)) d (Yz w.1.size b.length c) b:=by
 have a:∀j,(w.drew.alloc (.cells ((b.map string).toArray++z) 9)).cell? (Zd (w.1.size) (0+j))=((b.map string).toArray++z)[j]?:=λj=>by rw[A0];show(w.drew.alloc (.cells ((b.map string).toArray++z) 9)).cell? (Zd (w.drew.1.size) j)=_;rw[cell?_alloc_at _ _ _ _ rfl]
 refine .inr ⟨w.1.size,0,c,rfl,h,Yu,f,g,λj e=>⟨?_,?_⟩,λi s e=> ?_⟩
 .rw[a,Cf (by simp[l];omega)];rfl
 .simp[go_sem]
 .have k:=(Zw e).1;rw[a,Array.getElem?_append_left (D2 k)];simp[e]
theorem Kz(w:Zh)(c:Nat)(v:D4)(a:Zl)(U:Ar w c v a)(p:Addr)(B:Nat)(t:Zi)(C:w.cell? p=some (C4 t))(W:a.length<=100000000)(x:c<=w.1.size)(D:TypeId):
 ∃d f,(Builtin.append_ #[28,28] D #[v,C3 (some p) 1 B]).run prog w=.ok d f/\Ar f c d (a++[t])/\w.grownBy f (Ap v)/\(Ap d=Ap v\/Ap d=some w.1.size):=by
 obtain⟨i,K,P,o,Q⟩:=info_parts CC;have q:Src prog i.size 28 (C3 (some p) 1 B) 1 [C4 t] w:=by
  rw[o];exact Src.ofSlice w underlying28 p 1 B [C4 t] rfl (λj u m=>by
   match j,m with
   |0,m=>cases m;rw[show p.add 0=p from by cases p;simp[Addr.add]];exact C) (by simp[oneCell'])
 have grow:∀(A:Zk) (b:Nat),b<a.length+1->(Builtin.firstCells i.size a.length (C1 A a b)).run prog w.drew=.ok (a.map string).toArray w.drew->
  ∃d f,(Builtin.append_ #[28,28] D #[C1 A a b,C3 (some p) 1 B]).run prog w=.ok d f/\Ar f c d (a++[t])/\(∀h,w.grownBy f h)/\Ap d=some w.1.size:=by
  intro A b F hold;have l:=run_append_grow_src w _ _ D _ i _ underlying28 K P A a.length b (a.map string) hold _ 1 [C4 t] q F Yv (by
   have:=nextslicecap_le F;rw[Q];omega)
  rw[show a.map string++[C4 t]=(a++[t]).map string by simp]at l;have L:=grownCap_ge w (a.length+1) b 9;have O:=grownCap_le_maxLen w (a.length+1) b 9 Yo
  have E:=Ar.fresh w c (a++[t]) (grownCap w (a.length+1) b 9) (Builtin.zeroCells (C4 ⟨#[]⟩).cells (grownCap w (a.length+1) b 9 -(a.length+1))) x (D2 L) O (by rw[size_zeroCells,Ak];simp[Value.cells]);rw[Ak]at E;exact⟨_,_,l,E,λh=>⟨rfl,rfl,rfl,Yu,λk G _=>heap_alloc_old w.drew _ G⟩,rfl⟩
 rcases U with⟨rfl,rfl⟩|⟨g,r,b,rfl,R,T,V,S,y,C⟩
 .obtain⟨d,f,l,H,I,J⟩:=grow none 0 Yu (run_firstCells_none w.drew _ _ _ _);exact⟨d,f,l,H,I _,.inr J⟩
 .by_cases hroom:a.length+1<=b
  .have z:∀j,j<[C4 t].length->(a.length *1+j)<b:=λj h=>by simp at h;omega
   have l:=run_append_room_src w _ _ D _ i underlying28 K g r a.length b _ 1 [C4 t] q hroom (λj h=>by rw[o,Nat.add_assoc];exact(y _ (z j h)).1) (λj h=>by rw[o,Nat.add_assoc];exact(y _ (z j h)).2);rw[o]at l
   refine⟨_,_,l,.inr ⟨g,r,b,by rw[Ak];rfl,R,by rw[Gl];exact T,by rw[Ak];exact hroom,S,λj h=>⟨?_,?_⟩,λk s n=> ?_⟩,⟨os_setCells _ _ _ _,Jz _ _ _ _,output_setCells _ _ _ _,by rw[Gl];exact Zx,λk G M=>heap_setCells_other _ _ _ _ G (λe=>M (by rw[e];rfl))⟩,.inl rfl⟩
   .exact Ip _ _ _ _ _ (y j h).1
   .rw[frozen?_setCells];exact(y j h).2
   .rcases Bz k a.length with G|G
    .rw[getElem?_append_left G]at n;rw[cell?_setCells_out _ _ _ _ _ (λ_ _=> .inl Yt)];exact C k s n
    .rw[getElem?_append_right G]at n;have N:k=a.length:=by have:=(Zw n).1;simp at this;omega
     subst N;simp at n;subst n;have M:=cell?_setCells_in g [C4 t] (r+a.length *1) w (λj h=>by rw[Nat.add_assoc];exact(y _ (z j h)).1) 0 Yu;simpa using M
  .obtain⟨d,f,l,H,I,J⟩:=grow (some ⟨g,r,none⟩) b Yv (run_firstCells_some w.drew _ _ _ _ _ _ (by rw[o];simp) (by
    intro j u m;obtain⟨s,n,rfl⟩:∃s,a[j]?=some s/\u=C4 s:=by
     rw[getElem?_map]at m;cases e:a[j]? with
     |none=>rw[e]at m;cases m
     |some s=>rw[e]at m;cases m;exact⟨s,rfl,rfl⟩
    rw[A3];exact C j s n))
   exact⟨d,f,l,H,I _,.inr J⟩
theorem Ar.set{g:Nat}{k:Zl}(h:Ar w base (C3 (some ⟨g,a,none⟩) n b) k)(v:j<k.length)(t:Zi):Ar (w.setCell (Zd g (a+j)) (C4 t)) base (C3 (some ⟨g,a,none⟩) n b) (k.set j t):=by
 rcases h with⟨e,_⟩|⟨x,m,l,e,o,p,q,r,c,u⟩
 .cases e
 .cases e;refine .inr ⟨g,a,b,by rw[length_set],o,D2 p,by rw[length_set];exact q,r,λi f=>⟨?_,?_⟩,λi s d=> ?_⟩
  .exact(BY.setCell w g (a+j) (C4 t) g (a+i) (c i f).1).1
  .exact(BY.setCell w g (a+j) (C4 t) g (a+i) (c i f).1).2 (c i f).2
  .by_cases hij:i=j
   .subst hij;rw[getElem?_set_self v]at d;cases d;exact cell?_setCell_same' _ _ _ (c i Yv).1
   .rw[getElem?_set_ne (λe=>hij e.symm)]at d;exact(cell?_setCell_other w _ _ _ Ym).ah (u i s d)
theorem Gr{d:Zh}{e:TypeId}{size:Nat}{f:Zj}(h:w.ownsRow a e size v n f)(j:Tn V w d)(i:∀b∈V,b<a):d.ownsRow a e size v n f:=
 As h (λq c=>j.block q (Ac h c).2 (λg=>by have k:=i q g;have g:=(Ac h c).1;omega))
theorem Aa.there(h:Aa w B l):w.there B 0 l.length:=λj c=>by obtain⟨a,b⟩:=h j _ (Zv c);rw[A0];exact⟨by rw[a];rfl,b⟩
theorem Aa.range(h:Aa w B l):w.rangeAt B 0 l:=λj v a=>by rw[A0];exact(h j v a).1
theorem AV(B:Nat):∀(vs:Zj) (o:Nat) (w:Zh),Tn [B] w (w.setCells B o vs)
 |[],_,w=>Tn.of Ad
 |v::r,o,w=>(Tn.set w B o v Yu).ah (AV B r (o+1) (w.setCell (Zd B o) v))
theorem Aa.ay(h:Aa w B l)(a:Zj)(d:a.length=l.length):Aa (w.setCells B 0 a) B a:=λj v c=>by have e:=(Zw c).1;have b:=rangeAt_setCells_same w B 0 a (d▸h.there) j v c;rw[A0]at b;refine⟨b,?_⟩;rw[frozen?_setCells];exact(h j _ (Zv Yv)).2
def ET:Zj:=[Ze,Ze,Ze,Ze,Ze,Zb,Zb,Zb,Ze,Zb,Zb,Ze,Ze,Ze,Zb]
theorem II{g i j k l m n o p q a c d e f:D4}(h:Aa w b [g,i,j,k,l,m,n,o,p,q,a,c,d,e,f]):(w.cell? (Zd b 0)=some g/\w.frozen? ⟨b,0,none⟩=false)/\(w.cell? (Zd b 1)=some i/\w.frozen? ⟨b,1,none⟩=false)/\(w.cell? (Zd b 2)=some j/\w.frozen? ⟨b,2,none⟩=false)/\(w.cell? (Zd b 3)=some k/\w.frozen? ⟨b,3,none⟩=false)/\(w.cell? (Zd b 4)=some l/\w.frozen? ⟨b,4,none⟩=false)/\(w.cell? (Zd b 5)=some m/\w.frozen? ⟨b,5,none⟩=false)/\(w.cell? (Zd b 6)=some n/\w.frozen? ⟨b,6,none⟩=false)/\(w.cell? (Zd b 7)=some o/\w.frozen? ⟨b,7,none⟩=false)/\(w.cell? (Zd b 8)=some p/\w.frozen? ⟨b,8,none⟩=false)/\(w.cell? (Zd b 9)=some q/\w.frozen? ⟨b,9,none⟩=false)/\(w.cell? (Zd b 10)=some a/\w.frozen? ⟨b,10,none⟩=false)/\(w.cell? (Zd b 11)=some c/\w.frozen? ⟨b,11,none⟩=false)/\(w.cell? (Zd b 12)=some d/\w.frozen? ⟨b,12,none⟩=false)/\(w.cell? (Zd b 13)=some e/\w.frozen? ⟨b,13,none⟩=false)/\(w.cell? (Zd b 14)=some f/\w.frozen? ⟨b,14,none⟩=false):=
 ⟨h 0 _ rfl,h 1 _ rfl,h 2 _ rfl,h 3 _ rfl,h 4 _ rfl,h 5 _ rfl,h 6 _ rfl,h 7 _ rfl,h 8 _ rfl,h 9 _ rfl,h 10 _ rfl,h 11 _ rfl,h 12 _ rfl,h 13 _ rfl,h 14 _ rfl⟩
theorem JZ(w:Zh)(R:Nat)(f g h i j k l m n o a b c d e:D4):Tn [R] w (((((((((((((((w.setCell (Zd R 0) f).setCell (Zd R 1) g).setCell (Zd R 2) h).setCell (Zd R 3) i).setCell (Zd R 4) j).setCell (Zd R 5) k).setCell (Zd R 6) l).setCell (Zd R 7) m).setCell (Zd R 8) n).setCell (Zd R 9) o).setCell (Zd R 10) a).setCell (Zd R 11) b).setCell (Zd R 12) c).setCell (Zd R 13) d).setCell (Zd R 14) e):=
 (((((((((((((((AP w R 0 f).ah (AP _ R 1 g)).ah (AP _ R 2 h)).ah (AP _ R 3 i)).ah (AP _ R 4 j)).ah (AP _ R 5 k)).ah (AP _ R 6 l)).ah (AP _ R 7 m)).ah (AP _ R 8 n)).ah (AP _ R 9 o)).ah (AP _ R 10 a)).ah (AP _ R 11 b)).ah (AP _ R 12 c)).ah (AP _ R 13 d)).ah (AP _ R 14 e))
def fresh(ms rs:Zl):Zl:=rs.filter (fun r=> !(ms.any (fun x=>decide (x=r))))
def Aat(ks:List Kd)(s:Zi)(qs ms qs' ms':Zl):Prop:=
 ((¬Am ks s\/s∈ms)/\qs'=qs/\ms'=ms)\/∃k∈ks,k.sum=s/\s∉ms/\ms'=ms++[s]/\qs'=qs++fresh (ms++[s]) k.B
theorem SW{ms a:Zl}{k:Nat}{x:Zi}(c:a[k]?=some x):(x∈ms->fresh ms (a.take (k+1))=fresh ms (a.take k))/\(x∉ms->fresh ms (a.take (k+1))=fresh ms (a.take k)++[x]):=by
 obtain⟨h,rfl⟩:=Zw c;unfold fresh;rw[Zu h,filter_append];refine⟨λb=> ?_,λb=> ?_⟩
 .have:(ms.any (λx=>decide (x=a[k])))=true:=D2 b
  simp[this]
 .have:(ms.any (λx=>decide (x=a[k])))=false:=by simp;exact λx c e=>b (e▸c)
  simp[this]
def SY(ks:List Kd)(at_:Int)(u:Kd):Prop:=u∈ks/\u.born<at_/\∀y∈ks,y.born<at_->y.born<=u.born
structure UR where
 ks:List Kd
 M:Int
 U:Int
 V:Int
 ro:Int
 H:Zl
 ms:Zl
 ds:Zl
inductive UTo (ks:List Kd) (ps:List Pd) (ls:List Ld) (births ph top at_ ro:Int) (qs ms:Zl):UR->Prop
 |begin (h:ph=0):UTo ks ps ls births ph top at_ ro qs ms ⟨ks,1,births,births+1,ro,DQ ps ls,ms,[]⟩
 |mark (h:ph≠0) (s:Zi) (q0 qs' ms':Zl) (hq:qs=s::q0) (hm:Aat ks s q0 ms qs' ms'):UTo ks ps ls births ph top at_ ro qs ms ⟨ks,ph,top,at_,ro,qs',ms',[]⟩
 |rest (h:ph≠0) (hq:qs=[]) (hn:∀y∈ks,¬y.born<at_):UTo ks ps ls births ph top at_ ro qs ms ⟨ks,0,0,0,ro+1,[],[],[]⟩
 |ag (h:ph≠0) (hq:qs=[]) (u:Kd) (hu:SY ks at_ u) (hk:u.sum∈ms\/GM ps ls ks u.sum):UTo ks ps ls births ph top at_ ro qs ms ⟨ks,2,top,u.born,ro,[],ms,[]⟩
 |drop (h:ph≠0) (hq:qs=[]) (u:Kd) (hu:SY ks at_ u) (hm:u.sum∉ms) (hk:¬GM ps ls ks u.sum):UTo ks ps ls births ph top at_ ro qs ms ⟨CJ ks u.sum,2,top,u.born,ro,[],ms,[u.sum]⟩
structure UOk (wd births:Int) (ks:List Kd) (ps:List Pd) (ls:List Ld) (ph ro:Int) (qs ms:Zl):Prop where
 ok:Ev wd ks
 born:∀k∈ks,1<=k.born
 B:∀k∈ks,k.B.length<=30/\∀r∈k.B,(r.size:Int)=wd
 pl:ps.length<=100
 ll:ls.length<=200
 gx:∀p∈ps,(p.sum.size:Int)=wd
 ig:∀l∈ls,(l.sum.size:Int)=wd
 b0:0<=births
 b1:births<=1000000000
 kh:ph=0\/ph=1\/ph=2
 r0:0<=ro
 r1:ro<=1000000000
 kg:∀x∈qs,(x.size:Int)=wd
 jm:∀x∈ms,(x.size:Int)=wd
 ql:qs.length<=1048576
 ml:ms.length<=1048576
theorem UTo.sub{a g c k:Int}{b:Dj}{i:Dy}{e:Dv}{j:Zl}{r:UR}(h:UTo b i e a g d c k j f r):r.ks.Sublist b:=by
 cases h with
 |begin h=>exact List.Sublist.refl _
 |mark h s q0 q1 m1 hq hm=>exact List.Sublist.refl _
 |rest h hq hn=>exact List.Sublist.refl _
 |ag h hq u hu hk=>exact List.Sublist.refl _
 |drop h hq u hu hm hk=>exact filter_sublist
def Dq(ks:List Kd)(at_:Int)(r:Int):Prop:=
 (r= -1/\∀y∈ks,¬y.born<at_)\/∃(i:Nat) (k:Kd),r=i/\ks[i]?=some k/\k.born<at_/\∀y∈ks,y.born<at_->y.born<=k.born
theorem Dq.snoc{e:Dj}{r:Int}(h:Dq e d r):(¬x.born<d->Dq (e++[x]) d r)/\(x.born<d->r= -1->Dq (e++[x]) d e.length)/\(∀(i:Nat) (k:Kd),x.born<d->r=i->e[i]?=some k->(k.born<x.born->Dq (e++[x]) d e.length)/\(¬k.born<x.born->Dq (e++[x]) d r)):=by
 refine⟨λg=> ?_,λg a=> ?_,λi k g a n=>⟨λa=> ?_,λa=> ?_⟩⟩
 .rcases h with⟨f,c⟩|⟨i,k,f,c,m,l⟩
  .refine .inl ⟨f,λy a=> ?_⟩;rcases A7.1 a with a|a
   .exact c y a
   .simp at a;rw[a];exact g
  .refine .inr ⟨i,k,f,?_,m,λy a b=> ?_⟩
   .rw[getElem?_append_left (Zw c).1];exact c
   .rcases A7.1 a with a|a
    .exact l y a b
    .simp at a;rw[a]at b;exact absurd b g
 .rcases h with⟨_,c⟩|⟨i,k,f,_⟩
  .refine .inr ⟨e.length,x,rfl,Yu,g,λy a b=> ?_⟩;rcases A7.1 a with a|a
   .exact absurd b (c y a)
   .simp at a;rw[a];omega
  .omega
 .rcases h with⟨f,_⟩|⟨j,o,f,c,m,l⟩
  .omega
  .obtain rfl:i=j:=Yv
   rw[n]at c;cases c;refine .inr ⟨e.length,x,rfl,Yu,g,λy a b=> ?_⟩;rcases A7.1 a with a|a
   .have:=l y a b;omega
   .simp at a;rw[a];omega
 .rcases h with⟨f,_⟩|⟨j,o,f,c,m,l⟩
  .omega
  .obtain rfl:i=j:=Yv
   rw[n]at c;cases c;refine .inr ⟨i,k,f,?_,m,λy a b=> ?_⟩
   .rw[getElem?_append_left (Zw n).1];exact n
   .rcases A7.1 a with a|a
    .exact l y a b
    .simp at a;rw[a];omega
theorem SZ(G t g d j:Int)(a:Zk)(D:Nat)(P L:D4)(c:Dj)(w:Zh)(f:AW w w.1.size a c)(hl:c.length<=1000):
 D8 160 #[.agg #[Zg G,Zg t,Zg g,Zg d,C3 a c.length D,P,L],Zg j] w λe l=>∃r:Int,e=C5 (Zg r)/\Dq c j r/\Zz w l:=by
 have Q:=Yw f;have n:=Aw.new w G t g d (C1 a c D) P L 27;have B:Below w.1.size w (w.alloc (.cells #[Zg G,Zg t,Zg g,Zg d,C1 a c D,P,L] 27)):=Zy;have⟨W,l⟩:=D6 w #[Zg G,Zg t,Zg g,Zg d,C1 a c D,P,L] 27;rw[<-l]at n B;have o:=Yw l;have U:=Yw n;have zA:w.1.size<W.1.size:=n.2.2.2.2.2.2.2;clear f l n;go_enter func160,ntmps160
 go_upto_region 1 with fail;rw[<-o.o];clear o;go_wp2
 go_loopw [5,6] (λv i wr=>∃(k:Nat) (r:Int),k<=c.length/\i=Zg k/\v=Zg r/\Hid (Dq (c.take k) j r/\Zz W wr)) (λ_ i _=>c.length -(intOf i).toNat)
 case atStart=>exact⟨0, -1,Az _,rfl,rfl,.inl ⟨rfl,(λy o=>by simp at o)⟩,Ad⟩
 case round=>
  obtain⟨k,r,hk,rfl,rfl,u⟩:=hrel;have f:=u.2;have s:=f.size;have H:Below w.1.size w wr:=B.ah (f.aj B.size);have⟨_,_,_,_,A,_,_,_⟩:=Aw.A U f;by_cases hlt:k<c.length
  .obtain⟨b,v,e,hb,l⟩:=(AW.A Q H).at hlt;subst e;have T:Hid (c[k]?=some c[k]):=Zv hlt;obtain⟨_,z,_⟩:=l k _ T;have I:b<wr.1.size:=Yv
   have J:(c.take k).length=k:=by rw[Ct];omega
   have C:Hid (c.take (k+1)=c.take k++[c[k]]):=Zu hlt;have F:=Ao.cell A (show w.1.size<wr.1.size by omega);have E:=Ao.cell z I;have q:=Ao.ne wr;have N:=Yw l;have HN:=Yw (Dq.snoc (x:=c[k]) u.1);clear l;generalize c[k]=x at *
   by_cases n:x.born<j
   .have V:decide (x.born<j)=true:=D2 n
    by_cases hr:r<0
    .have X:decide (r<0)=true:=D2 hr
     have S:r= -1:=by
      rcases u.1 with⟨h,_⟩|⟨i,_,h,_⟩
      .exact h
      .omega
     have l:=HN.2.1 n S;rw[J]at l;have p:Hid (Dq (c.take k++[x]) j (k:Int)):=l;clear l;clear HN;go_wp2;refine Ax Yr Yr ?_
     repeat (go_big_quiet_step (fail))
     refine wpQuiet_nil ?_;intro m;clear F E q z A;go_wp2;exact⟨⟨k+1,k,Yv,Yn,rfl,⟨by rw[C.o];exact p.o,f.ah (m.h.aj s)⟩⟩,Ys⟩
    .have X:decide (r<0)=false:=D2 hr
     obtain⟨i,y,rfl,o,_⟩:∃(i:Nat) (y:Kd),r=i/\(c.take k)[i]?=some y/\True:=by
      rcases u.1 with⟨h,_⟩|⟨i,y,Y,Z,_⟩
      .omega
      .exact⟨i,y,Y,Z,trivial⟩
     have R:i<k:=Dz (Zw o).1
     have K:c[i]?=some y:=by rw[getElem?_take_of_lt R]at o;exact o
     have⟨_,M,_⟩:=N i y K;have O:=Ao.cell M I;have l:=HN.2.2 i y n rfl o;rw[J]at l;have p:=Yw l;clear l;clear HN o K N;by_cases hg:y.born<x.born
     .have K:decide (y.born<x.born)=true:=D2 hg
      go_wp2;refine Ax Yr Yr ?_
      repeat (go_big_quiet_step (fail))
      refine wpQuiet_nil ?_;intro m;clear F E O q z A M;go_wp2;exact⟨⟨k+1,k,Yv,Yn,rfl,⟨by rw[C.o];exact p.1 hg,f.ah (m.h.aj s)⟩⟩,Ys⟩
     .have K:decide (y.born<x.born)=false:=D2 hg
      go_wp2;refine Ax Yr Yr ?_
      repeat (go_big_quiet_step (fail))
      refine wpQuiet_nil ?_;intro m;clear F E O q z A M;go_wp2;exact⟨⟨k+1,i,Yv,Yn,rfl,⟨by rw[C.o];exact p.2 hg,f.ah (m.h.aj s)⟩⟩,Ys⟩
   .have V:decide (x.born<j)=false:=D2 n
    have p:Hid (Dq (c.take k++[x]) j r):=HN.1 n;clear HN;go_wp2;refine Ax Yr Yr ?_
    repeat (go_big_quiet_step (fail))
    refine wpQuiet_nil ?_;intro m;clear F E q z A;go_wp2;exact⟨⟨k+1,r,Yv,Yn,rfl,⟨by rw[C.o];exact p.o,f.ah (m.h.aj s)⟩⟩,Ys⟩
  .have l:=u.1;rw[Zt Yv]at l;have o:Hid (Dq c j r):=l;clear l;go_wp2;go_ret;exact⟨r,rfl,o,H⟩
theorem r6{a c d e f g:D4}(h:Aa w b [a,c,d,e,f,g]):(w.cell? (Zd b 0)=some a/\w.frozen? ⟨b,0,none⟩=false)/\(w.cell? (Zd b 1)=some c/\w.frozen? ⟨b,1,none⟩=false)/\(w.cell? (Zd b 2)=some d/\w.frozen? ⟨b,2,none⟩=false)/\(w.cell? (Zd b 3)=some e/\w.frozen? ⟨b,3,none⟩=false)/\(w.cell? (Zd b 4)=some f/\w.frozen? ⟨b,4,none⟩=false)/\(w.cell? (Zd b 5)=some g/\w.frozen? ⟨b,5,none⟩=false):=
 ⟨h 0 _ rfl,h 1 _ rfl,h 2 _ rfl,h 3 _ rfl,h 4 _ rfl,h 5 _ rfl⟩
def FH(a:Zk)(n c:Nat):Prop:=n<=c/\(a=none->n=0/\c=0)
theorem Ar.cap{a:Zk}{ss:Zl}(h:Ar w base (C3 a n c) ss):FH a ss.length c:=by
 rcases h with⟨e,rfl⟩|⟨g,d,b,e,_,_,h,_⟩
 .cases e;exact⟨Zx,λ_=>⟨rfl,rfl⟩⟩
 .cases e;exact⟨h,λe=>by cases e⟩
def Lt(w:Zh)(a:Zk):Prop:=∀p,a=some p->p.block<w.1.size
theorem Lt.mono{b:Zh}{a:Zk}(h:Lt w a)(c:w.1.size<=b.1.size):Lt b a:=λp e=>Zr (h p e) c
abbrev Lt.aj:=@Lt.mono
theorem Lt.no:Lt w none:=λ_ e=>by cases e
theorem Ar.jh{a:Zk}{d:Zl}(h:Ar w b (C3 a n c) d):Lt w a:=λp e=>(h.g (g:=p.block) (by rw[e];rfl)).2
def Ds(b:Nat)(x y:Zk)(n:Nat)(a:Zk):Prop:=∀p,a=some p->p.block=b\/(∃q,x=some q/\p.block=q.block)\/(∃q,y=some q/\p.block=q.block)\/n<=p.block
theorem Ds.no{x:Zk}:Ds b x y n none:=λ_ e=>by cases e
theorem Ds.new{g o:Nat}{x:Zk}(h:n<=g):Ds b x y n (some ⟨g,o,none⟩):=λp e=>by cases e;exact .inr (.inr (.inr h))
theorem Ds.own{d:Nat}{x a:Zk}{i:Zl}(h:Ar w d (C3 a k c) i)(f:n<=d):Ds b x y n a:=by intro p e;subst e;exact .inr (.inr (.inr (Zm f (h.g (g:=p.block) rfl).1)))
structure LU (w w':Zh) (e:Ending) (wd now given births:Int) (P L:Value) (ks:List Kd) (ps:List Pd) (ls:List Ld) (ph top at_ ro:Int) (qs ms:Zl) (b0:Nat) (x0 y0:Zk) (zs0:List (Kd×Value)):Prop where
 o:∃(r:UR) (b c:Nat) (zs:List (Kd×Value)) (qa ma da:Zk) (qc mc dc:Nat),e=.returned (.agg #[Ze,Zg wd,Zg now,Zg given,Zg births,.slice (some ⟨b,0,none⟩) zs.length c,P,L,Zg r.M,.slice qa r.H.length qc,.slice ma r.ms.length mc,Zg r.U,Zg r.V,Zg r.ro,.slice da r.ds.length dc])/\UTo ks ps ls births ph top at_ ro qs ms r/\zs.map (·.1)=r.ks/\Bm w' b 0 zs/\b<w'.1.size/\Af w' w'.1.size qa r.H/\Af w' w'.1.size ma r.ms/\Af w' w'.1.size da r.ds/\(Ds b0 x0 y0 w.1.size (some ⟨b,0,none⟩)/\Ds b0 x0 y0 w.1.size qa/\Ds b0 x0 y0 w.1.size ma/\Ds b0 x0 y0 w.1.size da)/\(∀z∈zs,z∈zs0)/\FH qa r.H.length qc/\FH ma r.ms.length mc/\Lt w' qa/\Lt w' ma
 low:Below w.1.size w w'
theorem LU.from{X c:Zh}{e:Ending}{q f b a:Int}{j:Dj}{n:Dy}{k:Dv}{m g p:Int}{o l:Zl}{r s:Zk}{h:List (Kd×Value)}(V:List Nat)(H:∀c,Tn V X c->LU w c e q f b a P L j n k m g d p o l i r s h)(t:Tn V X c):LU w c e q f b a P L j n k m g d p o l i r s h:=H c t
theorem PY(W:Zh)(a:Zk)(g:Nat)(b:Zl)(h:Af W W.1.size a b)(B:a=none->b.length=0/\g=0)(F:b.length<=100000000)(n:TypeId):
 ∃x i d,(Builtin.append_ #[28,28] n #[Yz W.1.size 0 0,C3 a b.length g]).run prog (W.alloc (.cells #[] 9))=.ok (Yz x b.length i) d/\d.ownsRow W.1.size 9 1 (Yz x b.length i) b.length (b.map string)/\Zz W d:=by
 have⟨p,o,r,t,v⟩:=info_parts CC;have c:(W.alloc (.cells #[] 9)).ownsRow W.1.size 9 1 (Yz W.1.size 0 0) 0 (([]:Zl).map string):=ownsRow_lit (base:=W.1.size) (e:=9) (size:=1) W #[] 0 (Zx) Yo rfl;have l:Below W.1.size W (W.alloc (.cells #[] 9)):=Zy;cases a with
 |none=>obtain⟨y,rfl⟩:=B rfl;have z:=Bl y;subst z;exact⟨_,_,_,run_append_owned_none (P:=prog) (W.alloc (.cells #[] 9)) W.1.size 28 n 9 p 1 underlying28 o _ 0 _ c,c,l⟩
 |some A=>
 obtain⟨G,d,E,m,q,D⟩:=run_append_own (P:=prog) (w:=W.alloc (.cells #[] 9)) W.1.size 28 n 9 p Zc 1 16 underlying28 o r t v rfl Yq _ 0 _ c A b.length g (b.map string) Yu (λj u f=>by
  rw[getElem?_map]at f;cases hs:b[j]? with
  |none=>rw[hs]at f;cases f
  |some s=>
   rw[hs]at f;cases f;exact(h.A l).bk A rfl j s hs) (Aae b) Yo Yv Yu
 simp only[A0,map_nil,nil_append]at m;obtain⟨x,i,rfl⟩:=Vw m (λe=>by have:=D.1 e;cases this.1);have f:(W.alloc (.cells #[] 9)).grownBy d (some W.1.size):=by simpa [ownBlock]using q
 exact⟨x,i,d,E,m,l.grown f Yu (λk C=>by cases C;exact Zx)⟩
theorem UC(W:Zh)(a:Zk)(d:Nat)(b:Zl)(h:Af W W.1.size a b)(k:a=none->b.length=0/\d=0)(l:b.length<=100000000)(f:TypeId):
 ∃x e c,(Builtin.append_ #[28,28] f #[Yz W.1.size 0 0,C3 a b.length d]).run prog (W.alloc (.cells #[] 9))=.ok (Yz x b.length e) c/\Ar c W.1.size (Yz x b.length e) b/\Zz W c:=by
 have⟨x,e,c,g,i,j⟩:=PY W a d b h k l f;exact⟨x,e,c,g,Ar.own i,j⟩
theorem PZ(q i f d:Int)(b r:Nat)(P L:D4)(j:List (Kd×Value))(o:Dy)(n:Dv)(I H:Zk)(R Q:Nat)(hP:P=C3 I o.length R)(hL:L=C3 H n.length Q)(y u s:Int)(B m:Zk)(C t:Nat)(A l:Zl)(w:Zh)(M:Bm w b 0 j)(O:b<w.1.size)(g:AU w w.1.size I o)(a:AS w w.1.size H n)(c:Af w w.1.size m l)(zA:FH m l.length t)(zE:Lt w m)(zC:o.length<=100)(zB:n.length<=200)(zK:0<=d)(zM:d<=1000000000):
 D8 137 #[.agg #[Zg q,Zg i,Zg f,Zg d,Yz b j.length r,P,L],.agg (Ya 0 B A.length C m l.length t y u s)] w λe h=>LU w h e q i f d P L (j.map (·.1)) o n 0 y u s A l b B m j:=by
 have⟨W,h⟩:=Ae (((w.alloc (.cells #[Zg q,Zg i,Zg f,Zg d,C7 b j r,P,L] 27)).alloc (.cells (Ya 0 B A.length C m l.length t y u s) 98)).alloc (.cells Xx 193));have J:Below w.1.size w W:=by rw[h];exact((Zy).alloc Yu _).alloc Yt _
 have k:W.1.size=w.1.size+3:=by rw[h];simp
 have x2:Aa W (w.1.size+2) ET:=by have F:=Aa.new ((w.alloc (.cells #[Zg q,Zg i,Zg f,Zg d,C7 b j r,P,L] 27)).alloc (.cells (Ya 0 B A.length C m l.length t y u s) 98)) ET 193;rw[h];simpa [ET]using F
 have S:Aa W (w.1.size+1) (Xw 0 B A.length C m l.length t y u s):=by have F:=Aa.new (w.alloc (.cells #[Zg q,Zg i,Zg f,Zg d,C7 b j r,P,L] 27)) (Xw 0 B A.length C m l.length t y u s) 98;rw[Al]at F;rw[h];exact Aa.A F (Zy)
 have N:Aa W w.1.size [Zg q,Zg i,Zg f,Zg d,C7 b j r,P,L]:=by have F:=Aa.new w [Zg q,Zg i,Zg f,Zg d,C7 b j r,P,L] 27;rw[h];exact Aa.A (Aa.A F (Zy)) (Zy)
 have T:=Yw h;have zJ:Hid (W.1.size=w.1.size+3):=k;have zI:w.1.size+3<=W.1.size:=Yv
 clear h k;have⟨k,G⟩:=Ae (((W.setCell (Zd (w.1.size+1) 0) (Zg 1)).setCell (Zd (w.1.size+1) 3) (Zg d)).setCell (Zd (w.1.size+1) 4) (Zg (d+1)));have x:Tn [w.1.size+1] W k:=by rw[G];exact((AP _ _ _ _).ah (AP _ _ _ _)).ah (AP _ _ _ _)
 have zN:W.1.size<=k.1.size:=x.size;have h:Below w.1.size w k:=J.ah (x.A J.size Yu);have p:Aa k w.1.size [Zg q,Zg i,Zg f,Zg d,C7 b j r,P,L]:=Aa.same N (x.block _ Yv Yu);have u2:Aa k (w.1.size+2) ET:=Aa.same x2 (x.block _ Yv Yu)
 have z:Aa k (w.1.size+1) (Xw 1 B A.length C m l.length t d (d+1) s):=by rw[G];exact((S.set 0 _).set 3 _).set 4 _
 have K:=Yw G;have E:=Yw (Za p (Za z u2));have D:=Yw (Za M (Za g (Za a c)));have⟨⟨r0,U⟩,⟨r1,V⟩,⟨r2,Y⟩,⟨r3,Z⟩,⟨r4,f4⟩,⟨r5,f5⟩⟩:=r6 S;obtain⟨s3,_⟩:=N 3 _ rfl;subst hP hL;clear G p z u2 M g a c N S x2 x J;go_enter func137,ntmps137;go_upto_region 1 with fail;rw[<-T.o];clear T;go_upto_region 5 with fail;rw[<-K.o];clear K r0 r1 r2 r3 r4 r5 U V Y Z f4 f5 s3;have⟨a,p,z,t3,t4,t5,t6⟩:=FM (Be E.1)
 go_wp2_with fail;refine(So q i f d _ I H R Q o n k (AU.aj (AU.A D.2.1 h) h.size) (AS.aj (AS.A D.2.2.1 h) h.size) zC zB).aj ?_;rintro e J ⟨g,c,rfl,K,x⟩;have k0:=FM (Be (Aa.A E.1 x));have k1:=r6 (Aa.A E.2.1 x);have k2:=II (Aa.A E.2.2 x);obtain⟨i0,i1,i2,i3,i4,i5,i6⟩:=k0;obtain⟨⟨r0,U⟩,⟨r1,V⟩,⟨r2,Y⟩,⟨r3,Z⟩,⟨r4,f4⟩,⟨r5,f5⟩⟩:=k1
 obtain⟨⟨y0,q0⟩,⟨y1,q1⟩,⟨y2,q2⟩,⟨y3,q3⟩,⟨y4,q4⟩,⟨y5,q5⟩,⟨y6,q6⟩,⟨y7,q7⟩,⟨y8,q8⟩,⟨y9,q9⟩,⟨S,zP⟩,⟨T,zR⟩,⟨zF,zS⟩,⟨zG,zT⟩,zH,zU⟩:=k2;have N:Below w.1.size w J:=h.ah (x.aj h.size);have zO:w.1.size+3<=J.1.size:=Dz x.size
 have G:Hid (Ar J (k.1.size+1) (C7 g (DQ o n) c) (DQ o n)):=Ar.own K;clear K a p z t3 t4 t5 t6 x;go_wp2;refine C0 (.agg #[Ze,Zg q,Zg i,Zg f,Zg d,C7 b j r,C1 I o R,C1 H n Q,Zg 1,C7 g (DQ o n) c,C1 m l t,Zg d,Zg (d+1),Zg s,Zb]) (by simp[results,results137,go_sem,y0,y1,y2,y3,y4,y5,y6,y7,y8,y9,S,T,zF,zG,zH]) ?_
 have hT:=(AP J (w.1.size+1) 1 (C7 g (DQ o n) c)).aj (V':=[w.1.size+1,w.1.size+2]) Yu;refine LU.from (X:=J) [w.1.size+1,w.1.size+2] ?_ (hT.ah ((JZ _ (w.1.size+2) _ _ _ _ _ _ _ _ _ _ _ _ _ _ _).aj Yu));intro wf K;have x:=N.ah (K.A N.size Yu);obtain⟨a,cc,e1,hS⟩:=(G.K K (λg p e=>by have:=(G.g p).1;simp at e;omega)).row;cases e1
 exact⟨⟨⟨j.map (·.1),1,d,d+1,s,DQ o n,l,[]⟩,b,r,j,_,_,none,_,_,0,rfl,.begin rfl,rfl,D.1.A x O,Zr O x.size,hS,D.2.2.2.T x,.inl rfl,⟨(λp e=>by cases e;exact .inl rfl),Ds.own G Yv,(λp e=> .inr (.inr (.inl ⟨p,e,rfl⟩))),Ds.no⟩,λz M=>M,G.cap,zA,G.jh.aj K.size,zE.aj x.size⟩,x⟩
theorem KS(l f d m:Int)(j h:Zk)(k i:Nat)(a c:Zl)(w:Zh)(L:Af w w.1.size j a)(K:Af w w.1.size h c)(R:j=none->a.length=0/\k=0)(Q:h=none->c.length=0/\i=0)(T:a.length<=100000000)(S:c.length<=100000000):
 D8 158 #[.agg (Ya l j a.length k h c.length i f d m)] w λe n=>∃x p y r,e=C5 (.agg (Ya l (some ⟨x,0,none⟩) a.length p (some ⟨y,0,none⟩) c.length r f d m))/\
  n.ownsRow w.1.size 9 1 (Yz x a.length p) a.length (a.map string)/\n.ownsRow w.1.size 9 1 (Yz y c.length r) c.length (c.map string)/\x≠y/\Zz w n:=by
 have⟨W,q⟩:=Ae (((w.alloc (.cells (Ya l j a.length k h c.length i f d m) 98)).alloc (.cells Xv 98)).alloc (.cells (Ya l j a.length k h c.length i f d m) 98));have z:Below w.1.size w W:=by rw[q];exact((Zy).alloc Yu _).alloc Yt _
 have Y:w.1.size+3<=W.1.size:=by rw[q];simp
 have I:Aa W (w.1.size+1+1) (Xw l j a.length k h c.length i f d m):=by rw[q];simpa using Aa.new ((w.alloc (.cells (Ya l j a.length k h c.length i f d m) 98)).alloc (.cells Xv 98)) (Xw l j a.length k h c.length i f d m) 98
 have M:Aa W (w.1.size+1) Xu:=by have J:=Aa.new (w.alloc (.cells (Ya l j a.length k h c.length i f d m) 98)) Xu 98;rw[Al]at J;rw[q];exact Aa.A J (Zy)
 have H:Aa W w.1.size (Xw l j a.length k h c.length i f d m):=by rw[q];exact Aa.A (Aa.A (Aa.new w _ _) (Zy)) (Zy)
 have⟨x,p,F,U,A,n⟩:=PY W j k a (L.T z) R T 28;have rA:(W.alloc (.cells #[] 9)).cell? (Zd (w.1.size) 1)=some (C1 j a k):=((Aa.A H (Zy)) 1 _ rfl).1;have⟨V,D⟩:=D7 F (w.1.size+1+1) 1 (C7 x a p);have zA:=n.size;have t:Tn [w.1.size+1+1] F V:=by rw[D];exact AP _ _ _ _
 have zC:=t.size;have u:Below w.1.size w F:=z.ah (n.aj z.size);have s:Below w.1.size w V:=u.ah (t.A u.size Yt);have N:Aa V w.1.size (Xw l j a.length k h c.length i f d m):=Aa.same (Aa.A H n) (t.block _ Yv Yt);have O:Aa V (w.1.size+1) Xu:=Aa.same (Aa.A M n) (t.block _ Yv Yu)
 have P:Aa V (w.1.size+1+1) (Xw l (some ⟨x,0,none⟩) a.length p h c.length i f d m):=by rw[D];exact(Aa.A I n).set 1 _
 have lx:=Ac A (g:=x) rfl;have E:=Gr A t (λb o=>by simp at o;omega);have⟨y,r,G,X,B,o⟩:=PY V h i c (K.T s) Q S 28;have rB:(V.alloc (.cells #[] 9)).cell? (Zd (w.1.size) 2)=some (C1 h c i):=((Aa.A N (Zy)) 2 _ rfl).1;have ly:=Ac B (g:=y) rfl;have⟨⟨e,g0⟩,⟨k1,g1⟩,⟨k2,g2⟩,⟨k3,g3⟩,⟨k4,g4⟩,⟨k5,g5⟩⟩:=r6 (Aa.A O o);have⟨⟨n0,m0⟩,⟨n1,m1⟩,⟨n2,m2⟩,⟨n3,m3⟩,⟨n4,m4⟩,⟨n5,m5⟩⟩:=r6 (Aa.A P o)
 have⟨_,⟨p1,q1⟩,_⟩:=r6 (Aa.A I n);have zB:=o.size;have C:Hid (G.ownsRow (w.1.size+3) 9 1 (C7 x a p) a.length (a.map string)/\G.ownsRow (w.1.size+3) 9 1 (C7 y c r) c.length (c.map string)/\x≠y/\Zz w G):=⟨(Ah E o).aj Y,B.aj Yv,Yv,s.ah (o.aj s.size)⟩;have b:=Yw q;have Z:=Yw D;clear q D H M I N O P E A B n o t s u L K;go_enter func158,ntmps158
 go_upto_region 2 with fail;rw[<-b.o];go_upto_region 3 with(at_builtin;refine wpList_append_run rfl _ _ 28 28 rfl rfl rfl U ?_);rw[<-Z.o];go_wp2_with (first
  |(at_builtin;refine wpList_append_run rfl _ _ 28 28 rfl rfl rfl X ?_)
  |go_in)
 refine C0 (.agg (Ya l (some ⟨x,0,none⟩) a.length p (some ⟨y,0,none⟩) c.length r f d m)) (by simp[results,results158,go_sem,e,k1,k2,k3,k4,k5]) ⟨x,p,y,r,rfl,?_,?_,C.2.2.1,?_⟩
 .refine ownsRow.aj ?_ (show w.1.size<=w.1.size+3 by omega)
  iterate 7 (refine ownsRow_setCell_below ?_ Yu _)
  exact C.1
 .refine ownsRow.aj ?_ (show w.1.size<=w.1.size+3 by omega)
  iterate 7 (refine ownsRow_setCell_below ?_ Yu _)
  exact C.2.1
 .iterate 7 (refine Below.setCell ?_ Ym _)
  exact C.2.2.2
theorem CH.grown{g:Zh}{q:Nat}{e c f:Int}{Q M:D4}(h:CH w b e Q M d c f)(a:w.grownBy g (some q))(o:b≠q):CH g b e Q M d c f:=by obtain⟨i,j,k,l,m,n,r⟩:=h;have p:=a.size;exact⟨a.cell i Yt,a.cell j Yt,a.cell k Yt,a.cell l Yt,a.cell m Yt,a.cell n Yt,Yv⟩
theorem KT(f d c i:Int)(g h k l:Nat)(b a:Zl)(w:Zh)(q:Af w w.1.size (some ⟨g,0,none⟩) b)(p:Af w w.1.size (some ⟨h,0,none⟩) a)(o:Ss b a):
 D8 158 #[.agg (Ya f (some ⟨g,0,none⟩) b.length k (some ⟨h,0,none⟩) a.length l d c i)] w λe j=>∃x m y n,e=C5 (.agg (Ya f (some ⟨x,0,none⟩) b.length m (some ⟨y,0,none⟩) a.length n d c i))/\
  j.ownsRow w.1.size 9 1 (Yz x b.length m) b.length (b.map string)/\j.ownsRow w.1.size 9 1 (Yz y a.length n) a.length (a.map string)/\x≠y/\Zz w j:=
 KS f d c i (some ⟨g,0,none⟩) (some ⟨h,0,none⟩) k l b a w q p (λe=>by cases e) (λe=>by cases e) (Dz o.q) (Dz o.m)
open Classical in
def GA(w:Zh)(base:Nat)(a:Zk)(ss:Zl):Prop:=
 ss=[]\/∃b off,a=some ⟨b,off,none⟩/\base<=b/\b<w.1.size/\∀i s,ss[i]?=some s->w.cell? (Zd b (off+i))=some (.string s)/\w.frozen? ⟨b,off+i,none⟩=false
def Acr(a:Zk):Option Nat:=a.map (·.block)
theorem GA.stays{g:Zh}{a:Zk}{l:Zl}(h:GA w c a l)(n:w.1.size<=g.1.size)(f:∀b,Acr a=some b->c<=b->b<w.1.size->g.1[b]?=w.1[b]?):GA g c a l:=by
 rcases h with h|⟨b,d,rfl,j,m,k⟩
 .exact .inl h
 .have e:=f b rfl j m;exact .inr ⟨b,d,rfl,j,Yv,λi s f=>⟨(cell?_of_block (a:=⟨b,d+i,none⟩) e).ah (k i s f).1,(frozen?_of_block (a:=⟨b,d+i,none⟩) e).ah (k i s f).2⟩⟩
theorem GA.A{a:Zk}{d:Zl}(h:GA w base a d)(c:Zz w e):GA e base a d:=
 h.stays c.size (λb _ _ f=>c.block b f)
theorem GA.mono{a:Zk}{c:Zl}(h:GA w base a c)(i:base'<=base):GA w base' a c:=by
 rcases h with h|⟨b,d,rfl,g,e,f⟩
 .exact .inl h
 .exact .inr ⟨b,d,rfl,Yv,e,f⟩
abbrev GA.aj:=@GA.mono
theorem GA.set{g:Nat}{d:Zl}(h:GA w base (some ⟨g,a,none⟩) d)(f:j<d.length)(t:Zi):GA (w.setCell (Zd g (a+j)) (C4 t)) base (some ⟨g,a,none⟩) (d.set j t):=by
 rcases h with h|⟨b,m,e,n,o,k⟩
 .rw[h]at f;simp at f
 .cases e;refine .inr ⟨g,a,rfl,n,D2 o,λi s c=> ?_⟩;have p:i<d.length:=by have:=(Zw c).1;rw[length_set]at this;exact this
  have l:=k i _ (Zv p);refine⟨?_,D2 l.2⟩;by_cases hij:i=j
  .subst hij;rw[getElem?_set_self f]at c;cases c;exact cell?_setCell_same' _ _ _ (by rw[l.1];rfl)
  .rw[getElem?_set_ne (λe=>hij e.symm)]at c;exact(cell?_setCell_other w _ _ _ Ym).ah (k i s c).1
