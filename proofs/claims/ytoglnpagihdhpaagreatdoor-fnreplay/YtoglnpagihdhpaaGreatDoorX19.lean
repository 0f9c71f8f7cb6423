import Derived.Test.YtoglnpagihdhpaaGreatDoorX13
import Derived.Test.YtoglnpagihdhpaaGreatDoorX12
import Derived.Test.YtoglnpagihdhpaaGreatDoorX07
import Derived.Test.YtoglnpagihdhpaaGreatDoorX02
import Derived.Test.YtoglnpagihdhpaaGreatDoorX10
set_option maxRecDepth 100000
set_option maxHeartbeats 16000000
namespace Go.Proofs.YtoglnpagihdhpaaGreatDoor
open ChangeShapes WideShapes ChangeAt RowKit _root_.Go.Proofs.Tryz
variable{w e:Zh}{b c g k B n base base' j:Nat}{a x y:Zk}{d i f:Zl}{now o:Int}{T P L v:Value}{V:List Nat}{l rs:Zj}{s:Zi}
def Bi(w:Zh)(b off:Nat)(zs:List (Kd×Value)):Prop:=
 ∀i z,zs[i]?=some z->(w.cell? (Zd b (off+i *4))=some (.string z.1.sum)/\w.cell? (Zd b (off+i *4+1))=some (Zg z.1.born)/\w.cell? (Zd b (off+i *4+2))=some (.string z.1.J)/\w.cell? (Zd b (off+i *4+3))=some z.2)/\∃ad rc,z.2=.slice (some ad) z.1.B.length rc/\Ad w w.heap.size (some ad) z.1.B
theorem Bi.below{a:Nat}{f:List (Kd×Value)}(h:Bi w b a f)(c:Zz w e)(d:b<w.heap.size):Bi e b a f:=by intro i z q;obtain⟨⟨j,k,l,m⟩,g,r,n,o⟩:=h i z q;exact⟨⟨(c.cell (p:=⟨b,a+i *4,none⟩) d).trans j,(c.cell (p:=⟨b,a+i *4+1,none⟩) d).trans k,(c.cell (p:=⟨b,a+i *4+2,none⟩) d).trans l,(c.cell (p:=⟨b,a+i *4+3,none⟩) d).trans m⟩,g,r,n,Ad.mono (Ad.below o c) c.size⟩
theorem Bi.dq{d:List (Kd×Value)}(h:Bi w b c d)(o:b<w.heap.size):Bu w w.heap.size (some ⟨b,c,none⟩) (d.map (·.1)):=by
 refine .inr ⟨b,c,rfl,o,fun i k a=> ?_⟩;rw[List.getElem?_map]at a;cases hz:d[i]? with
 |none=>rw[hz]at a;cases a
 |some z=>rw[hz]at a;cases a;obtain⟨⟨f,g,j,l⟩,e,q,m,n⟩:=h i z hz;exact⟨f,g,j,some e,q,by rw[l,m],n⟩
theorem Bi.own{cap:Nat}{a:List (Kd×Value)}(h:w.ownsRow c 66 4 (Yz g a.length cap) a.length (Ab kC a))(k:∀z∈a,∃e l,z.2=.slice (some e) z.1.B.length l/\Ad w w.heap.size (some e) z.1.B):Bi w g 0 a:=by
 intro i z d;have m:=(Zw d).1;have b:∀j,j<4->w.cell? (Zd g (i *4+j))=(kC z)[j]?:=fun j f=>(h.cellAt (i *4+j) Yv).trans (Cz Ko d f);refine⟨⟨?_,?_,?_,?_⟩,k z (Zs d)⟩
 .rw[Nat.zero_add];simpa [kC]using b 0 Yq
 .rw[Nat.zero_add];simpa [kC]using b 1 Yq
 .rw[Nat.zero_add];simpa [kC]using b 2 Yq
 .rw[Nat.zero_add];simpa [kC]using b 3 Yq
def BD(zs:List (Kd×Value))(s:Zi):List (Kd×Value):=zs.filter (fun z=> !decide (z.1.sum=s))
theorem JX(a:List (Kd×Value))(s:Zi):(BD a s).map (·.1)=CK (a.map (·.1)) s:=by unfold BD CK;rw[List.filter_map];rfl
theorem Sk{a:List (Kd×Value)}{z:Kd×Value}(s:Zi)(c:a[k]?=some z):BD (a.take (k+1)) s=BD (a.take k) s++(if z.1.sum=s then []else [z]):=by obtain⟨b,rfl⟩:=Zw c;unfold BD;rw[Zu b,List.filter_append];by_cases h:a[k].1.sum=s<;>simp[h]
theorem AQ{d c a:Int}(h:Aa w b [Zg d,Zg now,Zg c,Zg a,T,P,L]):AN w b d now c a T P L:=
 ⟨(h 0 _ rfl).1,(h 1 _ rfl).1,(h 2 _ rfl).1,(h 3 _ rfl).1,(h 4 _ rfl).1,(h 5 _ rfl).1,(h 6 _ rfl).1,h.lt⟩
def GN(ps:List Pd)(ls:List Ld)(ks:List Kd)(s:Zi):Prop:=((∃p∈ps,p.sum=s)\/∃l∈ls,l.sum=s)\/∃k∈ks,s∈k.B
def QW(w w':Zh)(e:Ending)(wd now given births:Int)(P L:Value)(zs:List (Kd×Value))(ps:List Pd)(ls:List Ld)(s:Zi):Prop:=
 Below w.heap.size w w'/\((GN ps ls (zs.map (·.1)) s/\e=.returned (.agg #[Zg 6,Ze,Ze,Ze,Ze,Zb,Zb,Zb,Zc,Ze,Zc,Zc]))\/
  (¬GN ps ls (zs.map (·.1)) s/\∃g c,e=.returned (.agg #[Ze,Zg wd,Zg now,Zg given,Zg births,.slice (some ⟨g,0,none⟩) (BD zs s).length c,P,L,Zc,Ze,Zc,Zc])/\Bi w' g 0 (BD zs s)/\w.heap.size<=g/\g<w'.heap.size))
theorem Mg(t now f a:Int)(b r I D C:Nat)(p l:Zk)(d:List (Kd×Value))(n:List Pd)(m:List Ld)(s:Zi)(w:Zh)(F:Bi w b r d)(zW:b<w.heap.size)(hp:AO w w.heap.size p n)(hl:AM w w.heap.size l m)(xA:d.length<=600)(yX:n.length<=100)(yW:m.length<=200)(hr:∀z∈d,z.1.B.length<=1000)(yB:Au (d.map (·.1)) s):
 Calls prog 53 #[.agg (Yg t now f a (some ⟨b,r,none⟩) d.length I p n.length D l m.length C),.string s] w fun e w'=>QW w w' e t now f a (.slice p n.length D) (.slice l m.length C) d n m s:=by
 obtain⟨W,Q⟩:=Af ((w.alloc (.cells (Yg t now f a (some ⟨b,r,none⟩) d.length I p n.length D l m.length C) 30)).alloc (.cells Xy 32));have hB:=(Bb Q).1;have yZ:=(Bb Q).2.1;have xW:AN W w.heap.size t now f a (.slice (some ⟨b,r,none⟩) d.length I) (.slice p n.length D) (.slice l m.length C):=by rw[Q];exact AN.ag (AN.new w t now f a _ _ _ 30) (Zy) Yu
 have zR:Aa W (w.heap.size+1) z12:=by have h1:=Aa.new (w.alloc (.cells (Yg t now f a (some ⟨b,r,none⟩) d.length I p n.length D l m.length C) 30)) z12 32;rw[World.size_alloc]at h1;rw[Q];exact h1
 have HF:=Ey t now f a (some ⟨b,r,none⟩) I (.slice p n.length D) (.slice l m.length C) (d.map (·.1)) s W w.heap.size (Bu.below (F.dq zW) hB) hB.size (by rw[List.length_map];omega);rw[List.length_map]at HF;have yV:0<=CJ (d.map (·.1)) s:=by
  rcases Eg (d.map (·.1)) s with⟨_,hn⟩|⟨i,k,e,_⟩
  .exact absurd yB hn
  .omega
 have zI:=Yw HF;have yJ:=Yw zR;have yF:Hid (Aa W _ _):=(Bb Q).2.2.1;have yE:w.heap.size+1<W.heap.size:=Yv
 have HZ:=Yw F;have zM:=Yw (Zn hp hl);have HW:=Yw Q;have zP:=Yw xW;clear Q F hp hl zR HF yB;obtain⟨x0,x1,x2,x3,x4,x5,x6,x7⟩:=xW;go_enter func53,ntmps53;go_upto_region 1 with fail;rw[<-HW.o];clear HW;go_wp2_with fail;refine zI.Ah ?_;rintro e w1 ⟨rfl,M⟩;have yT:¬CJ (d.map (·.1)) s<0:=Yv
 have zE:=Yw (AN.below zP.o M);obtain⟨R,S,U,X,Y,Z,y6,y7⟩:=zE.o;have H:Below w.heap.size w w1:=hB.trans (M.mono hB.size);clear x0 x1 x2 x3 x4 x5 x6 zI;generalize CJ (d.map (·.1)) s=fi at *
 go_wp2_with fail;refine(Se t now f a (.slice (some ⟨b,r,none⟩) d.length I) p l D C n m s w1 (AO.mono (AO.below zM.o.1 H) H.size) (AM.mono (AM.below zM.o.2 H) H.size) Yv Yv).mono ?_;rintro e G ⟨ok,rfl,zZ,N⟩;have zA:Below w.heap.size w G:=H.trans (N.mono H.size);have zO:=Yw (AN.below zE.o N);have z2:Aa G (w.heap.size+1) z12:=Aa.below (v:=Ze) (Aa.below (v:=Ze) yJ.o M) N
 have zF:=Yw z2;have zK:=Yw zZ;clear zZ R S U X Y Z y6 z2;cases ok
 .obtain⟨v0,v1,v2,v3,v4,v5,v6,v7⟩:=zO.o;have yN:w.heap.size+2<=G.heap.size:=by have:=M.size;have:=N.size;omega
  have bA:Below G.heap.size G (G.alloc (.cells #[] 66)):=Zy;go_wp2
  go_loopw [5,6] (fun v i wr=>∃(k g c:Nat),k<=d.length/\i=Zg k/\v=Yz g (BD (d.take k) s).length c/\Hid (wr.ownsRow (w.heap.size+2) 66 4 (Yz g (BD (d.take k) s).length c) (BD (d.take k) s).length (Ab kC (BD (d.take k) s))/\(∀z∈d.take k,¬s∈z.1.B)/\Aa wr w.heap.size (Yh t now f a (some ⟨b,r,none⟩) d.length I p n.length D l m.length C)/\Aa wr (w.heap.size+1) z12/\Zz w wr)) (fun _ i _=>d.length -(intOf i).toNat)
  case atStart=>
   refine⟨0,G.heap.size,0,Nat.zero_le _,rfl,by simp[BD],⟨?_,(fun z F=>by simp at F),Aa.below (Aa.below (Aa.below yF.o M) N) bA,Aa.below (v:=Ze) zF.o bA,zA.trans (bA.mono zA.size)⟩⟩;have:=World.ownsRow_lit (base:=w.heap.size+2) (e:=66) (size:=4) G #[] 0 yN Yo rfl;simpa [BD,Ab]using this
  case round=>
   clear zE zP zF zO v0 v1 v2 v3 v4 v5 v6 v7 bA;obtain⟨k,g,c,hk,rfl,rfl,A⟩:=hrel;obtain⟨v0,v1,v2,v3,v4,v5,v6,v7⟩:=AQ A.o.2.2.1;have o:=A.o.2.2.2.2;have xB:=o.size;by_cases hlt:k<d.length
   .have HG:Hid (d[k]?=some d[k]):=Zv hlt;obtain⟨⟨c0,c1,c2,c3⟩,J,K,h4,h5⟩:=(Bi.below HZ.o o zW) k _ HG.o;have yY:=hr _ (List.getElem_mem hlt);have zN:=Yw (Sk s HG.o);have yS:b<wr.heap.size:=Yv
    have yH:=Yw h5;have yI:Hid (d.take (k+1)=d.take k++[d[k]]):=Zu hlt;rw[h4]at c3;have H4:=Yw h4;clear h5 h4;generalize d[k]=z at *
    have yU:(BD (d.take k) s).length<=600:=by have:=List.length_filter_le (fun z:Kd×Value=> !decide (z.1.sum=s)) (d.take k);unfold BD;rw[List.length_take]at this;omega
    go_wp2_with fail;refine(Fw (some J) K z.1.B s wr wr.heap.size yH.o Yv).mono ?_;rintro e w3 ⟨rfl,rfl⟩;by_cases hin:s∈z.1.B
    .have hd:z.1.B.any (fun x=>decide (x=s))=true:=by simpa using hin
     rw[hd];obtain⟨⟨R,q0⟩,⟨S,q1⟩,⟨U,q2⟩,⟨X,q3⟩,⟨Y,q4⟩,⟨Z,q5⟩,⟨y6,q6⟩,⟨y7,q7⟩,⟨y8,q8⟩,⟨y9,q9⟩,⟨O,yC⟩,P,yD⟩:=AS A.o.2.2.2.1;have yK:=Yw hin;clear hin hd c0 c1 c2 c3 v0 v1 v2 v3 v4 v5 v6;go_wp2
     refine bodyPost_ret (v:=.agg (Xx 6)) (by simp[results,results53,go_sem,R,S,U,X,Y,Z,y6,y7,y8,y9,O,P]) rfl ⟨o.trans (Tn.below (Ba _ (w.heap.size+1) _ _ _ _ _ _ _ _ _ _ _ _) o.size Yu),.inl ⟨.inr ⟨z.1,List.mem_map.2 ⟨z,Zs HG.o,rfl⟩,yK.o⟩,rfl⟩⟩
    .have hd:z.1.B.any (fun x=>decide (x=s))=false:=by rw[List.any_eq_false];intro x hx e;exact hin (of_decide_eq_true e▸hx)
     rw[hd];have zJ:Hid (∀y∈d.take (k+1),¬s∈y.1.B):=by
      rw[yI.o];intro y hy;rcases List.mem_append.1 hy with hy|hy
      .exact A.o.2.1 y hy
      .simp at hy;rw[hy];exact hin
     clear hin hd;by_cases hzs:z.1.sum=s
     .have hq:(z.1.sum.toList !=s.toList)=false:=by rw[hzs];simp
      have yA:(z.1.sum.toList==s.toList)=true:=by rw[hzs];simp
      have E:=zN.o;rw[if_pos hzs,List.append_nil]at E;have L:=Yw E;clear E hzs;go_wp2;exact⟨⟨k+1,g,c,Yv,Yn,by rw[L.o],⟨by rw[L.o];exact A.o.1,zJ.o,A.o.2.2⟩⟩,Ys⟩
     .have yA:(z.1.sum.toList==s.toList)=false:=Bz hzs;have hq:(z.1.sum.toList !=s.toList)=true:=by simp[bne,yA]
      have E:=zN.o;rw[if_neg hzs]at E;have L:=Yw E;clear E hzs;obtain⟨i0,hi,yO,yP,zC⟩:=info_parts IE;have zY:=Ac A.o.1 (g:=g) rfl;go_wp2_with (first
       |(at_builtin;refine wpList_append_own_at _ rfl _ _ 26 rfl (w.heap.size+2) 66 i0 _ 4 64 underlying26 hi yO yP zC rfl Yq _ (BD (d.take k) s).length (Ab kC (BD (d.take k) s)) rfl ?d0 ⟨w3.heap.size,0,none⟩ 1 1 (kC (z.1,.slice (some J) z.1.B.length K)) rfl rfl ?d2 ?d3 ?d4 ?d5 ?d6 ?_)
       |go_in)
      case d0=>exact Ag A.o.1 (Zy)
      case d2=>
       intro j u hu;rw[Go.WideShapes.add_plain,Nat.zero_add];exact((Aa.new w3 (kC (z.1,.slice (some J) z.1.B.length K)) 66) j u hu).1
      case d3=>
       intro u hu;simp[kC]at hu;rcases hu with rfl|rfl|rfl|rfl<;>rfl
      case d4=>unfold maxLen;omega
      case d5=>omega
      case d6=>simp;omega
      intro v4 w4 zB zX yM yL;obtain⟨g4,c4,rfl,yQ,yR⟩:=Co zB (fun e=>by subst e;rcases zB.2 with⟨_,hn⟩|⟨_,_,_,e,_⟩<;>first|omega|cases e);have b4:Below w3.heap.size w3 (w3.alloc (.cells #[.string z.1.sum,Zg z.1.born,.string z.1.J,.slice (some J) z.1.B.length K] 66)):=Zy;have B:w3.grownBy w4 (some g):=Ar (Al _ b4) zX;have zC:z.2=.slice (some J) z.1.B.length K:=H4.o
      have zH:(BD (d.take (k+1)) s).length=(BD (d.take k) s).length+1:=by rw[L.o];simp
      have zU:Ab kC (BD (d.take (k+1)) s)=Ab kC (BD (d.take k) s)++kC (z.1,.slice (some J) z.1.B.length K):=by rw[L.o,Bn,<-zC];simp[Ab]
      have HF:Hid (w4.ownsRow (w.heap.size+2) 66 4 (Yz g4 (BD (d.take (k+1)) s).length c4) (BD (d.take (k+1)) s).length (Ab kC (BD (d.take (k+1)) s))/\(∀y∈d.take (k+1),¬s∈y.1.B)/\Aa w4 w.heap.size (Yh t now f a (some ⟨b,r,none⟩) d.length I p n.length D l m.length C)/\Aa w4 (w.heap.size+1) z12/\Zz w w4):=by
       refine⟨by rw[zH,zU];exact zB,zJ.o,?_,?_,o.grown B Yv (fun q hq=>by cases hq;omega)⟩
       .exact Aa.bu A.o.2.2.1 B Yv
       .exact Aa.bu (v:=Ze) A.o.2.2.2.1 B Yv
      clear zB zX B yM yL b4 zU zC c0 c1 c2 c3 v0 v1 v2 v3 v4 v5 v6;have yG:=Yw zH;clear zH;go_wp2;exact⟨⟨k+1,g4,c4,Yv,Yn,by rw[yG.o],HF⟩,Ys⟩
   .obtain rfl:k=d.length:=Yv
    have zV:=A.o;rw[Zt (Zx)]at zV;obtain⟨h1,h2,h3,h4,h5⟩:=zV;have zY:=Ac h1 (g:=g) rfl;have HE:=Yw (Zn h1 (Zn h2 h5));obtain⟨⟨R,q0⟩,⟨S,q1⟩,⟨U,q2⟩,⟨X,q3⟩,⟨Y,q4⟩,⟨Z,q5⟩,⟨y6,q6⟩,⟨y7,q7⟩,⟨y8,q8⟩,⟨y9,q9⟩,⟨O,yC⟩,P,yD⟩:=AS h4;have f4:=(h3 4 _ rfl).2;have H3:=Yw h3;clear h1 h2 h3 h4 h5;rw[Zt (Zx)];go_wp2
    have T:∀a0 a1 a2 a3 a4 a5 a6 a7 a8 a9 zS zT c4,Tn [w.heap.size,w.heap.size+1] wr _:=fun a0 a1 a2 a3 a4 a5 a6 a7 a8 a9 zS zT c4=>(Tn.set (V:=[w.heap.size,w.heap.size+1]) wr w.heap.size 4 c4 Yu).trans (Tn.mono (Ba (wr.setCell (Zd (w.heap.size) 4) c4) (w.heap.size+1) a0 a1 a2 a3 a4 a5 a6 a7 a8 a9 zS zT) Yu)
    refine bodyPost_ret (v:=.agg #[Ze,Zg t,Zg now,Zg f,Zg a,Yz g (BD d s).length c,.slice p n.length D,.slice l m.length C,Zc,Ze,Zc,Zc]) (by simp[results,results53,go_sem,R,S,U,X,Y,Z,y6,y7,y8,y9,O,P]) rfl ?_;have T':=T Ze (Zg t) (Zg now) (Zg f) (Zg a) (Yz g (BD d s).length c) (.slice p n.length D) (.slice l m.length C) Zc Ze Zc Zc (Yz g (BD d s).length c)
    have zG:=HE.o.2.2.trans (Tn.below T' HE.o.2.2.size Yu);refine⟨zG,.inr ⟨?_,g,c,rfl,Bi.own (Ak HE.o.1 (fun q hq=>T'.block q (Ac HE.o.1 hq).2 (by have:=(Ac HE.o.1 hq).1;simp;omega))) (fun z F=> ?_),Yv,Zr zY.2 T'.size⟩⟩
    .rintro(h|⟨x,hx,hs⟩)
     .have:=zK.o.2 h;simp at this
     .obtain⟨z,F,rfl⟩:=List.mem_map.1 hx;exact HE.o.2.1 z F hs
    .obtain⟨i,hi⟩:=List.getElem?_of_mem (List.mem_filter.1 F).1;obtain⟨_,J,K,e,hs⟩:=HZ.o i z hi;exact⟨J,K,e,Ad.mono (Ad.below hs zG) zG.size⟩
 .obtain⟨⟨R,q0⟩,⟨S,q1⟩,⟨U,q2⟩,⟨X,q3⟩,⟨Y,q4⟩,⟨Z,q5⟩,⟨y6,q6⟩,⟨y7,q7⟩,⟨y8,q8⟩,⟨y9,q9⟩,⟨O,yC⟩,P,yD⟩:=AS zF.o;go_wp2;refine bodyPost_ret (v:=.agg (Xx 6)) (by simp[results,results53,go_sem,R,S,U,X,Y,Z,y6,y7,y8,y9,O,P]) rfl ⟨zA.trans (Tn.below (Ba G (w.heap.size+1) _ _ _ _ _ _ _ _ _ _ _ _) zA.size Yu),.inl ⟨.inl (zK.o.1 trivial),rfl⟩⟩
section
open Go.ChangeShapes Go.WideShapes Go.ChangeAt Go.RowKit Go.Lib
theorem Gc:∃i:TypeInfo,prog.info? 111=some i/\i.zero=some (.agg Cm)/\i.size=8/\i.bytes=8:=by obtain⟨e,d,a,b,c⟩:=info_parts Kl;exact⟨e,d,a,b,c⟩
theorem Ij{x:Zi}(c:w.heap[b]?=some (.cells (Am x).toArray 111 (0,0))):∀j u,(Ab Am [x])[j]?=some u->w.cell? (Zd b j)=some u:=by intro j u a;rw[Ab,List.flatMap_cons,List.flatMap_nil,List.append_nil]at a;simp only[World.cell?,c];rw[<-a];simp
theorem NX(P:Value)(b:Zl)(x:Zi)(t:Nat)(w:Zh)(a:Nat)(o:w.ownsRow a 111 8 P b.length (Ab Am b))(H:b.length<=600)(d:a<=w.heap.size)(r:w.heap[t]?=some (.cells (Am x).toArray 111 (0,0))):
 Calls prog 152 #[P,Zg b.length,Yz t 1 1] w fun e v=>∃m,e=.returned m/\v.ownsRow a 111 8 m (b.length+1) (Ab Am (b++[x]))/\w.grownBy v P.ownBlock/\(m.ownBlock=P.ownBlock\/m.ownBlock=some w.heap.size):=by
 obtain⟨D,c,h,i,k⟩:=Gc;obtain⟨s,v,q,f,n,_,y⟩:=run_append_own_at (P:=prog) w a 105 105 111 D _ 8 8 underlying105 c h i k rfl Yq P b.length (Ab Am b) o ⟨t,0,none⟩ 1 1 (Ab Am [x]) (by rw[By Ex];rfl) (fun j u C=>by rw[Go.WideShapes.add_plain,Nat.zero_add];exact Ij r j u C) (Dt _) Yo Yv d;rw[<-Bn]at f;have l:=Yw (Zn f (Zn n y));clear f n y
 rcases o.2 with⟨e,z⟩|⟨g,cap,E,e,G,B,F,f,n,A⟩
 .subst e;rw[z]at l |-;clear o r c h i k;go_enter func152,ntmps152;go_wp2_with (at_builtin;refine Lib.wpList_append_run _ rfl _ _ _ _ rfl _ _ rfl rfl _ _ q ?_);go_ret;exact⟨s,rfl,l.o⟩
 .subst e;clear o r c h i k B n A;unfold maxLen at f;by_cases hc:cap=b.length
  .subst hc;go_enter func152,ntmps152;go_wp2_with (at_builtin;refine Lib.wpList_append_run _ rfl _ _ _ _ rfl _ _ rfl rfl _ _ q ?_);go_ret;exact⟨s,rfl,l.o⟩
  .go_enter func152,ntmps152;go_wp2_with (at_builtin;refine Lib.wpList_append_run _ rfl _ _ _ _ rfl _ _ rfl rfl _ _ q ?_);go_ret;exact⟨s,rfl,l.o⟩
theorem Mh(g cap i:Nat)(a:Zl)(x:Zi)(r:Nat)(w:Zh)(k:Nat)(y:w.ownsRow k 111 8 (Yz g a.length cap) a.length (Ab Am a))(hl:a.length<=600)(hi:i<a.length)(A:a.length+1<=cap)(G:r≠g)(o:w.heap[r]?=some (.cells (Am x).toArray 111 (0,0))):
 Calls prog 152 #[Yz g a.length cap,Zg i,Yz r 1 1] w fun e M=>e=.returned (Yz g (a.length+1) cap)/\M.ownsRow k 111 8 (Yz g (a.length+1) cap) (a.length+1) (Ab Am (a.take i++[x]++a.drop i))/\w.grownBy M (some g):=by
 obtain⟨L,c,Q,z,R⟩:=Gc;obtain⟨d,B,zE,N,E,O⟩:∃d,w.heap[g]?=some (.cells d 111 (0,0))/\a.length<=cap/\cap<=maxLen/\d.size=cap *8/\d.toList.take (a.length *8)=Ab Am a:=by
  rcases y.2 with⟨e,_⟩|⟨g',S,d,e,hb,B,U,V,W,X⟩
  .cases e
  .cases e;exact⟨d,B,U,V,W,X⟩
 have H:=By Ex a;have C:(Ab Am [x]).length=8:=by rw[By Ex];rfl
 have F:((Ab Am a).drop (i *8)).length=(a.length -i) *8:=by rw[List.length_drop,H];omega
 have b:∀j,j<cap *8->(w.cell? (Zd g j)).isSome=true:=fun j l=>by simp only[World.cell?,B];rw[Array.getElem?_eq_getElem Yv];rfl
 have P:∀J I,(callFunc 166 #[Yz r 1 1,.slice (some ⟨g,(i+1) *8,none⟩) J I]).run prog w=.ok (.value (.bool false)) w:=fun J I=>by
  rw[run_callFunc_extern func166 Yr Yr Yr (e:=Extern.SlicesOverlaps.overlaps #[105,105] #[4]) Yr,
   Lib.run_overlaps_apart w 105 4 111 underlying105 8 (fun w=>by simp[sizeOf,typeInfo,c,z]) ⟨r,0,none⟩ ⟨g,(i+1) *8,none⟩ 1 1 J I G 111 111 ((Am x).toArray:Array Value).size d.size (by simp only[World.shape?,o]) (by simp only[World.shape?,B]) (by rw[E];omega) (by simp only[World.frozen?,o];rfl) (by simp[World.frozen?,o])]
  rfl
 have s:∀q n K,(Builtin.copy_ #[105,105] q #[.slice (some ⟨g,(i+1) *8,none⟩) (a.length+1 -(i+1)) n,.slice (some ⟨g,i *8,none⟩) (a.length+1 -i) K]).run prog w.drew=.ok (goInt (Nat.min (a.length+1 -i) (a.length+1 -(i+1)))) (w.drew.setCells g ((i+1) *8) ((Ab Am a).drop (i *8))):=fun q n K=>
  CA w.drew 105 105 q 111 L 8 g ((i+1) *8) (a.length+1 -(i+1)) n ⟨g,i *8,none⟩ (a.length+1 -i) K ((Ab Am a).drop (i *8)) underlying105 c z (by rw[F];congr 1;show _=min _ _;omega)
   (fun j v l=>by
     rw[Go.WideShapes.add_plain];rw[List.getElem?_drop]at l;have:=(Zw l).1;exact(y.cellAt _ Yv).trans l)
   (fun j l=>b _ Yv) (fun j _=>y.frozenAt _) (fun v o=>Dt _ v (List.mem_of_mem_drop o))
 obtain⟨m,f⟩:=Af (w.drew.setCells g ((i+1) *8) ((Ab Am a).drop (i *8)));have D:∀q n,(Builtin.copy_ #[105,105] q #[.slice (some ⟨g,i *8,none⟩) (a.length+1 -i) n,Yz r 1 1]).run prog m=.ok (goInt (Nat.min 1 (a.length+1 -i))) (m.setCells g (i *8) (Ab Am [x])):=fun q n=>
  CA m 105 105 q 111 L 8 g (i *8) (a.length+1 -i) n ⟨r,0,none⟩ 1 1 (Ab Am [x]) underlying105 c z (by rw[C,show Nat.min 1 (a.length+1 -i)=1 from Nat.min_eq_left Yv,Nat.one_mul])
   (fun j v l=>by
     rw[Go.WideShapes.add_plain,Nat.zero_add,f,World.cell?_setCells_out g _ _ _ _ (fun h _=>absurd h G)];exact Ij o j v l)
   (fun j l=>by rw[f];exact Hm g ((Ab Am a).drop (i *8)) ((i+1) *8) w.drew (fun t ht=>b _ Yv) (i *8+j) (b _ Yv)) (fun j _=>by rw[f,World.frozen?_setCells];exact y.frozenAt _) (Dt _)
 have u:(m.setCells g (i *8) (Ab Am [x])).ownsRow k 111 8 (Yz g (a.length+1) cap) (a.length+1) (Ab Am (a.take i++[x]++a.drop i))/\w.grownBy (m.setCells g (i *8) (Ab Am [x])) (some g):=by
  refine⟨?_,?_⟩
  .rw[Bn,Bn,<-FV Ex a i Yv,<-Fm Ex a i Yv,f];exact Nf (w:=w.drew) (Ag y (Ae.drew)) Yv C A
  .rw[f];exact Ar (Dh (Cd g _ _ _)) (Cd g _ _ _)
 have T:=Yw u;rw[<-f]at s;unfold maxLen at N;have z:¬((i:Int)=(a.length:Int)):=Yv
 have zF:(0:Int)<=(i:Int)+1:=Yv
 have zG:(i:Int)+1<=(a.length:Int)+1:=Yv
 have zH:((i:Int)+1).toNat=i+1:=Yv
 have zI:((a.length:Int)+1).toNat=a.length+1:=Yv
 have zJ:(0:Int)<=(a.length:Int)+1:=Yv
 have zK:(a.length:Int)+1<=(cap:Int):=Yv
 have Y:¬(cap=i+1):=Yv
 have Z:¬(cap=i):=Yv
 have zA:i<=a.length+1:=Yv
 have zB:(i:Int)<=(a.length:Int)+1:=Yv
 have zC:(i:Int)<=(a.length:Int):=Yv
 have mixed:prog.follows .mixedOrders=true:=Yr
 have zM:IntKind.i64.wrap ((i:Int)+1)=(i:Int)+1:=by rw[IntKind.wrap_i64];omega
 have zN:IntKind.i64.wrap ((a.length:Int)+1)=(a.length:Int)+1:=by rw[IntKind.wrap_i64];omega
 clear y b u o B O E c Q R H C F f;go_enter func152,ntmps152;go_wp2_with (simp only[P])
 go_region_law_o (refine Er rfl _ _ 105 105 rfl (.slice (some ⟨g,(i+1) *8,none⟩) (a.length+1 -(i+1)) (cap -(i+1))) (.slice (some ⟨g,i *8,none⟩) (a.length+1 -i) (cap -i)) (by simp[Act.eval,Act.put]) (by simp[Act.eval,Act.put]) (s 3 (cap -(i+1)) (cap -i)) ?_)
 go_wp2_with (at_builtin;refine Dz _ rfl _ _ 105 105 rfl _ _ rfl rfl (D _ _) ?_);go_ret;exact⟨rfl,T.o⟩
theorem MM(g cap i:Nat)(a:Zl)(x:Zi)(K:Nat)(w:Zh)(f:Nat)(I:w.ownsRow f 111 8 (Yz g a.length cap) a.length (Ab Am a))(hl:a.length<=600)(hi:i<a.length)(E:cap<a.length+1)(D:f<=w.heap.size)(J:w.heap[K]?=some (.cells (Am x).toArray 111 (0,0))):
 Calls prog 152 #[Yz g a.length cap,Zg i,Yz K 1 1] w fun e w'=>∃G,e=.returned (Yz w.heap.size (a.length+1) G)/\w'.ownsRow f 111 8 (Yz w.heap.size (a.length+1) G) (a.length+1) (Ab Am (a.take i++[x]++a.drop i))/\w.grownBy w' none:=by
 obtain⟨U,k,zC,B,Q⟩:=Gc;have M:g<w.heap.size:=(Ac I rfl).2;have zB:=(Array.getElem?_eq_some_iff.1 J).1;have zT:a.length<=cap:=by
  rcases I.2 with⟨e,_⟩|⟨g',zI,zJ,e,z,hg,h1,h2,h3,h4⟩
  .cases e
  .cases e;exact h1
 have A:=By Ex a;have O:(Ab Am [x]).length=8:=by rw[By Ex];rfl
 have Y:((Ab Am a).drop (i *8)).length=(a.length -i) *8:=by rw[List.length_drop,A];omega
 have N:((Ab Am a).take (i *8)).length=i *8:=by rw[List.length_take,A];omega
 have hold:(Builtin.firstCells U.size i (Yz g i cap)).run prog w.drew=.ok ((Ab Am a).take (i *8)).toArray w.drew:=by
  rw[B];exact run_firstCells_some w.drew 8 i ⟨g,0,none⟩ i cap ((Ab Am a).take (i *8)) N (fun j v d=>by
   rw[Go.WideShapes.add_plain,Nat.zero_add];rw[List.getElem?_take]at d;split at d
   .exact(I.cellAt _ Yv).trans d
   .cases d)
 obtain⟨G,S⟩:=Af (grownCap w (a.length+1) cap 111);obtain⟨o,zH,X⟩:∃o:Array Value,o=Value.cells (.agg Cm)/\o.size=8:=⟨_,rfl,Yr⟩;obtain⟨C,R⟩:∃C:Zj,C=(Builtin.zeroCells o (a.length+1 -i)).toList++(Builtin.zeroCells o (G -(a.length+1))).toList:=⟨_,rfl⟩;have zG:a.length+1<=G:=by rw[S];exact grownCap_ge w _ _ _
 have u:G<=maxLen:=by rw[S];exact grownCap_le_maxLen w (a.length+1) cap 111 Yo
 have zE:i *8+C.length=G *8:=by rw[R];simp[Builtin.zeroCells,X];omega
 have zA:∀m,(Builtin.append_ #[105,3] m #[Yz g i cap,Zg ((a.length:Int)+1 -(i:Int))]).run prog w=
  .ok (Yz w.heap.size (a.length+1) G) (w.drew.alloc (.cells ((Ab Am a).take (i *8)++C).toArray 111)):=fun m=>by
  have Z:i+(a.length+1 -i)=a.length+1:=Yv
  have h:=Lib.run_append_grow_zeros (P:=prog) w 105 3 m 111 U _ .i64 .i64 underlying105 underlying3 k zC (some ⟨g,0,none⟩) i cap ((Ab Am a).take (i *8)) hold (a.length+1 -i) Yv (by rw[B];omega) Yv Yv (by rw[Q];omega) (by rw[Q,Z];exact growslice_fits E Yv);rw[Z,<-S,<-zH]at h;rw[show(a.length:Int)+1 -(i:Int)=((a.length+1 -i:Nat):Int) by omega,h,R]
  have e:((Ab Am a).take (i *8)).toArray++Builtin.zeroCells o (a.length+1 -i)++Builtin.zeroCells o (G -(a.length+1))=((Ab Am a).take (i *8)++((Builtin.zeroCells o (a.length+1 -i)).toList++(Builtin.zeroCells o (G -(a.length+1))).toList)).toArray:=by apply Array.toList_inj.1;simp
  rw[e]
 obtain⟨c,q⟩:=Af (w.drew.alloc (.cells ((Ab Am a).take (i *8)++C).toArray 111));have l:c.heap[w.heap.size]?=some (.cells ((Ab Am a).take (i *8)++C).toArray 111 (0,0)):=by rw[q];exact heap_alloc_new w.drew _
 have T:∀j,j<G *8->(c.cell? (Zd (w.heap.size) j)).isSome=true:=fun j d=>by simp only[World.cell?,l];rw[Array.getElem?_eq_getElem (by simp[N];omega)];rfl
 have L:∀j,c.frozen? ⟨w.heap.size,j,none⟩=false:=fun j=>by simp[World.frozen?,l]
 have hO:∀b,b<w.heap.size->c.heap[b]?=w.heap[b]?:=fun b z=>by rw[q];exact GJ w.drew _ z
 have V:∀m s,(Builtin.copy_ #[105,105] m #[.slice (some ⟨w.heap.size,i *8,none⟩) (a.length+1 -i) s,Yz K 1 1]).run prog c=.ok (goInt (Nat.min 1 (a.length+1 -i))) (c.setCells w.heap.size (i *8) (Ab Am [x])):=fun m s=>
  CA c 105 105 m 111 U 8 w.heap.size (i *8) (a.length+1 -i) s ⟨K,0,none⟩ 1 1 (Ab Am [x]) underlying105 k B (by rw[O,show Nat.min 1 (a.length+1 -i)=1 from Nat.min_eq_left Yv,Nat.one_mul])
   (fun j v d=>by
     rw[Go.WideShapes.add_plain,Nat.zero_add,World.cell?_of_block (hO K zB)];exact Ij J j v d)
   (fun j d=>T _ Yv) (fun j _=>L _) (Dt _)
 obtain⟨r,n⟩:=Af ((c.setCells w.heap.size (i *8) (Ab Am [x])).drew);have W:∀m s sc,(Builtin.copy_ #[105,105] m #[.slice (some ⟨w.heap.size,(i+1) *8,none⟩) (a.length+1 -(i+1)) s,.slice (some ⟨g,i *8,none⟩) (a.length -i) sc]).run prog r=.ok (goInt (Nat.min (a.length -i) (a.length+1 -(i+1)))) (r.setCells w.heap.size ((i+1) *8) ((Ab Am a).drop (i *8))):=fun m s sc=>
  CA r 105 105 m 111 U 8 w.heap.size ((i+1) *8) (a.length+1 -(i+1)) s ⟨g,i *8,none⟩ (a.length -i) sc ((Ab Am a).drop (i *8)) underlying105 k B (by rw[Y];congr 1;show _=min _ _;omega)
   (fun j v d=>by
     rw[List.getElem?_drop]at d;have:=(Zw d).1;rw[Go.WideShapes.add_plain,n,GF,World.cell?_setCells_out _ _ _ _ _ (fun h _=>absurd h (Nat.ne_of_lt M)),World.cell?_of_block (hO g M)];exact(I.cellAt _ Yv).trans d)
   (fun j d=>by rw[n,GF];exact Hm w.heap.size (Ab Am [x]) (i *8) c (fun t ht=>T _ Yv) ((i+1) *8+j) (T _ Yv)) (fun j _=>by rw[n,Ju,World.frozen?_setCells];exact L _) (fun v J=>Dt _ v (List.mem_of_mem_drop J))
 have y:(r.setCells w.heap.size ((i+1) *8) ((Ab Am a).drop (i *8))).ownsRow f 111 8 (Yz w.heap.size (a.length+1) G) (a.length+1) (Ab Am (a.take i++[x]++a.drop i))/\w.grownBy (r.setCells w.heap.size ((i+1) *8) ((Ab Am a).drop (i *8))) none:=by
  refine⟨?_,?_⟩
  .rw[Bn,Bn,<-FV Ex a i Yv,<-Fm Ex a i Yv,n,<-Jt];exact Ag (Ov (w:=c) A Yv O D l zE zG u) (Ae.drew)
  .have s1:c.heap.size=w.heap.size+1:=by rw[q];simp
   have F:w.grownBy c none:=by rw[q];exact⟨rfl,rfl,rfl,Yu,fun b z _=>GJ w.drew _ z⟩
   have H:c.grownBy (r.setCells w.heap.size ((i+1) *8) ((Ab Am a).drop (i *8))) (some w.heap.size):=by rw[n];exact Ar (Ar (Cd w.heap.size (Ab Am [x]) (i *8) c) (KC _ _)) (Cd w.heap.size ((Ab Am a).drop (i *8)) ((i+1) *8) _)
   exact⟨H.os.trans F.os,H.tape.trans F.tape,H.output.trans F.output,Zm F.size H.size,fun b z _=>(H.block b Yv Yt).trans (F.block b z Yu)⟩
 have HF:=Yw y;have zF:G<=9223372036854775807:=by unfold maxLen at u;omega
 have zX:¬((i:Int)=(a.length:Int)):=Yv
 have zY:(cap:Int)<(a.length:Int)+1:=Yv
 have zU:(0:Int)<=(i:Int)+1:=Yv
 have zV:(i:Int)+1<=(a.length:Int)+1:=Yv
 have zW:((i:Int)+1).toNat=i+1:=Yv
 have zK:¬(cap=i):=Yv
 have zM:¬(G=i):=Yv
 have zN:¬(G=i+1):=Yv
 have zO:i<=a.length+1:=Yv
 have zR:(i:Int)<=(a.length:Int)+1:=Yv
 have zS:(i:Int)<=(a.length:Int):=Yv
 have mixed:prog.follows .mixedOrders=true:=Yr
 have zP:i<=cap:=Yv
 have zZ:IntKind.i64.wrap ((i:Int)+1)=(i:Int)+1:=by rw[IntKind.wrap_i64];omega
 have yA:IntKind.i64.wrap ((a.length:Int)+1)=(a.length:Int)+1:=by rw[IntKind.wrap_i64];omega
 have yB:IntKind.i64.wrap ((a.length:Int)+1 -(i:Int))=(a.length:Int)+1 -(i:Int):=by rw[IntKind.wrap_i64];omega
 rw[<-q]at zA;clear I y J k zC Q A O Y N hold S R zE l T L hO q M zB;go_enter func152,ntmps152;go_wp2_with (first
  |(at_builtin;refine Lib.wpList_append_run _ rfl _ _ _ _ rfl _ _ rfl rfl _ _ (zA _) ?_)
  |(at_builtin;refine Dz _ rfl _ _ 105 105 rfl _ _ rfl rfl (V _ _) ?_))
 go_region_law_o (refine Er rfl _ _ 105 105 rfl (.slice (some ⟨w.heap.size,(i+1) *8,none⟩) (a.length+1 -(i+1)) (G -(i+1))) (.slice (some ⟨g,i *8,none⟩) (a.length -i) (cap -i)) (by simp[Act.eval,Act.put]) (by simp[Act.eval,Act.put]) (by rw[<-n];exact W 3 (G -(i+1)) (cap -i)) ?_)
 go_wp2;go_ret;rw[<-n];exact⟨G,rfl,HF.o⟩
theorem NY(P:Value)(i:Nat)(c:Zl)(x:Zi)(j:Nat)(w:Zh)(a:Nat)(l:w.ownsRow a 111 8 P c.length (Ab Am c))(o:c.length<=600)(C:i<=c.length)(d:a<=w.heap.size)(t:P.ownBlock≠some j)(q:w.heap[j]?=some (.cells (Am x).toArray 111 (0,0))):
 Calls prog 152 #[P,Zg i,Yz j 1 1] w fun e m=>∃k,e=.returned k/\m.ownsRow a 111 8 k (c.length+1) (Ab Am (c.take i++[x]++c.drop i))/\w.grownBy m P.ownBlock/\(k.ownBlock=P.ownBlock\/k.ownBlock=some w.heap.size):=by
 rcases Nat.lt_or_ge i c.length with h|h
 .rcases l.2 with⟨e,D⟩|⟨g,cap,u,e,s,B,v,y,z,A⟩
  .omega
  .subst e;rcases Nat.lt_or_ge cap (c.length+1)with n|n
   .refine Calls.mono (MM g cap i c x j w a l o h n d q) ?_;rintro e m ⟨G,rfl,r,f⟩;exact⟨_,rfl,r,⟨f.os,f.tape,f.output,f.size,fun b s _=>f.block b s Yu⟩,.inr rfl⟩
   .refine Calls.mono (Mh g cap i c x j w a l o h n (fun e=>t (by rw[e];rfl)) q) ?_;rintro e m ⟨rfl,r,f⟩;exact⟨_,rfl,r,f,.inl rfl⟩
 .obtain rfl:i=c.length:=Yv
  rw[List.take_length,List.drop_length,List.append_nil];exact NX P c x j w a l o d q
end
theorem NZ(a:Zk)(cap:Nat)(s:Zi)(w:Zh):
 Calls prog 162 #[.slice a 0 cap,Cn s,.func (.func 163) #[] #[]] w fun e c=>e=.returned (.tuple #[Ze,.bool false])/\Zz w c:=by
 unfold Cn CR;go_enter func162,ntmps162;go_wp2
 go_loopw [9,10] (fun i j wr=>i=Zg 0/\j=Zg 0/\Zz w wr) (fun _ _ _=>0)
 case atStart=>exact⟨rfl,rfl,Zy⟩
 case round=>
  obtain⟨rfl,rfl,b⟩:=hrel;have d:=Aw.ne wr;go_wp2;refine Ax Yr Yr ?_
  repeat (go_big_quiet_step (fail))
  refine wpQuiet_nil ?_;intro m;go_wp2
  go_ret2
  exact⟨by first|rfl|simp[Act.put],b.trans (m.h.mono b.size)⟩
theorem XQ(d:Nat)(O:Value)(c:Zl)(s:Zi)(w:Zh)(k:w.ownsRow d 111 8 O c.length (AG c))(q:c.length<=600)(m:s.size<=8)(n:∀x∈c,x.size=s.size)(f:c.Pairwise (fun a b=>less a b=true)):
 Calls prog 162 #[O,Cn s,.func (.func 163) #[] #[]] w fun e l=>∃i:Nat,e=.returned (.tuple #[Zg i,.bool (decide (c[i]?=some s))])/\Fv c s i/\Zz w l:=by
 rcases k.2 with⟨rfl,t⟩|⟨g,cap,u,rfl,_⟩
 .have:c=[]:=List.eq_nil_of_length_eq_zero t;subst this;refine(NZ none 0 s w).mono ?_;rintro e l ⟨rfl,o⟩;exact⟨0,Yu,⟨Zx,fun j x h=>by omega,fun j x _ r=>by simp at r⟩,o⟩
 .exact LJ g cap c s w d k q m n f
theorem ZP(f d m:Nat)(n:Zk)(o:Nat)(P L:Value)(V now k g:Int)(c:List Kd)(s:Zi)(w:Zh)(h:Aa w d [Zg V,.map (some m),Zg now,Zg k,Zg g,.slice n c.length o,P,L])(j:w.ownsRow f 111 8 (.slice n c.length o) c.length (AG (c.map (·.sum))))(Q:c.length<=600)(D:s.size<=8)(E:∀x∈c,x.sum.size=s.size)(l:(c.map (·.sum)).Pairwise (fun a b=>less a b=true)):
 Calls prog 143 #[Yy d,Cn s] w fun e U=>∃i:Nat,e=.returned (.tuple #[Zg i,.bool (decide ((c.map (·.sum))[i]?=some s))])/\Fv (c.map (·.sum)) s i/\Zz w U:=by
 obtain⟨W,r⟩:∃W,W=w.alloc (.cells (Yk (kB s)) 111):=⟨_,rfl⟩;have q:=(AB r).1;have A:Aa W w.heap.size (Am s):=by rw[r];exact Aa.new w (Am s) 111
 have t:W.drew.ownsRow f 111 8 (.slice n c.length o) (c.map (·.sum)).length (AG (c.map (·.sum))):=by rw[List.length_map];exact Ag j q.drew
 have v:=Yw (XQ f (.slice n c.length o) (c.map (·.sum)) s W.drew t (by rw[List.length_map];exact Q) D (fun x R=>by obtain⟨y,S,rfl⟩:=List.mem_map.1 R;exact E y S) l)
 have O:W.drew.cell? (Zd d 5)=some (.slice n c.length o)/\(W.drew.cell? (Zd (w.heap.size) 0)=some (.int .u8 (kB s 0))/\W.drew.cell? (Zd (w.heap.size) 1)=some (.int .u8 (kB s 1))/\W.drew.cell? (Zd (w.heap.size) 2)=some (.int .u8 (kB s 2))/\W.drew.cell? (Zd (w.heap.size) 3)=some (.int .u8 (kB s 3))/\W.drew.cell? (Zd (w.heap.size) 4)=some (.int .u8 (kB s 4))/\W.drew.cell? (Zd (w.heap.size) 5)=some (.int .u8 (kB s 5))/\W.drew.cell? (Zd (w.heap.size) 6)=some (.int .u8 (kB s 6))/\W.drew.cell? (Zd (w.heap.size) 7)=some (.int .u8 (kB s 7))):=⟨(Aa.below h q 5 _ rfl).1,Ha (w:=W.drew) A⟩
 have z:=Yw r;clear r A t h j;unfold Cn CR at *
 go_enter func143,ntmps143;go_upto_region 1 with fail;rw[<-z.o];clear z;obtain⟨T,F,G,H,I,J,K,M,N⟩:=O;go_region_with (go_at_call 162;refine Calls.mono v.o ?_;rintro e X ⟨i,rfl,C,B⟩)
 all_goals
  have u:=Yw (Zn C (q.trans ((Dg B).mono q.size)));clear C B T F G H I J K M N v;go_wp2
  go_ret2
  exact⟨i,by first|rfl|simp[Act.put],u.o.1,u.o.2⟩
def CZ(ks:List Kd)(x:Kd):List Kd:=ks.filter (fun k=>less k.sum x.sum)++[x]++ks.filter (fun k=> !(less k.sum x.sum))
theorem Hf{a:List Kd}{x u:Kd}:u∈CZ a x↔u∈a++[x]:=by
 unfold CZ;simp only[List.mem_append,List.mem_filter,List.mem_singleton];cases less u.sum x.sum<;>simp
 .constructor
  .rintro(h|h)
   .exact .inr h
   .exact .inl h
  .rintro(h|h)
   .exact .inr h
   .exact .inl h
theorem Lh(a:List Kd)(x:Kd):(CZ a x).length=a.length+1:=by
 unfold CZ;rw[List.length_append,List.length_append];have:∀l:List Kd,(l.filter (fun k=>less k.sum x.sum)).length+(l.filter (fun k=> !(less k.sum x.sum))).length=l.length:=by
  intro l;induction l with
  |nil=>rfl
  |cons y l ih=>cases h:less y.sum x.sum<;>simp[h]<;>omega
 have:=this a;simp;omega
theorem Sl{b:List Kd}{x:Kd}{i:Nat}(h:Fv (b.map (·.sum)) x.sum i):CZ b x=b.take i++[x]++b.drop i:=by
 have lo:∀k∈b.take i,less k.sum x.sum=true:=fun k a=>by obtain⟨j,c⟩:=List.getElem?_of_mem a;have f:=(Zw c).1;rw[List.length_take]at f;rw[List.getElem?_take_of_lt Yv]at c;exact h.lo j k.sum Yv (by rw[List.getElem?_map,c];rfl)
 have d:∀k∈b.drop i,less k.sum x.sum=false:=fun k a=>by obtain⟨j,c⟩:=List.getElem?_of_mem a;rw[List.getElem?_drop]at c;exact h.hi (i+j) k.sum Yv (by rw[List.getElem?_map,c];rfl)
 have e:=(List.take_append_drop i b).symm;unfold CZ
 conv=>lhs;rw[e]
 rw[List.filter_append,List.filter_append,List.filter_eq_self.2 lo,List.filter_eq_nil_iff.2 (fun k a=>by rw[d k a];simp),List.filter_eq_nil_iff.2 (fun k a=>by rw[lo k a];simp),List.filter_eq_self.2 (fun k a=>by rw[d k a];rfl)];simp
theorem Holds.same{W:Zh}{i:Int}{g a:List Kd}{f:Lit->Option Value}(h:Holds W B i g f)(d:∀u,u∈a↔u∈g):Holds W B i a f:=by
 intro s j;rcases h s j with⟨b,c⟩|⟨u,l,m,b,c⟩
 .exact .inl ⟨b,fun⟨k,hk,e⟩=>c ⟨k,(d k).1 hk,e⟩⟩
 .exact .inr ⟨u,l,m,(d u).2 b,c⟩
theorem AJ.less{K:TypeId}{d:Nat}{f j:Lit->Option Value}(h:AJ w K b n f)(k:AJ w K b d j):AJ w K b d f:=by obtain⟨D,⟨i,g,c,o,_,m⟩,l⟩:=h;obtain⟨t,⟨r,q,a,s,e,_⟩,_⟩:=k;rw[c]at a;cases a;exact⟨D,⟨i,g,c,o,e,m⟩,l⟩
theorem Py{c:Zh}{lo:Nat}{e:TypeId}{size:Nat}{d:Zj}(h:w.ownsRow lo e size v n d)(i:Tn V w c)(g:∀b∈V,b<lo):c.ownsRow lo e size v n d:=
 Ak h (fun q a=>i.block q (Ac h a).2 (fun f=>by have j:=g q f;have k:=(Ac h a).1;omega))
theorem Aa.there(h:Aa w B l):w.there B 0 l.length:=fun j c=>by obtain⟨a,b⟩:=h j _ (Zv c);rw[Nat.zero_add];exact⟨by rw[a];rfl,b⟩
theorem Aa.range(h:Aa w B l):w.rangeAt B 0 l:=fun j v a=>by rw[Nat.zero_add];exact(h j v a).1
theorem AI(B:Nat):∀(vs:Zj) (o:Nat) (w:Zh),Tn [B] w (w.setCells B o vs)
 |[],_,w=>Tn.of Ae
 |v::r,o,w=>(Tn.set w B o v Yu).trans (AI B r (o+1) (w.setCell (Zd B o) v))
theorem Aa.au(h:Aa w B l)(a:Zj)(d:a.length=l.length):Aa (w.setCells B 0 a) B a:=fun j v c=>by have e:=(Zw c).1;have b:=World.rangeAt_setCells_same w B 0 a (d▸h.there) j v c;rw[Nat.zero_add]at b;refine⟨b,?_⟩;rw[World.frozen?_setCells];exact(h j _ (Zv Yv)).2
def Aj(w:Zh)(base:Nat)(v:Value)(ss:Zl):Prop:=
 (v=Zb/\ss=[])\/∃g off cap,v=.slice (some ⟨g,off,none⟩) ss.length cap/\base<=g/\g<w.heap.size/\ss.length<=cap/\cap<=maxLen/\
   (∀j,j<cap->(w.cell? (Zd g (off+j))).isSome=true/\w.frozen? ⟨g,off+j,none⟩=false)/\
   ∀i s,ss[i]?=some s->w.cell? (Zd g (off+i))=some (.string s)
theorem Aj.nil(w:Zh)(a:Nat):Aj w a Zb []:=.inl ⟨rfl,rfl⟩
theorem Aj.own{c:Zl}(h:w.ownsRow b 9 1 v c.length (c.map Value.string)):Aj w b v c:=by
 rcases h.2 with⟨rfl,q⟩|⟨g,cap,d,rfl,l,e,m,o,f,r⟩
 .exact .inl ⟨rfl,List.eq_nil_of_length_eq_zero q⟩
 .have n:=(Array.getElem?_eq_some_iff.1 e).1;have a:∀j,w.cell? (Zd g (0+j))=d[j]?:=fun j=>by rw[Nat.zero_add];simp[World.cell?,e]
  refine .inr ⟨g,0,cap,rfl,l,n,m,o,fun j u=>⟨?_,?_⟩,fun i s f=> ?_⟩
  .rw[a,Array.getElem?_eq_getElem Yv];rfl
  .simp[World.frozen?,e]
  .have t:=(Zw f).1;rw[a];have k:(d.toList.take (c.length *1))[i]?=some (.string s):=by rw[r];simp[f]
   rw[List.getElem?_take_of_lt Yv]at k;simpa using k
theorem Aj.row{c:Zl}(h:Aj w b v c):∃a cap,v=.slice a c.length cap/\Ad w w.heap.size a c:=by
 rcases h with⟨rfl,rfl⟩|⟨g,d,cap,rfl,i,e,_,_,_,f⟩
 .exact⟨none,0,rfl,.inl rfl⟩
 .exact⟨_,cap,rfl,.inr ⟨g,d,rfl,e,f⟩⟩
theorem Aj.stays{c:Zh}{a:Nat}(h:Aj w a v f)(t:w.heap.size<=c.heap.size)(b:∀g,Ai v=some g->c.heap[g]?=w.heap[g]?):Aj c a v f:=by
 rcases h with h|⟨g,k,cap,rfl,l,r,m,n,d,o⟩
 .exact .inl h
 .exact .inr ⟨g,k,cap,rfl,l,Yv,m,n,fun j e=>⟨by rw[World.cell?_of_block (b g rfl)];exact(d j e).1,by rw[World.frozen?_of_block (b g rfl)];exact(d j e).2⟩,fun i s q=>(World.cell?_of_block (b g rfl)).trans (o i s q)⟩
theorem Aj.Z{a:Nat}{e:Zl}(h:Aj w a v e)(b:Ai v=some g):a<=g/\g<w.heap.size:=by
 rcases h with⟨rfl,_⟩|⟨i,f,cap,rfl,c,d,_⟩
 .cases b
 .cases b;exact⟨c,d⟩
theorem Aj.below{c:Zh}{b:Zl}(h:Aj w base v b)(a:Zz w c):Aj c base v b:=
 h.stays a.size (fun g e=>a.block g (h.Z e).2)
theorem Aj.K{d:Zh}{a:Nat}{c:Zl}(h:Aj w a v c)(b:Tn V w d)(f:∀g,Ai v=some g->g∉V):Aj d a v c:=
 h.stays b.size (fun g e=>b.block g (h.Z e).2 (f g e))
theorem Aj.mono{a:Zl}(h:Aj w base v a)(d:base'<=base):Aj w base' v a:=by
 rcases h with h|⟨g,b,cap,rfl,c,rest⟩
 .exact .inl h
 .exact .inr ⟨g,b,cap,rfl,Yv,rest⟩
theorem Aj.tail{a cap:Nat}{c:Zl}(h:Aj w b (.slice (some ⟨g,a,none⟩) n cap) (s::c)):Aj w b (.slice (some ⟨g,a+1,none⟩) c.length (cap -1)) c/\n=c.length+1/\n<=cap/\w.cell? (Zd g a)=some (.string s):=by
 rcases h with⟨h,_⟩|⟨t,l,k,d,m,q,e,u,o,f⟩
 .cases h
 .simp only[List.length_cons]at d e;cases d;refine⟨.inr ⟨g,a+1,cap -1,rfl,m,q,Yv,Yv,fun j v=> ?_,fun i s r=> ?_⟩,rfl,e,by simpa using f 0 s rfl⟩
  .have:=o (j+1) Yv;rw[show a+(j+1)=a+1+j by omega]at this;exact this
  .have:=f (i+1) s (by simpa using r);rw[show a+(i+1)=a+1+i by omega]at this;exact this
theorem Aj.fresh(w:Zh)(c:Nat)(b:Zl)(cap:Nat)(z:Array Value)(g:c<=w.heap.size)(e:b.length<=cap)(f:cap<=maxLen)(k:z.size=cap -b.length):
 Aj (w.drew.alloc (.cells ((b.map Value.string).toArray++z) 9)) c (Yz w.heap.size b.length cap) b:=by
 have a:∀j,(w.drew.alloc (.cells ((b.map Value.string).toArray++z) 9)).cell? (Zd (w.heap.size) (0+j))=((b.map Value.string).toArray++z)[j]?:=fun j=>by rw[Nat.zero_add];show(w.drew.alloc (.cells ((b.map Value.string).toArray++z) 9)).cell? (Zd (w.drew.heap.size) j)=_;rw[World.cell?_alloc_at _ _ _ _ rfl]
 refine .inr ⟨w.heap.size,0,cap,rfl,g,Yu,e,f,fun j l=>⟨?_,?_⟩,fun i s d=> ?_⟩
 .rw[a,Array.getElem?_eq_getElem (by simp[k];omega)];rfl
 .simp[go_sem]
 .have h:=(Zw d).1;rw[a,Array.getElem?_append_left (by simpa using h)];simp[d]
theorem Kt(w:Zh)(b:Nat)(v:Value)(a:Zl)(U:Aj w b v a)(p:Addr)(cp:Nat)(t:Zi)(A:w.cell? p=some (.string t))(W:a.length<=100000000)(r:b<=w.heap.size)(B:TypeId):
 ∃c d,(Builtin.append_ #[23,23] B #[v,.slice (some p) 1 cp]).run prog w=.ok c d/\Aj d b c (a++[t])/\w.grownBy d (Ai v)/\(Ai c=Ai v\/Ai c=some w.heap.size):=by
 obtain⟨i,J,P,n,Q⟩:=info_parts Cq;have o:Src prog i.size 23 (.slice (some p) 1 cp) 1 [.string t] w:=by
  rw[n];exact Src.ofSlice w underlying23 p 1 cp [.string t] rfl (fun j u l=>by
   match j,l with
   |0,l=>cases l;rw[show p.add 0=p from by cases p;simp[Addr.add]];exact A) (by simp[Value.oneCell'])
 have grow:∀(z:Zk) (cap:Nat),cap<a.length+1->(Builtin.firstCells i.size a.length (.slice z a.length cap)).run prog w.drew=.ok (a.map Value.string).toArray w.drew->
  ∃c d,(Builtin.append_ #[23,23] B #[.slice z a.length cap,.slice (some p) 1 cp]).run prog w=.ok c d/\Aj d b c (a++[t])/\(∀row,w.grownBy d row)/\Ai c=some w.heap.size:=by
  intro z cap D hold;have h:=run_append_grow_src w _ _ B _ i _ underlying23 J P z a.length cap (a.map Value.string) hold _ 1 [.string t] o D Yv (by
   have:=nextslicecap_le D;rw[Q];omega)
  rw[show a.map Value.string++[.string t]=(a++[t]).map Value.string by simp]at h;have K:=grownCap_ge w (a.length+1) cap 9;have N:=grownCap_le_maxLen w (a.length+1) cap 9 Yo
  have C:=Aj.fresh w b (a++[t]) (grownCap w (a.length+1) cap 9) (Builtin.zeroCells (Value.string ⟨#[]⟩).cells (grownCap w (a.length+1) cap 9 -(a.length+1))) r (by simpa using K) N (by rw[size_zeroCells,List.length_append];simp[Value.cells]);rw[List.length_append]at C;exact⟨_,_,h,C,fun row=>⟨rfl,rfl,rfl,Yu,fun k I _=>heap_alloc_old w.drew _ I⟩,rfl⟩
 rcases U with⟨rfl,rfl⟩|⟨g,q,cap,rfl,R,T,V,S,x,A⟩
 .obtain⟨c,d,h,F,G,H⟩:=grow none 0 Yu (run_firstCells_none w.drew _ _ _ _);exact⟨c,d,h,F,G _,.inr H⟩
 .by_cases hroom:a.length+1<=cap
  .have y:∀j,j<[Value.string t].length->(a.length *1+j)<cap:=fun j f=>by simp at f;omega
   have h:=run_append_room_src w _ _ B _ i underlying23 J g q a.length cap _ 1 [.string t] o hroom (fun j f=>by rw[n,Nat.add_assoc];exact(x _ (y j f)).1) (fun j f=>by rw[n,Nat.add_assoc];exact(x _ (y j f)).2);rw[n]at h
   refine⟨_,_,h,.inr ⟨g,q,cap,by rw[List.length_append];rfl,R,by rw[Gn];exact T,by rw[List.length_append];exact hroom,S,fun j f=>⟨?_,?_⟩,fun k s m=> ?_⟩,⟨World.os_setCells _ _ _ _,Jv _ _ _ _,World.output_setCells _ _ _ _,by rw[Gn];exact Zx,fun k I O=>World.heap_setCells_other _ _ _ _ I (fun e=>O (by rw[e];rfl))⟩,.inl rfl⟩
   .exact Ib _ _ _ _ _ (x j f).1
   .rw[World.frozen?_setCells];exact(x j f).2
   .rcases Nat.lt_or_ge k a.length with E|E
    .rw[List.getElem?_append_left E]at m;rw[World.cell?_setCells_out _ _ _ _ _ (fun _ _=> .inl Yt)];exact A k s m
    .rw[List.getElem?_append_right E]at m;have M:k=a.length:=by have:=(Zw m).1;simp at this;omega
     subst M;simp at m;subst m;have L:=World.cell?_setCells_in g [.string t] (q+a.length *1) w (fun j f=>by rw[Nat.add_assoc];exact(x _ (y j f)).1) 0 Yu;simpa using L
  .obtain⟨c,d,h,F,G,H⟩:=grow (some ⟨g,q,none⟩) cap Yv (run_firstCells_some w.drew _ _ _ _ _ _ (by rw[n];simp) (by
    intro j u l;obtain⟨s,m,rfl⟩:∃s,a[j]?=some s/\u=.string s:=by
     rw[List.getElem?_map]at l;cases e:a[j]? with
     |none=>rw[e]at l;cases l
     |some s=>rw[e]at l;cases l;exact⟨s,rfl,rfl⟩
    rw[Go.WideShapes.add_plain];exact A j s m))
   exact⟨c,d,h,F,G _,.inr H⟩
theorem Aj.set{a cap:Nat}{k:Zl}(h:Aj w b (.slice (some ⟨g,a,none⟩) n cap) k)(x:j<k.length)(t:Zi):Aj (w.setCell (Zd g (a+j)) (.string t)) b (.slice (some ⟨g,a,none⟩) n cap) (k.set j t):=by
 rcases h with⟨e,_⟩|⟨y,m,l,e,o,q,r,u,c,v⟩
 .cases e
 .cases e;refine .inr ⟨g,a,cap,by rw[List.length_set],o,by simpa using q,by rw[List.length_set];exact r,u,fun i f=>⟨?_,?_⟩,fun i s d=> ?_⟩
  .exact(BP.setCell w g (a+j) (.string t) g (a+i) (c i f).1).1
  .exact(BP.setCell w g (a+j) (.string t) g (a+i) (c i f).1).2 (c i f).2
  .by_cases hij:i=j
   .subst hij;rw[List.getElem?_set_self x]at d;cases d;exact World.cell?_setCell_same' _ _ _ (c i Yv).1
   .rw[List.getElem?_set_ne (fun e=>hij e.symm)]at d;exact(World.cell?_setCell_other w _ _ _ Ym).trans (v i s d)
theorem AY.K{f:Zh}{a:Nat}{q:Zj}{l:List Kd}{o:List Pd}{m:List Ld}(h:AY w a T P L q l o m)(x:Tn V w f)(s:∀b∈V,b<a):AY f a T P L q l o m:=by have c:∀{e:TypeId} {size:Nat} {v:Value} {n:Nat} {xs:Zj},w.ownsRow a e size v n xs->f.ownsRow a e size v n xs:=fun d=>Ak d (fun g j=>x.block g (Ac d j).2 (fun e=>by have:=s g e;have:=(Ac d j).1;omega));exact⟨h.len,c h.ak,fun i k r t u=>c (h.B i k r t u),c h.pins,c h.aq,h.nd⟩
theorem AY.mono{b:List Kd}{d:List Pd}{c:List Ld}(h:AY w base T P L rs b d c)(a:base'<=base):AY w base' T P L rs b d c:=
 ⟨h.len,h.ak.mono a,fun i k r e f=>(h.B i k r e f).mono a,h.pins.mono a,h.aq.mono a,h.nd⟩
theorem AY.lo{e:Zj}{j:List Kd}{l:List Pd}{k:List Ld}(h:AY w b T P L e j l k):∀g∈Ci T P L e,b<=g:=by
 intro g a;unfold Ci at a;simp only[List.mem_append,Option.mem_toList,List.mem_filterMap]at a;rcases a with a|a|a|⟨r,f,a⟩
 .exact(Ac h.ak a).1
 .exact(Ac h.pins a).1
 .exact(Ac h.aq a).1
 .obtain⟨i,c⟩:=List.getElem?_of_mem f;have d:=(Zw c).1;rw[h.len]at d;exact(Ac (h.B i _ r (Zv d) c) a).1
theorem TV.below{c:Zh}{lo:Nat}{b:List Kd}(h:TV w lo g rs b)(a:Zz w c):TV c lo g rs b:=
 ⟨h.len,Ag h.ak a,fun i k r d e=>Ag (h.B i k r d e) a,h.y,h.inc⟩
theorem TV.cz{lo:Nat}{d:Zj}{c:List Kd}(h:TV w lo g d c):∀b∈d.filterMap Value.ownBlock,b<w.heap.size:=fun b j=>by
 obtain⟨x,k,f⟩:=List.mem_filterMap.1 j;obtain⟨i,a⟩:=List.getElem?_of_mem k;have e:i<c.length:=by rw[<-h.len];exact(Zw a).1
 exact(Ac (h.B i _ x (Zv e) a) f).2
def Fq(w:Zh)(base:Nat)(a:Zk)(ss:Zl):Prop:=
 ss=[]\/∃b off,a=some ⟨b,off,none⟩/\base<=b/\b<w.heap.size/\∀i s,ss[i]?=some s->w.cell? (Zd b (off+i))=some (.string s)/\w.frozen? ⟨b,off+i,none⟩=false
def ZQ(a:Zk):Option Nat:=a.map (·.block)
theorem Fq.row(h:Fq w c a d):Ad w w.heap.size a d:=by
 rcases h with h|⟨b,e,rfl,k,f,g⟩
 .exact .inl h
 .exact .inr ⟨b,e,rfl,f,fun i s j=>(g i s j).1⟩
theorem Fq.stays{g:Zh}{l:Zl}(h:Fq w c a l)(n:w.heap.size<=g.heap.size)(f:∀b,ZQ a=some b->c<=b->b<w.heap.size->g.heap[b]?=w.heap[b]?):Fq g c a l:=by
 rcases h with h|⟨b,d,rfl,j,m,k⟩
 .exact .inl h
 .have e:=f b rfl j m;exact .inr ⟨b,d,rfl,j,Yv,fun i s f=>⟨(World.cell?_of_block (a:=⟨b,d+i,none⟩) e).trans (k i s f).1,(World.frozen?_of_block (a:=⟨b,d+i,none⟩) e).trans (k i s f).2⟩⟩
theorem Fq.below(h:Fq w base a d)(c:Zz w e):Fq e base a d:=
 h.stays c.size (fun b _ _ f=>c.block b f)
theorem Fq.mono{c:Zl}(h:Fq w base a c)(i:base'<=base):Fq w base' a c:=by
 rcases h with h|⟨b,d,rfl,g,e,f⟩
 .exact .inl h
 .exact .inr ⟨b,d,rfl,Yv,e,f⟩
theorem Fq.set{a:Nat}(h:Fq w a (some ⟨g,c,none⟩) f)(k:j<f.length)(t:Zi):Fq (w.setCell (Zd g (c+j)) (.string t)) a (some ⟨g,c,none⟩) (f.set j t):=by
 rcases h with h|⟨b,n,e,o,q,l⟩
 .rw[h]at k;simp at k
 .cases e;refine .inr ⟨g,c,rfl,o,by simpa using q,fun i s d=> ?_⟩;have r:i<f.length:=by have:=(Zw d).1;rw[List.length_set]at this;exact this
  have m:=l i _ (Zv r);refine⟨?_,by simpa using m.2⟩;by_cases hij:i=j
  .subst hij;rw[List.getElem?_set_self k]at d;cases d;exact World.cell?_setCell_same' _ _ _ (by rw[m.1];rfl)
  .rw[List.getElem?_set_ne (fun e=>hij e.symm)]at d;exact(World.cell?_setCell_other w _ _ _ Ym).trans (l i s d).1
def EV:Zj:=[Ze,Ze,Ze,Ze,Ze,Zb,Zb,Zb,Ze,Zb,Zb,Ze,Ze,Ze,Zb]
theorem IA{g i j k l m n o q r a c d e f:Value}(h:Aa w b [g,i,j,k,l,m,n,o,q,r,a,c,d,e,f]):(w.cell? (Zd b 0)=some g/\w.frozen? ⟨b,0,none⟩=false)/\(w.cell? (Zd b 1)=some i/\w.frozen? ⟨b,1,none⟩=false)/\(w.cell? (Zd b 2)=some j/\w.frozen? ⟨b,2,none⟩=false)/\(w.cell? (Zd b 3)=some k/\w.frozen? ⟨b,3,none⟩=false)/\(w.cell? (Zd b 4)=some l/\w.frozen? ⟨b,4,none⟩=false)/\(w.cell? (Zd b 5)=some m/\w.frozen? ⟨b,5,none⟩=false)/\(w.cell? (Zd b 6)=some n/\w.frozen? ⟨b,6,none⟩=false)/\(w.cell? (Zd b 7)=some o/\w.frozen? ⟨b,7,none⟩=false)/\(w.cell? (Zd b 8)=some q/\w.frozen? ⟨b,8,none⟩=false)/\(w.cell? (Zd b 9)=some r/\w.frozen? ⟨b,9,none⟩=false)/\(w.cell? (Zd b 10)=some a/\w.frozen? ⟨b,10,none⟩=false)/\(w.cell? (Zd b 11)=some c/\w.frozen? ⟨b,11,none⟩=false)/\(w.cell? (Zd b 12)=some d/\w.frozen? ⟨b,12,none⟩=false)/\(w.cell? (Zd b 13)=some e/\w.frozen? ⟨b,13,none⟩=false)/\(w.cell? (Zd b 14)=some f/\w.frozen? ⟨b,14,none⟩=false):=
 ⟨h 0 _ rfl,h 1 _ rfl,h 2 _ rfl,h 3 _ rfl,h 4 _ rfl,h 5 _ rfl,h 6 _ rfl,h 7 _ rfl,h 8 _ rfl,h 9 _ rfl,h 10 _ rfl,h 11 _ rfl,h 12 _ rfl,h 13 _ rfl,h 14 _ rfl⟩
theorem JY(w:Zh)(R:Nat)(f g h i j k l m n o a b c d e:Value):Tn [R] w (((((((((((((((w.setCell (Zd R 0) f).setCell (Zd R 1) g).setCell (Zd R 2) h).setCell (Zd R 3) i).setCell (Zd R 4) j).setCell (Zd R 5) k).setCell (Zd R 6) l).setCell (Zd R 7) m).setCell (Zd R 8) n).setCell (Zd R 9) o).setCell (Zd R 10) a).setCell (Zd R 11) b).setCell (Zd R 12) c).setCell (Zd R 13) d).setCell (Zd R 14) e):=
 (((((((((((((((Bl w R 0 f).trans (Bl _ R 1 g)).trans (Bl _ R 2 h)).trans (Bl _ R 3 i)).trans (Bl _ R 4 j)).trans (Bl _ R 5 k)).trans (Bl _ R 6 l)).trans (Bl _ R 7 m)).trans (Bl _ R 8 n)).trans (Bl _ R 9 o)).trans (Bl _ R 10 a)).trans (Bl _ R 11 b)).trans (Bl _ R 12 c)).trans (Bl _ R 13 d)).trans (Bl _ R 14 e))
def fresh(ms rs:Zl):Zl:=rs.filter (fun r=> !(ms.any (fun x=>decide (x=r))))
def Mi(ks:List Kd)(s:Zi)(qs ms qs' ms':Zl):Prop:=
 ((¬Au ks s\/s∈ms)/\qs'=qs/\ms'=ms)\/∃k∈ks,k.sum=s/\s∉ms/\ms'=ms++[s]/\qs'=qs++fresh (ms++[s]) k.B
theorem Sm{ms a:Zl}{k:Nat}{x:Zi}(c:a[k]?=some x):(x∈ms->fresh ms (a.take (k+1))=fresh ms (a.take k))/\(x∉ms->fresh ms (a.take (k+1))=fresh ms (a.take k)++[x]):=by
 obtain⟨h,rfl⟩:=Zw c;unfold fresh;rw[Zu h,List.filter_append];refine⟨fun b=> ?_,fun b=> ?_⟩
 .have:(ms.any (fun x=>decide (x=a[k])))=true:=by simpa using b
  simp[this]
 .have:(ms.any (fun x=>decide (x=a[k])))=false:=by simp;exact fun x c e=>b (e▸c)
  simp[this]
def Mj(ks:List Kd)(at_:Int)(u:Kd):Prop:=u∈ks/\u.born<at_/\∀y∈ks,y.born<at_->y.born<=u.born
structure UR where
 A:List Kd
 L:Int
 Q:Int
 P:Int
 ro:Int
 G:Zl
 ms:Zl
 ds:Zl
inductive UTo (ks:List Kd) (ps:List Pd) (ls:List Ld) (births ph top at_ ro:Int) (qs ms:Zl):UR->Prop
 |begin (h:ph=0):UTo ks ps ls births ph top at_ ro qs ms ⟨ks,1,births,births+1,ro,DH ps ls,ms,[]⟩
 |mark (h:ph≠0) (s:Zi) (q0 qs' ms':Zl) (hq:qs=s::q0) (hm:Mi ks s q0 ms qs' ms'):UTo ks ps ls births ph top at_ ro qs ms ⟨ks,ph,top,at_,ro,qs',ms',[]⟩
 |rest (h:ph≠0) (hq:qs=[]) (hn:∀y∈ks,¬y.born<at_):UTo ks ps ls births ph top at_ ro qs ms ⟨ks,0,0,0,ro+1,[],[],[]⟩
 |ag (h:ph≠0) (hq:qs=[]) (u:Kd) (hu:Mj ks at_ u) (hk:u.sum∈ms\/GN ps ls ks u.sum):UTo ks ps ls births ph top at_ ro qs ms ⟨ks,2,top,u.born,ro,[],ms,[]⟩
 |drop (h:ph≠0) (hq:qs=[]) (u:Kd) (hu:Mj ks at_ u) (hm:u.sum∉ms) (hk:¬GN ps ls ks u.sum):UTo ks ps ls births ph top at_ ro qs ms ⟨CK ks u.sum,2,top,u.born,ro,[],ms,[u.sum]⟩
structure UOk (wd births:Int) (ks:List Kd) (ps:List Pd) (ls:List Ld) (ph ro:Int) (qs ms:Zl):Prop where
 ok:Em wd ks
 born:∀k∈ks,1<=k.born
 B:∀k∈ks,k.B.length<=30/\∀r∈k.B,(r.size:Int)=wd
 pl:ps.length<=100
 ll:ls.length<=200
 fw:∀p∈ps,(p.sum.size:Int)=wd
 gu:∀l∈ls,(l.sum.size:Int)=wd
 b0:0<=births
 b1:births<=1000000000
 jz:ph=0\/ph=1\/ph=2
 r0:0<=ro
 r1:ro<=1000000000
 kb:∀x∈qs,(x.size:Int)=wd
 iu:∀x∈ms,(x.size:Int)=wd
 ql:qs.length<=1048576
 ml:ms.length<=1048576
theorem UTo.sub{a g d c k:Int}{b:List Kd}{i:List Pd}{e:List Ld}{j:Zl}{r:UR}(h:UTo b i e a g d c k j f r):r.A.Sublist b:=by
 cases h with
 |begin h=>exact List.Sublist.refl _
 |mark h s q0 q1 m1 hq hm=>exact List.Sublist.refl _
 |rest h hq hn=>exact List.Sublist.refl _
 |ag h hq u hu hk=>exact List.Sublist.refl _
 |drop h hq u hu hm hk=>exact List.filter_sublist
theorem Mi.de{b:List Kd}{j g h:Zl}(l:(b.map (·.sum)).Nodup)(m:Mi b s j g h d)(n:Mi b s j g i f):h=i/\d=f:=by
 rcases m with⟨a,rfl,rfl⟩|⟨k,c,e,o,rfl,rfl⟩<;>rcases n with⟨a',rfl,rfl⟩|⟨k',hk',e',hn',rfl,rfl⟩
 .exact⟨rfl,rfl⟩
 .rcases a with a|a
  .exact absurd ⟨k',hk',e'⟩ a
  .exact absurd a hn'
 .rcases a' with a|a
  .exact absurd ⟨k,c,e⟩ a
  .exact absurd a o
 .rw[FZ l c hk' (e.trans e'.symm)];exact⟨rfl,rfl⟩
theorem UTo.de{c j g e:Int}{d:List Kd}{k:List Pd}{h:List Ld}{l:Zl}{m n:UR}(r:∀x∈d,∀y∈d,x.born=y.born->x=y)(q:(d.map (·.sum)).Nodup)(b:UTo d k h c j g e o l i m)(a:UTo d k h c j g e o l i n):m=n:=by
 have f:∀{u v:Kd},Mj d e u->Mj d e v->u=v:=fun {u v} hu hv=>r _ hu.1 _ hv.1 (by have:=hu.2.2 v hv.1 hv.2.1;have:=hv.2.2 u hu.1 hu.2.1;omega);cases b with
 |begin b=>
  cases a with
  |begin a=>rfl
  |mark a s2 q02 qs12 ms12 hq2 hm2=>exact absurd b a
  |rest a hq2 hn2=>exact absurd b a
  |ag a hq2 u2 hu2 hk2=>exact absurd b a
  |drop a hq2 u2 hu2 hm2 hk2=>exact absurd b a
 |mark b s1 q01 qs11 ms11 hq1 hm1=>
  cases a with
  |begin a=>exact absurd a b
  |mark a s2 q02 qs12 ms12 hq2 hm2=>rw[hq1]at hq2;cases hq2;obtain⟨rfl,rfl⟩:=hm1.de q hm2;rfl
  |rest a hq2 hn2=>rw[hq1]at hq2;cases hq2
  |ag a hq2 u2 hu2 hk2=>rw[hq1]at hq2;cases hq2
  |drop a hq2 u2 hu2 hm2 hk2=>rw[hq1]at hq2;cases hq2
 |rest b hq1 hn1=>
  cases a with
  |begin a=>exact absurd a b
  |mark a s2 q02 qs12 ms12 hq2 hm2=>rw[hq1]at hq2;cases hq2
  |rest a hq2 hn2=>rfl
  |ag a hq2 u2 hu2 hk2=>exact absurd hu2.2.1 (hn1 _ hu2.1)
  |drop a hq2 u2 hu2 hm2 hk2=>exact absurd hu2.2.1 (hn1 _ hu2.1)
 |ag b hq1 u1 hu1 hk1=>
  cases a with
  |begin a=>exact absurd a b
  |mark a s2 q02 qs12 ms12 hq2 hm2=>rw[hq1]at hq2;cases hq2
  |rest a hq2 hn2=>exact absurd hu1.2.1 (hn2 _ hu1.1)
  |ag a hq2 u2 hu2 hk2=>cases f hu1 hu2;rfl
  |drop a hq2 u2 hu2 hm2 hk2=>cases f hu1 hu2;exact(hk1.elim hm2 hk2).elim
 |drop b hq1 u1 hu1 hm1 hk1=>
  cases a with
  |begin a=>exact absurd a b
  |mark a s2 q02 qs12 ms12 hq2 hm2=>rw[hq1]at hq2;cases hq2
  |rest a hq2 hn2=>exact absurd hu1.2.1 (hn2 _ hu1.1)
  |ag a hq2 u2 hu2 hk2=>cases f hu1 hu2;exact(hk2.elim hm1 hk1).elim
  |drop a hq2 u2 hu2 hm2 hk2=>cases f hu1 hu2;rfl
theorem r6{a c d e f g:Value}(h:Aa w b [a,c,d,e,f,g]):(w.cell? (Zd b 0)=some a/\w.frozen? ⟨b,0,none⟩=false)/\(w.cell? (Zd b 1)=some c/\w.frozen? ⟨b,1,none⟩=false)/\(w.cell? (Zd b 2)=some d/\w.frozen? ⟨b,2,none⟩=false)/\(w.cell? (Zd b 3)=some e/\w.frozen? ⟨b,3,none⟩=false)/\(w.cell? (Zd b 4)=some f/\w.frozen? ⟨b,4,none⟩=false)/\(w.cell? (Zd b 5)=some g/\w.frozen? ⟨b,5,none⟩=false):=
 ⟨h 0 _ rfl,h 1 _ rfl,h 2 _ rfl,h 3 _ rfl,h 4 _ rfl,h 5 _ rfl⟩
def Fg(a:Zk)(n c:Nat):Prop:=n<=c/\(a=none->n=0/\c=0)
theorem Aj.cap{ss:Zl}(h:Aj w base (.slice a n c) ss):Fg a ss.length c:=by
 rcases h with⟨e,rfl⟩|⟨g,b,cap,e,_,_,h,_⟩
 .cases e;exact⟨Zx,fun _=>⟨rfl,rfl⟩⟩
 .cases e;exact⟨h,fun e=>by cases e⟩
def Lt(w:Zh)(a:Zk):Prop:=∀p,a=some p->p.block<w.heap.size
theorem Lt.mono{b:Zh}(h:Lt w a)(c:w.heap.size<=b.heap.size):Lt b a:=fun p e=>Zr (h p e) c
theorem Lt.no:Lt w none:=fun _ e=>by cases e
theorem Aj.ix(h:Aj w b (.slice a n c) d):Lt w a:=fun p e=>(h.Z (g:=p.block) (by rw[e];rfl)).2
def Dl(b:Nat)(x y:Zk)(n:Nat)(a:Zk):Prop:=∀p,a=some p->p.block=b\/(∃q,x=some q/\p.block=q.block)\/(∃q,y=some q/\p.block=q.block)\/n<=p.block
theorem Dl.no:Dl b x y n none:=fun _ e=>by cases e
theorem Dl.new{o:Nat}(h:n<=g):Dl b x y n (some ⟨g,o,none⟩):=fun p e=>by cases e;exact .inr (.inr (.inr h))
theorem Dl.own{d:Nat}(h:Aj w d (.slice a k c) i)(f:n<=d):Dl b x y n a:=by intro p e;subst e;exact .inr (.inr (.inr (Zm f (h.Z (g:=p.block) rfl).1)))
structure LU (w w':Zh) (e:Ending) (wd now given births:Int) (P L:Value) (ks:List Kd) (ps:List Pd) (ls:List Ld) (ph top at_ ro:Int) (qs ms:Zl) (b0:Nat) (x0 y0:Zk) (zs0:List (Kd×Value)):Prop where
 o:∃(r:UR) (b c:Nat) (zs:List (Kd×Value)) (qa ma da:Zk) (qc mc dc:Nat),e=.returned (.agg #[Ze,Zg wd,Zg now,Zg given,Zg births,.slice (some ⟨b,0,none⟩) zs.length c,P,L,Zg r.L,.slice qa r.G.length qc,.slice ma r.ms.length mc,Zg r.Q,Zg r.P,Zg r.ro,.slice da r.ds.length dc])/\UTo ks ps ls births ph top at_ ro qs ms r/\zs.map (·.1)=r.A/\Bi w' b 0 zs/\b<w'.heap.size/\Ad w' w'.heap.size qa r.G/\Ad w' w'.heap.size ma r.ms/\Ad w' w'.heap.size da r.ds/\(Dl b0 x0 y0 w.heap.size (some ⟨b,0,none⟩)/\Dl b0 x0 y0 w.heap.size qa/\Dl b0 x0 y0 w.heap.size ma/\Dl b0 x0 y0 w.heap.size da)/\(∀z∈zs,z∈zs0)/\Fg qa r.G.length qc/\Fg ma r.ms.length mc/\Lt w' qa/\Lt w' ma
 low:Below w.heap.size w w'
theorem LU.from{X c:Zh}{e:Ending}{q b a:Int}{i:List Kd}{m:List Pd}{j:List Ld}{l f d:Int}{n k:Zl}{h:Nat}{r s:Zk}{g:List (Kd×Value)}(V:List Nat)(H:∀c,Tn V X c->LU w c e q now b a P L i m j l f d o n k h r s g)(t:Tn V X c):LU w c e q now b a P L i m j l f d o n k h r s g:=H c t
theorem Pz(W:Zh)(a:Zk)(cap:Nat)(b:Zl)(h:Ad W W.heap.size a b)(C:a=none->b.length=0/\cap=0)(G:b.length<=100000000)(n:TypeId):
 ∃x g d,(Builtin.append_ #[23,23] n #[Yz W.heap.size 0 0,.slice a b.length cap]).run prog (W.alloc (.cells #[] 9))=.ok (Yz x b.length g) d/\d.ownsRow W.heap.size 9 1 (Yz x b.length g) b.length (b.map Value.string)/\Zz W d:=by
 obtain⟨q,o,t,v,y⟩:=info_parts Cq;have c:(W.alloc (.cells #[] 9)).ownsRow W.heap.size 9 1 (Yz W.heap.size 0 0) 0 (([]:Zl).map Value.string):=World.ownsRow_lit (base:=W.heap.size) (e:=9) (size:=1) W #[] 0 (Zx) Yo rfl;have l:Below W.heap.size W (W.alloc (.cells #[] 9)):=Zy;cases a with
 |none=>obtain⟨z,rfl⟩:=C rfl;have B:=List.eq_nil_of_length_eq_zero z;subst B;exact⟨_,_,_,run_append_owned_none (P:=prog) (W.alloc (.cells #[] 9)) W.heap.size 23 n 9 q 1 underlying23 o _ 0 _ c,c,l⟩
 |some A=>
 obtain⟨H,d,F,m,r,E⟩:=run_append_own (P:=prog) (w:=W.alloc (.cells #[] 9)) W.heap.size 23 n 9 q Zc 1 16 underlying23 o t v y rfl Yq _ 0 _ c A b.length cap (b.map Value.string) Yu (fun j u f=>by
  rw[List.getElem?_map]at f;cases hs:b[j]? with
  |none=>rw[hs]at f;cases f
  |some s=>
   rw[hs]at f;cases f;exact(h.below l).ay A rfl j s hs) (Ri b) Yo Yv Yu
 simp only[Nat.zero_add,List.map_nil,List.nil_append]at m;obtain⟨x,g,rfl⟩:=KT m (fun e=>by have:=E.1 e;cases this.1);have i:(W.alloc (.cells #[] 9)).grownBy d (some W.heap.size):=by simpa [Value.ownBlock]using r
 exact⟨x,g,d,F,m,l.grown i Yu (fun k D=>by cases D;exact Zx)⟩
theorem Ub(W:Zh)(a:Zk)(cap:Nat)(b:Zl)(h:Ad W W.heap.size a b)(j:a=none->b.length=0/\cap=0)(k:b.length<=100000000)(e:TypeId):
 ∃x d c,(Builtin.append_ #[23,23] e #[Yz W.heap.size 0 0,.slice a b.length cap]).run prog (W.alloc (.cells #[] 9))=.ok (Yz x b.length d) c/\Aj c W.heap.size (Yz x b.length d) b/\Zz W c:=by
 obtain⟨x,d,c,f,g,i⟩:=Pz W a cap b h j k e;exact⟨x,d,c,f,Aj.own g,i⟩
theorem PA(o now f d:Int)(b q:Nat)(P L:Value)(i:List (Kd×Value))(n:List Pd)(m:List Ld)(M K:Zk)(pc Z:Nat)(hP:P=.slice M n.length pc)(hL:L=.slice K m.length Z)(x t r:Int)(A l:Zk)(D s:Nat)(y k:Zl)(w:Zh)(R:Bi w b 0 i)(U:b<w.heap.size)(hp:AO w w.heap.size M n)(hl:AM w w.heap.size K m)(hm:Ad w w.heap.size l k)(zA:Fg l k.length s)(zE:Lt w l)(zC:n.length<=100)(zB:m.length<=200)(zN:0<=d)(zO:d<=1000000000):
 Calls prog 128 #[.agg #[Zg o,Zg now,Zg f,Zg d,Yz b i.length q,P,L],.agg (Ye 0 A y.length D l k.length s x t r)] w fun e w'=>LU w w' e o now f d P L (i.map (·.1)) n m 0 x t r y k b A l i:=by
 obtain⟨W,E⟩:=Af (((w.alloc (.cells #[Zg o,Zg now,Zg f,Zg d,Yz b i.length q,P,L] 30)).alloc (.cells (Ye 0 A y.length D l k.length s x t r) 49)).alloc (.cells Xw 211));have Q:Below w.heap.size w W:=by rw[E];exact((Zy).alloc Yu _).alloc Yt _
 have Y:W.heap.size=w.heap.size+3:=by rw[E];simp
 have x2:Aa W (w.heap.size+2) EV:=by have H:=Aa.new ((w.alloc (.cells #[Zg o,Zg now,Zg f,Zg d,Yz b i.length q,P,L] 30)).alloc (.cells (Ye 0 A y.length D l k.length s x t r) 49)) EV 211;rw[E];simpa [EV]using H
 have x1:Aa W (w.heap.size+1) (Xv 0 A y.length D l k.length s x t r):=by have H:=Aa.new (w.alloc (.cells #[Zg o,Zg now,Zg f,Zg d,Yz b i.length q,P,L] 30)) (Xv 0 A y.length D l k.length s x t r) 49;rw[World.size_alloc]at H;rw[E];exact Aa.below H (Zy)
 have x0:Aa W w.heap.size [Zg o,Zg now,Zg f,Zg d,Yz b i.length q,P,L]:=by have H:=Aa.new w [Zg o,Zg now,Zg f,Zg d,Yz b i.length q,P,L] 30;rw[E];exact Aa.below (Aa.below H (Zy)) (Zy)
 have HW:=Yw E;have zM:Hid (W.heap.size=w.heap.size+3):=Y;have zK:w.heap.size+3<=W.heap.size:=Yv
 clear E Y;obtain⟨j,I⟩:=Af (((W.setCell (Zd (w.heap.size+1) 0) (Zg 1)).setCell (Zd (w.heap.size+1) 3) (Zg d)).setCell (Zd (w.heap.size+1) 4) (Zg (d+1)));have C:Tn [w.heap.size+1] W j:=by rw[I];exact((Bl _ _ _ _).trans (Bl _ _ _ _)).trans (Bl _ _ _ _)
 have zP:W.heap.size<=j.heap.size:=C.size;have h:Below w.heap.size w j:=Q.trans (C.below Q.size Yu);have u0:Aa j w.heap.size [Zg o,Zg now,Zg f,Zg d,Yz b i.length q,P,L]:=Aa.same x0 (C.block _ Yv Yu);have u2:Aa j (w.heap.size+2) EV:=Aa.same x2 (C.block _ Yv Yu)
 have u1:Aa j (w.heap.size+1) (Xv 1 A y.length D l k.length s d (d+1) r):=by rw[I];exact((x1.set 0 _).set 3 _).set 4 _
 have S:=Yw I;have G:=Yw (Za u0 (Za u1 u2));have F:=Yw (Za R (Za hp (Za hl hm)));obtain⟨⟨r0,f0⟩,⟨r1,f1⟩,⟨r2,f2⟩,⟨r3,f3⟩,⟨r4,f4⟩,⟨r5,f5⟩⟩:=r6 x1;obtain⟨s3,_⟩:=x0 3 _ rfl;subst hP hL;clear I u0 u1 u2 R hp hl hm x0 x1 x2 C Q;go_enter func128,ntmps128;go_upto_region 1 with fail;rw[<-HW.o];clear HW;go_upto_region 5 with fail;rw[<-S.o];clear S r0 r1 r2 r3 r4 r5 f0 f1 f2 f3 f4 f5 s3
 obtain⟨t0,t1,t2,t3,t4,t5,t6⟩:=FR (AQ G.o.1);go_wp2_with fail;refine(RJ o now f d _ M K pc Z n m j (AO.mono (AO.below F.o.2.1 h) h.size) (AM.mono (AM.below F.o.2.2.1 h) h.size) zC zB).mono ?_;rintro e N ⟨g,c,rfl,V,u⟩;have k0:=FR (AQ (Aa.below G.o.1 u));have k1:=r6 (Aa.below G.o.2.1 u);have k2:=IA (Aa.below G.o.2.2 u);obtain⟨i0,i1,i2,i3,i4,i5,i6⟩:=k0
 obtain⟨⟨r0,f0⟩,⟨r1,f1⟩,⟨r2,f2⟩,⟨r3,f3⟩,⟨r4,f4⟩,⟨r5,f5⟩⟩:=k1;obtain⟨⟨y0,q0⟩,⟨y1,q1⟩,⟨y2,q2⟩,⟨y3,q3⟩,⟨y4,q4⟩,⟨y5,q5⟩,⟨y6,q6⟩,⟨y7,q7⟩,⟨y8,q8⟩,⟨y9,q9⟩,⟨zF,zS⟩,⟨zG,zT⟩,⟨zH,zU⟩,⟨zI,zV⟩,zJ,zW⟩:=k2;have T:Below w.heap.size w N:=h.trans (u.mono h.size);have zR:w.heap.size+3<=N.heap.size:=by have:=u.size;omega
 have J:Hid (Aj N (j.heap.size+1) (Yz g (DH n m).length c) (DH n m)):=Aj.own V;clear V t0 t1 t2 t3 t4 t5 t6 u;go_wp2;refine bodyPost_ret (v:=.agg #[Ze,Zg o,Zg now,Zg f,Zg d,Yz b i.length q,.slice M n.length pc,.slice K m.length Z,Zg 1,Yz g (DH n m).length c,.slice l k.length s,Zg d,Zg (d+1),Zg r,Zb]) (by simp[results,results128,go_sem,y0,y1,y2,y3,y4,y5,y6,y7,y8,y9,zF,zG,zH,zI,zJ]) rfl ?_
 have hT:=(Bl N (w.heap.size+1) 1 (Yz g (DH n m).length c)).mono (V':=[w.heap.size+1,w.heap.size+2]) Yu;refine LU.from (X:=N) [w.heap.size+1,w.heap.size+2] ?_ (hT.trans ((JY _ (w.heap.size+2) _ _ _ _ _ _ _ _ _ _ _ _ _ _ _).mono Yu));intro wf O;have B:=T.trans (O.below T.size Yu);obtain⟨a,cc,e1,hS⟩:=(J.o.K O (fun g hg e=>by have:=(J.o.Z hg).1;simp at e;omega)).row;cases e1
 exact⟨⟨⟨i.map (·.1),1,d,d+1,r,DH n m,k,[]⟩,b,q,i,_,_,none,_,_,0,rfl,.begin rfl,rfl,F.o.1.below B U,Zr U B.size,hS,F.o.2.2.2.N B,.inl rfl,⟨(fun p e=>by cases e;exact .inl rfl),Dl.own J.o Yv,(fun p e=> .inr (.inr (.inl ⟨p,e,rfl⟩))),Dl.no⟩,fun z R=>R,J.o.cap,zA,J.o.ix.mono O.size,zE.mono B.size⟩,B⟩
theorem Qr(l f d m:Int)(j h:Zk)(k i:Nat)(a c:Zl)(w:Zh)(Q:Ad w w.heap.size j a)(P:Ad w w.heap.size h c)(Y:Fg j a.length k)(X:Fg h c.length i)(zA:a.length<=100000000)(Z:c.length<=100000000):
 Calls prog 149 #[.agg (Ye l j a.length k h c.length i f d m)] w fun e H=>∃x q y s,e=.returned (.agg (Ye l (some ⟨x,0,none⟩) a.length q (some ⟨y,0,none⟩) c.length s f d m))/\
  H.ownsRow w.heap.size 9 1 (Yz x a.length q) a.length (a.map Value.string)/\H.ownsRow w.heap.size 9 1 (Yz y c.length s) c.length (c.map Value.string)/\x≠y/\Zz w H:=by
 obtain⟨W,r⟩:=Af (((w.alloc (.cells (Ye l j a.length k h c.length i f d m) 49)).alloc (.cells Yd 49)).alloc (.cells (Ye l j a.length k h c.length i f d m) 49));have A:Below w.heap.size w W:=by rw[r];exact((Zy).alloc Yu _).alloc Yt _
 have zC:w.heap.size+3<=W.heap.size:=by rw[r];simp
 have L:Aa W (w.heap.size+1+1) (Xv l j a.length k h c.length i f d m):=by rw[r];simpa using Aa.new ((w.alloc (.cells (Ye l j a.length k h c.length i f d m) 49)).alloc (.cells Yd 49)) (Xv l j a.length k h c.length i f d m) 49
 have R:Aa W (w.heap.size+1) Xu:=by have O:=Aa.new (w.alloc (.cells (Ye l j a.length k h c.length i f d m) 49)) Xu 49;rw[World.size_alloc]at O;rw[r];exact Aa.below O (Zy)
 have K:Aa W w.heap.size (Xv l j a.length k h c.length i f d m):=by rw[r];exact Aa.below (Aa.below (Aa.new w _ _) (Zy)) (Zy)
 obtain⟨x,q,I,G,B,n⟩:=Pz W j k a (Q.N A) Y.2 zA 23;have rA:(W.alloc (.cells #[] 9)).cell? (Zd (w.heap.size) 1)=some (.slice j a.length k):=((Aa.below K (Zy)) 1 _ rfl).1;obtain⟨V,E⟩:=Af (I.setCell (Zd (w.heap.size+1+1) 1) (Yz x a.length q));have zE:=n.size;have u:Tn [w.heap.size+1+1] I V:=by rw[E];exact Bl _ _ _ _
 have zG:=u.size;have z:Below w.heap.size w I:=A.trans (n.mono A.size);have t:Below w.heap.size w V:=z.trans (u.below z.size Yt);have S:Aa V w.heap.size (Xv l j a.length k h c.length i f d m):=Aa.same (Aa.below K n) (u.block _ Yv Yt);have T:Aa V (w.heap.size+1) Xu:=Aa.same (Aa.below R n) (u.block _ Yv Yu)
 have U:Aa V (w.heap.size+1+1) (Xv l (some ⟨x,0,none⟩) a.length q h c.length i f d m):=by rw[E];exact(Aa.below L n).set 1 _
 have lx:=Ac B (g:=x) rfl;have F:=Py B u (fun b hb=>by simp at hb;omega);obtain⟨y,s,J,zB,C,o⟩:=Pz V h i c (P.N t) X.2 Z 23;have rB:(V.alloc (.cells #[] 9)).cell? (Zd (w.heap.size) 2)=some (.slice h c.length i):=((Aa.below S (Zy)) 2 _ rfl).1;have ly:=Ac C (g:=y) rfl;obtain⟨⟨k0,g0⟩,⟨k1,g1⟩,⟨k2,g2⟩,⟨k3,g3⟩,⟨k4,g4⟩,⟨k5,g5⟩⟩:=r6 (Aa.below T o)
 obtain⟨⟨n0,m0⟩,⟨n1,m1⟩,⟨n2,m2⟩,⟨n3,m3⟩,⟨n4,m4⟩,⟨n5,m5⟩⟩:=r6 (Aa.below U o);obtain⟨_,⟨p1,q1⟩,_⟩:=r6 (Aa.below L n);have zF:=o.size;have D:Hid (J.ownsRow (w.heap.size+3) 9 1 (Yz x a.length q) a.length (a.map Value.string)/\J.ownsRow (w.heap.size+3) 9 1 (Yz y c.length s) c.length (c.map Value.string)/\x≠y/\Zz w J):=⟨(Ag F o).mono zC,C.mono Yv,Yv,t.trans (o.mono t.size)⟩;have N:=Yw r
 have M:=Yw E;clear r E K R L S T U F B C n o u t z Q P;go_enter func149,ntmps149;go_upto_region 2 with fail;rw[<-N.o];clear N;go_upto_region 3 with(at_builtin;refine wpList_append_run rfl _ _ 23 23 rfl rfl rfl G ?_);rw[<-M.o];clear M rA p1 q1 G;go_wp2_with (first
  |(at_builtin;refine wpList_append_run rfl _ _ 23 23 rfl rfl rfl zB ?_)
  |go_in)
 refine bodyPost_ret (v:=.agg (Ye l (some ⟨x,0,none⟩) a.length q (some ⟨y,0,none⟩) c.length s f d m)) (by simp[results,results149,go_sem,k0,k1,k2,k3,k4,k5]) rfl ⟨x,q,y,s,rfl,?_,?_,D.o.2.2.1,?_⟩
 .refine World.ownsRow.mono ?_ (show w.heap.size<=w.heap.size+3 by omega)
  iterate 7 (refine ownsRow_setCell_below ?_ Yu _)
  exact D.o.1
 .refine World.ownsRow.mono ?_ (show w.heap.size<=w.heap.size+3 by omega)
  iterate 7 (refine ownsRow_setCell_below ?_ Yu _)
  exact D.o.2.1
 .iterate 7 (refine Below.setCell ?_ Ym _)
  exact D.o.2.2.2
theorem QV.fin{V:Zh}{p g K:Int}{Q:Nat}{h:Zi}{d:Zk}{f:Nat}{L:Zl}(v:h.size<=k)(o:L.length<=j)(u:∀s∈L,s.size<=8)(r:V.ownsRow (Q+1) 9 1 (.slice d L.length f) L.length (L.map Value.string))(t:AT V b a n c g)(l:p<=g)(m:g<=p+K)(q:w.grownBy V (some b))(x:w.heap.size<Q)(y:b<w.heap.size):
 QV w ((V.setCell (Zd Q 0) (.string h)).setCell (Zd Q 1) (.slice d L.length f)) (.returned (.agg #[.string h,.slice d L.length f])) b a n c p K k j:=by
 refine⟨⟨h,_,_,L,rfl,v,o,u,?_⟩,⟨g,?_,l,m⟩,?_⟩
 .exact(ownsRow_setCell_below (ownsRow_setCell_below r (a:=⟨Q,0,none⟩) (Nat.lt_succ_self Q) _) (a:=⟨Q,1,none⟩) (Nat.lt_succ_self Q) _).mono Yv
 .exact(t.grown (AA _ Q 0 _) Yv).grown (AA _ Q 1 _) Yv
 .exact(q.andThen (AA _ Q 0 _) (fun i e=>by cases e;exact .inl Yv)).andThen (AA _ Q 1 _) (fun i e=>by cases e;exact .inl Yv)
end Go.Proofs.YtoglnpagihdhpaaGreatDoor
