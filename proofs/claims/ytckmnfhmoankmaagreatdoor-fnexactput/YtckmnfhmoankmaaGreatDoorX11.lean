import Derived.Test.YtckmnfhmoankmaaGreatDoorX08
import Derived.Test.YtckmnfhmoankmaaGreatDoorX07
import Derived.Test.YtckmnfhmoankmaaGreatDoorX04
set_option maxRecDepth 100000
set_option maxHeartbeats 16000000
namespace Go.Proofs.YtckmnfhmoankmaaGreatDoor
open Go.ChangeShapes Go.WideShapes Go.ChangeAt Go.RowKit _root_.Go.Proofs.Tryz
def BH(w:Zh)(b off:Nat)(zs:List (Kd×Value)):Prop:=
 ∀i z,zs[i]?=some z->(w.cell? (Ze b (off+i *4))=some (.string z.1.sum)/\w.cell? (Ze b (off+i *4+1))=some (Zg z.1.born)/\w.cell? (Ze b (off+i *4+2))=some (.string z.1.text)/\w.cell? (Ze b (off+i *4+3))=some z.2)/\∃ad rc,z.2=.slice (some ad) z.1.refs.length rc/\Ad w w.heap.size (some ad) z.1.refs
theorem BH.below{w e:Zh}{b a:Nat}{f:List (Kd×Value)}(h:BH w b a f)(c:Zz w e)(d:b<w.heap.size):BH e b a f:=by intro i z q;obtain⟨⟨j,k,l,m⟩,g,r,n,o⟩:=h i z q;exact⟨⟨(c.cell (p:=⟨b,a+i *4,none⟩) d).trans j,(c.cell (p:=⟨b,a+i *4+1,none⟩) d).trans k,(c.cell (p:=⟨b,a+i *4+2,none⟩) d).trans l,(c.cell (p:=⟨b,a+i *4+3,none⟩) d).trans m⟩,g,r,n,Ad.mono (Ad.below o c) c.size⟩
theorem BH.dh{w:Zh}{b c:Nat}{d:List (Kd×Value)}(h:BH w b c d)(o:b<w.heap.size):BF w w.heap.size (some ⟨b,c,none⟩) (d.map (·.1)):=by
 refine .inr ⟨b,c,rfl,o,fun i k a=> ?_⟩;rw[List.getElem?_map]at a;cases hz:d[i]? with
 |none=>rw[hz]at a;cases a
 |some z=>rw[hz]at a;cases a;obtain⟨⟨f,g,j,l⟩,e,p,m,n⟩:=h i z hz;exact⟨f,g,j,some e,p,by rw[l,m],n⟩
theorem BH.own{w:Zh}{base g e:Nat}{a:List (Kd×Value)}(h:w.ownsRow base 137 4 (Za g a.length e) a.length (Ab kC a))(k:∀z∈a,∃d l,z.2=.slice (some d) z.1.refs.length l/\Ad w w.heap.size (some d) z.1.refs):BH w g 0 a:=by
 intro i z c;have m:=(Zw c).1;have b:∀j,j<4->w.cell? (Ze g (i *4+j))=(kC z)[j]?:=fun j f=>(h.cellAt (i *4+j) (by omega)).trans (Bz Ej c f);refine⟨⟨?_,?_,?_,?_⟩,k z (Zs c)⟩
 ·rw[Nat.zero_add];simpa [kC]using b 0 (by decide)
 ·rw[Nat.zero_add];simpa [kC]using b 1 (by decide)
 ·rw[Nat.zero_add];simpa [kC]using b 2 (by decide)
 ·rw[Nat.zero_add];simpa [kC]using b 3 (by decide)
def Ce(zs:List (Kd×Value))(s:Zi):List (Kd×Value):=zs.filter (fun z=> !decide (z.1.sum=s))
theorem ML(a:List (Kd×Value))(s:Zi):(Ce a s).map (·.1)=EP (a.map (·.1)) s:=by unfold Ce EP;rw[List.filter_map];rfl
theorem Ro{a:List (Kd×Value)}{k:Nat}{z:Kd×Value}(s:Zi)(c:a[k]?=some z):Ce (a.take (k+1)) s=Ce (a.take k) s++(if z.1.sum=s then []else [z]):=by obtain⟨b,rfl⟩:=Zw c;unfold Ce;rw[Zu b,List.filter_append];by_cases h:a[k].1.sum=s<;>simp[h]
theorem BG{w:Zh}{b:Nat}{c a given ae:Int}{T P L:Value}(h:Aa w b [Zg c,Zg a,Zg given,Zg ae,T,P,L]):Bb w b c a given ae T P L:=
 ⟨(h 0 _ rfl).1,(h 1 _ rfl).1,(h 2 _ rfl).1,(h 3 _ rfl).1,(h 4 _ rfl).1,(h 5 _ rfl).1,(h 6 _ rfl).1,h.lt⟩
def Ls(ps:List Pd)(ls:List Ld)(ks:List Kd)(s:Zi):Prop:=((∃p∈ps,p.sum=s)∨∃l∈ls,l.sum=s)∨∃k∈ks,s∈k.refs
def Qf(w w':Zh)(e:Ending)(wd now given ae:Int)(P L:Value)(zs:List (Kd×Value))(ps:List Pd)(ls:List Ld)(s:Zi):Prop:=
 Below w.heap.size w w'/\((Ls ps ls (zs.map (·.1)) s/\e=.returned (.agg #[Zg 6,Zf,Zf,Zf,Zf,Zc,Zc,Zc,Zd,Zf,Zd,Zd]))∨
  (¬Ls ps ls (zs.map (·.1)) s/\∃g c,e=.returned (.agg #[Zf,Zg wd,Zg now,Zg given,Zg ae,.slice (some ⟨g,0,none⟩) (Ce zs s).length c,P,L,Zd,Zf,Zd,Zd])/\BH w' g 0 (Ce zs s)/\w.heap.size<=g/\g<w'.heap.size))
theorem Rp(r d given ae:Int)(b o H C B:Nat)(p l:Zk)(a:List (Kd×Value))(m:List Pd)(f:List Ld)(s:Zi)(w:Zh)(E:BH w b o a)(zW:b<w.heap.size)(hp:Ba w w.heap.size p m)(hl:Be w w.heap.size l f)(xA:a.length<=600)(yX:m.length<=100)(yW:f.length<=200)(hr:∀z∈a,z.1.refs.length<=1000)(yB:Ay (a.map (·.1)) s):
 Calls prog 88 #[.agg (Ys r d given ae (some ⟨b,o,none⟩) a.length H p m.length C l f.length B),.string s] w fun e w'=>Qf w w' e r d given ae (.slice p m.length C) (.slice l f.length B) a m f s:=by
 obtain⟨W,P⟩:∃W,W=(w.alloc (.cells (Ys r d given ae (some ⟨b,o,none⟩) a.length H p m.length C l f.length B) 43)).alloc (.cells Yl 90):=⟨_,rfl⟩;have hB:=(Bj P).1;have yZ:=(Bj P).2.1;have xW:Bb W w.heap.size r d given ae (.slice (some ⟨b,o,none⟩) a.length H) (.slice p m.length C) (.slice l f.length B):=by rw[P];exact Bb.ak (Bb.new w r d given ae _ _ _ 43) (Zy) (by simp)
 have zR:Aa W (w.heap.size+1) z12:=by have h1:=Aa.new (w.alloc (.cells (Ys r d given ae (some ⟨b,o,none⟩) a.length H p m.length C l f.length B) 43)) z12 90;rw[World.size_alloc]at h1;rw[P];exact h1
 have HF:=Fj r d given ae (some ⟨b,o,none⟩) H (.slice p m.length C) (.slice l f.length B) (a.map (·.1)) s W w.heap.size (BF.below (E.dh zW) hB) hB.size (by rw[List.length_map];omega);rw[List.length_map]at HF;have yV:0<=CR (a.map (·.1)) s:=by
  rcases Fc (a.map (·.1)) s with⟨_,hn⟩|⟨i,k,e,_⟩
  ·exact absurd yB hn
  ·omega
 have zI:=Yx HF;have yJ:=Yx zR;have yF:Hid (Aa W _ _):=(Bj P).2.2.1;have yE:w.heap.size+1<W.heap.size:=by omega
 have HZ:=Yx E;have zM:=Yx (Zn hp hl);have HW:=Yx P;have zP:=Yx xW;clear P E hp hl zR HF yB;obtain⟨x0,x1,x2,x3,x4,x5,x6,x7⟩:=xW;go_enter func88,ntmps88;go_upto_region 1 with fail;rw[←HW.o];clear HW;go_wp2_with fail;refine Calls.mono zI.o ?_;rintro e w1 ⟨rfl,L⟩;have yT:¬CR (a.map (·.1)) s<0:=by omega
 have zE:=Yx (Bb.below zP.o L);obtain⟨Q,R,S,U,X,Y,Z,y7⟩:=zE.o;have G:Below w.heap.size w w1:=hB.trans (L.mono hB.size);clear x0 x1 x2 x3 x4 x5 x6 zI;generalize CR (a.map (·.1)) s=fi at *
 go_wp2_with fail;refine(QH r d given ae (.slice (some ⟨b,o,none⟩) a.length H) p l C B m f s w1 (Ba.mono (Ba.below zM.o.1 G) G.size) (Be.mono (Be.below zM.o.2 G) G.size) (by omega) (by omega)).mono ?_;rintro e F ⟨ok,rfl,zZ,M⟩;have zA:Below w.heap.size w F:=G.trans (M.mono G.size);have zO:=Yx (Bb.below zE.o M);have z2:Aa F (w.heap.size+1) z12:=Aa.below (v:=Zf) (Aa.below (v:=Zf) yJ.o L) M
 have zF:=Yx z2;have zK:=Yx zZ;clear zZ Q R S U X Y Z z2;cases ok
 ·obtain⟨v0,v1,v2,v3,v4,v5,v6,v7⟩:=zO.o;have yN:w.heap.size+2<=F.heap.size:=by have:=L.size;have:=M.size;omega
  have bA:Below F.heap.size F (F.alloc (.cells #[] 137)):=Zy;go_wp2
  go_loopw [5,6] (fun v i wr=>∃(k g c:Nat),k<=a.length/\i=Zg k/\v=Za g (Ce (a.take k) s).length c/\Hid (wr.ownsRow (w.heap.size+2) 137 4 (Za g (Ce (a.take k) s).length c) (Ce (a.take k) s).length (Ab kC (Ce (a.take k) s))/\(∀z∈a.take k,¬s∈z.1.refs)/\Aa wr w.heap.size (Yt r d given ae (some ⟨b,o,none⟩) a.length H p m.length C l f.length B)/\Aa wr (w.heap.size+1) z12/\Zz w wr)) (fun _ i _=>a.length -(intOf i).toNat)
  case atStart=>
   refine⟨0,F.heap.size,0,Nat.zero_le _,rfl,by simp[Ce],⟨?_,(fun z E=>by simp at E),Aa.below (Aa.below (Aa.below yF.o L) M) bA,Aa.below (v:=Zf) zF.o bA,zA.trans (bA.mono zA.size)⟩⟩;have:=World.ownsRow_lit (base:=w.heap.size+2) (e:=137) (size:=4) F #[] 0 yN (by unfold maxLen;omega) rfl;simpa [Ce,Ab]using this
  case round=>
   clear zE zP zF zO v0 v1 v2 v3 v4 v5 v6 v7 bA;obtain⟨k,g,c,hk,rfl,rfl,t⟩:=hrel;obtain⟨v0,v1,v2,v3,v4,v5,v6,v7⟩:=BG t.o.2.2.1;have n:=t.o.2.2.2.2;have xB:=n.size;by_cases hlt:k<a.length
   ·have HG:Hid (a[k]?=some a[k]):=Zv hlt;obtain⟨⟨c0,c1,c2,c3⟩,I,J,h4,h5⟩:=(BH.below HZ.o n zW) k _ HG.o;have yY:=hr _ (List.getElem_mem hlt);have zN:=Yx (Ro s HG.o);have yS:b<wr.heap.size:=by omega
    have yH:=Yx h5;have yI:Hid (a.take (k+1)=a.take k++[a[k]]):=Zu hlt;rw[h4]at c3;have H4:=Yx h4;clear h5 h4;generalize a[k]=z at *
    have yU:(Ce (a.take k) s).length<=600:=by have:=List.length_filter_le (fun z:Kd×Value=> !decide (z.1.sum=s)) (a.take k);unfold Ce;rw[List.length_take]at this;omega
    go_wp2_with fail;refine(LK (some I) J z.1.refs s wr wr.heap.size yH.o (by omega)).mono ?_;rintro e w3 ⟨rfl,rfl⟩;by_cases hin:s∈z.1.refs
    ·have hd:z.1.refs.any (fun x=>decide (x=s))=true:=by simpa using hin
     rw[hd];obtain⟨⟨Q,q0⟩,⟨R,q1⟩,⟨S,q2⟩,⟨U,q3⟩,⟨X,q4⟩,⟨Y,q5⟩,⟨Z,q6⟩,⟨y7,q7⟩,⟨y8,q8⟩,⟨y9,q9⟩,⟨N,yC⟩,O,yD⟩:=AZ t.o.2.2.2.1;have yK:=Yx hin;clear hin hd c0 c1 c2 c3 v0 v1 v2 v3 v4 v5 v6;go_wp2
     refine bodyPost_ret (v:=.agg (Yk 6)) (by simp[results,results88,go_sem,Q,R,S,U,X,Y,Z,y7,y8,y9,N,O]) rfl ⟨n.trans (Tn.below (Bq _ (w.heap.size+1) _ _ _ _ _ _ _ _ _ _ _ _) n.size (by simp)),.inl ⟨.inr ⟨z.1,List.mem_map.2 ⟨z,Zs HG.o,rfl⟩,yK.o⟩,rfl⟩⟩
    ·have hd:z.1.refs.any (fun x=>decide (x=s))=false:=by rw[List.any_eq_false];intro x hx e;exact hin (of_decide_eq_true e▸hx)
     rw[hd];have zJ:Hid (∀y∈a.take (k+1),¬s∈y.1.refs):=by
      rw[yI.o];intro y hy;rcases List.mem_append.1 hy with hy|hy
      ·exact t.o.2.1 y hy
      ·simp at hy;rw[hy];exact hin
     clear hin hd;by_cases hzs:z.1.sum=s
     ·have hq:(z.1.sum.toList !=s.toList)=false:=by rw[hzs];simp
      have yA:(z.1.sum.toList==s.toList)=true:=by rw[hzs];simp
      have D:=zN.o;rw[if_pos hzs,List.append_nil]at D;have K:=Yx D;clear D hzs;go_wp2;exact⟨⟨k+1,g,c,by omega,by go_num,by rw[K.o],⟨by rw[K.o];exact t.o.1,zJ.o,t.o.2.2⟩⟩,by simp[intOf];omega⟩
     ·have yA:(z.1.sum.toList==s.toList)=false:=Ca hzs;have hq:(z.1.sum.toList !=s.toList)=true:=by simp[bne,yA]
      have D:=zN.o;rw[if_neg hzs]at D;have K:=Yx D;clear D hzs;obtain⟨i0,hi,yO,yP,zC⟩:=info_parts GR;have zY:=Ac t.o.1 (g:=g) rfl;go_wp2_with (first
       |(at_builtin;refine wpList_append_own_at _ rfl _ _ 39 rfl (w.heap.size+2) 137 i0 _ 4 64 underlying39 hi yO yP zC rfl (by decide) _ (Ce (a.take k) s).length (Ab kC (Ce (a.take k) s)) rfl ?d0 ⟨w3.heap.size,0,none⟩ 1 1 (kC (z.1,.slice (some I) z.1.refs.length J)) rfl rfl ?d2 ?d3 ?d4 ?d5 ?d6 ?_)
       |go_in)
      case d0=>exact Ag t.o.1 (Zy)
      case d2=>
       intro j u hu;rw[Go.WideShapes.add_plain,Nat.zero_add];exact((Aa.new w3 (kC (z.1,.slice (some I) z.1.refs.length J)) 137) j u hu).1
      case d3=>
       intro u hu;simp[kC]at hu;rcases hu with rfl|rfl|rfl|rfl<;>rfl
      case d4=>unfold maxLen;omega
      case d5=>omega
      case d6=>simp;omega
      intro v4 w4 zB zX yM yL;obtain⟨g4,c4,rfl,yQ,yR⟩:=Cp zB (fun e=>by subst e;rcases zB.2 with⟨_,hn⟩|⟨_,_,_,e,_⟩<;>first|omega|cases e);have b4:Below w3.heap.size w3 (w3.alloc (.cells #[.string z.1.sum,Zg z.1.born,.string z.1.text,.slice (some I) z.1.refs.length J] 137)):=Zy;have A:w3.grownBy w4 (some g):=Aw (AA _ b4) zX;have zC:z.2=.slice (some I) z.1.refs.length J:=H4.o
      have zH:(Ce (a.take (k+1)) s).length=(Ce (a.take k) s).length+1:=by rw[K.o];simp
      have zU:Ab kC (Ce (a.take (k+1)) s)=Ab kC (Ce (a.take k) s)++kC (z.1,.slice (some I) z.1.refs.length J):=by rw[K.o,Bt,←zC];simp[Ab]
      have HF:Hid (w4.ownsRow (w.heap.size+2) 137 4 (Za g4 (Ce (a.take (k+1)) s).length c4) (Ce (a.take (k+1)) s).length (Ab kC (Ce (a.take (k+1)) s))/\(∀y∈a.take (k+1),¬s∈y.1.refs)/\Aa w4 w.heap.size (Yt r d given ae (some ⟨b,o,none⟩) a.length H p m.length C l f.length B)/\Aa w4 (w.heap.size+1) z12/\Zz w w4):=by
       refine⟨by rw[zH,zU];exact zB,zJ.o,?_,?_,n.grown A (by omega) (fun q hq=>by cases hq;omega)⟩
       ·exact Aa.co t.o.2.2.1 A (by omega)
       ·exact Aa.co (v:=Zf) t.o.2.2.2.1 A (by omega)
      clear zB zX A yM yL b4 zU zC c0 c1 c2 c3 v0 v1 v2 v3 v4 v5 v6;have yG:=Yx zH;clear zH;go_wp2;exact⟨⟨k+1,g4,c4,by omega,by go_num,by rw[yG.o],HF⟩,by simp[intOf];omega⟩
   ·obtain rfl:k=a.length:=by omega
    have zV:=t.o;rw[Zt (Zx)]at zV;obtain⟨h1,h2,h3,h4,h5⟩:=zV;have zY:=Ac h1 (g:=g) rfl;have HE:=Yx (Zn h1 (Zn h2 h5));obtain⟨⟨Q,q0⟩,⟨R,q1⟩,⟨S,q2⟩,⟨U,q3⟩,⟨X,q4⟩,⟨Y,q5⟩,⟨Z,q6⟩,⟨y7,q7⟩,⟨y8,q8⟩,⟨y9,q9⟩,⟨N,yC⟩,O,yD⟩:=AZ h4;have f4:=(h3 4 _ rfl).2;have H3:=Yx h3;clear h1 h2 h3 h4 h5;rw[Zt (Zx)];go_wp2
    have T:∀a0 a1 a2 a3 a4 a5 a6 a7 a8 a9 zS zT c4,Tn [w.heap.size,w.heap.size+1] wr _:=fun a0 a1 a2 a3 a4 a5 a6 a7 a8 a9 zS zT c4=>(Tn.set (V:=[w.heap.size,w.heap.size+1]) wr w.heap.size 4 c4 (by simp)).trans (Tn.mono (Bq (wr.setCell (Ze (w.heap.size) 4) c4) (w.heap.size+1) a0 a1 a2 a3 a4 a5 a6 a7 a8 a9 zS zT) (by simp))
    refine bodyPost_ret (v:=.agg #[Zf,Zg r,Zg d,Zg given,Zg ae,Za g (Ce a s).length c,.slice p m.length C,.slice l f.length B,Zd,Zf,Zd,Zd]) (by simp[results,results88,go_sem,Q,R,S,U,X,Y,Z,y7,y8,y9,N,O]) rfl ?_;have T':=T Zf (Zg r) (Zg d) (Zg given) (Zg ae) (Za g (Ce a s).length c) (.slice p m.length C) (.slice l f.length B) Zd Zf Zd Zd (Za g (Ce a s).length c)
    have zG:=HE.o.2.2.trans (Tn.below T' HE.o.2.2.size (by simp));refine⟨zG,.inr ⟨?_,g,c,rfl,BH.own (Ak HE.o.1 (fun q hq=>T'.block q (Ac HE.o.1 hq).2 (by have:=(Ac HE.o.1 hq).1;simp;omega))) (fun z E=> ?_),by omega,Zr zY.2 T'.size⟩⟩
    ·rintro(h|⟨x,hx,hs⟩)
     ·have:=zK.o.2 h;simp at this
     ·obtain⟨z,E,rfl⟩:=List.mem_map.1 hx;exact HE.o.2.1 z E hs
    ·obtain⟨i,hi⟩:=List.getElem?_of_mem (List.mem_filter.1 E).1;obtain⟨_,I,J,e,hs⟩:=HZ.o i z hi;exact⟨I,J,e,Ad.mono (Ad.below hs zG) zG.size⟩
 ·obtain⟨⟨Q,q0⟩,⟨R,q1⟩,⟨S,q2⟩,⟨U,q3⟩,⟨X,q4⟩,⟨Y,q5⟩,⟨Z,q6⟩,⟨y7,q7⟩,⟨y8,q8⟩,⟨y9,q9⟩,⟨N,yC⟩,O,yD⟩:=AZ zF.o;go_wp2;refine bodyPost_ret (v:=.agg (Yk 6)) (by simp[results,results88,go_sem,Q,R,S,U,X,Y,Z,y7,y8,y9,N,O]) rfl ⟨zA.trans (Tn.below (Bq F (w.heap.size+1) _ _ _ _ _ _ _ _ _ _ _ _) zA.size (by simp)),.inl ⟨.inl (zK.o.1 trivial),rfl⟩⟩
def Al(w:Zh)(base:Nat)(v:Value)(ss:Zl):Prop:=
 (v=Zc/\ss=[])∨∃g off cap,v=.slice (some ⟨g,off,none⟩) ss.length cap/\base<=g/\g<w.heap.size/\ss.length<=cap/\cap<=maxLen/\
   (∀j,j<cap->(w.cell? (Ze g (off+j))).isSome=true/\w.frozen? ⟨g,off+j,none⟩=false)/\
   ∀i s,ss[i]?=some s->w.cell? (Ze g (off+i))=some (.string s)
theorem Al.nil(w:Zh)(base:Nat):Al w base Zc []:=.inl ⟨rfl,rfl⟩
theorem Al.own{w:Zh}{base:Nat}{v:Value}{b:Zl}(h:w.ownsRow base 9 1 v b.length (b.map Value.string)):Al w base v b:=by
 rcases h.2 with⟨rfl,p⟩|⟨g,k,c,rfl,l,d,m,o,e,q⟩
 ·exact .inl ⟨rfl,List.eq_nil_of_length_eq_zero p⟩
 ·have n:=(Array.getElem?_eq_some_iff.1 d).1;have a:∀j,w.cell? (Ze g (0+j))=c[j]?:=fun j=>by rw[Nat.zero_add];simp[World.cell?,d]
  refine .inr ⟨g,0,k,rfl,l,n,m,o,fun j t=>⟨?_,?_⟩,fun i s e=> ?_⟩
  ·rw[a,Array.getElem?_eq_getElem (by omega)];rfl
  ·simp[World.frozen?,d]
  ·have r:=(Zw e).1;rw[a];have f:(c.toList.take (b.length *1))[i]?=some (.string s):=by rw[q];simp[e]
   rw[List.getElem?_take_of_lt (by omega)]at f;simpa using f
theorem Al.row{w:Zh}{base:Nat}{v:Value}{c:Zl}(h:Al w base v c):∃a b,v=.slice a c.length b/\Ad w w.heap.size a c:=by
 rcases h with⟨rfl,rfl⟩|⟨g,d,b,rfl,i,e,_,_,_,f⟩
 ·exact⟨none,0,rfl,.inl rfl⟩
 ·exact⟨_,b,rfl,.inr ⟨g,d,rfl,e,f⟩⟩
theorem Al.stays{w b:Zh}{base:Nat}{v:Value}{e:Zl}(h:Al w base v e)(r:w.heap.size<=b.heap.size)(a:∀g,Ao v=some g->b.heap[g]?=w.heap[g]?):Al b base v e:=by
 rcases h with h|⟨g,k,f,rfl,l,q,m,n,c,o⟩
 ·exact .inl h
 ·exact .inr ⟨g,k,f,rfl,l,by omega,m,n,fun j d=>⟨by rw[World.cell?_of_block (a g rfl)];exact(c j d).1,by rw[World.frozen?_of_block (a g rfl)];exact(c j d).2⟩,fun i s p=>(World.cell?_of_block (a g rfl)).trans (o i s p)⟩
theorem Al.cg{w:Zh}{base:Nat}{v:Value}{d:Zl}(h:Al w base v d){g:Nat}(a:Ao v=some g):base<=g/\g<w.heap.size:=by
 rcases h with⟨rfl,_⟩|⟨i,f,e,rfl,b,c,_⟩
 ·cases a
 ·cases a;exact⟨b,c⟩
theorem Al.below{w c:Zh}{base:Nat}{v:Value}{b:Zl}(h:Al w base v b)(a:Zz w c):Al c base v b:=
 h.stays a.size (fun g e=>a.block g (h.cg e).2)
theorem Al.al{w c:Zh}{V:List Nat}{base:Nat}{v:Value}{b:Zl}(h:Al w base v b)(a:Tn V w c)(d:∀g,Ao v=some g->g∉V):Al c base v b:=
 h.stays a.size (fun g e=>a.block g (h.cg e).2 (d g e))
theorem Al.mono{w:Zh}{base base':Nat}{v:Value}{a:Zl}(h:Al w base v a)(e:base'<=base):Al w base' v a:=by
 rcases h with h|⟨g,c,b,rfl,d,rest⟩
 ·exact .inl h
 ·exact .inr ⟨g,c,b,rfl,by omega,rest⟩
theorem Al.fresh(w:Zh)(base:Nat)(b:Zl)(c:Nat)(z:Array Value)(g:base<=w.heap.size)(e:b.length<=c)(f:c<=maxLen)(k:z.size=c -b.length):
 Al (w.drew.alloc (.cells ((b.map Value.string).toArray++z) 9)) base (Za w.heap.size b.length c) b:=by
 have a:∀j,(w.drew.alloc (.cells ((b.map Value.string).toArray++z) 9)).cell? (Ze (w.heap.size) (0+j))=((b.map Value.string).toArray++z)[j]?:=fun j=>by rw[Nat.zero_add];show(w.drew.alloc (.cells ((b.map Value.string).toArray++z) 9)).cell? (Ze (w.drew.heap.size) j)=_;rw[World.cell?_alloc_at _ _ _ _ rfl]
 refine .inr ⟨w.heap.size,0,c,rfl,g,by simp,e,f,fun j l=>⟨?_,?_⟩,fun i s d=> ?_⟩
 ·rw[a,Array.getElem?_eq_getElem (by simp[k];omega)];rfl
 ·simp[go_sem]
 ·have h:=(Zw d).1;rw[a,Array.getElem?_append_left (by simpa using h)];simp[d]
theorem WH(w:Zh)(base:Nat)(v:Value)(a:Zl)(V:Al w base v a)(p:Addr)(A:Nat)(t:Zi)(B:w.cell? p=some (.string t))(X:a.length<=100000000)(r:base<=w.heap.size)(C:TypeId):
 ∃c d,(Builtin.append_ #[22,22] C #[v,.slice (some p) 1 A]).run prog w=.ok c d/\Al d base c (a++[t])/\w.grownBy d (Ao v)/\(Ao c=Ao v∨Ao c=some w.heap.size):=by
 obtain⟨i,K,Q,n,R⟩:=info_parts CP;have o:Src prog i.size 22 (.slice (some p) 1 A) 1 [.string t] w:=by
  rw[n];exact Src.ofSlice w underlying22 p 1 A [.string t] rfl (fun j u l=>by
   match j,l with
   |0,l=>cases l;rw[show p.add 0=p from by cases p;simp[Addr.add]];exact B) (by simp[Value.oneCell'])
 have grow:∀(z:Zk) (b:Nat),b<a.length+1->(Builtin.firstCells i.size a.length (.slice z a.length b)).run prog w.drew=.ok (a.map Value.string).toArray w.drew->
  ∃c d,(Builtin.append_ #[22,22] C #[.slice z a.length b,.slice (some p) 1 A]).run prog w=.ok c d/\Al d base c (a++[t])/\(∀row,w.grownBy d row)/\Ao c=some w.heap.size:=by
  intro z b E hold;have h:=run_append_grow_src w _ _ C _ i _ underlying22 K Q z a.length b (a.map Value.string) hold _ 1 [.string t] o E (by omega) (by
   have:=nextslicecap_le E;rw[R];omega)
  rw[show a.map Value.string++[.string t]=(a++[t]).map Value.string by simp]at h;have L:=grownCap_ge w (a.length+1) b 9;have O:=grownCap_le_maxLen w (a.length+1) b 9 (by unfold maxLen;omega)
  have D:=Al.fresh w base (a++[t]) (grownCap w (a.length+1) b 9) (Builtin.zeroCells (Value.string ⟨#[]⟩).cells (grownCap w (a.length+1) b 9 -(a.length+1))) r (by simpa using L) O (by rw[size_zeroCells,List.length_append];simp[Value.cells]);rw[List.length_append]at D;exact⟨_,_,h,D,fun row=>⟨rfl,rfl,rfl,by simp,fun k J _=>heap_alloc_old w.drew _ J⟩,rfl⟩
 rcases V with⟨rfl,rfl⟩|⟨g,q,b,rfl,S,U,W,T,x,B⟩
 ·obtain⟨c,d,h,G,H,I⟩:=grow none 0 (by simp) (run_firstCells_none w.drew _ _ _ _);exact⟨c,d,h,G,H _,.inr I⟩
 ·by_cases hroom:a.length+1<=b
  ·have y:∀j,j<[Value.string t].length->(a.length *1+j)<b:=fun j f=>by simp at f;omega
   have h:=run_append_room_src w _ _ C _ i underlying22 K g q a.length b _ 1 [.string t] o hroom (fun j f=>by rw[n,Nat.add_assoc];exact(x _ (y j f)).1) (fun j f=>by rw[n,Nat.add_assoc];exact(x _ (y j f)).2);rw[n]at h
   refine⟨_,_,h,.inr ⟨g,q,b,by rw[List.length_append];rfl,S,by rw[Hq];exact U,by rw[List.length_append];exact hroom,T,fun j f=>⟨?_,?_⟩,fun k s m=> ?_⟩,⟨World.os_setCells _ _ _ _,Mp _ _ _ _,World.output_setCells _ _ _ _,by rw[Hq];exact Zx,fun k J P=>World.heap_setCells_other _ _ _ _ J (fun e=>P (by rw[e];rfl))⟩,.inl rfl⟩
   ·exact JS _ _ _ _ _ (x j f).1
   ·rw[World.frozen?_setCells];exact(x j f).2
   ·rcases Nat.lt_or_ge k a.length with F|F
    ·rw[List.getElem?_append_left F]at m;rw[World.cell?_setCells_out _ _ _ _ _ (fun _ _=> .inl (by simp;omega))];exact B k s m
    ·rw[List.getElem?_append_right F]at m;have N:k=a.length:=by have:=(Zw m).1;simp at this;omega
     subst N;simp at m;subst m;have M:=World.cell?_setCells_in g [.string t] (q+a.length *1) w (fun j f=>by rw[Nat.add_assoc];exact(x _ (y j f)).1) 0 (by simp);simpa using M
  ·obtain⟨c,d,h,G,H,I⟩:=grow (some ⟨g,q,none⟩) b (by omega) (run_firstCells_some w.drew _ _ _ _ _ _ (by rw[n];simp) (by
    intro j u l;obtain⟨s,m,rfl⟩:∃s,a[j]?=some s/\u=.string s:=by
     rw[List.getElem?_map]at l;cases e:a[j]? with
     |none=>rw[e]at l;cases l
     |some s=>rw[e]at l;cases l;exact⟨s,rfl,rfl⟩
    rw[Go.WideShapes.add_plain];exact B j s m))
   exact⟨c,d,h,G,H _,.inr I⟩
theorem Al.set{w:Zh}{base g a n b:Nat}{k:Zl}(h:Al w base (.slice (some ⟨g,a,none⟩) n b) k){j:Nat}(v:j<k.length)(t:Zi):Al (w.setCell (Ze g (a+j)) (.string t)) base (.slice (some ⟨g,a,none⟩) n b) (k.set j t):=by
 rcases h with⟨e,_⟩|⟨x,m,l,e,o,p,q,r,c,u⟩
 ·cases e
 ·cases e;refine .inr ⟨g,a,b,by rw[List.length_set],o,by simpa using p,by rw[List.length_set];exact q,r,fun i f=>⟨?_,?_⟩,fun i s d=> ?_⟩
  ·exact(NA.setCell w g (a+j) (.string t) g (a+i) (c i f).1).1
  ·exact(NA.setCell w g (a+j) (.string t) g (a+i) (c i f).1).2 (c i f).2
  ·by_cases hij:i=j
   ·subst hij;rw[List.getElem?_set_self v]at d;cases d;exact World.cell?_setCell_same' _ _ _ (c i (by omega)).1
   ·rw[List.getElem?_set_ne (fun e=>hij e.symm)]at d;exact(World.cell?_setCell_other w _ _ _ (by simp<;>omega)).trans (u i s d)
theorem Rq(k i:Nat)(a:Zl)(h:i<a.length):(marks k i++a.drop i).set i (BZ (k+i))=marks k (i+1)++a.drop (i+1):=by have b:=BS k i;rw[List.set_append_right _ _ (by omega),b,Nat.sub_self,List.drop_eq_getElem_cons h,Zp];simp[marks,List.range_succ]
theorem HJ(base k:Nat)(V:Value)(d:Zl)(w:Zh)(h:Al w base V d)(T:1<=k)(H:k+d.length<=100000000):
 Calls prog 36 #[V,Zg k] w fun e G=>e=.returned (Zg (k+d.length:Nat))/\Al G base V (marks k d.length)/\w.grownBy G (Ao V):=by
 obtain⟨a,o,rfl,_⟩:=h.row;have D:Hid (Al w base (.slice a d.length o) d):=h;obtain⟨n,A⟩:∃n,n=d.length:=⟨_,rfl⟩;rw[←A]at D H ⊢;have x:=Yx A;clear h A;go_enter func36,ntmps36;go_wp2
 go_loopw [1,5] (fun v i wr=>∃(j:Nat),j<=n/\i=Zg j/\v=Zg (k+j)/\Hid (Al wr base (.slice a n o) (marks k j++d.drop j)/\w.grownBy wr (Ao (.slice a n o)))) (fun _ i _=>n -(intOf i).toNat)
 case atStart=>exact⟨0,Nat.zero_le _,rfl,by simp,by simpa [marks]using D.o,EJ _ _⟩
 case round=>
  obtain⟨j,S,rfl,rfl,l⟩:=hrel;by_cases hlt:j<n
  ·have q:(marks k j++d.drop j).length=n:=by rw[List.length_append,BS,List.length_drop];have:=x.o;omega
   obtain⟨g,b,rfl,f,s⟩:∃g b,a=some ⟨g,b,none⟩/\(∀X,Zz wr X->(X.cell? (Ze g (b+j))).isSome=true)/\(∀X,Zz wr X->X.frozen? ⟨g,b+j,none⟩=false):=by
    rcases l.o.1 with⟨e,L⟩|⟨g,b,I,e,O,E,P,Q,F,R⟩
    ·rw[L]at q;simp at q;omega
    ·cases e;refine⟨g,b,rfl,fun X z=> ?_,fun X z=> ?_⟩
     ·rw[z.cell (p:=⟨g,b+j,none⟩) E];exact(F j (by omega)).1
     ·rw[z.frozen (p:=⟨g,b+j,none⟩) E];exact(F j (by omega)).2
   have c:=Fv (k+j) wr (by omega) (by omega);rw[show((k+j:Nat):Int)=(k:Int)+j from by omega]at c;have J:(j:Int)<n:=by omega
   have u:=Yx (Zn f s);clear f s;go_wp2_with fail;refine c.mono ?_;rintro e B ⟨rfl,m⟩;obtain⟨v0,M⟩:=Option.isSome_iff_exists.1 (u.o.1 B m);have N:=u.o.2 B m;have r:=(l.o.1.below m).set (j:=j) (by rw[q];exact hlt) (BZ (k+j));rw[Rq k j d (by have:=x.o;omega)]at r;have t:=Aw l.o.2 (Aw (AA _ m) (SQ B g (b+j) (.string (BZ (k+j)))));have C:=Yx (Zn r t);clear r t l c u;go_wp2
   exact⟨⟨j+1,by omega,by go_num,by go_num,C.o.1,C.o.2⟩,by simp[intOf];omega⟩
  ·obtain rfl:j=n:=by omega
   have y:=l.o.1;rw[List.drop_of_length_le (by have:=x.o;omega),List.append_nil]at y;have K:=Yx y;clear y;go_wp2;go_ret;exact⟨by go_num,K.o,l.o.2⟩
theorem Rr(p ag m q:Int)(base k:Nat)(Q M:Value)(a c:Zl)(w:Zh)(u:Al w base Q a)(v:Al w base M c)(z:∀g,Ao Q=some g->Ao M≠some g)(S:1<=k)(V:k+a.length+c.length<=100000000):
 Calls prog 35 #[.agg #[Zg p,Q,M,Zg ag,Zg m,Zg q],Zg k] w fun e F=>e=.returned (Zg (k+a.length+c.length:Nat))/\Al F base Q (marks k a.length)/\Al F base M (marks (k+a.length) c.length)/\Tn ((Ao Q).toList++(Ao M).toList) w F:=by
 obtain⟨i,j,rfl,_⟩:=u.row;obtain⟨d,f,rfl,_⟩:=v.row;have s:Below w.heap.size w (w.alloc (.cells (Yr p i a.length j d c.length f ag m q) 44)):=Zy;have E:Aa (w.alloc (.cells (Yr p i a.length j d c.length f ag m q) 44)) w.heap.size (Yj p i a.length j d c.length f ag m q):=Aa.new w _ _;obtain⟨W,x⟩:∃W,W=w.alloc (.cells (Yr p i a.length j d c.length f ag m q) 44):=⟨_,rfl⟩;rw[←x]at s E
 have I:Hid (Aa W _ _):=(AJ x).2.2;obtain⟨U,_⟩:=E 1 _ rfl;have D:Hid (Al W base (.slice i a.length j) a/\Al W base (.slice d c.length f) c):=⟨u.below s,v.below s⟩;have N:Hid ((∀g,Ao (.slice i a.length j)=some g->g<w.heap.size)/\(∀g,Ao (.slice d c.length f)=some g->g<w.heap.size)):=⟨fun g l=>(u.cg l).2,fun g l=>(v.cg l).2⟩;have HN:=Yx z;have H:=Yx x;have P:Hid (Zz w W):=s;clear u v z x E s
 go_enter func35,ntmps35;go_upto_region 1 with fail;rw[←H.o];clear H;go_wp2_with fail;refine(HJ base k _ a W D.o.1 S (by omega)).mono ?_;rintro e r ⟨rfl,A,n⟩;have O:w.heap.size<W.heap.size:=Aa.lt I.o;have C:Aa r w.heap.size (Yj p i a.length j d c.length f ag m q):=Aa.same I.o (n.block _ O (fun e=>by have:=N.o.1 _ e.symm;omega))
 have y:Al r base (.slice d c.length f) c:=D.o.2.stays n.size (fun g l=>n.block g (D.o.2.cg l).2 (fun e=>HN.o g e.symm l));obtain⟨T,_⟩:=C 2 _ rfl;have J:Hid (Al r base (.slice d c.length f) c):=y;have t:=Yx (Zb A n);clear U C y A n;go_wp2_with fail;refine(HJ base (k+a.length) _ c r J.o (by omega) (by omega)).mono ?_;rintro e G ⟨rfl,B,o⟩
 have L:Hid (Al G base (.slice i a.length j) (marks k a.length)):=t.o.1.stays o.size (fun g l=>o.block g (t.o.1.cg l).2 (fun e=>HN.o g l e.symm));have R:Hid (Tn ((Ao (.slice i a.length j)).toList++(Ao (.slice d c.length f)).toList) w G):=((Tn.of P.o).trans ((CG t.o.2).mono (by simp;exact fun b h=> .inl h))).trans ((CG o).mono (by simp;exact fun b h=> .inr h));have K:=Yx B;clear T B o;go_wp2;go_ret
 exact⟨rfl,L.o,K.o,R.o⟩
section
theorem Tw(a:Zk)(o:Nat)(b:Zl)(s:Zi)(w:Zh)(B:Nat)(d:Ad w B a b)(F:b.length<=1048576):
 Calls prog 184 #[.slice a b.length o,.string s] w fun e u=>∃r:Int,e=.returned (Zg r)/\(0<=r↔s∈b)/\u=w:=by
 go_enter func184,ntmps184;go_wp2
 go_loop [8] (fun i=>∃k:Nat,k<=b.length/\i=Zg k/\Hid (∀j x,j<k->b[j]?=some x->s≠x)) (fun i=>b.length -(intOf i).toNat)
 case atStart=>exact⟨0,Nat.zero_le _,rfl,fun j x h=>by omega⟩
 case round=>
  obtain⟨k,E,rfl,c⟩:=hrel;by_cases hlt:k<b.length
  ·obtain⟨A,z,q,D,g⟩:=d.at hlt;subst q;have f:Hid (b[k]?=some b[k]):=Zv hlt;have C:=g k _ f;clear g d;generalize b[k]=x at *
   by_cases h:s=x
   ·subst h;go_wp2;go_ret;exact⟨_,rfl,⟨fun _=>Zs f.o,fun _=>by omega⟩,rfl⟩
   ·have v:=Ca h;have p:Hid (∀j y,j<k+1->b[j]?=some y->s≠y):=by
     intro j y l m;rcases Nat.lt_or_ge j k with n|n
     ·exact c.o j y n m
     ·obtain rfl:j=k:=by omega
      rw[f.o]at m;cases m;exact h
    clear h c f;go_wp2;exact⟨⟨k+1,by omega,by go_num,p⟩,by simp[intOf];omega⟩
  ·go_wp2;go_ret;refine⟨_,rfl,⟨fun h=>by omega,fun t=> ?_⟩,rfl⟩;obtain⟨j,l⟩:=List.getElem?_of_mem t;exact absurd rfl (c.o j s (by have:=(Zw l).1;omega) l)
open Classical in
theorem OF(a:Zk)(d:Nat)(b:Zl)(s:Zi)(w:Zh)(B:Nat)(c:Ad w B a b)(j:b.length<=1048576):
 Calls prog 154 #[.slice a b.length d,.string s] w fun e k=>e=.returned (.bool (decide (s∈b)))/\k=w:=by
 go_enter func154,ntmps154;go_wp2_with fail;refine(Tw a d b s w B c j).mono ?_;rintro e l ⟨r,rfl,f,rfl⟩;by_cases h:0<=r
 ·have i:decide ((0:Int)<=r)=true:=by simpa using h
  go_wp2;go_ret;exact⟨by rw[decide_eq_true (f.1 h)];rfl,rfl⟩
 ·have i:decide ((0:Int)<=r)=false:=by simpa using h
  have g:¬s∈b:=fun e=>h (f.2 e);go_wp2;go_ret;exact⟨by rw[decide_eq_false g];rfl,rfl⟩
end
section
open Classical in
noncomputable def shQ (ph:Int) (ks:List Kd) (qs ms:Zl) (s:Zi):Zl:=if ¬ph=0/\Ay ks s/\¬s∈ms/\¬qs.length=23200 then qs++[s]else qs
theorem Qg{d:Int}{b:List Kd}{a c:Zl}{s:Zi}(e:¬d=0)(f:Ay b s)(g:¬s∈c)(h:¬a.length=23200):shQ d b a c s=a++[s]:=if_pos ⟨e,f,g,h⟩
theorem Gp{d:Int}{b:List Kd}{a c:Zl}{s:Zi}(h:d=0∨¬Ay b s∨s∈c∨a.length=23200):shQ d b a c s=a:=if_neg (fun⟨h1,h2,h3,h4⟩=>by rcases h with h|h|h|h;exact h1 h;exact h h2;exact h3 h;exact h4 h)
theorem Tx(wd:Int)(m:Nat)(D:List Kd)(s:Zi)(d ag i t:Int)(g h ac O:Nat)(a b:Zl)(w:Zh)(K:VF w wd m D s)(hq:Ad w w.heap.size (some ⟨g,0,none⟩) a)(hm:Ad w w.heap.size (some ⟨h,0,none⟩) b)(hf:FT a b):
 Calls prog 110 #[.agg #[Zg wd,.map (some m)],.agg (Yr d (some ⟨g,0,none⟩) a.length ac (some ⟨h,0,none⟩) b.length O ag i t),.string s] w fun e w'=>∃x n y f,e=.returned (.agg (Yr d (some ⟨x,0,none⟩) ((shQ d D a b s).length) n (some ⟨y,0,none⟩) b.length f ag i t))/\
  w'.ownsRow w.heap.size 9 1 (Za x (shQ d D a b s).length n) (shQ d D a b s).length ((shQ d D a b s).map Value.string)/\w'.ownsRow w.heap.size 9 1 (Za y b.length f) b.length (b.map Value.string)/\x≠y/\Zz w w':=by
 obtain⟨i0,hi,zN,zO,zP⟩:=info_parts CP;have yC:=hf.q;have zK:=hf.m;obtain⟨W,F⟩:∃W,W=((w.alloc (.cells #[Zg wd,.map (some m)] 159)).alloc (.cells (Yr d (some ⟨g,0,none⟩) a.length ac (some ⟨h,0,none⟩) b.length O ag i t) 44)).alloc (.cells Yq 44):=⟨_,rfl⟩;have I:Below w.heap.size w W:=by rw[F];exact((Zy).alloc (by simp) _).alloc (by simp;omega) _
 have x2:AY W (w.heap.size+1+1) 0 Zc Zc 0 0 0:=by rw[F];exact⟨by simp[go_sem],by simp[go_sem],by simp[go_sem],by simp[go_sem],by simp[go_sem],by simp[go_sem],by simp⟩
 have x1:AY W (w.heap.size+1) d (Za g a.length ac) (Za h b.length O) ag i t:=by rw[F];exact⟨by simp[go_sem],by simp[go_sem],by simp[go_sem],by simp[go_sem],by simp[go_sem],by simp[go_sem],by simp<;>omega⟩
 have s0:W.cell? (Ze (w.heap.size) 0)=some (Zg wd):=by rw[F];simp[go_sem]
 have s1:W.cell? (Ze (w.heap.size) 1)=some (.map (some m)):=by rw[F];simp[go_sem]
 have f2:∀o,W.frozen? ⟨w.heap.size+1+1,o,none⟩=false:=fun o=>by rw[F];simp[go_sem]
 have yG:W.heap.size=w.heap.size+3:=by rw[F];simp
 have HW:=Yx F;have HQ:=Yx (Zn hq hm);have J:=Yx K;clear F hq hm K;go_enter func110,ntmps110;go_wp2_with fail;rw[←HW.o];refine(Le d ag i t g h ac O a b W (Ad.af HQ.o.1 I) (Ad.af HQ.o.2 I) hf).mono ?_;rintro e G ⟨x,n,y,f,rfl,ox,oy,zJ,B⟩;have T:=I.trans (B.mono I.size);have zB:=Yx (x1.below B);have zC:=Yx (x2.below B);have q0:=(B.cell (p:=⟨w.heap.size,0,none⟩) (by simp;omega)).trans s0
 have q1:=(B.cell (p:=⟨w.heap.size,1,none⟩) (by simp;omega)).trans s1;have P:∀o,G.frozen? ⟨w.heap.size+1+1,o,none⟩=false:=fun o=>(B.frozen (p:=⟨w.heap.size+1+1,o,none⟩) (by simp<;>omega)).trans (f2 o);have lx:=ox.lt x rfl;have ly:=oy.lt y rfl;have zX:=B.size;obtain⟨V,M⟩:∃V,V=G.alloc (.cells (Yr d (some ⟨x,0,none⟩) a.length n (some ⟨y,0,none⟩) b.length f ag i t) 44):=⟨_,rfl⟩
 have r:Below G.heap.size G V:=by rw[M];exact Zy
 have A:Hid (V.ownsRow (w.heap.size+3) 9 1 (Za x a.length n) a.length (a.map Value.string)/\V.ownsRow (w.heap.size+3) 9 1 (Za y b.length f) b.length (b.map Value.string)/\x≠y/\Zz w V):=⟨(CQ ox r).mono (by omega),(CQ oy r).mono (by omega),zJ,T.trans (r.mono T.size)⟩;have H7:Hid (AY V G.heap.size d (Za x a.length n) (Za y b.length f) ag i t):=by show AY V G.heap.size d (Za x a.length n) (Za y b.length f) ag i t;rw[M];exact AY.new _ _ _ _ _ _ _ _
 have Q:=Yx (AY.below zB.o r);have R:=Yx (AY.below zC.o r);have zT:=(r.cell (p:=⟨w.heap.size,0,none⟩) (by simp;omega)).trans q0;have zU:=(r.cell (p:=⟨w.heap.size,1,none⟩) (by simp;omega)).trans q1;have fv:∀o,V.frozen? ⟨w.heap.size+1+1,o,none⟩=false:=fun o=>(r.frozen (p:=⟨w.heap.size+1+1,o,none⟩) (by simp<;>omega)).trans (P o)
 have f7:∀o,V.frozen? ⟨G.heap.size,o,none⟩=false:=fun o=>by rw[M];simp[go_sem]
 have yF:V.heap.size=G.heap.size+1:=by rw[M];simp
 go_upto_region 2 with fail;rw[←M];clear M r ox oy B x1 x2 s0 s1 f2 HW zB zC q0 q1 P T;generalize G.heap.size=b7 at *
 obtain⟨a0,a1,a2,a3,a4,a5,a6⟩:=Q.o;obtain⟨c0,c1,c2,c3,c4,c5,c6⟩:=H7.o;obtain⟨d0,d1,d2,d3,d4,d5,d6⟩:=R.o;have yB:w.heap.size+3<=b7:=by omega
 by_cases p0:d=0
 ·have HN:Hid (shQ d D a b s=a):=Gp (.inl p0);subst p0;have c:=Yx A.o;go_wp2;refine bodyPost_ret (v:=.agg (Yr 0 (some ⟨x,0,none⟩) a.length n (some ⟨y,0,none⟩) b.length f ag i t)) (by simp[results,results110,go_sem,d0,d1,d2,d3,d4,d5]) rfl ?_;rw[HN.o];refine⟨x,n,y,f,rfl,?_,?_,c.o.2.2.1,?_⟩
  ·refine World.ownsRow.mono ?_ (show w.heap.size<=w.heap.size+3 by omega)
   iterate 6 (refine ownsRow_setCell_below ?_ (by simp) _)
   exact c.o.1
  ·refine World.ownsRow.mono ?_ (show w.heap.size<=w.heap.size+3 by omega)
   iterate 6 (refine ownsRow_setCell_below ?_ (by simp) _)
   exact c.o.2.1
  ·iterate 6 (refine Below.setCell ?_ (by simp<;>omega) _)
   exact c.o.2.2.2
 have yH:(d==0)=false:=by simpa using p0
 by_cases p1:a.length=23200
 ·have HN:Hid (shQ d D a b s=a):=Gp (.inr (.inr (.inr p1)));have zS:((a.length:Int)==23200)=true:=by simp;omega
  clear p1;have c:=Yx A.o;go_wp2;refine bodyPost_ret (v:=.agg (Yr d (some ⟨x,0,none⟩) a.length n (some ⟨y,0,none⟩) b.length f ag i t)) (by simp[results,results110,go_sem,d0,d1,d2,d3,d4,d5]) rfl ?_;rw[HN.o];refine⟨x,n,y,f,rfl,?_,?_,c.o.2.2.1,?_⟩
  ·refine World.ownsRow.mono ?_ (show w.heap.size<=w.heap.size+3 by omega)
   iterate 6 (refine ownsRow_setCell_below ?_ (by simp) _)
   exact c.o.1
  ·refine World.ownsRow.mono ?_ (show w.heap.size<=w.heap.size+3 by omega)
   iterate 6 (refine ownsRow_setCell_below ?_ (by simp) _)
   exact c.o.2.1
  ·iterate 6 (refine Below.setCell ?_ (by simp<;>omega) _)
   exact c.o.2.2.2
 have zS:((a.length:Int)==23200)=false:=beq_eq_false_iff_ne.2 (by omega);obtain⟨ok,C,E⟩:=J.o;have L:=Yx (E V A.o.2.2.2);clear E J;go_wp2_with fail;refine Calls.mono L.o ?_;rintro e z ⟨rfl,q⟩;have yE:=q.size
 have c:Hid (z.ownsRow (w.heap.size+3) 9 1 (Za x a.length n) a.length (a.map Value.string)/\z.ownsRow (w.heap.size+3) 9 1 (Za y b.length f) b.length (b.map Value.string)/\x≠y/\Zz w z):=⟨CQ A.o.1 q,CQ A.o.2.1 q,zJ,A.o.2.2.2.trans (q.mono A.o.2.2.2.size)⟩;have H8:=Yx (AY.below H7.o q);have H2:=Yx (AY.below R.o q);have zE:=Yx (AY.below Q.o q)
 have P:∀o,z.frozen? ⟨w.heap.size+1+1,o,none⟩=false:=fun o=>(q.frozen (p:=⟨w.heap.size+1+1,o,none⟩) (by simp<;>omega)).trans (fv o);have f8:∀o,z.frozen? ⟨b7,o,none⟩=false:=fun o=>(q.frozen (p:=⟨b7,o,none⟩) (by simp<;>omega)).trans (f7 o);have X:=Ad.af (w:=w) HQ.o.2 c.o.2.2.2;clear a0 a1 a2 a3 a4 a5 a6 c0 c1 c2 c3 c4 c5 c6 d0 d1 d2 d3 d4 d5 d6 q H7 A R Q L zT zU fv f7
 obtain⟨a0,a1,a2,a3,a4,a5,a6⟩:=zE.o;obtain⟨c0,c1,c2,c3,c4,c5,c6⟩:=H8.o;obtain⟨d0,d1,d2,d3,d4,d5,d6⟩:=H2.o;cases ok with
 |false=>
  have HN:Hid (shQ d D a b s=a):=Gp (.inr (.inl (fun hh=>by have:=C.2 hh;cases this)));clear C X;go_wp2;refine bodyPost_ret (v:=.agg (Yr d (some ⟨x,0,none⟩) a.length n (some ⟨y,0,none⟩) b.length f ag i t)) (by simp[results,results110,go_sem,d0,d1,d2,d3,d4,d5]) rfl ?_;rw[HN.o];refine⟨x,n,y,f,rfl,?_,?_,c.o.2.2.1,?_⟩
  ·refine World.ownsRow.mono ?_ (show w.heap.size<=w.heap.size+3 by omega)
   iterate 6 (refine ownsRow_setCell_below ?_ (by simp) _)
   exact c.o.1
  ·refine World.ownsRow.mono ?_ (show w.heap.size<=w.heap.size+3 by omega)
   iterate 6 (refine ownsRow_setCell_below ?_ (by simp) _)
   exact c.o.2.1
  ·iterate 6 (refine Below.setCell ?_ (by simp<;>omega) _)
   exact c.o.2.2.2
 |true=>
  have Y:=C.1 rfl;clear C;have L:=Yx (OF (some ⟨h,0,none⟩) O b s z z.heap.size X zK);clear X;go_wp2_with fail;refine Calls.mono L.o ?_;rintro e w9 ⟨rfl,zI⟩;rw[zI];clear zI;by_cases hin:s∈b
  ·have HN:Hid (shQ d D a b s=a):=Gp (.inr (.inr (.inl hin)));rw[@decide_eq_true _ (Classical.propDecidable _) hin];clear L Y;go_wp2;refine bodyPost_ret (v:=.agg (Yr d (some ⟨x,0,none⟩) a.length n (some ⟨y,0,none⟩) b.length f ag i t)) (by simp[results,results110,go_sem,d0,d1,d2,d3,d4,d5]) rfl ?_;rw[HN.o];refine⟨x,n,y,f,rfl,?_,?_,c.o.2.2.1,?_⟩
   ·refine World.ownsRow.mono ?_ (show w.heap.size<=w.heap.size+3 by omega)
    iterate 6 (refine ownsRow_setCell_below ?_ (by simp) _)
    exact c.o.1
   ·refine World.ownsRow.mono ?_ (show w.heap.size<=w.heap.size+3 by omega)
    iterate 6 (refine ownsRow_setCell_below ?_ (by simp) _)
    exact c.o.2.1
   ·iterate 6 (refine Below.setCell ?_ (by simp<;>omega) _)
    exact c.o.2.2.2
  ·have HN:Hid (shQ d D a b s=a++[s]):=Qg p0 Y hin p1;rw[@decide_eq_false _ (Classical.propDecidable _) hin];clear L Y hin zE HQ I a0 a1 a2 a3 a4 a5 a6;go_wp2_with (first
    |(at_builtin;refine wpList_append_lies _ rfl _ _ 22 rfl (w.heap.size+3) 9 i0 Zd 1 16 underlying22 hi zN zO zP rfl (by decide) _ a.length (a.map Value.string) rfl ?d0 ⟨z.heap.size,0,none⟩ 1 1 [.string s] rfl rfl ?d1 ?d2 (by decide) ?d3 ?d4 ?d5 _ rfl ?_)
    |go_in)
   case d0=>exact c.o.1.alloc _
   case d1=>exact cell_one_new z (.string s) 9
   case d2=>intro u hu;simp at hu;subst hu;rfl
   case d3=>unfold maxLen;omega
   case d4=>omega
   case d5=>simp;omega
   intro k S N zG U zA zW;have H:Below z.heap.size z (z.alloc (.cells #[.string s] 9)):=Zy;have zR:=U.size;simp[Value.ownBlock]at zR zA;have l:(z.alloc (.cells #[.string s] 9)).grownBy N (some x):=by simpa [Value.ownBlock]using U
   have r7:=(AY.below H8.o H).grown l (by omega);have r2:=(AY.below H2.o H).grown l (by omega);have zY:∀o,N.frozen? ⟨b7,o,none⟩=false:=fun o=>(l.frozen_far ⟨b7,o,none⟩ (by simp<;>omega) (by simp<;>omega)).trans ((H.frozen (p:=⟨b7,o,none⟩) (by simp<;>omega)).trans (f8 o))
   have zZ:∀o,N.frozen? ⟨w.heap.size+1+1,o,none⟩=false:=fun o=>(l.frozen_far ⟨w.heap.size+1+1,o,none⟩ (by simp<;>omega) (by simp<;>omega)).trans ((H.frozen (p:=⟨w.heap.size+1+1,o,none⟩) (by simp<;>omega)).trans (P o));have zH:N.ownsRow (w.heap.size+3) 9 1 (Za y b.length f) b.length (b.map Value.string):=(c.o.2.1.alloc _).kept l (.inr (by simp[Value.ownBlock];omega))
   have zF:Below w.heap.size w N:=(c.o.2.2.2.trans (H.mono c.o.2.2.2.size)).grown l (by simp;omega) (fun j hj=>by cases hj;omega);have zM:k≠y:=by omega
   have yD:¬k=b7:=by omega
   have yA:¬b7=w.heap.size+1+1:=by omega
   have zV:¬w.heap.size+1+1=b7:=by omega
   have C:N.ownsRow (w.heap.size+3) 9 1 (Za k (a.length+1) S) (a.length+1) ((a++[s]).map Value.string):=by simpa using zG
   have Z:=Yx (Zn C (Zn zH (Zn zM zF)));obtain⟨c0,c1,c2,c3,c4,c5,c6⟩:=r7;obtain⟨d0,d1,d2,d3,d4,d5,d6⟩:=r2;clear zG C zH U l zF H f8 P H8 H2 c;go_wp2;refine bodyPost_ret (v:=.agg (Yr d (some ⟨k,0,none⟩) (a.length+1) S (some ⟨y,0,none⟩) b.length f ag i t)) (by simp[results,results110,go_sem,d0,d1,d2,d3,d4,d5]) rfl ?_;rw[HN.o];refine⟨k,S,y,f,by simp,?_,?_,Z.o.2.2.1,?_⟩
   ·rw[show(a++[s]).length=a.length+1 by simp];refine World.ownsRow.mono ?_ (show w.heap.size<=w.heap.size+3 by omega)
    iterate 6 (refine ownsRow_setCell_below ?_ (by simp) _)
    refine ownsRow_setCell_other ?_ (by simp[Value.ownBlock];omega) _;exact Z.o.1
   ·refine World.ownsRow.mono ?_ (show w.heap.size<=w.heap.size+3 by omega)
    iterate 6 (refine ownsRow_setCell_below ?_ (by simp) _)
    refine ownsRow_setCell_other ?_ (by simp[Value.ownBlock];omega) _;exact Z.o.2.1
   ·iterate 7 (refine Below.setCell ?_ (by simp<;>omega) _)
    exact Z.o.2.2.2
end
section
attribute [local go_sem↓] Go.wp_at_zero Go.wp_at_succ
theorem Ka{a:Zl}:a.Nodup↔∀(j:Nat) x,a[j]?=some x->x∉a.take j:=by
 unfold List.Nodup;rw[List.pairwise_iff_getElem];constructor
 ·intro h j x b k;obtain⟨g,rfl⟩:=Zw b;obtain⟨i,c,e⟩:=List.getElem_of_mem k;have d:i<j:=by simp at c;omega
  rw[List.getElem_take]at e;exact h i j (by omega) g d e
 ·intro h i j c b l e;refine h j a[j] (Zv b) ?_;rw[←e];have f:i<(a.take j).length:=by simp;omega
  have:=List.getElem_mem f;rw[List.getElem_take]at this;exact this
theorem Ad.front{w:Zh}{B:Nat}{a:Zk}{c:Zl}(h:Ad w B a c)(K:Nat):Ad w B a (c.take K):=by
 rcases h with h|⟨q,d,e,f,g⟩
 ·exact .inl (by simp[h])
 ·refine .inr ⟨q,d,e,f,fun i s b=>g i s ?_⟩;have j:=(Zw b).1;simp at j;rw[List.getElem?_take_of_lt (by omega)]at b;exact b
theorem Ve(l z given ae m ag f o:Int)(T P L:Value)(a b:Zk)(S A:Nat)(g d:Zl)(w:Zh)(hq:Ad w w.heap.size a g)(hm:Ad w w.heap.size b d)(hf:FT g d)(zM:d.length<=A)(zR:ae<=1000000000):
 Calls prog 74 #[.agg #[Zg l,Zg z,Zg given,Zg ae,T,P,L],.agg (Yr m a g.length S b d.length A ag f o)] w fun e w'=>Ap (AX l ae m ag f o g d) w w' e:=by
 have zT:=hf.q;have zS:=hf.m;obtain⟨W,U⟩:∃W,W=(w.alloc (.cells #[Zg l,Zg z,Zg given,Zg ae,T,P,L] 43)).alloc (.cells (Yr m a g.length S b d.length A ag f o) 44):=⟨_,rfl⟩;have c:Below w.heap.size w W:=by rw[U];exact(Zy).alloc (by simp) _
 have zH:Bb W w.heap.size l z given ae T P L:=by rw[U];exact(Bb.new w l z given ae T P L 43).below (Zy)
 have zG:AY W (w.heap.size+1) m (.slice a g.length S) (.slice b d.length A) ag f o:=by rw[U];have:=AY.new (w.alloc (.cells #[Zg l,Zg z,Zg given,Zg ae,T,P,L] 43)) m ag f o (.slice a g.length S) (.slice b d.length A) 44;rw[World.size_alloc]at this;exact this
 have zK:W.heap.size=w.heap.size+2:=by rw[U];simp
 have HW:=Yx U;clear U;have r:=Yx zH;have q:=Yx zG;have HQ:=Yx hq;have HM:=Yx hm;clear zH zG hq hm;by_cases p1:m<0
 ·have d1:decide (m<0)=true:=by simpa using p1
  go_enter func74,ntmps74;go_wp2;go_ret;rw[←HW.o];exact Ap.no (P:=AX l ae m ag f o g d) (fun h=>by rcases h.ph with h|h|h<;>(have:=h.1;omega)) c
 have d1:decide (m<0)=false:=by simpa using p1
 by_cases p2:2<m
 ·have d2:decide ((2:Int)<m)=true:=by simpa using p2
  go_enter func74,ntmps74;go_wp2;go_ret;rw[←HW.o];exact Ap.no (P:=AX l ae m ag f o g d) (fun h=>by rcases h.ph with h|h|h<;>(have:=h.1;omega)) c
 have d2:decide ((2:Int)<m)=false:=by simpa using p2
 go_enter func74,ntmps74;go_wp2_with fail;rw[←HW.o];refine(Hw o 0 1000000000 W).mono ?_;rintro e w1 ⟨rfl,rfl⟩;obtain⟨F,B,C,G,H,I,O⟩:=q.o;by_cases h1:0<=o/\o<=1000000000
 ·rw[decide_eq_true h1];by_cases h2:g.length<=23200
  ·have u:decide ((23200:Int)<(g.length:Int))=false:=by simp;omega
   by_cases h3:d.length<=600
   ·have D:decide ((600:Int)<(d.length:Int))=false:=by simp;omega
    clear HW;go_wp2
    go_loopw [5] (fun i wr=>∃k:Nat,k<=g.length/\i=Zg k/\Hid (∀j x,j<k->g[j]?=some x->(x.size:Int)=l)/\Hid (Bb wr w.heap.size l z given ae T P L)/\Hid (AY wr (w.heap.size+1) m (.slice a g.length S) (.slice b d.length A) ag f o)/\Zz w wr) (fun i _=>g.length -(intOf i).toNat)
    case atStart=>exact⟨0,Nat.zero_le _,rfl,fun j x h=>by omega,r,q,c⟩
    case round=>
     clear F B C G H I O r q c zK;obtain⟨k,hk,rfl,p,r,q,c⟩:=hrel;obtain⟨F,B,C,G,H,I,O⟩:=q.o;obtain⟨J,_,_,Q,_,_,_,Z⟩:=r.o;by_cases hlt:k<g.length
     ·obtain⟨b',zC,ha,hb,hc⟩:=(Ad.below HQ.o c).at hlt;subst ha;have N:=Yx (Zv hlt);have M:=hc k _ N;have K:=Zr hb c.size;clear hc;generalize g[k]=x at *
      have V:=AG.cell B O;have X:=AG.cell M K;have Y:=AG.cell J Z;have zI:=AG.ne wr;by_cases h:(x.size:Int)=l
      ·have hn:((x.size:Int) !=l)=false:=by simp[h]
       have HA:Hid (∀j y,j<k+1->g[j]?=some y->(y.size:Int)=l):=by
        intro j y hj E;rcases Nat.lt_or_ge j k with v|v
        ·exact p j y v E
        ·obtain rfl:j=k:=by omega
         rw[N.o]at E;cases E;exact h
       go_wp2;refine AN (by kernel_rfl) (by kernel_rfl) ?_
       repeat (go_big_quiet_step (fail))
       refine wpQuiet_nil ?_;intro n;have zB:=Yx (Bb.ak r.o n.h Z);have zA:=Yx (AY.ak q.o n.h O);have t:=c.trans (n.h.mono c.size);clear V X Y F B C G H I J Q M;go_wp2;exact⟨⟨k+1,by omega,by go_num,HA,zB,zA,t⟩,by simp[intOf];omega⟩
      ·have hn:((x.size:Int) !=l)=true:=by simp[h]
       go_wp2;refine AN (by kernel_rfl) (by kernel_rfl) ?_
       repeat (go_big_quiet_step (fail))
       refine wpQuiet_nil ?_;intro n;have t:=c.trans (n.h.mono c.size);clear V X Y F B C G H I J Q M;go_wp2;go_ret;exact Ap.no (P:=AX l ae m ag f o g d) (fun v=>h (v.dy.q x (Zs N.o))) t
     ·have zE:Hid (∀s∈g,(s.size:Int)=l):=by intro s hs;obtain⟨j,hj,rfl⟩:=List.getElem_of_mem hs;exact p j _ (by omega) (Zv hj)
      clear p;go_wp2
      go_loopw [6] (fun i wr=>∃k:Nat,k<=d.length/\i=Zg k/\Hid (∀j x,j<k->d[j]?=some x->(x.size:Int)=l/\x∉d.take j)/\Hid (Bb wr w.heap.size l z given ae T P L)/\Hid (AY wr (w.heap.size+1) m (.slice a g.length S) (.slice b d.length A) ag f o)/\Zz w wr) (fun i _=>d.length -(intOf i).toNat)
      case atStart=>exact⟨0,Nat.zero_le _,rfl,fun j x h=>by omega,r,q,c⟩
      case round=>
       clear F B C G H I O J Q Z r q c;obtain⟨k,hk,rfl,p,r,q,c⟩:=hrel;obtain⟨F,B,C,G,H,I,O⟩:=q.o;obtain⟨J,_,_,Q,_,_,_,Z⟩:=r.o;by_cases hlt:k<d.length
       ·obtain⟨b',zC,ha,hb,hc⟩:=(Ad.below HM.o c).at hlt;subst ha;have N:=Yx (Zv hlt);have M:=hc k _ N;have K:=Zr hb c.size;clear hc;generalize d[k]=x at *
        have V:=AG.cell C O;have X:=AG.cell M K;have Y:=AG.cell J Z;have zI:=AG.ne wr;have zJ:(d.take k).length=k:=by simp;omega
        have hH:∀n:AG wr,Calls prog 90 #[.slice (some ⟨b',zC,none⟩) k A,.string x] n.w fun e w'=>e=.returned (.bool ((d.take k).any (fun y=>decide (y=x))))/\Below n.w.heap.size n.w w':=fun n=>by have:=LK (some ⟨b',zC,none⟩) A (d.take k) x n.w w.heap.size (Ad.front (Ad.below HM.o (c.trans (n.h.mono c.size))) k) (by omega);rw[zJ]at this;exact this.mono (by rintro e w' ⟨rfl,rfl⟩;exact⟨rfl,Below.refl _ _⟩)
        have HH:=Yx hH;clear hH;have zU:k<=A:=by omega
        by_cases h:(x.size:Int)=l
        ·have hn:((x.size:Int) !=l)=false:=by simp[h]
         cases hin:(d.take k).any (fun y=>decide (y=x))with
         |false=>
          rw[hin]at HH;have R:x∉d.take k:=fun hx=>by have:(d.take k).any (fun y=>decide (y=x))=true:=List.any_eq_true.2 ⟨x,hx,by simp⟩;rw[hin]at this;cases this
          have HA:Hid (∀j y,j<k+1->d[j]?=some y->(y.size:Int)=l/\y∉d.take j):=by
           intro j y hj E;rcases Nat.lt_or_ge j k with v|v
           ·exact p j y v E
           ·obtain rfl:j=k:=by omega
            rw[N.o]at E;cases E;exact⟨h,R⟩
          clear R p;go_wp2;refine AN (by kernel_rfl) (by kernel_rfl) ?_
          repeat (go_big_quiet_step (exact AG.calls (HH.o _)))
          refine wpQuiet_nil ?_;intro n;have zB:=Yx (Bb.ak r.o n.h Z);have zA:=Yx (AY.ak q.o n.h O);have t:=c.trans (n.h.mono c.size);clear V X Y F B C G H I J Q M;go_wp2;exact⟨⟨k+1,by omega,by go_num,HA,zB,zA,t⟩,by simp[intOf];omega⟩
         |true=>
          rw[hin]at HH;have HN:Hid (x∈d.take k):=by
           obtain⟨y,E,e⟩:=List.any_eq_true.1 hin;have:y=x:=by simpa using e
           rw[←this];exact E
          clear p;go_wp2;refine AN (by kernel_rfl) (by kernel_rfl) ?_
          repeat (go_big_quiet_step (exact AG.calls (HH.o _)))
          refine wpQuiet_nil ?_;intro n;have t:=c.trans (n.h.mono c.size);clear V X Y F B C G H I J Q M;go_wp2;go_ret;exact Ap.no (P:=AX l ae m ag f o g d) (fun v=>(Ka.1 v.dy.nd) k x N.o HN.o) t
        ·have hn:((x.size:Int) !=l)=true:=by simp[h]
         go_wp2;refine AN (by kernel_rfl) (by kernel_rfl) ?_
         repeat (go_big_quiet_step (fail))
         refine wpQuiet_nil ?_;intro n;have t:=c.trans (n.h.mono c.size);clear V X Y F B C G H I J Q M;go_wp2;go_ret;exact Ap.no (P:=AX l ae m ag f o g d) (fun v=>h (v.dy.m x (Zs N.o))) t
       ·have HS:Hid (Oo l g d):=by refine⟨h2,h3,zE.o,fun s hs=> ?_,Ka.2 fun j x hx=>(p j x (by have:=(Zw hx).1;omega) hx).2⟩;obtain⟨j,hj,rfl⟩:=List.getElem_of_mem hs;exact(p j _ (by omega) (Zv hj)).1
        clear p zE;by_cases p0:m=0
        ·subst p0;by_cases e1:g.length=0
         ·by_cases u:d.length=0
          ·by_cases D:ag=0
           ·by_cases e4:f=0
            ·go_wp2;go_ret;exact Ap.yes (P:=AX l ae 0 ag f o g d) ⟨h1.1,h1.2,HS.o,.inl ⟨rfl,List.eq_nil_of_length_eq_zero e1,List.eq_nil_of_length_eq_zero u,D,e4⟩⟩ c
            ·have zP:(f==0)=false:=by simpa using e4
             go_wp2;go_ret;exact Ap.no (P:=AX l ae 0 ag f o g d) (fun h=>by have:=h.ph;unfold EC at this;simp at this;have h9:=this.2.2.2;omega) c
           ·have zF:(ag==0)=false:=by simpa using D
            go_wp2;go_ret;exact Ap.no (P:=AX l ae 0 ag f o g d) (fun h=>by have:=h.ph;unfold EC at this;simp at this;have h9:=this.2.2.1;omega) c
          ·have zO:=beq_eq_false_iff_ne.2 (by omega);go_wp2;go_ret;exact Ap.no (P:=AX l ae 0 ag f o g d) (fun h=>by have:=h.ph;unfold EC at this;simp at this;exact u (by rw[this.2.1];rfl)) c
         ·have zN:=beq_eq_false_iff_ne.2 (by omega);go_wp2;go_ret;exact Ap.no (P:=AX l ae 0 ag f o g d) (fun h=>by have:=h.ph;unfold EC at this;simp at this;exact e1 (by rw[this.1];rfl)) c
        ·have zW:(m==0)=false:=by simpa using p0
         go_wp2_with fail;refine(Hw ag 0 ae wr).mono ?_;rintro e w1 ⟨rfl,rfl⟩;by_cases e1:0<=ag/\ag<=ae
         ·rw[decide_eq_true e1];have zV:=Iw (by omega) (by omega);go_wp2_with fail;refine(Hw f 1 (ag+1) _).mono ?_;rintro e w1 ⟨rfl,rfl⟩;by_cases u:1<=f/\f<=ag+1
          ·rw[decide_eq_true u];by_cases p3:m=2
           ·subst p3;go_wp2;go_ret;exact Ap.yes (P:=AX l ae 2 ag f o g d) ⟨h1.1,h1.2,HS.o,.inr (.inr ⟨rfl,e1.1,e1.2,u.1,u.2⟩)⟩ c
           ·have zX:(m==2)=false:=by simpa using p3
            obtain rfl:m=1:=by omega
            by_cases D:f=ag+1
            ·have zF:(f==ag+1)=true:=by simpa using D
             go_wp2;go_ret;exact Ap.yes (P:=AX l ae 1 ag f o g d) ⟨h1.1,h1.2,HS.o,.inr (.inl ⟨rfl,e1.1,e1.2,D⟩)⟩ c
            ·have zF:(f==ag+1)=false:=by simpa using D
             go_wp2;go_ret;exact Ap.no (P:=AX l ae 1 ag f o g d) (fun h=>by have:=h.ph;unfold EC at this;simp at this;exact D this.2.2) c
          ·rw[decide_eq_false u];go_wp2;go_ret;exact Ap.no (P:=AX l ae m ag f o g d) (fun h=>by rcases h.ph with h|h|h;exact p0 h.1;exact u (by have:=h.2.2.2;omega);exact u h.2.2.2) c
         ·rw[decide_eq_false e1];go_wp2;go_ret;exact Ap.no (P:=AX l ae m ag f o g d) (fun h=>by rcases h.ph with h|h|h;exact p0 h.1;exact e1 ⟨h.2.1,h.2.2.1⟩;exact e1 ⟨h.2.1,h.2.2.1⟩) c
   ·have D:decide ((600:Int)<(d.length:Int))=true:=by simp;omega
    go_wp2;go_ret;exact Ap.no (P:=AX l ae m ag f o g d) (fun h=>h3 h.dy.nm) c
  ·have u:decide ((23200:Int)<(g.length:Int))=true:=by simp;omega
   go_wp2;go_ret;exact Ap.no (P:=AX l ae m ag f o g d) (fun h=>h2 h.dy.nq) c
 ·rw[decide_eq_false h1];go_wp2;go_ret;exact Ap.no (P:=AX l ae m ag f o g d) (fun h=>h1 ⟨h.ij,h.ik⟩) c
end
section
attribute [local go_sem↓] Go.wp_at_zero Go.wp_at_succ
end
section
open Classical in
end
theorem PB(wd zI given ae:Int)(a:Zk)(sc:Nat)(P L:Value)(z:List Kd)(s:Zi)(i ag m A:Int)(g h Q M:Nat)(b c:Zl)(w:Zh)(zE:BF w w.heap.size a z)(yE:z.length<=1048576)(hq:Ad w w.heap.size (some ⟨g,0,none⟩) b)(hm:Ad w w.heap.size (some ⟨h,0,none⟩) c)(hf:FT b c)(yV:b.length<=23200):
 Calls prog 48 #[.agg #[Zg wd,Zg zI,Zg given,Zg ae,.slice a z.length sc,P,L],.agg (Yr i (some ⟨g,0,none⟩) b.length Q (some ⟨h,0,none⟩) c.length M ag m A),.string s] w fun e w'=>∃x q y n,e=.returned (.agg (Yr i (some ⟨x,0,none⟩) ((shQ i z b c s).length) q (some ⟨y,0,none⟩) c.length n ag m A))/\
  w'.ownsRow w.heap.size 9 1 (Za x (shQ i z b c s).length q) (shQ i z b c s).length ((shQ i z b c s).map Value.string)/\w'.ownsRow w.heap.size 9 1 (Za y c.length n) c.length (c.map Value.string)/\x≠y/\Zz w w':=by
 obtain⟨i0,hi,yG,yH,yI⟩:=info_parts CP;have yT:=hf.q;have yD:=hf.m;obtain⟨W,R⟩:∃W,W=((w.alloc (.cells #[Zg wd,Zg zI,Zg given,Zg ae,.slice a z.length sc,P,L] 43)).alloc (.cells (Yr i (some ⟨g,0,none⟩) b.length Q (some ⟨h,0,none⟩) c.length M ag m A) 44)).alloc (.cells Yq 44):=⟨_,rfl⟩;have zG:Below w.heap.size w W:=by rw[R];exact((Zy).alloc (by simp) _).alloc (by simp;omega) _
 have x2:AY W (w.heap.size+1+1) 0 Zc Zc 0 0 0:=by rw[R];exact⟨by simp[go_sem],by simp[go_sem],by simp[go_sem],by simp[go_sem],by simp[go_sem],by simp[go_sem],by simp⟩
 have x1:AY W (w.heap.size+1) i (Za g b.length Q) (Za h c.length M) ag m A:=by rw[R];exact⟨by simp[go_sem],by simp[go_sem],by simp[go_sem],by simp[go_sem],by simp[go_sem],by simp[go_sem],by simp<;>omega⟩
 have x0:Bb W w.heap.size wd zI given ae (.slice a z.length sc) P L:=by rw[R];exact⟨by simp[go_sem],by simp[go_sem],by simp[go_sem],by simp[go_sem],by simp[go_sem],by simp[go_sem],by simp[go_sem],by simp<;>omega⟩
 have B:∀o,W.frozen? ⟨w.heap.size+1+1,o,none⟩=false:=fun o=>by rw[R];simp[go_sem]
 have yX:W.heap.size=w.heap.size+3:=by rw[R];simp
 have HW:=Yx R;have J:=Yx (Zn hq hm);have HK:=Yx zE;have zJ:=Yx x1;have H:=Yx x2;have d:=Yx zG;clear R hq hm zE x1 x2;obtain⟨S,T,U,X,Y,Z,a6⟩:=zJ.o;obtain⟨y0,y1,y2,y3,y4,y5,y6,y7⟩:=x0;have yC:Below W.heap.size W W:=Below.refl _ _;go_enter func48,ntmps48;go_upto_region 1 with fail;rw[←HW.o];clear HW;by_cases p0:i=0
 ·have HN:Hid (shQ i z b c s=b):=Gp (.inl p0);subst p0;clear y0 y1 y2 y3 y4 y5 y6 y7;obtain⟨r,rfl⟩:∃r,r=W:=⟨_,rfl⟩;go_wp2_with fail;refine(El 0 ag m A g h Q M b c r (Ad.af J.o.1 d.o) (Ad.af J.o.2 d.o) hf).mono ?_;rintro e C ⟨x,q,y,n,rfl,E,F,I,f⟩
  have l:=Yx (Zn (E.mono (show w.heap.size+3<=r.heap.size by omega)) (Zn (F.mono (show w.heap.size+3<=r.heap.size by omega)) (Zn I (d.o.trans (f.mono d.o.size)))));obtain⟨d0,d1,d2,d3,d4,d5,d6⟩:=AY.below H.o f;have zN:∀o,C.frozen? ⟨w.heap.size+1+1,o,none⟩=false:=fun o=>(f.frozen (p:=⟨w.heap.size+1+1,o,none⟩) (by simp<;>omega)).trans (B o);clear E F f S T U X Y Z B;go_wp2
  refine bodyPost_ret (v:=.agg (Yr 0 (some ⟨x,0,none⟩) b.length q (some ⟨y,0,none⟩) c.length n ag m A)) (by simp[results,results48,go_sem,d0,d1,d2,d3,d4,d5]) rfl ?_;rw[HN.o];refine⟨x,q,y,n,rfl,?_,?_,l.o.2.2.1,?_⟩
  ·refine World.ownsRow.mono ?_ (show w.heap.size<=w.heap.size+3 by omega)
   iterate 6 (refine ownsRow_setCell_below ?_ (by simp) _)
   exact l.o.1
  ·refine World.ownsRow.mono ?_ (show w.heap.size<=w.heap.size+3 by omega)
   iterate 6 (refine ownsRow_setCell_below ?_ (by simp) _)
   exact l.o.2.1
  ·iterate 6 (refine Below.setCell ?_ (by simp<;>omega) _)
   exact l.o.2.2.2
 have yY:(i==0)=false:=by simpa using p0
 go_wp2_with fail;refine(Fj wd zI given ae a sc P L z s W w.heap.size (BF.below HK.o zG) zG.size yE).mono ?_;rintro e r ⟨rfl,O⟩;have zA:=Yx (d.o.trans (O.mono d.o.size));have zB:=Yx (AY.below zJ.o O);have zC:=Yx (AY.below H.o O);have zM:∀o,r.frozen? ⟨w.heap.size+1+1,o,none⟩=false:=fun o=>(O.frozen (p:=⟨w.heap.size+1+1,o,none⟩) (by simp<;>omega)).trans (B o);have yW:=O.size
 clear S T U X Y Z a6 y0 y1 y2 y3 y4 y5 y6 y7 zJ H d B O yC zG;have d:=Yx zA.o;have H:=Yx zC.o;have B:=zM;clear zA zC zM;obtain⟨S,T,U,X,Y,Z,a6⟩:=zB.o;rcases Fc z s with⟨zH,zW⟩|⟨fi,fu,zH,zV,zU⟩
 ·have HN:Hid (shQ i z b c s=b):=Gp (.inr (.inl zW));rw[zH];clear zW;go_wp2_with fail;refine(El i ag m A g h Q M b c r (Ad.af J.o.1 d.o) (Ad.af J.o.2 d.o) hf).mono ?_;rintro e C ⟨x,q,y,n,rfl,E,F,I,f⟩;have l:=Yx (Zn (E.mono (show w.heap.size+3<=r.heap.size by omega)) (Zn (F.mono (show w.heap.size+3<=r.heap.size by omega)) (Zn I (d.o.trans (f.mono d.o.size)))))
  obtain⟨d0,d1,d2,d3,d4,d5,d6⟩:=AY.below H.o f;have zN:∀o,C.frozen? ⟨w.heap.size+1+1,o,none⟩=false:=fun o=>(f.frozen (p:=⟨w.heap.size+1+1,o,none⟩) (by simp<;>omega)).trans (B o);clear E F f S T U X Y Z B;go_wp2;refine bodyPost_ret (v:=.agg (Yr i (some ⟨x,0,none⟩) b.length q (some ⟨y,0,none⟩) c.length n ag m A)) (by simp[results,results48,go_sem,d0,d1,d2,d3,d4,d5]) rfl ?_;rw[HN.o]
  refine⟨x,q,y,n,rfl,?_,?_,l.o.2.2.1,?_⟩
  ·refine World.ownsRow.mono ?_ (show w.heap.size<=w.heap.size+3 by omega)
   iterate 6 (refine ownsRow_setCell_below ?_ (by simp) _)
   exact l.o.1
  ·refine World.ownsRow.mono ?_ (show w.heap.size<=w.heap.size+3 by omega)
   iterate 6 (refine ownsRow_setCell_below ?_ (by simp) _)
   exact l.o.2.1
  ·iterate 6 (refine Below.setCell ?_ (by simp<;>omega) _)
   exact l.o.2.2.2
 have yA:Ay z s:=⟨fu,Zs zV,zU⟩;rw[zH];have yO:decide ((fi:Int)<0)=false:=by simp
 clear zH zV zU;have HC:=Yx (LK (some ⟨h,0,none⟩) M c s r r.heap.size (Ad.af (w:=w) J.o.2 d.o) yD);go_wp2_with fail;refine Calls.mono HC.o ?_;rintro e w9 ⟨rfl,yB⟩;rw[yB];clear yB HC w9;by_cases hin:s∈c
 ·have HN:Hid (shQ i z b c s=b):=Gp (.inr (.inr (.inl hin)));have G:c.any (fun x=>decide (x=s))=true:=List.any_eq_true.2 ⟨s,hin,by simp⟩;rw[G];clear G hin;go_wp2_with fail;refine(El i ag m A g h Q M b c r (Ad.af J.o.1 d.o) (Ad.af J.o.2 d.o) hf).mono ?_;rintro e C ⟨x,q,y,n,rfl,E,F,I,f⟩
  have l:=Yx (Zn (E.mono (show w.heap.size+3<=r.heap.size by omega)) (Zn (F.mono (show w.heap.size+3<=r.heap.size by omega)) (Zn I (d.o.trans (f.mono d.o.size)))));obtain⟨d0,d1,d2,d3,d4,d5,d6⟩:=AY.below H.o f;have zN:∀o,C.frozen? ⟨w.heap.size+1+1,o,none⟩=false:=fun o=>(f.frozen (p:=⟨w.heap.size+1+1,o,none⟩) (by simp<;>omega)).trans (B o);clear E F f S T U X Y Z B;go_wp2
  refine bodyPost_ret (v:=.agg (Yr i (some ⟨x,0,none⟩) b.length q (some ⟨y,0,none⟩) c.length n ag m A)) (by simp[results,results48,go_sem,d0,d1,d2,d3,d4,d5]) rfl ?_;rw[HN.o];refine⟨x,q,y,n,rfl,?_,?_,l.o.2.2.1,?_⟩
  ·refine World.ownsRow.mono ?_ (show w.heap.size<=w.heap.size+3 by omega)
   iterate 6 (refine ownsRow_setCell_below ?_ (by simp) _)
   exact l.o.1
  ·refine World.ownsRow.mono ?_ (show w.heap.size<=w.heap.size+3 by omega)
   iterate 6 (refine ownsRow_setCell_below ?_ (by simp) _)
   exact l.o.2.1
  ·iterate 6 (refine Below.setCell ?_ (by simp<;>omega) _)
   exact l.o.2.2.2
 have G:c.any (fun x=>decide (x=s))=false:=by rw[List.any_eq_false];intro x hx e;exact hin (by simpa using (of_decide_eq_true e)▸hx)
 rw[G];clear G;by_cases p1:b.length=23200
 ·have HN:Hid (shQ i z b c s=b):=Gp (.inr (.inr (.inr p1)));have yL:decide ((23200:Int)<=(b.length:Int))=true:=by simp;omega
  clear p1;go_wp2_with fail;refine(El i ag m A g h Q M b c r (Ad.af J.o.1 d.o) (Ad.af J.o.2 d.o) hf).mono ?_;rintro e C ⟨x,q,y,n,rfl,E,F,I,f⟩;have l:=Yx (Zn (E.mono (show w.heap.size+3<=r.heap.size by omega)) (Zn (F.mono (show w.heap.size+3<=r.heap.size by omega)) (Zn I (d.o.trans (f.mono d.o.size)))));obtain⟨d0,d1,d2,d3,d4,d5,d6⟩:=AY.below H.o f
  have zN:∀o,C.frozen? ⟨w.heap.size+1+1,o,none⟩=false:=fun o=>(f.frozen (p:=⟨w.heap.size+1+1,o,none⟩) (by simp<;>omega)).trans (B o);clear E F f S T U X Y Z B;go_wp2;refine bodyPost_ret (v:=.agg (Yr i (some ⟨x,0,none⟩) b.length q (some ⟨y,0,none⟩) c.length n ag m A)) (by simp[results,results48,go_sem,d0,d1,d2,d3,d4,d5]) rfl ?_;rw[HN.o];refine⟨x,q,y,n,rfl,?_,?_,l.o.2.2.1,?_⟩
  ·refine World.ownsRow.mono ?_ (show w.heap.size<=w.heap.size+3 by omega)
   iterate 6 (refine ownsRow_setCell_below ?_ (by simp) _)
   exact l.o.1
  ·refine World.ownsRow.mono ?_ (show w.heap.size<=w.heap.size+3 by omega)
   iterate 6 (refine ownsRow_setCell_below ?_ (by simp) _)
   exact l.o.2.1
  ·iterate 6 (refine Below.setCell ?_ (by simp<;>omega) _)
   exact l.o.2.2.2
 have yL:decide ((23200:Int)<=(b.length:Int))=false:=by simp;omega
 have HN:Hid (shQ i z b c s=b++[s]):=Qg p0 yA hin p1;clear yA hin;go_wp2_with fail;refine(El i ag m A g h Q M b c r (Ad.af J.o.1 d.o) (Ad.af J.o.2 d.o) hf).mono ?_;rintro e C ⟨x,q,y,n,rfl,E,F,I,f⟩;have lx:=E.lt x rfl;have ly:=F.lt y rfl;have zR:=f.size;obtain⟨D,hV⟩:∃V,V=C.alloc (.cells (Yr i (some ⟨x,0,none⟩) b.length q (some ⟨y,0,none⟩) c.length n ag m A) 44):=⟨_,rfl⟩
 have zF:Below C.heap.size C D:=by rw[hV];exact Zy
 have K:=f.trans (zF.mono zR);have l:Hid (D.ownsRow (w.heap.size+3) 9 1 (Za x b.length q) b.length (b.map Value.string)/\D.ownsRow (w.heap.size+3) 9 1 (Za y c.length n) c.length (c.map Value.string)/\x≠y/\Zz w D):=⟨(CQ E zF).mono (by omega),(CQ F zF).mono (by omega),I,d.o.trans (K.mono d.o.size)⟩;have H8:Hid (AY D C.heap.size i (Za x b.length q) (Za y c.length n) ag m A):=by show AY D C.heap.size i (Za x b.length q) (Za y c.length n) ag m A;rw[hV];exact AY.new _ _ _ _ _ _ _ _
 have H2:=Yx (AY.below H.o K);have zS:∀o,D.frozen? ⟨w.heap.size+1+1,o,none⟩=false:=fun o=>(K.frozen (p:=⟨w.heap.size+1+1,o,none⟩) (by simp<;>omega)).trans (B o);have f8:∀o,D.frozen? ⟨C.heap.size,o,none⟩=false:=fun o=>by rw[hV];simp[go_sem]
 have yK:D.heap.size=C.heap.size+1:=by rw[hV];simp
 go_upto_region 4 with fail;rw[←hV];clear hV zF E F f K B zB H d J HK S T U X Y Z a6;have B:=zS;clear zS;generalize C.heap.size=b7 at *
 have yR:w.heap.size+3<=b7:=by omega
 have yS:b7<D.heap.size:=by omega
 clear yK;obtain⟨c0,c1,c2,c3,c4,c5,c6⟩:=H8.o;obtain⟨d0,d1,d2,d3,d4,d5,d6⟩:=H2.o;go_wp2_with (first
  |(at_builtin;refine wpList_append_lies _ rfl _ _ 22 rfl (w.heap.size+3) 9 i0 Zd 1 16 underlying22 hi yG yH yI rfl (by decide) _ b.length (b.map Value.string) rfl ?d0 ⟨D.heap.size,0,none⟩ 1 1 [.string s] rfl rfl ?d1 ?d2 (by decide) ?d3 ?d4 ?d5 _ rfl ?_)
  |go_in)
 case d0=>exact l.o.1.alloc _
 case d1=>exact cell_one_new D (.string s) 9
 case d2=>intro u hu;simp at hu;subst hu;rfl
 case d3=>unfold maxLen;omega
 case d4=>omega
 case d5=>simp;omega
 intro k zK w4 zX zO zP yN;have N:Below D.heap.size D (D.alloc (.cells #[.string s] 9)):=Zy;have yJ:=zO.size;simp[Value.ownBlock]at yJ zP;have t:(D.alloc (.cells #[.string s] 9)).grownBy w4 (some x):=by simpa [Value.ownBlock]using zO
 have r7:=(AY.below H8.o N).grown t (by omega);have r2:=(AY.below H2.o N).grown t (by omega);have yP:∀o,w4.frozen? ⟨b7,o,none⟩=false:=fun o=>(t.frozen_far ⟨b7,o,none⟩ (by simp<;>omega) (by simp<;>omega)).trans ((N.frozen (p:=⟨b7,o,none⟩) (by simp<;>omega)).trans (f8 o))
 have zM:∀o,w4.frozen? ⟨w.heap.size+1+1,o,none⟩=false:=fun o=>(t.frozen_far ⟨w.heap.size+1+1,o,none⟩ (by simp<;>omega) (by simp<;>omega)).trans ((N.frozen (p:=⟨w.heap.size+1+1,o,none⟩) (by simp<;>omega)).trans (B o));have zZ:w4.ownsRow (w.heap.size+3) 9 1 (Za y c.length n) c.length (c.map Value.string):=(l.o.2.1.alloc _).kept t (.inr (by simp[Value.ownBlock];omega))
 have zT:Below w.heap.size w w4:=(l.o.2.2.2.trans (N.mono l.o.2.2.2.size)).grown t (by simp;omega) (fun j hj=>by cases hj;omega);have yF:k≠y:=by omega
 have yU:¬k=b7:=by omega
 have yQ:¬b7=w.heap.size+1+1:=by omega
 have yM:¬w.heap.size+1+1=b7:=by omega
 have zY:w4.ownsRow (w.heap.size+3) 9 1 (Za k (b.length+1) zK) (b.length+1) ((b++[s]).map Value.string):=by simpa using zX
 have HP:=Yx (Zn zY (Zn zZ (Zn yF zT)));obtain⟨c0,c1,c2,c3,c4,c5,c6⟩:=r7;obtain⟨d0,d1,d2,d3,d4,d5,d6⟩:=r2;clear zX zY zZ zO t zT N f8 B H8 H2 l;go_wp2;refine bodyPost_ret (v:=.agg (Yr i (some ⟨k,0,none⟩) (b.length+1) zK (some ⟨y,0,none⟩) c.length n ag m A)) (by simp[results,results48,go_sem,d0,d1,d2,d3,d4,d5]) rfl ?_;rw[HN.o];refine⟨k,zK,y,n,by simp,?_,?_,HP.o.2.2.1,?_⟩
 ·rw[show(b++[s]).length=b.length+1 by simp];refine World.ownsRow.mono ?_ (show w.heap.size<=w.heap.size+3 by omega)
  iterate 6 (refine ownsRow_setCell_below ?_ (by simp) _)
  refine ownsRow_setCell_other ?_ (by simp[Value.ownBlock];omega) _;exact HP.o.1
 ·refine World.ownsRow.mono ?_ (show w.heap.size<=w.heap.size+3 by omega)
  iterate 6 (refine ownsRow_setCell_below ?_ (by simp) _)
  refine ownsRow_setCell_other ?_ (by simp[Value.ownBlock];omega) _;exact HP.o.2.1
 ·iterate 7 (refine Below.setCell ?_ (by simp<;>omega) _)
  exact HP.o.2.2.2
end Go.Proofs.YtckmnfhmoankmaaGreatDoor
