import Derived.Test.YtdofmfnmackjhaaGreatDoorX06
import Derived.Deep.DeepCutAuto
set_option maxRecDepth 100000
set_option maxHeartbeats 16000000
namespace Go.Proofs.YtdofmfnmackjhaaGreatDoor
open ChangeShapes WideShapes ChangeAt RowKit _root_.Go.Proofs.Tryz List World Value
variable{l a:Zl}{x y:Zi}
def NC(a b:Zi):Bool:=Op.bytesLess a.toList b.toList
def Gx:Zl->Zi->Nat
 |[],_=>0
 |y::l,x=>if NC y x=true then Gx l x+1 else 0
theorem XW(l:Zl)(x:Zi):Gx l x<=l.length:=by
 induction l with
 |nil=>simp[Gx]
 |cons y l ih=>unfold Gx;split<;>simp;omega
theorem MO{j:Nat}(h:∀i y,i<j->l[i]?=some y->NC y x=true)(c:∀y,l[j]?=some y->NC y x=false)(a:j<=l.length):Gx l x=j:=by
 induction l generalizing j with
 |nil=>simp at a;simp[Gx,a]
 |cons y l ih=>
  unfold Gx;cases j with
  |zero=>rw[if_neg (by rw[c y rfl];decide)]
  |succ j=>rw[if_pos (h 0 y Yv rfl),ih (j:=j) (λi z b b=>h (i+1) z Yv (D2 b)) (λz b=>c z (D2 b)) (D2 a)]
def Gy(l:Zl)(x:Zi):Zl:=if l[Gx l x]?=some x then l else l.take (Gx l x)++[x]++l.drop (Gx l x)
def Cs(ss:Zl):Zl:=ss.foldl Gy []
theorem QK(l:Zl)(x:Zi):(Gy l x).length<=l.length+1:=by
 unfold Gy;split
 .omega
 .have:=XW l x;simp;omega
theorem Vv(h:y∈Gy l x):y∈l\/y=x:=by
 unfold Gy at h;split at h
 .exact .inl h
 .simp only[A7,mem_singleton]at h;rcases h with(h|h)|h
  .exact .inl (mem_of_mem_take h)
  .exact .inr h
  .exact .inl (mem_of_mem_drop h)
theorem Rr(b:Zl):∀a:Zl,(b.foldl Gy a).length<=a.length+b.length/\∀y∈b.foldl Gy a,y∈a\/y∈b:=by
 induction b with
 |nil=>intro a;exact⟨Yu,λy c=> .inl c⟩
 |cons x b ih=>
  intro a;have⟨e,d⟩:=ih (Gy a x);have:=QK a x;refine⟨by simp only[foldl_cons,length_cons];omega,λy c=> ?_⟩;rcases d y c with h|h
  .rcases Vv h with h|h
   .exact .inl h
   .exact .inr (by simp[h])
  .exact .inr (by simp[h])
theorem JC(a:Zl):(Cs a).length<=a.length:=by simpa [Cs]using (Rr a []).1
theorem TZ(h:y∈Cs a):y∈a:=by
 rcases(Rr a []).2 y h with h|h
 .cases h
 .exact h
theorem Sm{k:Nat}(h:a[k]?=some x):Cs (a.take (k+1))=Gy (Cs (a.take k)) x:=by obtain⟨b,rfl⟩:=Zw h;unfold Cs;rw[Zu b,foldl_append];rfl
theorem LR(a:Zk)(yL:Nat)(f:Zl)(w:Zh)(b:Af w w.1.size a f)(hl:f.length<=100000):
 D8 51 #[C3 a f.length yL] w λe d=>∃g c,e=C5 (Yz g (Cs f).length c)/\
  d.ownsRow w.1.size 9 1 (Yz g (Cs f).length c) (Cs f).length ((Cs f).map string)/\Zz w d:=by
 have⟨i0,J,M,N,P⟩:=info_parts CC;have yK:=Yw b;clear b;have b:Below w.1.size w (w.alloc (.cells #[] 9)):=Zy;have d:(w.alloc (.cells #[] 9)).ownsRow w.1.size 9 1 (Yz w.1.size 0 0) 0 (([]:Zl).map string):=ownsRow_lit w #[] 0 (Zx) Yo rfl;have yG:=Yw (Zn b d);clear b d;go_enter func51,ntmps51;go_wp2
 go_loopw [3,4] (λv i wr=>∃(k g c:Nat),k<=f.length/\i=Zg k/\v=Yz g (Cs (f.take k)).length c/\Hid (wr.ownsRow w.1.size 9 1 (Yz g (Cs (f.take k)).length c) (Cs (f.take k)).length ((Cs (f.take k)).map string))/\Hid (Zz w wr)) (λ_ i _=>f.length -(intOf i).toNat)
 case atStart=>exact⟨0,w.1.size,0,Az _,rfl,rfl,yG.2,yG.1⟩
 case round=>
  obtain⟨k,g,c,hk,rfl,rfl,HO,Z⟩:=hrel;by_cases hlt:k<f.length
  .have HG:Hid (f[k]?=some f[k]):=Zv hlt;have⟨I,oa,ha,yS,b⟩:=(Af.A yK Z).at hlt;subst ha;have cx:=b k _ HG;have HS:=Yw (Sm HG);have hlen:(Cs (f.take k)).length<=k:=by have:=JC (f.take k);simp at this;omega
   have yV:=Z.size;have zP:I<wr.1.size:=Yv
   generalize f[k]=x at *
   generalize hO:Cs (f.take k)=O at *
   have yI:=(HO.lt g rfl).2;have yU:=(HO.lt g rfl).1;have zX:Hid (∀j y,O[j]?=some y->wr.cell? (Zd g j)=some (C4 y)):=by
    intro j y B;have:=Af.own HO;rcases this with h|⟨b',yW,e1,_,h3⟩
    .subst h;simp at B
    .cases e1;simpa using h3 j y B
   clear b;go_wp2
   go_loopw [5] (λv b=>∃j:Nat,j<=O.length/\v=Zg j/\(∃nq,b=wr.drewN nq)/\Hid (∀i y,i<j->O[i]?=some y->NC y x=true)) (λv _=>O.length -(intOf v).toNat)
   case atStart=>exact⟨0,Az _,rfl,⟨0,rfl⟩,λi y h=>Yv⟩
   case round=>
    obtain⟨j,hj,rfl,⟨nq,rfl⟩,HJ⟩:=hrel;by_cases hjl:j<O.length
    .have HY:Hid (O[j]?=some O[j]):=Zv hjl;have cy:=zX j _ HY;generalize O[j]=y at *
     have d1:decide ((j:Int)<(O.length:Int))=true:=Yt
     cases hb:NC y x with
     |true=>
      have yO:Op.bytesLess y.toList x.toList=true:=hb;have yJ:Hid (∀i z,i<j+1->O[i]?=some z->NC z x=true):=by
       intro i z J hz;rcases Bz i j with h|h
       .exact HJ i z h hz
       .obtain rfl:i=j:=Yv
        rw[HY.o]at hz;cases hz;exact hb
      clear hb;go_upto_region 6 with fail;go_quiet (fail);go_wp2;exact⟨⟨j+1,Yv,Yn,⟨_,rfl⟩,yJ⟩,Ys⟩
     |false=>
      have yO:Op.bytesLess y.toList x.toList=false:=hb;have zR:Hid (∀z,O[j]?=some z->NC z x=false):=by intro z hz;rw[HY.o]at hz;cases hz;exact hb
      clear hb;go_upto_region 6 with fail;go_quiet (fail);by_cases hyx:y=x
      .have v:Hid (Cs (f.take (k+1))=O):=by show _=_;rw[HS.o];unfold Gy;rw[MO HJ.o zR.o hj,if_pos (by rw[HY.o,hyx])]
       subst hyx;go_upto_region 8 with fail;go_quiet (fail);go_wp2;refine⟨⟨k+1,g,c,Yv,Yn,by rw[v.o],?_,?_⟩,Ys⟩
       .rw[v.o];exact HO.kept (Ag none (Bg Ad _)) (Classical.em _)
       .exact Bg Z _
      .have zU:Hid (¬O[j]?=some x):=by show ¬_;rw[HY.o];intro e;cases e;exact hyx rfl
       have e1:(y.toList==x.toList)=false:=by rw[beq_eq_false_iff_ne];intro h;rw[ByteArray.toList_eq,ByteArray.toList_eq]at h;exact hyx (ByteArray.ext (Array.toList_inj.1 h))
       clear hyx;go_upto_region 8 with fail;go_quiet (fail);go_upto_region 9 with fail;have HP:Hid (Gx O x=j):=MO HJ zR hj;have v:Hid (Cs (f.take (k+1))=O.take j++[x]++O.drop j):=by show _=_;rw[HS.o];unfold Gy;rw[HP.o,if_neg zU.o]
       generalize hW:(((wr.drewN _).drewN _).drewN _)=W;have o:Hid (Zz wr W):=by rw[<-hW];exact Bg (Bg (Bg Ad _) _) _
       have zB:Hid (Zz w W):=Z.ah (o.aj Z.size);have zW:Hid (W.ownsRow w.1.size 9 1 (Yz g O.length c) O.length (O.map string)):=HO.kept (Ag none o) (Classical.em _);have yR:wr.1.size<=W.1.size:=o.size;have zJ:g<W.1.size:=Yv
       have yA:I<W.1.size:=Yv
       have zF:W.cell? (Zd I (oa+k))=some (C4 x):=(o.cell (p:=⟨I,oa+k,none⟩) zP).ah cx;have zC:Hid (∀i y,O[i]?=some y->W.cell? (Zd g i)=some (C4 y)):=λi y B=>(o.cell (p:=⟨g,i,none⟩) yI).ah (zX i y B);have Q:Hid (O.length<=c):=by
        rcases zW.2 with⟨hv,_⟩|⟨_,_,_,hv,_,_,D,_⟩
        .cases hv
        .cases hv;exact D
       have D:O.length<=c:=Q.o;have yT:¬c=j:=Yv
       clear hW cx;go_wp2_with (first
        |(at_builtin;refine wpList_append_own_at _ rfl _ _ 28 rfl w.1.size 9 i0 Zc 1 16 underlying28 J M N P rfl Yq _ 0 [] rfl ?d0 ⟨g,0,none⟩ j c ((O.take j).map string) rfl ?dl ?d1 ?d2 ?d3 ?d4 ?d5 ?_))
       case d0=>exact ownsRow_lit W #[] 0 Yv Yo rfl
       case dl=>first|(simp;done)|(simp;omega)
       case d1=>
        intro i u r;rw[getElem?_map]at r;cases d:(O.take j)[i]? with
        |none=>rw[d]at r;cases r
        |some y=>
         rw[d]at r;cases r;have B:O[i]?=some y:=by
          rw[getElem?_take]at d;split at d
          .exact d
          .cases d
         have:=zC i y B;rw[A3,A0];exact(((Below.refl W.1.size W).alloc (Zx) _).cell (p:=⟨g,i,none⟩) zJ).ah this
       case d2=>intro u r;obtain⟨s,_,rfl⟩:=mem_map.1 r;rfl
       case d3=>unfold maxLen;omega
       case d4=>omega
       case d5=>simp;omega
       intro v' V b m E zG;have⟨l,G,yC⟩:∃l G,v'=Yz l j G:=by
        rcases Joins.ownsRow_forms b with⟨e1,_⟩|hf
        .exact(E e1).elim
        .exact hf
       subst yC;try simp only[A0,nil_append]at b
       have q:Below W.1.size W V:=((Below.refl W.1.size W).alloc (Zx) _).grown m Yu (λi J=>by simp[ownBlock]at J;omega);have yQ:W.1.size<=V.1.size:=q.size;have yM:V.cell? (Zd I (oa+k))=some (C4 x):=(q.cell (p:=⟨I,oa+k,none⟩) yA).ah zF
       have yH:Hid (∀i y,O[i]?=some y->V.cell? (Zd g i)=some (C4 y)):=λi y B=>(q.cell (p:=⟨g,i,none⟩) zJ).ah (zC i y B);have zY:=Yw q;have zM:V.ownsRow w.1.size 9 1 (Yz l j G) j ((O.take j).map string):=by
        first|exact b|(rw[map_take];exact b)|(rw[take_length];exact b)
       have zV:=Yw zM;clear zM;have zI:=b.lt l rfl;have zS:=Yw zG;clear b m E q zF zG;try simp only[A0]
       go_upto_region 10 with fail;have H:Below V.1.size V (V.alloc (.cells #[C4 x] 9)):=Zy;have zO:(V.alloc (.cells #[C4 x] 9)).drew.ownsRow w.1.size 9 1 (Yz l j G) j ((O.take j).map string):=zV.kept (Ag none H.drew) (Classical.em _)
       have zN:∀A,(some ⟨V.1.size,0,none⟩:Zk)=some A->∀i s,[x][i]?=some s->(V.alloc (.cells #[C4 x] 9)).drew.cell? (A.add i)=some (C4 s):=by
        intro A e i s d;injection e with e;subst e;cases i with
        |zero=>simp at d;subst d;simp[Addr.add]
        |succ i=>simp at d
       have zZ:(O.drop j).length=O.length -j:=Yu
       have yN:(O.take j).length=j:=Ym
       have yD:w.1.size<=V.1.size:=Yv
       have F:w.1.size<=(V.alloc (.cells #[C4 x] 9)).drew.1.size:=Yt
       have U:w.1.size<=l:=zI.1;have yP:g<l:=by rcases zS.o with h|h<;>simp[ownBlock]at h<;>omega
       have yE:l<V.1.size:=zI.2;have zE:∀n:Zh,(V.alloc (.cells #[C4 x] 9)).drew.grownBy n (some l)->∀A,(some ⟨g,j,none⟩:Zk)=some A->∀i s,(O.drop j)[i]?=some s->n.cell? (A.add i)=some (C4 s):=by intro n t A e i s d;injection e with e;subst e;rw[getElem?_drop]at d;have hc:=yH _ _ d;rw[A3];refine(t.cell_far ⟨g,j+i,none⟩ Yt (λe=>by have:=A4 e;simp at this;omega)).ah ?_;exact(H.drew.cell (p:=⟨g,j+i,none⟩) Yt).ah hc
       go_region_law (first
        |(refine AA (V.alloc (.cells #[C4 x] 9)).drew rfl (.tmp 51) (.tmp 56) 28 rfl w.1.size 9 i0 Zc 16 underlying28 J M N P rfl l j G (O.take j) rfl zO (some ⟨V.1.size,0,none⟩) 1 1 [x] rfl rfl (λe=>by cases e) zN Yo Yv Yt ?_;intro k5 R n L t S X;have z5:w.1.size<=n.1.size:=Zm F t.size;have Y:=X)
        |(have zA:=Y;refine AA n rfl (.tmp 57) (.tmp 60) 28 rfl w.1.size 9 i0 Zc 16 underlying28 J M N P rfl k5 (j+1) R (O.take j++[x]) rfl L (some ⟨g,j,none⟩) (O.length -j) (c -j) (O.drop j) rfl zZ (λe=>by cases e) (zE n t) Yo Yv z5 ?_;intro k6 C w6 zK zH T yF))
       all_goals
        have yB:w.1.size<=k5:=(L.lt k5 rfl).1;have b5:Below w.1.size V n:=(H.drew.aj yD).grown t F (λi e=>by cases e;exact U);have b6:Below w.1.size V w6:=b5.grown zH z5 (λi e=>by cases e;exact yB);have HF:Hid (Zz w w6):=(zB.ah (zY.aj (Dz zB.size))).ah (b6.aj (Zx));have K:(O.take j++[x]++O.drop j).length=j+1+(O.length -j):=Ym
        have HN:Hid (w6.ownsRow w.1.size 9 1 (Yz k6 (O.take j++[x]++O.drop j).length C) (O.take j++[x]++O.drop j).length ((O.take j++[x]++O.drop j).map string)):=by rw[K];exact zK
        have zT:=Yw K;clear zK zH T L t S K zO zN zE b5 b6 H;go_wp2;refine⟨⟨k+1,k6,C,Yv,Yn,by rw[v.o,zT.o],?_,HF⟩,Ys⟩;rw[v.o];exact HN.o
    .obtain rfl:j=O.length:=Yv
     have d1:decide ((O.length:Int)<(O.length:Int))=false:=Yu
     have zR:Hid (∀z,O[O.length]?=some z->NC z x=false):=by intro z hz;simp at hz
     have zU:Hid (¬O[O.length]?=some x):=by show ¬_;simp
     go_upto_region 6 with fail;go_quiet (fail);go_upto_region 8 with fail;go_quiet (fail);go_upto_region 9 with fail;have HP:Hid (Gx O x=O.length):=MO HJ zR hj;have v:Hid (Cs (f.take (k+1))=O.take O.length++[x]++O.drop O.length):=by show _=_;rw[HS.o];unfold Gy;rw[HP.o,if_neg zU.o]
     generalize hW:(((wr.drewN _).drewN _).drewN _)=W;have o:Hid (Zz wr W):=by rw[<-hW];exact Bg (Bg (Bg Ad _) _) _
     have zB:Hid (Zz w W):=Z.ah (o.aj Z.size);have zW:Hid (W.ownsRow w.1.size 9 1 (Yz g O.length c) O.length (O.map string)):=HO.kept (Ag none o) (Classical.em _);have yR:wr.1.size<=W.1.size:=o.size;have zJ:g<W.1.size:=Yv
     have yA:I<W.1.size:=Yv
     have zF:W.cell? (Zd I (oa+k))=some (C4 x):=(o.cell (p:=⟨I,oa+k,none⟩) zP).ah cx;have zC:Hid (∀i y,O[i]?=some y->W.cell? (Zd g i)=some (C4 y)):=λi y B=>(o.cell (p:=⟨g,i,none⟩) yI).ah (zX i y B);have Q:Hid (O.length<=c):=by
      rcases zW.2 with⟨hv,_⟩|⟨_,_,_,hv,_,_,D,_⟩
      .cases hv
      .cases hv;exact D
     have D:O.length<=c:=Q.o;clear hW cx;go_wp2_with (first
      |(at_builtin;refine wpList_append_own_at _ rfl _ _ 28 rfl w.1.size 9 i0 Zc 1 16 underlying28 J M N P rfl Yq _ 0 [] rfl ?d0 ⟨g,0,none⟩ O.length c ((O.take O.length).map string) rfl ?dl ?d1 ?d2 ?d3 ?d4 ?d5 ?_))
     case d0=>exact ownsRow_lit W #[] 0 Yv Yo rfl
     case dl=>first|(simp;done)|(simp;omega)
     case d1=>
      intro i u r;rw[getElem?_map]at r;cases d:(O.take O.length)[i]? with
      |none=>rw[d]at r;cases r
      |some y=>
       rw[d]at r;cases r;have B:O[i]?=some y:=by
        rw[getElem?_take]at d;split at d
        .exact d
        .cases d
       have:=zC i y B;rw[A3,A0];exact(((Below.refl W.1.size W).alloc (Zx) _).cell (p:=⟨g,i,none⟩) zJ).ah this
     case d2=>intro u r;obtain⟨s,_,rfl⟩:=mem_map.1 r;rfl
     case d3=>unfold maxLen;omega
     case d4=>omega
     case d5=>simp;omega
     intro v' V b m E zG;have⟨l,G,yC⟩:∃l G,v'=Yz l O.length G:=by
      rcases Joins.ownsRow_forms b with⟨e1,_⟩|hf
      .exact(E e1).elim
      .exact hf
     subst yC;try simp only[A0,nil_append]at b
     have q:Below W.1.size W V:=((Below.refl W.1.size W).alloc (Zx) _).grown m Yu (λi J=>by simp[ownBlock]at J;omega);have yQ:W.1.size<=V.1.size:=q.size;have yM:V.cell? (Zd I (oa+k))=some (C4 x):=(q.cell (p:=⟨I,oa+k,none⟩) yA).ah zF;have yH:Hid (∀i y,O[i]?=some y->V.cell? (Zd g i)=some (C4 y)):=λi y B=>(q.cell (p:=⟨g,i,none⟩) zJ).ah (zC i y B)
     have zY:=Yw q;have zM:V.ownsRow w.1.size 9 1 (Yz l O.length G) O.length ((O.take O.length).map string):=by
      first|exact b|(rw[map_take];exact b)|(rw[take_length];exact b)
     have zV:=Yw zM;clear zM;have zI:=b.lt l rfl;have zS:=Yw zG;clear b m E q zF zG;try simp only[A0]
     go_upto_region 10 with fail;have H:Below V.1.size V (V.alloc (.cells #[C4 x] 9)):=Zy;have zO:(V.alloc (.cells #[C4 x] 9)).drew.ownsRow w.1.size 9 1 (Yz l O.length G) O.length ((O.take O.length).map string):=zV.kept (Ag none H.drew) (Classical.em _)
     have zN:∀A,(some ⟨V.1.size,0,none⟩:Zk)=some A->∀i s,[x][i]?=some s->(V.alloc (.cells #[C4 x] 9)).drew.cell? (A.add i)=some (C4 s):=by
      intro A e i s d;injection e with e;subst e;cases i with
      |zero=>simp at d;subst d;simp[Addr.add]
      |succ i=>simp at d
     have zZ:(O.drop O.length).length=0:=Yu
     have b:(if c=O.length then some ⟨g,0,none⟩else some ⟨g,O.length,none⟩:Zk)=none->(0:Nat)=0/\c -O.length=0:=by intro e;split at e<;>cases e
     have yN:(O.take O.length).length=O.length:=Ym
     have yD:w.1.size<=V.1.size:=Yv
     have F:w.1.size<=(V.alloc (.cells #[C4 x] 9)).drew.1.size:=Yt
     have U:w.1.size<=l:=zI.1;have yP:g<l:=by rcases zS.o with h|h<;>simp[ownBlock]at h<;>omega
     have yE:l<V.1.size:=zI.2;have zE:∀n:Zh,∀A,(if c=O.length then some ⟨g,0,none⟩else some ⟨g,O.length,none⟩:Zk)=some A->∀i s,(O.drop O.length)[i]?=some s->n.cell? (A.add i)=some (C4 s):=by intro n A _ i s d;simp at d
     go_region_law (first
      |(refine AA (V.alloc (.cells #[C4 x] 9)).drew rfl (.tmp 51) (.tmp 56) 28 rfl w.1.size 9 i0 Zc 16 underlying28 J M N P rfl l O.length G (O.take O.length) rfl zO (some ⟨V.1.size,0,none⟩) 1 1 [x] rfl rfl (λe=>by cases e) zN Yo Yv Yt ?_;intro k5 R n L t S X;have z5:w.1.size<=n.1.size:=Zm F t.size;have Y:=X)
      |(have zA:=Y;refine AA n rfl (.tmp 57) (.tmp 60) 28 rfl w.1.size 9 i0 Zc 16 underlying28 J M N P rfl k5 (O.length+1) R (O.take O.length++[x]) rfl L (if c=O.length then some ⟨g,0,none⟩else some ⟨g,O.length,none⟩) 0 (c -O.length) (O.drop O.length) rfl zZ b (zE n) Yo Yv z5 ?_;intro k6 C w6 zK zH T yF))
     all_goals
      have yB:w.1.size<=k5:=(L.lt k5 rfl).1;have b5:Below w.1.size V n:=(H.drew.aj yD).grown t F (λi e=>by cases e;exact U);have b6:Below w.1.size V w6:=b5.grown zH z5 (λi e=>by cases e;exact yB);have HF:Hid (Zz w w6):=(zB.ah (zY.aj (Dz zB.size))).ah (b6.aj (Zx));have K:(O.take O.length++[x]++O.drop O.length).length=O.length+1+0:=Ym
      have HN:Hid (w6.ownsRow w.1.size 9 1 (Yz k6 (O.take O.length++[x]++O.drop O.length).length C) (O.take O.length++[x]++O.drop O.length).length ((O.take O.length++[x]++O.drop O.length).map string)):=by rw[K];exact zK
      have zT:=Yw K;clear zK zH T L t S K zO zN zE b5 b6 H;go_wp2;refine⟨⟨k+1,k6,C,Yv,Yn,by rw[v.o,zT.o],?_,HF⟩,Ys⟩;rw[v.o];exact HN.o
  .have m:k=f.length:=Yv
   subst m;rw[take_length]at HO |-;go_wp2;go_ret;exact⟨_,_,rfl,HO,Z⟩
theorem Ua(r:Zk)(m:Addr)(c d:Nat)(f b:Zl)(ag:Int)(h0:0<=ag)(w:Zh)(U:Af w w.1.size r f)(J:Af w w.1.size (some m) b)(Z:r=none->f.length=0/\c=0)(hl:f.length<=1048576)(zB:b.length<=1048576)(hs:∀s∈f,s.size<=1048576)(S:∀s∈b,s.size<=1048576)(hd:b.length<=d):
 D8 136 #[.agg #[C3 r f.length c,C3 (some m) b.length d],Zg ag] w λe g=>∃v,e=C5 (.agg #[v,Zb])/\
  g.ownsRow w.1.size 9 1 v (BD f b ag).length ((BD f b ag).map string)/\Zz w g:=by
 have⟨V,T,F,G,H⟩:=info_parts CC;have Q:Below w.1.size w ((w.alloc (.cells #[C1 r f c,C1 (some m) b d] 96)).alloc (.cells #[Zb,Zb] 96)):=(Zy).alloc Yu _;go_enter func136,ntmps136;go_wp2_with fail;refine(En _ _ c d f b _ _ (Zx) (U.T Q) (J.T Q) hl zB hs S).aj ?_;rintro e g ⟨rfl,h⟩;have N:=Q.ah (h.aj Yt);have X:=h.size;simp at X
 have c0:g.cell? (Zd (w.1.size) 0)=some (C1 r f c):=by rw[h.cell (p:=⟨w.1.size,0,none⟩) Yt];simp
 have c1:g.cell? (Zd (w.1.size) 1)=some (C1 (some m) b d):=by rw[h.cell (p:=⟨w.1.size,1,none⟩) Yt];simp
 have r0:g.cell? (Zd (w.1.size+1) 0)=some Zb:=by rw[h.cell (p:=⟨w.1.size+1,0,none⟩) Yu];simp
 have W:g.cell? (Zd (w.1.size+1) 1)=some Zb:=by rw[h.cell (p:=⟨w.1.size+1,1,none⟩) Yu];simp
 have f0:∀o,g.frozen? ⟨w.1.size+1,o,none⟩=false:=λo=>by rw[h.frozen (p:=⟨w.1.size+1,o,none⟩) Yu];simp[go_sem]
 clear h;cases hok:Cv f b with
 |false=>
  go_wp2;refine C0 (.agg #[Zb,Zb]) (by simp[results,results136,go_sem,r0,W]) ⟨Zb,rfl,?_,?_⟩
  .simp only[BD,hok];exact ownsRow_nil _ _ _ _
  .exact(N.setCell (p:=⟨w.1.size+1,0,none⟩) Yu _).setCell (p:=⟨w.1.size+1,1,none⟩) Yu _
 |true=>
  have P:Below w.1.size w (g.alloc (.cells #[] 9)):=N.alloc N.size _;have a0:(g.alloc (.cells #[] 9)).cell? (Zd (w.1.size) 0)=some (C1 r f c):=by rw[((Below.refl g.1.size g).alloc (Zx) _).cell (p:=⟨w.1.size,0,none⟩) Yt];exact c0
  have a1:(g.alloc (.cells #[] 9)).cell? (Zd (w.1.size) 1)=some (C1 (some m) b d):=by rw[((Below.refl g.1.size g).alloc (Zx) _).cell (p:=⟨w.1.size,1,none⟩) Yt];exact c1
  have b0:(g.alloc (.cells #[] 9)).cell? (Zd (w.1.size+1) 0)=some Zb:=by rw[((Below.refl g.1.size g).alloc (Zx) _).cell (p:=⟨w.1.size+1,0,none⟩) Yt];exact r0
  have b1:(g.alloc (.cells #[] 9)).cell? (Zd (w.1.size+1) 1)=some Zb:=by rw[((Below.refl g.1.size g).alloc (Zx) _).cell (p:=⟨w.1.size+1,1,none⟩) Yt];exact W
  have g0:∀o,(g.alloc (.cells #[] 9)).frozen? ⟨w.1.size+1,o,none⟩=false:=λo=>by rw[((Below.refl g.1.size g).alloc (Zx) _).frozen (p:=⟨w.1.size+1,o,none⟩) Yt];exact f0 o
  have E:=(U.A P).bk;have D:(g.alloc (.cells #[] 9)).ownsRow (w.1.size+2) 9 1 (Yz g.1.size 0 0) 0 (([]:Zl).map string):=ownsRow_lit g #[] 0 Yv Yo rfl;by_cases h1:(b.length:Int)<ag
  .have zA:¬ag<0:=Yv
   have x:BD f b ag=f++b.take (b.length):=by simp only[BD,hok,if_true];rw[show(min (max ag 0) (b.length:Int)).toNat=b.length from by omega]
   have u:(b.take (b.length)).length=b.length:=by rw[Ct];omega
   have z:Af w w.1.size (some m) (b.take (b.length)):=J.take (b.length);have B:=Yw (Zn E D);have M:=Yw x;have t:=Yw u;clear E D x u U J hs S r0 W f0;go_wp2
   go_region_law (first
    |(refine AA _ rfl (.tmp 19) (.tmp 21) 28 rfl (w.1.size+2) 9 V Zc 16 underlying28 T F G H rfl g.1.size 0 0 [] rfl (by exact B.2) r f.length c f rfl rfl Z (by exact B.1) Yo Yv Yt ?_;intro K n w3 j h _ _;simp only[A0,nil_append]at j;have A:=h.size;have l1:=h.cell (a:=⟨w.1.size,1,none⟩) (by exact a1) Yt;have q0:=h.cell (a:=⟨w.1.size+1,0,none⟩) (by exact b0) Yt;have q1:=h.cell (a:=⟨w.1.size+1,1,none⟩) (by exact b1) Yt;have qf:∀o,w3.frozen? ⟨w.1.size+1,o,none⟩=false:=λo=>(h.frozen_far ⟨w.1.size+1,o,none⟩ Yt Yt).ah (g0 o);have l:=P.drew.grown h Yt (λk C=>by cases C;omega);have Y:=l.size;have s:=(j.lt K rfl).1)
    |(refine AA _ rfl (.tmp 22) (.tmp 26) 28 rfl (w.1.size+2) 9 V Zc 16 underlying28 T F G H rfl K f.length n f rfl j (some m) (b.length) d (b.take (b.length)) rfl t (λe=>by cases e) (z.A l).bk Yo Yv (by simp at A;omega) ?_;intro k4 q w4 y i _ _;have zC:=i.size;have p0:=i.cell (a:=⟨w.1.size+1,0,none⟩) q0 Yt;have p1:=i.cell (a:=⟨w.1.size+1,1,none⟩) q1 Yt;have pf:∀o,w4.frozen? ⟨w.1.size+1,o,none⟩=false:=λo=>(i.frozen_far ⟨w.1.size+1,o,none⟩ (by simp at A;simp;omega) Yt).ah (qf o);have O:=l.grown i Yv (λk C=>by cases C;omega)))
   all_goals
    have R:=Ib (L:=f++b.take (b.length)) O (by rw[Ak,t.o];exact y);have I:=Yw R;clear R j y h i z B;go_wp2;refine C0 (.agg #[Yz k4 (f.length+(b.length)) q,Zb]) (by simp[results,results136,go_sem,p0,p1]) ⟨_,rfl,?_,I.2⟩;rw[M.o];exact I.1
  .have zA:0<=ag:=Yv
   have zE:ag<=b.length:=Yv
   have zF:ag.toNat<=b.length:=Yv
   have s:ag<=d:=Yv
   have x:BD f b ag=f++b.take (ag.toNat):=by simp only[BD,hok,if_true];rw[show(min (max ag 0) (b.length:Int)).toNat=ag.toNat from by omega]
   have u:(b.take (ag.toNat)).length=ag.toNat:=by rw[Ct];omega
   have z:Af w w.1.size (some m) (b.take (ag.toNat)):=J.take (ag.toNat);have B:=Yw (Zn E D);have M:=Yw x;have t:=Yw u;clear E D x u U J hs S r0 W f0;go_wp2
   go_region_law (first
    |(refine AA _ rfl (.tmp 19) (.tmp 21) 28 rfl (w.1.size+2) 9 V Zc 16 underlying28 T F G H rfl g.1.size 0 0 [] rfl (by exact B.2) r f.length c f rfl rfl Z (by exact B.1) Yo Yv Yt ?_;intro K n w3 j h _ _;simp only[A0,nil_append]at j;have A:=h.size;have l1:=h.cell (a:=⟨w.1.size,1,none⟩) (by exact a1) Yt;have q0:=h.cell (a:=⟨w.1.size+1,0,none⟩) (by exact b0) Yt;have q1:=h.cell (a:=⟨w.1.size+1,1,none⟩) (by exact b1) Yt;have qf:∀o,w3.frozen? ⟨w.1.size+1,o,none⟩=false:=λo=>(h.frozen_far ⟨w.1.size+1,o,none⟩ Yt Yt).ah (g0 o);have l:=P.drew.grown h Yt (λk C=>by cases C;omega);have Y:=l.size;have s:=(j.lt K rfl).1)
    |(refine AA _ rfl (.tmp 22) (.tmp 26) 28 rfl (w.1.size+2) 9 V Zc 16 underlying28 T F G H rfl K f.length n f rfl j (some m) (ag.toNat) d (b.take (ag.toNat)) rfl t (λe=>by cases e) (z.A l).bk Yo Yv (by simp at A;omega) ?_;intro k4 q w4 y i _ _;have zC:=i.size;have p0:=i.cell (a:=⟨w.1.size+1,0,none⟩) q0 Yt;have p1:=i.cell (a:=⟨w.1.size+1,1,none⟩) q1 Yt;have pf:∀o,w4.frozen? ⟨w.1.size+1,o,none⟩=false:=λo=>(i.frozen_far ⟨w.1.size+1,o,none⟩ (by simp at A;simp;omega) Yt).ah (qf o);have O:=l.grown i Yv (λk C=>by cases C;omega)))
   all_goals
    have R:=Ib (L:=f++b.take (ag.toNat)) O (by rw[Ak,t.o];exact y);have I:=Yw R;clear R j y h i z B;go_wp2;refine C0 (.agg #[Yz k4 (f.length+(ag.toNat)) q,Zb]) (by simp[results,results136,go_sem,p0,p1]) ⟨_,rfl,?_,I.2⟩;rw[M.o];exact I.1
theorem Ub(h:Zk)(c:Nat)(d:Zl)(ag:Int)(h0:0<=ag)(w:Zh)(l:Af w w.1.size h d)(J:h=none->d.length=0/\c=0)(T:d.length<=1048576)(u:∀s∈d,s.size<=1048576):
 D8 136 #[.agg #[C3 h d.length c,Zb],Zg ag] w λe b=>∃v,e=C5 (.agg #[v,Zb])/\
  b.ownsRow w.1.size 9 1 v (BD d [] ag).length ((BD d [] ag).map string)/\Zz w b:=by
 have⟨F,E,x,y,z⟩:=info_parts CC;have t:Below w.1.size w ((w.alloc (.cells #[C1 h d c,Zb] 96)).alloc (.cells #[Zb,Zb] 96)):=(Zy).alloc Yu _;go_enter func136,ntmps136;go_wp2_with fail;refine(En _ none c 0 d [] _ _ (Zx) (l.T t) (.inl rfl) T Yu u Yu).aj ?_;rintro e b ⟨rfl,f⟩;have j:=t.ah (f.aj Yt);have n:=f.size;simp at n
 have P:b.cell? (Zd (w.1.size) 0)=some (C1 h d c):=by rw[f.cell (p:=⟨w.1.size,0,none⟩) Yt];simp
 have Q:b.cell? (Zd (w.1.size) 1)=some Zb:=by rw[f.cell (p:=⟨w.1.size,1,none⟩) Yt];simp
 have r0:b.cell? (Zd (w.1.size+1) 0)=some Zb:=by rw[f.cell (p:=⟨w.1.size+1,0,none⟩) Yu];simp
 have m:b.cell? (Zd (w.1.size+1) 1)=some Zb:=by rw[f.cell (p:=⟨w.1.size+1,1,none⟩) Yu];simp
 have q:∀o,b.frozen? ⟨w.1.size+1,o,none⟩=false:=λo=>by rw[f.frozen (p:=⟨w.1.size+1,o,none⟩) Yu];simp[go_sem]
 clear f;cases hok:Cv d []with
 |false=>
  go_wp2;refine C0 (.agg #[Zb,Zb]) (by simp[results,results136,go_sem,r0,m]) ⟨Zb,rfl,?_,?_⟩
  .simp only[BD,hok];exact ownsRow_nil _ _ _ _
  .exact(j.setCell (p:=⟨w.1.size+1,0,none⟩) Yu _).setCell (p:=⟨w.1.size+1,1,none⟩) Yu _
 |true=>
  have r:Below w.1.size w (b.alloc (.cells #[] 9)):=j.alloc j.size _;have a0:(b.alloc (.cells #[] 9)).cell? (Zd (w.1.size) 0)=some (C1 h d c):=by rw[((Below.refl b.1.size b).alloc (Zx) _).cell (p:=⟨w.1.size,0,none⟩) Yt];exact P
  have M:(b.alloc (.cells #[] 9)).cell? (Zd (w.1.size) 1)=some Zb:=by rw[((Below.refl b.1.size b).alloc (Zx) _).cell (p:=⟨w.1.size,1,none⟩) Yt];exact Q
  have N:(b.alloc (.cells #[] 9)).cell? (Zd (w.1.size+1) 0)=some Zb:=by rw[((Below.refl b.1.size b).alloc (Zx) _).cell (p:=⟨w.1.size+1,0,none⟩) Yt];exact r0
  have O:(b.alloc (.cells #[] 9)).cell? (Zd (w.1.size+1) 1)=some Zb:=by rw[((Below.refl b.1.size b).alloc (Zx) _).cell (p:=⟨w.1.size+1,1,none⟩) Yt];exact m
  have S:∀o,(b.alloc (.cells #[] 9)).frozen? ⟨w.1.size+1,o,none⟩=false:=λo=>by rw[((Below.refl b.1.size b).alloc (Zx) _).frozen (p:=⟨w.1.size+1,o,none⟩) Yt];exact q o
  have i:=(l.A r).bk;have g:(b.alloc (.cells #[] 9)).ownsRow (w.1.size+2) 9 1 (Yz b.1.size 0 0) 0 (([]:Zl).map string):=ownsRow_lit b #[] 0 Yv Yo rfl;by_cases h1:(0:Int)<ag
  case' pos=>
   have zA:¬ag<0:=Yv
   have f:BD d [] ag=d++[]:=by simp[BD,hok]
  case' neg=>
   obtain rfl:ag=0:=Yv
   have f:BD d [] 0=d++[]:=by simp[BD,hok]
  all_goals
   have C:=Yw (Zn i g);have H:=Yw f;clear i g f l u r0 m q;go_wp2
   go_region_law (first
    |(refine AA _ rfl (.tmp 19) (.tmp 21) 28 rfl (w.1.size+2) 9 F Zc 16 underlying28 E x y z rfl b.1.size 0 0 [] rfl (by exact C.2) h d.length c d rfl rfl J (by exact C.1) Yo Yv Yt ?_;intro G l s i f _ _;simp only[A0,nil_append]at i;have B:=f.size;have l1:=f.cell (a:=⟨w.1.size,1,none⟩) (by exact M) Yt;have X:=f.cell (a:=⟨w.1.size+1,0,none⟩) (by exact N) Yt;have Y:=f.cell (a:=⟨w.1.size+1,1,none⟩) (by exact O) Yt;have Z:∀o,s.frozen? ⟨w.1.size+1,o,none⟩=false:=λo=>(f.frozen_far ⟨w.1.size+1,o,none⟩ Yt Yt).ah (S o);have q:=r.drew.grown f Yt (λk D=>by cases D;omega);have K:=q.size;have zB:=(i.lt G rfl).1)
    |(refine AA _ rfl (.tmp 22) (.tmp 26) 28 rfl (w.1.size+2) 9 F Zc 16 underlying28 E x y z rfl G d.length l d rfl i none 0 0 [] rfl rfl (λ_=>⟨rfl,rfl⟩) (λA e=>by cases e) Yo Yv (by simp at B;omega) ?_;intro U m A u g _ _;have zC:=g.size;have V:=g.cell (a:=⟨w.1.size+1,0,none⟩) X Yt;have W:=g.cell (a:=⟨w.1.size+1,1,none⟩) Y Yt;have pf:∀o,A.frozen? ⟨w.1.size+1,o,none⟩=false:=λo=>(g.frozen_far ⟨w.1.size+1,o,none⟩ (by simp at B;simp;omega) Yt).ah (Z o);have I:=q.grown g Yv (λk D=>by cases D;omega)))
   all_goals
    have R:=Ib (L:=d++[]) I (by rw[Ak];exact u);have D:=Yw R;clear R i u f g C;go_wp2;refine C0 (.agg #[Yz U (d.length+0) m,Zb]) (by simp[results,results136,go_sem,V,W]) ⟨_,rfl,?_,D.2⟩;rw[H.o];exact D.1
