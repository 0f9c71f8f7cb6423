import Derived.Test.YtfehblndlffcmaaGreatDoorX05
import Derived.Test.YtfehblndlffcmaaGreatDoorX06
import Derived.Test.YtfehblndlffcmaaGreatDoorX07
set_option maxRecDepth 100000
set_option maxHeartbeats 16000000
open Option renaming some->an,none->ba
open Bool renaming true->bg,false->bq
open Go.RowKit renaming Below->bs
open Decidable renaming decide->bx
open Go.Obj renaming cells->ca
open Go.Value renaming slice->cr,agg->ct,bool->ef
open Or renaming inl->dp,inr->eb
open List renaming length->eh
open Go.World renaming cell?->ek,frozen?->el,ownsRow->eo,grownBy->ep,setCell->ev
namespace Go.Proofs.YtfehblndlffcmaaGreatDoor
open ChangeShapes WideShapes ChangeAt RowKit _root_.Go.Proofs.Tryz List World Value
variable{w:Zh}{b n c:Nat}{g p:Int}{i j d f h:Zl}{l a:Zk}
section
attribute [local go_sem↓] Go.wp_at_zero Go.wp_at_succ
structure PY (w wr:Zh) (k:Nat) (v:Value) (F:List Bool) (G:List Int):Prop where
 cn:bs w.1.size w wr
 fl:eo wr (w.1.size+1) 4 1 (cr (an ⟨w.1.size+1,0,ba⟩) 601 601) 601 (F.map Value.bool)
 K:eo wr (w.1.size+2) 3 1 v (eh G) (G.map (Value.int .i64))
 fn:eh F=601
 gn:eh G<=k
theorem PY.ah{wr a:Zh}{k:Nat}{v:D4}{F:List Bool}{G:List Int}(h:PY w wr k v F G)(b:Zz wr a):PY w a k v F G:=
 ⟨h.cn.ag (b.ai h.cn.size),h.fl.kept (Af ba b) (eb H0),h.K.kept (Af ba b) (by cases v.ownBlock<;>simp),h.fn,h.gn⟩
theorem Vh(l t f d:Int)(D:Nat)(P L:D4){h:List Kd}(K:Br w w.1.size a h)(M:OQ h)(hl:eh h<=600)(zH:∀k∈h,eh k.D<=1048576)(h1:1<=l)(h8:l<=8):
 D8 175 #[ct #[Zg l,Zg t,Zg f,Zg d,cr a (eh h) D,P,L]] w λe I=>∃b,e=.returned (ef b)/\Zz w I:=by
 obtain⟨⟨i0,hi,yT,yU,yV⟩,i1,yG,yQ,yR,yS⟩:=info_parts WL,info_parts Aaf;have yB:bs w.1.size w (w.alloc (ca #[Zg l,Zg t,Zg f,Zg d,cr a (eh h) D,P,L] 30)):=Zy;have o:=AW.new w l t f d (cr a (eh h) D) P L 30;delta D8;go_in;go_wp2_with (at_make;refine wpList_make_full _ rfl _ _ 272 rfl (w.1.size+1) 4 i0 (ef bq) 1 underlying272 hi yT yU .i64 .i64 _ _ 601 rfl rfl rfl rfl ?c1 ?c2 ?c3 ?_)
 case c1=>rw[yV];omega
 case c2=>unfold maxLen;omega
 case c3=>simp
 intro w1 C r;rw[toList_madeCells_one]at C;have E:bs (w.1.size+1) (w.alloc (ca #[Zg l,Zg t,Zg f,Zg d,cr a (eh h) D,P,L] 30)) w1:=Ae.grown r Yu Yu;have zU:=o.ah E Yv;have O:=yB.ag (E.ai Yv);have yY:w.1.size+1<w1.1.size:=by have:=(C.lt _ rfl).2;simpa using this
 clear r E o;go_wp2;go_loopw [4,5] (λv i wr=>∃(k g c:Nat) (F:List Bool) (G:List Int),k<=eh h/\i=Zg k/\v=Yz g (eh G) c/\Hid (PY w wr k (Yz g (eh G) c) F G)/\Hid (AW wr w.1.size l t f d (cr a (eh h) D) P L)) (λ_ i _=>eh h -(intOf i).toNat)
 case atStart=>
  refine⟨0,w1.1.size,0,replicate 601 bq,[],Aq _,rfl,rfl,⟨O.alloc O.size _,?_,?_,Yu,Yu⟩,zU.ah (Zy) zU.2.2.2.2.2.2.2⟩
  .rw[map_replicate];exact C.alloc _
  exact ownsRow_lit w1 #[] 0 Yv (by simp[maxLen]) rfl
 obtain⟨k,g,c,F,G,hk,rfl,rfl,Z,HX⟩:=hrel;have⟨x0,x1,x2,x3,x4,x5,x6,x7⟩:=HX.o;by_cases hlt:k<eh h
 case neg=>
  have U:=Z.cn;have yA:=HX;clear C Z HX;go_wp2;go_loopw [8] (λo wq=>∃i:Nat,i<=eh h/\o=Zg i/\Zz w wq/\Hid (AW wq w.1.size l t f d (cr a (eh h) D) P L)) (λo _=>eh h -(intOf o).toNat)
  case atStart=>exact⟨0,Aq _,rfl,U,yA⟩
  obtain⟨i,xF,rfl,r,zN⟩:=hrel;have⟨x0,x1,x2,x3,x4,x5,x6,x7⟩:=zN.o;by_cases hilt:i<eh h
  case neg=>go_wp2;go_ret;exact⟨_,rfl,r⟩
  have Z:=K.A r;have⟨b,J,ha,hb,X⟩:=Z.at hilt;subst ha;have HG:Hid (h[i]?=an h[i]):=Zv hilt;generalize h[i]=x at *
  clear X;have o:=zH x (Zs HG);go_wp2;go_loopw [9] (λT o=>∃q:Nat,q<=eh x.D/\T=Zg q/\Zz w o/\Hid (AW o w.1.size l t f d (cr (an ⟨b,J,ba⟩) (eh h) D) P L)) (λT _=>eh x.D -(intOf T).toNat)
  case atStart=>exact⟨0,Aq _,rfl,r,zN⟩
  obtain⟨q,hq,rfl,C,X⟩:=hrel;have o:=K.A C;have⟨b',zM,zB,_,zE⟩:=o.at hilt;cases zB;obtain⟨⟨_,e1,_,A,B,e3,zG⟩,y0,y1,y2,y3,y4,y5,y6,M⟩:=zE i _ HG,X.o;clear x0 x1 x2 x3 x4 x5 x6 x7;have T:(0:Int)<=(i:Int):=Yv;have xE:(i:Int)<(eh h:Int):=Yv;have yE:b<wr.1.size:=Yv;by_cases hql:q<eh x.D
  case neg=>clear zE zG o;go_wp2;exact⟨⟨i+1,Yv,Yn,C,X⟩,Ys⟩
  obtain⟨rb,yZ,yN,xH,zT⟩:=zG.at hql;subst yN;have HS:Hid (x.D[q]?=an x.D[q]):=Zv hql;have es:=zT q _ HS;have yL:(0:Int)<=(q:Int):=Yv;have yM:(q:Int)<(eh x.D:Int):=Yv;have zJ:rb<wr.1.size:=Yv;generalize x.D[q]=s at *
  have T:∀n:Aw wr,D8 79 #[ct #[Zg l,Zg t,Zg f,Zg d,cr (an ⟨b,J,ba⟩) (eh h) D,P,L],.string s] n.w λe I=>e=.returned (Zg (CC h s))/\bs n.w.1.size n.w I:=λn=>Dt l t f d _ D P L h s n.w w.1.size (o.A (n.h.ai Yv)) (Dl n.h.size) Yv;obtain⟨zY,q0,q1,q2⟩:=Yw T,Aw.cell y0 M,Aw.cell y1 M,Aw.cell y2 M;obtain⟨q3,q4,q5,q6,q7,q8,yK,HK⟩:=Aw.cell y3 M,Aw.cell y4 M,Aw.cell y5 M,Aw.cell y6 M,Aw.cell e3 yE,Aw.cell es zJ,Aw.ne wr,Yw o;clear T zE zT zG o;go_wp2;refine AP Yr Yr ?_
  repeat (go_big_quiet_step (exact Aw.calls (zY _)))
  refine wpQuiet_nil ?_;intro n;have Q:bs w.1.size w n.w:=C.ag (n.h.ai Yv);have zA:Br n.w w.1.size (an ⟨b,J,ba⟩) h:=Br.A HK (n.h.ai Yv);have zO:Hid (AW n.w w.1.size l t f d (cr (an ⟨b,J,ba⟩) (eh h) D) P L):=AW.ah X n.h M;obtain⟨⟨z0,z1,z2,z3,z4,z5,z6,z7⟩,b',zM,zB,_,T⟩:=zO.o,zA.at hilt;cases zB;obtain⟨_,f1,_,_⟩:=T i _ HG;rcases CU h s with⟨hf,xG⟩|⟨i2,u,hf,Y,yO⟩
  .rw[hf];clear T zA;go_wp2;go_quiet (fail);go_wp2;go_ret;exact⟨_,rfl,Bx Q _⟩
  rw[hf];obtain⟨_,g1,_,_⟩:=T i2 _ Y;have yW:=(Zw Y).1;have yH:(0:Int)<=(i2:Int):=Yv;have yI:(i2:Int)<(eh h:Int):=Yv;have yX:bx ((i2:Int)<0)=bq:=Yu;clear T zA Y yO;by_cases hlt2:u.born<x.born
  .have T:bx (x.born<=u.born)=bq:=Yt;go_wp2;go_quiet (fail);go_wp2;exact⟨⟨q+1,Yv,Yn,Bx Q _,AW.ah zO (Bx Ae nq) z7⟩,Ys⟩
  have T:bx (x.born<=u.born)=bg:=Yt;go_wp2;go_quiet (fail);go_wp2;go_ret;exact⟨_,rfl,Bx Q _⟩
 obtain⟨b,J,ha,hb,X⟩:=(K.A Z.cn).at hlt;subst ha;have H:h[k]?=an h[k]:=Zv hlt;obtain⟨c0,c1,c2,A,B,c3,hr⟩:=X k _ H;have o:=getElem_mem hlt;have m1:=M.i _ o;have m2:=zH _ o;have yD:b<wr.1.size:=Yv;have T:=Z.o;clear HX Z C;have HG:=Yw H;by_cases hk0:k=0
 case' pos=>
  have zV:bx (0<k)=bq:=Yt;clear X hk0
 case' neg=>
  have zV:bx (0<k)=bg:=Yt;have⟨j,HJ⟩:∃j,Hid (k=j+1):=⟨k -1,by show _=_;omega⟩;have y:j<eh h:=Dl HJ.o;have HP:Hid (h[j]?=an h[j]):=Zv y;obtain⟨d0,_,_,_⟩:=X j _ HP;generalize h[j]=p at *
  have xI:IntKind.i64.wrap ((k:Int) -1)=(j:Int):=by have:=HJ.o;rw[show(k:Int) -1=(j:Int) by omega];exact wrap_small Yv Yv
  have yH:(0:Int)<=(j:Int):=Yv;have yI:(j:Int)<(eh h:Int):=Yv;clear X hk0 y
 all_goals
  clear K M zH o H;generalize h[k]=x at *
  go_wp2;have E:bs wr.1.size wr (wr.alloc (Obj.cells #[string x.sum,int IntKind.i64 x.born,string x.i,slice A (eh x.D) B] 78)):=Zy;have z1:(wr.alloc (Obj.cells #[string x.sum,int IntKind.i64 x.born,string x.i,slice A (eh x.D) B] 78)).1.size=wr.1.size+1:=Yu;have t1:ek (wr.alloc (Obj.cells #[string x.sum,int IntKind.i64 x.born,string x.i,slice A (eh x.D) B] 78)) (Zd (wr.1.size) 0)=an (.string x.sum):=Yu;have zW:ek (wr.alloc (Obj.cells #[string x.sum,int IntKind.i64 x.born,string x.i,slice A (eh x.D) B] 78)) (Zd (wr.1.size) 1)=an (Zg x.born):=Yu;have t2:ek (wr.alloc (Obj.cells #[string x.sum,int IntKind.i64 x.born,string x.i,slice A (eh x.D) B] 78)) (Zd (wr.1.size) 2)=an (.string x.i):=Yu;have t3:ek (wr.alloc (Obj.cells #[string x.sum,int IntKind.i64 x.born,string x.i,slice A (eh x.D) B] 78)) (Zd (wr.1.size) 3)=an (cr A (eh x.D) B):=Yu;have W:AW (wr.alloc (Obj.cells #[string x.sum,int IntKind.i64 x.born,string x.i,slice A (eh x.D) B] 78)) w.1.size l t f d (cr (an ⟨b,J,ba⟩) (eh h) D) P L:=AW.ah ⟨x0,x1,x2,x3,x4,x5,x6,x7⟩ E x7;generalize hW1:wr.alloc (Obj.cells #[string x.sum,int IntKind.i64 x.born,string x.i,slice A (eh x.D) B] 78)=W1 at *
  have zS:Ab W1 W1.1.size A x.D:=(hr.ai T.cn.size).X E;have q0:=Aw.cell W.1 Yv;have xJ:=Aw.cell W.2.2.2.1 Yv;have xK:=Aw.cell W.2.2.2.2.1 Yv;have q1:=Aw.cell t1 Yv;have q2:=Aw.cell t2 Yv;have q3:=Aw.cell t3 Yv;have q5:=Aw.cell zW Yv;try have q6:=Aw.cell ((E.cell (p:=⟨b,_,ba⟩) yD).ag d0) Yv
  have yK:=Aw.ne W1;have H:∀n:Aw W1,D8 98 #[ct #[.string x.i,cr A (eh x.D) B],Zg l] n.w λe I=>e=.returned (ef (AL x.i x.D l))/\bs n.w.1.size n.w I:=λn=>DT x.i B l (zS.X n.h) m2 m1;have o:∀n:Aw W1,D8 65 #[ct #[.string x.i,cr A (eh x.D) B],Zg l] n.w λe I=>e=.returned (.string (AG x.i x.D l))/\bs n.w.1.size n.w I:=λn=>GJ x.i B l (zS.X n.h) m2 m1;have hS:∀n:Aw W1,D8 64 #[.string (AG x.i x.D l),Zg l] n.w λe I=>e=.returned (.string (LM x l))/\bs n.w.1.size n.w I:=λn=>Jh _ l _ (FT _ _ _) h1 h8;have y:∀n:Aw W1,D8 18 #[Zg x.born,Zg 1,Zg d] n.w λe I=>e=.returned (ef (bx (1<=x.born/\x.born<=d)))/\bs n.w.1.size n.w I:=λn=>(CY _ _ _ _).ai (by rintro e I ⟨rfl,rfl⟩;exact⟨rfl,Ae⟩);obtain⟨R,N,S⟩:=Yw (Zn o hS),Yw H,Yw y;clear o hS H y;generalize AG x.i x.D l=fx at *
  generalize hsx:LM x l=sx at *
  have O:=T.cn.ag (E.ai T.cn.size)
 all_goals first
  |(have o:=HP
    clear o;cases hless:Op.bytesLess p.sum.toList x.sum.toList
    case' false=>
     have V:Hid True:=trivial;cases hok:AL x.i x.D l
     all_goals
      rw[hok]at N;by_cases hs:x.sum=sx
      case' pos=>
       rw[hs]at hless;have U:(x.sum.toList !=sx.toList)=bq:=by rw[hs];simp
      case' neg=>
       have U:(x.sum.toList !=sx.toList)=bg:=by simp[BJ hs,bne]
       have zK:=BJ hs)
  |skip
 all_goals first
  |(have o:=V;clear o)
  |(cases hok:AL x.i x.D l
    case' false=>
     rw[hok]at N;have V:Hid True:=trivial
    case' true=>
     rw[hok]at N;by_cases hs:x.sum=sx
     case' neg=>
      have U:(x.sum.toList !=sx.toList)=bg:=(by simp[BJ hs,bne]);have zK:=BJ hs;have V:Hid True:=trivial
     case' pos=>
      have U:(x.sum.toList !=sx.toList)=bq:=(by rw[hs];simp);try rw[hs]at hless
      by_cases hrg:1<=x.born/\x.born<=d
      case' neg=>
       rw[decide_eq_false hrg]at S;have V:Hid True:=trivial
      case' pos=>
       rw[decide_eq_true hrg]at S;refine AP Yr Yr ?_
       repeat (go_big_quiet_step (first|exact Aw.calls (N _)|exact Aw.calls (R.1 _)|exact Aw.calls (R.2 _)|exact Aw.calls (S _)))
       refine wpQuiet_nil ?_;intro n;have o:PY w n.w k (Yz g (eh G) c) F G:=T.ah (E.ag (n.h.ai Yv));have Q:=W.ah n.h Yv;obtain⟨y0,y1,y2,y3,y4,y5,y6,M⟩:=Q;have n1:=Aw.cell zW Yv n;have nz:=n.size;by_cases hlow:x.born<=600
       .have zF:=o.fl.cellAt x.born.toNat Yv;have yF:x.born.toNat<eh F:=by rw[o.fn];omega
        rw[getElem?_map,Zv yF,Option.map_some]at zF;have xA:=o.fl.frozenAt x.born.toNat;cases hse:F[x.born.toNat]with
        |true=>rw[hse]at zF;have v:=Yw o;clear o T N R S;go_wp2;go_ret;exact⟨_,rfl,v.cn⟩
        |false=>
         rw[hse]at zF;have H:=o.fl.stored x.born.toNat (ef bg);rw[<-map_set]at H;have Y:=o.cn.setCell (p:=⟨w.1.size+1,x.born.toNat,ba⟩) Yu (ef bg);have y:=ownsRow_setCell_below o.K (a:=⟨w.1.size+1,x.born.toNat,ba⟩) Yu (ef bg);have HN:Hid (PY w (ev n.w (Zd (w.1.size+1) (x.born.toNat)) (ef bg)) (k+1) (Yz g (eh G) c) (F.set x.born.toNat bg) G):=⟨Y,H.1,y,by rw[length_set];exact o.fn,Nat.le_succ_of_le o.gn⟩;have HB:Hid (AW (ev n.w (Zd (w.1.size+1) (x.born.toNat)) (ef bg)) w.1.size l t f d (cr (an ⟨b,J,ba⟩) (eh h) D) P L):=(by refine⟨?_,?_,?_,?_,?_,?_,?_,D2 M⟩<;>(rw[cell?_setCell_other _ _ _ _ Yu];assumption));clear o T N R S H y Y;go_wp2;exact⟨⟨k+1,g,c,_,G,Yv,Yn,rfl,HN,HB⟩,Ys⟩
       obtain⟨m,Y,H,hlen⟩:=o.K,o.fl,o.cn,o.gn;have zZ:Hid (eh F=601):=o.fn;have zX:Hid (AW n.w w.1.size l t f d (cr (an ⟨b,J,ba⟩) (eh h) D) P L):=⟨y0,y1,y2,y3,y4,y5,y6,id M⟩;have⟨y,yJ⟩:=Ag G;subst yJ;have v:=Yw (Zn m (Zn Y H));clear T N R S o U m Y;go_wp2;go_loopw [7] (λT wq=>∃q m:Nat,q<=eh y/\T=Zg q/\wq=n.w.drewN m) (λT _=>eh y -(intOf T).toNat)
       case atStart=>exact⟨0,0,Aq _,rfl,rfl⟩
       obtain⟨q,m,hq,rfl,rfl⟩:=hrel;by_cases hqlt:q<eh y
       .have zP:=v.1.cellAt q (D2 hqlt);rw[getElem?_map,Zv hqlt]at zP;simp only[Option.map_some]at zP;have yL:(0:Int)<=(q:Int):=Yv;have yM:(q:Int)<(eh y:Int):=Yv;generalize y[q]=z at *
        by_cases hz:z=x.born
        .subst hz;go_wp2;go_quiet (fail);go_wp2;go_ret;exact⟨_,rfl,Bx (Bx H _) _⟩
        have zV:(z==x.born)=bq:=D2 hz;clear hz;go_wp2;go_quiet (fail);go_wp2;exact⟨⟨q+1,m+nq,Yv,Yn,rfl⟩,Ys⟩
       obtain rfl:q=eh y:=Yv;have o:eo (n.w.drewN m) (w.1.size+2) 3 1 (Yz g (eh y) c) (eh y) (y.map (int .i64)):=v.1;have U:eo (n.w.drewN m) (w.1.size+1) 4 1 (Yz (w.1.size+1) 601 601) 601 (F.map Value.bool):=v.2.1;have xD:=(o.lt g rfl).1;have HD:=Yw (Zn o U);have yC:bs w.1.size w (n.w.drewN m):=Bx H _;have zI:w.1.size+2<=(n.w.drewN m).1.size:=Dl (o.lt g rfl).2
       clear o U;go_wp2_with (first
        |(at_builtin;refine wpList_append_own _ rfl _ _ 88 rfl (w.1.size+2) 3 i1 Ze 1 8 underlying88 yG yQ yR yS rfl Yq _ (eh y) (y.map (int .i64)) rfl ?d0 ⟨n.w.1.size,0,ba⟩ 1 1 [Zg x.born] rfl rfl ?d1 ?d2 ?d3 ?d4 ?d5 ?_)
        |go_in)
       case d0=>exact HD.1.alloc _
       case d1=>exact cell_one_new _ _ _
       case d2=>intro u Y;simp at Y;subst Y;rfl
       case d3=>unfold maxLen;omega
       case d4=>omega
       case d5=>simp at zI |-;omega
       intro v' w2 o r _;have⟨g',c',yP,xB,xC⟩:=o.form Yv;subst yP;have zC:bs (w.1.size+2) (n.w.drewN m) w2:=(Ae.alloc zI _).grown r (by simp at zI |-;omega) (by intro k hk;simp[ownBlock]at hk;omega);have LB:=Yw (zX.ah ((Bx Ae m:bs (w.1.size+2) n.w (n.w.drewN m)).ag zC) Yv);have U:=(HD.2.alloc (ca #[Zg x.born] 3)).kept r (eb Fo);have HN:Hid (PY w w2 (k+1) (Yz g' (eh (y++[x.born])) c') F (y++[x.born])):=⟨yC.ag (zC.ai Yv),U,D2 o,zZ,Yt⟩;clear o r U zC;go_wp2;exact⟨⟨k+1,g',c',F,_,Yv,Yn,Yu,HN,LB⟩,Ys⟩)
 all_goals
  refine AP Yr Yr ?_
  repeat (go_big_quiet_step (first|exact Aw.calls (N _)|exact Aw.calls (R.1 _)|exact Aw.calls (R.2 _)|exact Aw.calls (S _)))
  refine wpQuiet_nil ?_;intro n;go_wp2;go_ret;exact⟨_,rfl,O.ag (n.h.ai O.size)⟩
end
def VW(births:Int)(w w':Zh)(e:Ending):Prop:=∃b,e=.returned (ef b)/\(b=bg->0<=births/\births<=1000000000)/\Zz w w'
theorem VW.no{a:Int}{b:Zh}(h:Zz w b):VW a w b (.returned (ef bq)):=⟨bq,rfl,(λe=>by cases e),h⟩
theorem VW.yes{a:Int}{b:Zh}(k:0<=a/\a<=1000000000)(h:Zz w b):VW a w b (.returned (ef bg)):=⟨bg,rfl,λ_=>k,h⟩
theorem Ot(q g d c:Int){p:Zk}(y P O:Nat){o:C9}{h:Db}{m:Da}(f:Bo w w.1.size a p l o h m)(hk:OQ o)(hp:Sg h)(hf:OR o h m):
 D8 141 #[ct (Yg q g d c a (eh o) y p (eh h) P l (eh m) O)] w λe J=>VW c w J e:=by
 have s:bs w.1.size w (w.alloc (ca (C8 q g d c a o y p h P l m O) 30)):=Zy;obtain⟨Z,zV,zX,zW,zK,zG,zJ,zI⟩:=AW.new w q g d c (C2 a o y) (C2 p h P) (C2 l m O) 30,hf.k,hf.p,hf.l,Yw f,Yw f.k,Yw f.p,Yw f.l;clear f;delta D8;go_in;go_wp2_with fail;refine(EX q _).ai ?_;rintro e w1 ⟨rfl,rfl⟩;by_cases h0:1<=q/\q<=8
 case neg=>rw[decide_eq_false h0];go_wp2;go_ret;exact VW.no s
 rw[decide_eq_true h0];go_wp2_with fail;refine(CY g 0 1000000000 _).ai ?_;rintro e w1 ⟨rfl,rfl⟩;by_cases h1:0<=g/\g<=1000000000
 case neg=>rw[decide_eq_false h1];go_wp2;go_ret;exact VW.no s
 rw[decide_eq_true h1];go_wp2_with fail;refine(CY d 0 1000000000 _).ai ?_;rintro e w1 ⟨rfl,rfl⟩;by_cases h2:0<=d/\d<=1000000000
 case neg=>rw[decide_eq_false h2];go_wp2;go_ret;exact VW.no s
 rw[decide_eq_true h2];go_wp2_with fail;refine(CY c 0 1000000000 _).ai ?_;rintro e w1 ⟨rfl,rfl⟩;by_cases h3:0<=c/\c<=1000000000
 case neg=>rw[decide_eq_false h3];go_wp2;go_ret;exact VW.no s
 rw[decide_eq_true h3];have hN:TJ q g d c:=⟨h0.1,h0.2,h1.1,h1.2,h2.1,h2.2,h3.1,h3.2⟩;by_cases hn1:eh o<=600
 case neg=>
  have zB:bx ((600:Int)<(eh o:Int))=bg:=Yt;clear Z;go_wp2;go_ret;exact VW.no s
 have zB:bx ((600:Int)<(eh o:Int))=bq:=Yt;by_cases hn2:eh h<=100
 case neg=>
  have zC:bx ((100:Int)<(eh h:Int))=bg:=Yt;clear Z;go_wp2;go_ret;exact VW.no s
 have zC:bx ((100:Int)<(eh h:Int))=bq:=Yt;by_cases hn3:eh m<=200
 case neg=>
  have zE:bx ((200:Int)<(eh m:Int))=bg:=Yt;clear Z;go_wp2;go_ret;exact VW.no s
 have zE:bx ((200:Int)<(eh m:Int))=bq:=Yt
 go_wp2_with fail;refine(Vh q g d c y _ _ (Bo.X zK s).k hk hn1 hf.r hN.jy hN.km).ai ?_;rintro e w2 ⟨t,rfl,r⟩;have f:=s.ag (r.ai Yu);have zH:=Z.A r;clear r s Z;cases t with
 |false=>clear zH;go_wp2;go_ret;exact VW.no f
 |true=>
  obtain⟨B,C,D,E,F,G,H,r⟩:=zH;have t:=Yw (Za B (Za C (Za D (Za E (Za F (Za G (Za H r)))))));go_wp2;go_loopw [3] (λi wr=>∃k:Nat,k<=eh h/\i=Zg k/\Zz w wr/\Hid (AW wr w.1.size q g d c (C2 a o y) (C2 p h P) (C2 l m O))) (λi _=>eh h -(intOf i).toNat)
  case atStart=>exact⟨0,Aq _,rfl,f,t⟩
  clear B C D E F G H r t f;obtain⟨k,zO,rfl,f,R⟩:=hrel;have⟨B,C,D,E,F,G,H,r⟩:=R.o;by_cases hlt:k<eh h
  .obtain⟨b,U,ha,hb,S⟩:=(AS.A zJ f).at hlt;subst ha;have I:h[k]?=an h[k]:=Zv hlt;obtain⟨c0,c1⟩:=S k _ I;have m1:=hp.name _ (getElem_mem hlt);have T:b<wr.1.size:=Yv;cases k
   case' zero=>
    have⟨z,L⟩:∃z,Hid (z=1):=⟨1,by show _=_;rfl⟩;have HG:=Yw I;clear S I R;simp only[Nat.zero_mul,Nat.add_zero]at c0 c1;generalize h[0]=x at *
   case' succ j=>
    have⟨z,L⟩:∃z,Hid (z=j+1+1):=⟨j+1+1,by show _=_;rfl⟩;have HG:=Yw I;have W:Hid (h[j]?=an h[j]):=Zv Yv;obtain⟨d0,_⟩:=S j _ W;clear S I R;generalize h[j+1]=x at *
    generalize h[j]=p at *
    have zU:IntKind.i64.wrap (j:Int)=(j:Int):=wrap_small Yv Yv;have zM:(0:Int)<=(j:Int):=Yv;have zN:(j:Int)<(eh h:Int):=Yv;have zY:(0:Int)<=(j:Int)+1:=Yv;have zZ:(j:Int)+1<(eh h:Int):=Yv
   all_goals
    go_wp2;obtain⟨q0,q1,q2,q3,q4,q5,q6,q7,q8⟩:=Aw.cell B r,Aw.cell C r,Aw.cell D r,Aw.cell E r,Aw.cell F r,Aw.cell G r,Aw.cell H r,Aw.cell c0 T,Aw.cell c1 T;try have q9:=Aw.cell d0 T
    have zP:=Aw.ne wr;have Y:∀n:Aw wr,D8 118 #[C4 x.name] n.w λe J=>e=C5 (ef (CP x.name))/\bs n.w.1.size n.w J:=λn=>(Ns _ _ m1).ai (by rintro e J ⟨rfl,rfl⟩;exact⟨rfl,Ae⟩);have X:∀n:Aw wr,D8 79 #[ct (C8 q g d c a o y (an ⟨b,U,ba⟩) h P l m O),C4 x.sum] n.w λe J=>e=C5 (Zg (CC o x.sum))/\bs n.w.1.size n.w J:=λn=>Dt q g d c a y _ _ o x.sum n.w w.1.size (Br.A zG (f.ag (n.h.ai f.size))) (Dl n.h.size) Yv;have A:=Yw Y;have Q:=Yw X;have t:w.1.size<=wr.1.size:=f.size;have V:=Yw (Za B (Za C (Za D (Za E (Za F (Za G (Za H r)))))));clear Y X
   all_goals first
    |(have N:=W
      clear N;cases hless:Op.bytesLess p.name.toList x.name.toList
      case' false=>
       have v:Hid True:=trivial;cases hnm:CP x.name
       all_goals rw[hnm]at A)
    |skip
   all_goals first
    |(have N:=v;clear N)
    |(cases hnm:CP x.name
      case' false=>
       rw[hnm]at A;have v:Hid True:=trivial
      case' true=>
       rw[hnm]at A;rcases CU o x.sum with⟨M,zS⟩|⟨i2,u,M,hu,zT⟩
       case' inl=>
        rw[M]at Q;have v:Hid True:=trivial
       case' inr=>
        rw[M]at Q;have zF:bx ((i2:Int)<0)=bq:=Yu;refine AP Yr Yr ?_
        repeat (go_big_quiet_step (first|exact Aw.calls (A _)|exact Aw.calls (Q _)))
        refine wpQuiet_nil ?_;intro n;have K:=Yw (f.ag (n.h.ai t));have zA:=AW.ah V n.h r;clear f;go_wp2;refine⟨⟨z,Dl L.o,?_,K,zA⟩,Ys⟩;rw[L.o]
        go_num)
   all_goals
    refine AP Yr Yr ?_
    repeat (go_big_quiet_step (first|exact Aw.calls (A _)|exact Aw.calls (Q _)))
    refine wpQuiet_nil ?_;intro n;have K:=Yw (f.ag (n.h.ai t));clear f;go_wp2;go_ret;exact VW.no K
  clear B C D E F G H r;have⟨B,C,D,E,F,G,H,r⟩:=R.o;go_wp2;go_loopw [4] (λi wr=>∃k:Nat,k<=eh m/\i=Zg k/\Zz w wr/\Hid (AW wr w.1.size q g d c (C2 a o y) (C2 p h P) (C2 l m O))) (λi _=>eh m -(intOf i).toNat)
  case atStart=>exact⟨0,Aq _,rfl,f,R⟩
  obtain⟨k,zO,rfl,f,R⟩:=hrel;have⟨B,C,D,E,F,G,H,r⟩:=R.o;by_cases hlt:k<eh m
  case neg=>go_wp2;go_ret;exact VW.yes ⟨hN.aj,hN.gu⟩ f
  obtain⟨b,U,ha,hb,S⟩:=(AR.A zI f).at hlt;subst ha;have I:m[k]?=an m[k]:=Zv hlt;obtain⟨c0,c1,c2⟩:=S k _ I;have T:b<wr.1.size:=Yv;cases k
  case' zero=>
   have⟨z,L⟩:∃z,Hid (z=1):=⟨1,by show _=_;rfl⟩;have HG:=Yw I;clear S I R;simp only[Nat.zero_mul,Nat.add_zero]at c0 c1 c2;generalize m[0]=x at *
  case' succ j=>
   have⟨z,L⟩:∃z,Hid (z=j+1+1):=⟨j+1+1,by show _=_;rfl⟩;have HG:=Yw I;have W:Hid (m[j]?=an m[j]):=Zv Yv;obtain⟨d0,_,_⟩:=S j _ W;clear S I R;generalize m[j+1]=x at *
   generalize m[j]=p' at *
   have zU:IntKind.i64.wrap (j:Int)=(j:Int):=wrap_small Yv Yv;have zM:(0:Int)<=(j:Int):=Yv;have zN:(j:Int)<(eh m:Int):=Yv
  all_goals
   go_wp2;have i:bs wr.1.size wr (wr.alloc (Obj.cells #[int IntKind.i64 x.R,C4 x.sum,int IntKind.i64 x.bj] 83)):=Zy;have z1:(wr.alloc (Obj.cells #[int IntKind.i64 x.R,C4 x.sum,int IntKind.i64 x.bj] 83)).1.size=wr.1.size+1:=Yu;have t0:ek (wr.alloc (Obj.cells #[int IntKind.i64 x.R,C4 x.sum,int IntKind.i64 x.bj] 83)) (Zd (wr.1.size) 0)=an (Zg x.R):=Yu;have t1:ek (wr.alloc (Obj.cells #[int IntKind.i64 x.R,C4 x.sum,int IntKind.i64 x.bj] 83)) (Zd (wr.1.size) 1)=an (C4 x.sum):=Yu;have t2:ek (wr.alloc (Obj.cells #[int IntKind.i64 x.R,C4 x.sum,int IntKind.i64 x.bj] 83)) (Zd (wr.1.size) 2)=an (Zg x.bj):=Yu;have V:Hid (AW (wr.alloc (Obj.cells #[int IntKind.i64 x.R,C4 x.sum,int IntKind.i64 x.bj] 83)) w.1.size q g d c (C2 a o y) (C2 p h P) (C2 (an ⟨b,U,ba⟩) m O)):=AW.ah ⟨B,C,D,E,F,G,H,r⟩ i r;try have d1:=(i.cell (p:=⟨b,_,ba⟩) T).ag d0
   generalize hW1:(wr.alloc (Obj.cells #[int IntKind.i64 x.R,C4 x.sum,int IntKind.i64 x.bj] 83))=W1 at *
   have S:bs w.1.size w W1:=f.ag (i.ai f.size);have t:w.1.size<=W1.1.size:=S.size;clear B C D E F G H;have⟨B,C,D,E,F,G,H,I⟩:=V.o;obtain⟨q0,q1,q2,q3,q4,q5,q6⟩:=Aw.cell B I,Aw.cell C I,Aw.cell D I,Aw.cell E I,Aw.cell F I,Aw.cell G I,Aw.cell H I;have q7:=Aw.cell t0 Yv;have q8:=Aw.cell t1 Yv;have q9:=Aw.cell t2 Yv;try have yB:=Aw.cell d1 Yv
   have zP:=Aw.ne W1;have Y:∀n:Aw W1,D8 18 #[Zg x.R,Zg 1,Zg d] n.w λe J=>e=C5 (ef (bx (1<=x.R/\x.R<=d)))/\bs n.w.1.size n.w J:=λn=>(CY _ _ _ _).ai (by rintro e J ⟨rfl,rfl⟩;exact⟨rfl,Ae⟩);have X:∀n:Aw W1,D8 79 #[ct (C8 q g d c a o y p h P (an ⟨b,U,ba⟩) m O),C4 x.sum] n.w λe J=>e=C5 (Zg (CC o x.sum))/\bs n.w.1.size n.w J:=λn=>Dt q g d c a y _ _ o x.sum n.w w.1.size (Br.A zG (S.ag (n.h.ai S.size))) (Dl n.h.size) Yv;have A:=Yw Y;have Q:=Yw X;have yA:IntKind.i64.wrap (g+100000)=g+100000:=VQ Yv Yv;clear Y X f;have f:=S
  all_goals first
   |(have N:=W
     clear N;by_cases hless:p'.R<x.R
     case' pos=>
      have R:bx (x.R<=p'.R)=bq:=Yt
     case' neg=>
      have R:bx (x.R<=p'.R)=bg:=Yt;have v:Hid True:=trivial;by_cases hrg:1<=x.R/\x.R<=d
      case' pos=>rw[decide_eq_true hrg]at A
      case' neg=>rw[decide_eq_false hrg]at A)
   |skip
  all_goals first
   |(have N:=v;clear N)
   |(by_cases hrg:1<=x.R/\x.R<=d
     case' neg=>
      rw[decide_eq_false hrg]at A;have v:Hid True:=trivial
     case' pos=>
      rw[decide_eq_true hrg]at A;rcases CU o x.sum with⟨M,zS⟩|⟨i2,u,M,hu,zT⟩
      case' inl=>
       rw[M]at Q;have v:Hid True:=trivial
      case' inr=>
       rw[M]at Q;have zF:bx ((i2:Int)<0)=bq:=Yu;by_cases ht1:g<x.bj
       case' neg=>
        have N:bx (x.bj<=g)=bg:=Yt;have v:Hid True:=trivial
       case' pos=>
        have N:bx (x.bj<=g)=bq:=Yt;by_cases ht2:x.bj<=g+100000
        case' neg=>
         have X:bx (g+100000<x.bj)=bg:=Yt;have v:Hid True:=trivial
        case' pos=>
         have X:bx (g+100000<x.bj)=bq:=Yt;refine AP Yr Yr ?_
         repeat (go_big_quiet_step (first|exact Aw.calls (A _)|exact Aw.calls (Q _)))
         refine wpQuiet_nil ?_;intro n;have K:=Yw (f.ag (n.h.ai t));have zA:=AW.ah V n.h I;clear f S;go_wp2;refine⟨⟨z,Dl L.o,?_,K,zA⟩,Ys⟩;rw[L.o]
         go_num)
  all_goals
   refine AP Yr Yr ?_
   repeat (go_big_quiet_step (first|exact Aw.calls (A _)|exact Aw.calls (Q _)))
   refine wpQuiet_nil ?_;intro n;have K:=Yw (f.ag (n.h.ai t));clear f;go_wp2;go_ret;exact VW.no K
section
attribute [local go_sem↓] Go.wp_at_zero Go.wp_at_succ
