import Derived.Test.YtfmeclmjdpbacaaGreatDoorX10
import Derived.Test.YtfmeclmjdpbacaaGreatDoorX09
set_option maxRecDepth 100000
set_option maxHeartbeats 16000000
open Option renaming some->ai,none->an
open Bool renaming true->ay,false->ba
open Go.RowKit renaming Below->bg
open Decidable renaming decide->bq
open Go.Obj renaming cells->bs
open Go.Value renaming slice->bx,agg->ca,ownBlock->ef
open Or renaming inr->ct
open List renaming length->ed
open Go.World renaming cell?->eh,frozen?->ei,ownsRow->ej,setCell->el
namespace Go.Proofs.YtfmeclmjdpbacaaGreatDoor
open ChangeShapes WideShapes ChangeAt RowKit _root_.Go.Proofs.Tryz List World Value
variable{w:Zh}{base g j B:Nat}{a b:Zk}{k f i c d h:Zl}{v:Value}
theorem Ah.set{a n b:Nat}(h:Ah w base (Cx (ai ⟨g,a,an⟩) n b) k)(v:j<ed k)(t:Zi):Ah (el w (Zd g (a+j)) (C0 t)) base (Cx (ai ⟨g,a,an⟩) n b) (k.set j t):=by
 rcases h with⟨e,_⟩|⟨x,m,l,e,o,p,q,r,c,u⟩
 .cases e
 cases e;refine ct ⟨g,a,b,by rw[length_set],o,C9 p,by rw[length_set];exact q,r,λi f=>⟨?_,?_⟩,λi s d=> ?_⟩
 .exact(Cd.setCell w g (a+j) (C0 t) g (a+i) (c i f).1).1
 .exact(Cd.setCell w g (a+j) (C0 t) g (a+i) (c i f).1).2 (c i f).2
 by_cases hij:i=j
 .subst hij;rw[getElem?_set_self v]at d;cases d;exact cell?_setCell_same' _ _ _ (c i Yv).1
 rw[getElem?_set_ne (λe=>hij e.symm)]at d;exact(cell?_setCell_other w _ _ _ Ym).ag (u i s d)
theorem Je(a:Nat)(recv:Dg)(h:∀args w,(callFunc a args).run prog w=.ok (.enter a args) w)(b:Zl)(f:Nat)(w:Zh)(d:FA prog a (λl=> #[recv,.func (.yield l) #[] #[]]) b f w)(g:f<=w.1.size)(j:ed b<=2097152):
 D4 98 #[.func (.func a) #[recv] #[]] w λe c=>∃v,e=C1 v/\ej c w.1.size 9 1 v (ed b) (b.map string)/\Zz w c:=by
 delta D4;go_in;go_wp2_with fail;refine(OT recv h d g j).ah ?_;rintro e k ⟨v,rfl,c,i⟩;go_wp2;go_ret;exact⟨v,rfl,c,i⟩
def AX(ss tt:Zl)(ak:Int):Zl:=if BR ss tt then ss++tt.take (min (max ak 0) (ed tt)).toNat else []
theorem IN{a:Zh}{L:Zl}(b:Zz w a)(c:ej a (w.1.size+2) 9 1 v (ed L) (L.map string)):
 ej (el (el a (Zd (w.1.size+1) 0) v) (Zd (w.1.size+1) 1) Zb) w.1.size 9 1 v (ed L) (L.map string)/\
   Zz w (el (el a (Zd (w.1.size+1) 0) v) (Zd (w.1.size+1) 1) Zb):=
 ⟨(ownsRow_setCell_below (ownsRow_setCell_below c Yu _) Yu _).ah Yv,(b.setCell (p:=⟨w.1.size+1,0,an⟩) Yu _).setCell (p:=⟨w.1.size+1,1,an⟩) Yu _⟩
theorem MJ(c d:Nat){j:Zl}(ak:Int)(x:Ad w w.1.size a j)(u:Ad w w.1.size b f)(Z:ed j<=1048576)(U:ed f<=1048576)(F:∀s∈j,s.size<=1048576)(t:∀s∈f,s.size<=1048576)(hd:ed f<=d):
 D4 66 #[ca #[Cx a (ed j) c,Cx b (ed f) d],Zg ak] w λe l=>∃v,e=C1 (ca #[v,Zb])/\
  ej l w.1.size 9 1 v (ed (AX j f ak)) ((AX j f ak).map string)/\Zz w l:=by
 have J:bg w.1.size w ((w.alloc (bs #[Cw a j c,Cw b f d] 25)).alloc (bs #[Zb,Zb] 25)):=gB;delta D4;go_in;go_wp2_with fail;refine(EL c d (x.U J) (u.U J) Z U F t).ah ?_;rintro e G ⟨rfl,k⟩;have H:=J.ag (k.ah Yt);have W:=k.size;simp at W;have m:eh G (Zd (w.1.size) 0)=ai (Cw a j c):=by rw[k.cell (p:=⟨w.1.size,0,an⟩) Yt];simp
 have r:eh G (Zd (w.1.size) 1)=ai (Cw b f d):=by rw[k.cell (p:=⟨w.1.size,1,an⟩) Yt];simp
 have r0:eh G (Zd (w.1.size+1) 0)=ai Zb:=by rw[k.cell (p:=⟨w.1.size+1,0,an⟩) Yu];simp
 have n:eh G (Zd (w.1.size+1) 1)=ai Zb:=by rw[k.cell (p:=⟨w.1.size+1,1,an⟩) Yu];simp
 have A:∀o,ei G ⟨w.1.size+1,o,an⟩=ba:=λo=>by rw[k.frozen (p:=⟨w.1.size+1,o,an⟩) Yu];simp[go_sem]
 clear k;cases hok:BR j f with
 |false=>
  go_wp2;refine Co (ca #[Zb,Zb]) E7 ⟨Zb,rfl,?_,?_⟩
  .simp only[AX,hok];exact ownsRow_nil _ _ _ _
  exact(H.setCell (p:=⟨w.1.size+1,0,an⟩) Yu _).setCell (p:=⟨w.1.size+1,1,an⟩) Yu _
 |true=>
  go_wp2_with fail;refine(EG a b (ed j) (ed f) c d _).ah ?_;rintro e C ⟨rfl,k⟩;have I:=H.ag (k.ah H.size);have zA:=k.size;replace r0:=(k.cell (p:=⟨w.1.size+1,0,an⟩) Yt).ag r0;replace n:=(k.cell (p:=⟨w.1.size+1,1,an⟩) Yt).ag n;replace A:∀o,ei C ⟨w.1.size+1,o,an⟩=ba:=λo=>(k.frozen (p:=⟨w.1.size+1,o,an⟩) Yt).ag (A o);clear k m r;have m:∀K,K<=ed f->D4 98 #[.func (.func 50) #[ca #[Cw a j c,Cx b K d]] #[]] (C.alloc (bs #[Cw a j c,Cx b K d] 97)) λe l=>
   ∃v,e=C1 v/\((v=Zb/\ed (j++f.take K)=0)\/∃g y,v=C2 g (j++f.take K) y)/\ej l (w.1.size+2) 9 1 v (ed (j++f.take K)) ((j++f.take K).map string)/\bg (w.1.size+2) C l:=by
   intro K Q;have S:ed (f.take K)=K:=Yt;have T:bg (w.1.size+2) C (C.alloc (bs #[Cw a j c,Cx b K d] 97)):=gB;have D:bg w.1.size w (C.alloc (bs #[Cw a j c,Cx b K d] 97)):=gB;have V:Ad w w.1.size b (f.take K):=by
    rcases u with h|⟨q,X,B,P,Y⟩
    .exact .inl (by simp[h])
    refine ct ⟨q,X,B,P,λi s k=>Y i s ?_⟩;have i:=(Zw k).1;rw[getElem?_take_of_lt Yv]at k;exact k
   have M:=JD a b c d j (f.take K) w.1.size (C.alloc (bs #[Cw a j c,Cx b K d] 97)) (x.A D) (V.A D) D.size Yo Yo;rw[S]at M;refine(Je 50 _ (enters_of func50 Yr rfl) (j++f.take K) w.1.size _ M D.size Yt).ah ?_;rintro e E ⟨v,rfl,r,k⟩;exact⟨v,rfl,Joins.ownsRow_forms r,r.ah Yt,T.ag (k.ah Yt)⟩
  have z:=Yw m;clear m x u F t;have close:∀K:Nat,(K:Int)=min (max ak 0) (ed f)->AX j f ak=j++f.take K:=λK Q=>by simp only[AX,hok,if_true];rw[<-Q];simp
  have l:=Yw close;clear close;by_cases B:(ed f:Int)<ak
  .have N:min (max ak 0) (ed f:Int)=ed f:=Yv;go_wp2_with fail;refine(z (ed f) Yv).ah ?_;rintro e E ⟨v,rfl,t,r,k⟩;have u:=l (ed f) Yv;have O:=k.size;replace r0:=(k.cell (p:=⟨w.1.size+1,0,an⟩) Yu).ag r0;replace n:=(k.cell (p:=⟨w.1.size+1,1,an⟩) Yu).ag n;replace A:∀o,ei E ⟨w.1.size+1,o,an⟩=ba:=λo=>(k.frozen (p:=⟨w.1.size+1,o,an⟩) Yu).ag (A o);have B:=I.ag (k.ah Yv);rw[<-u]at t r;have R:=IN B r;have m:=Yw R;clear z l r u R;have⟨L,x⟩:=Ag (AX j f ak);rw[<-x]at t;have F:=Yw x;clear x;rcases t with⟨rfl,t⟩|⟨g,y,rfl⟩
   .go_wp2;exact Co (ca #[Zb,Zb]) E7 ⟨_,rfl,m.1,m.2⟩
   rw[F.o]at m |-;go_wp2;exact Co (ca #[C2 g (AX j f ak) y,Zb]) E7 ⟨_,rfl,m.1,m.2⟩
  by_cases P:ak<0
  .have N:min (max ak 0) (ed f:Int)=0:=Yv;go_wp2_with fail;refine(z 0 Yv).ah ?_;rintro e E ⟨v,rfl,t,r,k⟩;have u:=l 0 Yv;have O:=k.size;replace r0:=(k.cell (p:=⟨w.1.size+1,0,an⟩) Yu).ag r0;replace n:=(k.cell (p:=⟨w.1.size+1,1,an⟩) Yu).ag n;replace A:∀o,ei E ⟨w.1.size+1,o,an⟩=ba:=λo=>(k.frozen (p:=⟨w.1.size+1,o,an⟩) Yu).ag (A o);have B:=I.ag (k.ah Yv);rw[<-u]at t r;have R:=IN B r;have m:=Yw R;clear z l r u R;have⟨L,x⟩:=Ag (AX j f ak);rw[<-x]at t;have F:=Yw x;clear x;rcases t with⟨rfl,t⟩|⟨g,y,rfl⟩
   .go_wp2;exact Co (ca #[Zb,Zb]) E7 ⟨_,rfl,m.1,m.2⟩
   rw[F.o]at m |-;go_wp2;exact Co (ca #[C2 g (AX j f ak) y,Zb]) E7 ⟨_,rfl,m.1,m.2⟩
  have N:min (max ak 0) (ed f:Int)=ak:=Yv;go_wp2_with fail;refine(z ak.toNat Yv).ah ?_;rintro e E ⟨v,rfl,t,r,k⟩;have u:=l ak.toNat Yv;have O:=k.size;replace r0:=(k.cell (p:=⟨w.1.size+1,0,an⟩) Yu).ag r0;replace n:=(k.cell (p:=⟨w.1.size+1,1,an⟩) Yu).ag n;replace A:∀o,ei E ⟨w.1.size+1,o,an⟩=ba:=λo=>(k.frozen (p:=⟨w.1.size+1,o,an⟩) Yu).ag (A o);have B:=I.ag (k.ah Yv);rw[<-u]at t r;have R:=IN B r;have m:=Yw R;clear z l r u R;have⟨L,x⟩:=Ag (AX j f ak);rw[<-x]at t;have F:=Yw x;clear x;rcases t with⟨rfl,t⟩|⟨g,y,rfl⟩
  .go_wp2;exact Co (ca #[Zb,Zb]) E7 ⟨_,rfl,m.1,m.2⟩
  rw[F.o]at m |-;go_wp2;exact Co (ca #[C2 g (AX j f ak) y,Zb]) E7 ⟨_,rfl,m.1,m.2⟩
section
attribute [local go_sem↓] Go.wp_at_zero Go.wp_at_succ
def Fb(ss tt:Zl)(e:Zi):Int:=if BR ss tt=ay/\e.size<=5000 then (if ed ss+ed tt=4000 then 2 else 0)else 1
theorem Fc{a:Zh}{b:Nat}{u:Dg}(h:eh w (Zd b 0)=ai u/\eh w (Zd b 1)=ai v)(d:bg B w a)(c:b<B):eh a (Zd b 0)=ai u/\eh a (Zd b 1)=ai v:=
 ⟨(d.cell (p:=⟨b,0,an⟩) c).ag h.1,(d.cell (p:=⟨b,1,an⟩) c).ag h.2⟩
theorem Tq(c d:Nat){l:Zl}(A:Zi)(x:Ad w w.1.size a l)(r:Ad w w.1.size b i)(hl:ed l<=1048576)(zI:ed i<=1048576)(E:∀s∈l,s.size<=1048576)(q:∀s∈i,s.size<=1048576)(zS:BR l i=ay)(he:A.size<=5000)(hn:¬ed l+ed i=4000):
 D4 139 #[ca #[bx a (ed l) c,bx b (ed i) d],.string A] w fun e f=>∃v u,e=.returned (.tuple #[ca #[v,u],.int .i64 0])/\
  ej f w.1.size 9 1 v (ed l) (l.map string)/\ej f w.1.size 9 1 u (ed (i++[A])) ((i++[A]).map string)/\(ef v=an\/ef v≠ef u)/\Zz w f:=by
 have⟨i0,hi,zE,zF,zG⟩:=info_parts CQ;have t:bg w.1.size w ((w.alloc (bs #[bx a (ed l) c,bx b (ed i) d] 25)).alloc (bs #[bx an 0 0,bx an 0 0] 25)):=(Zy).alloc Yu _;have zV:bq ((5000:Int)<(A.size:Int))=ba:=Yt;delta D4;go_in;go_wp2_with fail;refine(EL c d (x.U t) (r.U t) hl zI E q).mono ?_;rintro e w1 ⟨rfl,h⟩;have z:=t.trans (h.mono Yt);have n:=h.size;simp at n;have G:eh w1 ⟨w.1.size,0,an⟩=ai (bx a (ed l) c):=by rw[h.cell (p:=⟨w.1.size,0,an⟩) Yt];simp[go_sem]
 have H:eh w1 ⟨w.1.size,1,an⟩=ai (bx b (ed i) d):=by rw[h.cell (p:=⟨w.1.size,1,an⟩) Yt];simp[go_sem]
 have r0:eh w1 ⟨w.1.size+1,0,an⟩=ai (bx an 0 0):=by rw[h.cell (p:=⟨w.1.size+1,0,an⟩) Yu];simp[go_sem]
 have F:eh w1 ⟨w.1.size+1,1,an⟩=ai (bx an 0 0):=by rw[h.cell (p:=⟨w.1.size+1,1,an⟩) Yu];simp[go_sem]
 have C:∀o,ei w1 ⟨w.1.size+1,o,an⟩=ba:=fun o=>by rw[h.frozen (p:=⟨w.1.size+1,o,an⟩) Yu];simp[go_sem]
 have m:Hid _:=Zn r0 (Zn F C);have y:Hid _:=Zn x r;clear h r0 F C x r E q;rw[zS];go_wp2_with fail;refine(EG a b (ed l) (ed i) c d _).mono ?_;rintro e T ⟨rfl,h⟩;have C:=z.trans (h.mono z.size);have r:Hid (eh T ⟨w.1.size+1,0,an⟩=ai (bx an 0 0)/\eh T ⟨w.1.size+1,1,an⟩=ai (bx an 0 0)/\∀o,ei T ⟨w.1.size+1,o,an⟩=ba):=⟨(h.cell (p:=⟨w.1.size+1,0,an⟩) Yt).trans m.1,(h.cell (p:=⟨w.1.size+1,1,an⟩) Yt).trans m.2.1,fun o=>(h.frozen (p:=⟨w.1.size+1,o,an⟩) Yt).trans (m.2.2 o)⟩;have E:=h.size;clear h m G H;go_wp2_with fail;refine(IK a b (ed l) (ed i) c d _ hl zI).mono ?_;rintro e q ⟨rfl,m⟩;have h:bg w.1.size w q:=(C.alloc C.size _).trans (m.mono Yt);have F:=m.size;simp at F;have s:eh q ⟨T.1.size,0,an⟩=ai (bx a (ed l) c)/\eh q ⟨T.1.size,1,an⟩=ai (bx b (ed i) d):=Fc (B:=T.1.size+1) ⟨Yu,Yu⟩ (m.mono Yu) Yv;have x:bg T.1.size T q:=(Zy).trans (m.mono Yu);have q0:=(x.cell (p:=⟨w.1.size+1,0,an⟩) Yt).trans r.1;have q1:=(x.cell (p:=⟨w.1.size+1,1,an⟩) Yt).trans r.2.1;have qf:∀o,ei q ⟨w.1.size+1,o,an⟩=ba:=fun o=>(x.frozen (p:=⟨w.1.size+1,o,an⟩) Yt).trans (r.2.2 o);have zW:((ed l:Int)+ed i==4000)=ba:=Yt;have Q:T.1.size<q.1.size:=Yv;have O:w.1.size+1<q.1.size:=Yv;have zU:w.1.size+1<T.1.size:=Yv;generalize T.1.size=D at *
 have H:∀W,Zz q W->D4 98 #[.func (.func 91) #[ca #[bx a (ed l) c]] #[]] W fun e f=>∃v,e=.returned v/\ej f W.1.size 9 1 v (ed l) (l.map string)/\Zz W f:=fun W G=>by have U:=h.trans (G.mono h.size);exact Je 91 _ (enters_of func91 Yr rfl) l w.1.size _ (Og c (y.1.A U) U.size Yo) U.size Yv
 have hO:∀W,Zz q W->D4 98 #[.func (.func 92) #[ca #[bx a (ed l) c,bx b (ed i) d]] #[]] W fun e f=>∃v,e=.returned v/\ej f W.1.size 9 1 v (ed i) (i.map string)/\Zz W f:=fun W G=>by have U:=h.trans (G.mono h.size);exact Je 92 _ (enters_of func92 Yr rfl) i w.1.size _ (Oh _ d (y.2.A U) U.size Yo) U.size Yv
 have HK:Hid _:=H;have HO:Hid _:=hO;have Y:Hid _:=h;clear H hO h m x r y C z t n E F;have zH:bg q.1.size q q.drew:=Ae.drew;have zB:∀o,Zz q (q.alloc o).drew:=fun o=>(Zy).drew;go_wp2;go_region_held3 (fun f=>eh f ⟨D,0,an⟩=ai (bx a (ed l) c)/\eh f ⟨D,1,an⟩=ai (bx b (ed i) d))
  (first|exact F|exact⟨by rw[cell?_setCell_other _ _ _ _ Ym,cell?_setCell_other _ _ _ _ Ym];exact F.1,by rw[cell?_setCell_other _ _ _ _ Ym,cell?_setCell_other _ _ _ _ Ym];exact F.2⟩|exact I|exact Fc I (Zy) K|exact zC|exact Fc zC (Zy) J|exact s|exact Fc s (zB _) Q|go_keep)
  (first
    |(go_at_call 98;guard_target=~D4 98 #[func (Fn.func 91) #[agg #[slice a (ed l) c]] #[]] (drew q) _;refine(HK q.drew zH).mono ?_;rintro e m ⟨zT,rfl,r,L⟩;obtain⟨av,cv,rfl,_⟩:=GF r;have x:bg q.1.size q m:=zH.trans (L.mono Hh);have zC:=Fc s x Q;have N:=x.size;have J:D<m.1.size:=Zr Q N;have r:ej m q.1.size 9 1 (bx av (ed l) cv) (ed l) (l.map string):=r.mono Hh)
    |(go_at_call 98;guard_target=~D4 98 #[func (Fn.func 91) #[agg #[slice a (ed l) c]] #[]] (drew (alloc q _)) _;refine(HK (q.alloc _).drew (zB _)).mono ?_;rintro e m ⟨zT,rfl,r,L⟩;obtain⟨av,cv,rfl,_⟩:=GF r;have x:bg q.1.size q m:=(zB _).trans (L.mono Hh);have zC:=Fc s x Q;have N:=x.size;have J:D<m.1.size:=Zr Q N;have r:ej m q.1.size 9 1 (bx av (ed l) cv) (ed l) (l.map string):=r.mono Hh;have zP:q.1.size<m.1.size:=(by have:=L.size;simp at this;omega);have zM:eh m ⟨q.1.size,0,an⟩=ai (.string A):=(by rw[L.cell (p:=⟨q.1.size,0,an⟩) Yu];simp[go_sem]))
    |(go_at_call 98;have zJ:=zM;guard_target=~D4 98 #[func (Fn.func 92) #[agg #[slice a (ed l) c,slice b (ed i) d]] #[]] m _;refine(HO m x).mono ?_;rintro e y ⟨zO,rfl,f,t⟩;obtain⟨au,cu,rfl,_⟩:=GF f;have C:bg q.1.size q y:=x.trans (t.mono Yl);have I:=Fc s C Q;have E:m.1.size<=y.1.size:=Gj;have K:D<y.1.size:=Zr J E;have f:ej y m.1.size 9 1 (bx au (ed i) cu) (ed i) (i.map string):=f.mono Hh;have M:=DF r t;have zN:=(t.cell (p:=⟨q.1.size,0,an⟩) Yt).trans zM)
    |(go_at_call 98;guard_target=~D4 98 #[func (Fn.func 92) #[agg #[slice a (ed l) c,slice b (ed i) d]] #[]] m _;refine(HO m x).mono ?_;rintro e y ⟨zO,rfl,f,t⟩;obtain⟨au,cu,rfl,_⟩:=GF f;have C:bg q.1.size q y:=x.trans (t.mono Yl);have I:=Fc s C Q;have E:m.1.size<=y.1.size:=Gj;have K:D<y.1.size:=Zr J E;have f:ej y m.1.size 9 1 (bx au (ed i) cu) (ed i) (i.map string):=f.mono Hh;have M:=DF r t)
    |(go_at_call 98;guard_target=~D4 98 #[func (Fn.func 92) #[agg #[slice a (ed l) c,slice b (ed i) d]] #[]] (alloc m _) _;refine(HO (m.alloc _) (x.alloc N _)).mono ?_;rintro e y ⟨zO,rfl,f,t⟩;obtain⟨au,cu,rfl,_⟩:=GF f;have C:bg q.1.size q y:=(x.alloc N _).trans (t.mono Yl);have I:=Fc s C Q;have E:m.1.size<=y.1.size:=Gj;have K:D<y.1.size:=Zr J E;have f:ej y m.1.size 9 1 (bx au (ed i) cu) (ed i) (i.map string):=f.mono Hh;have M:=DF (DF r ((Below.refl m.1.size m).alloc (Zx) (bs #[.string A] 9))) t;have zK:eh y ⟨m.1.size,0,an⟩=ai (.string A):=(by rw[t.cell (p:=⟨m.1.size,0,an⟩) Yu];simp[go_sem]))
    |(have zJ:=zN;refine step_append_lies y Yp (.tmp 28) (.tmp 30) 23 Yp m.1.size 9 i0 (.string ⟨#[]⟩) 1 16 underlying23 hi zE zF zG rfl Yq (bx au (ed i) cu) (ed i) (i.map string) Yp f ⟨q.1.size,0,an⟩ 1 1 [.string A] Yp rfl (fun j u R=>by cases j with|zero=>(simp at R;subst R;simpa [A1]using zN)|succ j=>simp at R) (fun u X=>by simp at X;subst X;rfl) Yv Yo Yv E _ rfl ?_;intro H n z G h P V;have F:eh z ⟨D,0,an⟩=ai (bx a (ed l) c)/\eh z ⟨D,1,an⟩=ai (bx b (ed i) d):=⟨h.cell I.1 (fun e=>by have:=(f.lt D e.symm).1;omega),h.cell I.2 (fun e=>by have:=(f.lt D e.symm).1;omega)⟩;have Z:=Iz (v:=bx av (ed l) cv) f (fun g W=>(r.lt g W).2);have S:=M.kept h Z;have zA:=h.size;have RB:=C;have y0:=h.cell ((RB.cell (p:=⟨w.1.size+1,0,an⟩) O).trans q0) (fun e=>by have:=(f.lt (w.1.size+1) e.symm).1;omega);have y1:=h.cell ((RB.cell (p:=⟨w.1.size+1,1,an⟩) O).trans q1) (fun e=>by have:=(f.lt (w.1.size+1) e.symm).1;omega);have yf:∀o,ei z ⟨w.1.size+1,o,an⟩=ba:=(fun o=>(h.frozen_far ⟨w.1.size+1,o,an⟩ Yt (fun e=>by have:=(f.lt (w.1.size+1) e.symm).1;omega)).trans ((RB.frozen (p:=⟨w.1.size+1,o,an⟩) O).trans (qf o))))
    |(have zJ:=zK;refine step_append_lies y Yp (.tmp 28) (.tmp 30) 23 Yp m.1.size 9 i0 (.string ⟨#[]⟩) 1 16 underlying23 hi zE zF zG rfl Yq (bx au (ed i) cu) (ed i) (i.map string) Yp f ⟨m.1.size,0,an⟩ 1 1 [.string A] Yp rfl (fun j u R=>by cases j with|zero=>(simp at R;subst R;simpa [A1]using zK)|succ j=>simp at R) (fun u X=>by simp at X;subst X;rfl) Yv Yo Yv E _ rfl ?_;intro H n z G h P V;have F:eh z ⟨D,0,an⟩=ai (bx a (ed l) c)/\eh z ⟨D,1,an⟩=ai (bx b (ed i) d):=⟨h.cell I.1 (fun e=>by have:=(f.lt D e.symm).1;omega),h.cell I.2 (fun e=>by have:=(f.lt D e.symm).1;omega)⟩;have Z:=Iz (v:=bx av (ed l) cv) f (fun g W=>(r.lt g W).2);have S:=M.kept h Z;have zA:=h.size;have RB:=C;have y0:=h.cell ((RB.cell (p:=⟨w.1.size+1,0,an⟩) O).trans q0) (fun e=>by have:=(f.lt (w.1.size+1) e.symm).1;omega);have y1:=h.cell ((RB.cell (p:=⟨w.1.size+1,1,an⟩) O).trans q1) (fun e=>by have:=(f.lt (w.1.size+1) e.symm).1;omega);have yf:∀o,ei z ⟨w.1.size+1,o,an⟩=ba:=(fun o=>(h.frozen_far ⟨w.1.size+1,o,an⟩ Yt (fun e=>by have:=(f.lt (w.1.size+1) e.symm).1;omega)).trans ((RB.frozen (p:=⟨w.1.size+1,o,an⟩) O).trans (qf o))))
    |(refine step_append_lies (y.alloc (bs #[.string A] 9)) Yp (.tmp 28) (.tmp 30) 23 Yp m.1.size 9 i0 (.string ⟨#[]⟩) 1 16 underlying23 hi zE zF zG rfl Yq (bx au (ed i) cu) (ed i) (i.map string) Yp (f.alloc _) ⟨y.1.size,0,an⟩ 1 1 [.string A] Yp rfl (fun j u R=>by cases j with|zero=>(simp at R;subst R;simp[A1])|succ j=>simp at R) (fun u X=>by simp at X;subst X;rfl) Yv Yo Yv Yt _ rfl ?_;intro H n z G h P V;have F:eh z ⟨D,0,an⟩=ai (bx a (ed l) c)/\eh z ⟨D,1,an⟩=ai (bx b (ed i) d):=⟨h.cell (Fc I (Zy) K).1 (fun e=>by have:=(f.lt D e.symm).1;omega),h.cell (Fc I (Zy) K).2 (fun e=>by have:=(f.lt D e.symm).1;omega)⟩;have Z:=Iz (v:=bx av (ed l) cv) f (fun g W=>(r.lt g W).2);have S:=(M.alloc _).kept h Z;have zA:=h.size;have RB:=(C.alloc Yv (bs #[.string A] 9));have y0:=h.cell ((RB.cell (p:=⟨w.1.size+1,0,an⟩) O).trans q0) (fun e=>by have:=(f.lt (w.1.size+1) e.symm).1;omega);have y1:=h.cell ((RB.cell (p:=⟨w.1.size+1,1,an⟩) O).trans q1) (fun e=>by have:=(f.lt (w.1.size+1) e.symm).1;omega);have yf:∀o,ei z ⟨w.1.size+1,o,an⟩=ba:=(fun o=>(h.frozen_far ⟨w.1.size+1,o,an⟩ Yt (fun e=>by have:=(f.lt (w.1.size+1) e.symm).1;omega)).trans ((RB.frozen (p:=⟨w.1.size+1,o,an⟩) O).trans (qf o)))))
 all_goals
  have j:bg w.1.size w z:=(Y.trans (RB.mono Y.size)).grown h (Zm Y.size RB.size) (fun k R=>by have:=(f.lt k R).1;have:=Y.size;omega);have o:ej z w.1.size 9 1 (bx (ai ⟨H,0,an⟩) (ed (i++[A])) n) (ed (i++[A])) ((i++[A]).map string):=by have:=ownsRow.mono G (show w.1.size<=m.1.size by have:=Y.size;omega);simpa using this
  have X:=ownsRow.mono S (show w.1.size+2<=q.1.size by omega);have R:=ownsRow.mono G (show w.1.size+2<=m.1.size by omega);have k:ef (slice av (ed l) cv)=an\/ef (slice av (ed l) cv)≠ef (slice (ai ⟨H,0,an⟩) (ed (i++[A])) n):=by rw[show ed (i++[A])=ed i+1 by simp];exact Iz (v:=bx av (ed l) cv) G (fun g W=>(r.lt g W).2)
  have g:Hid (ej (el (el z ⟨w.1.size+1,0,an⟩ (bx av (ed l) cv)) ⟨w.1.size+1,1,an⟩ (bx (ai ⟨H,0,an⟩) (ed i+1) n)) w.1.size 9 1 (bx av (ed l) cv) (ed l) (l.map string)/\
   ej (el (el z ⟨w.1.size+1,0,an⟩ (bx av (ed l) cv)) ⟨w.1.size+1,1,an⟩ (bx (ai ⟨H,0,an⟩) (ed i+1) n)) w.1.size 9 1 (bx (ai ⟨H,0,an⟩) (ed (i++[A])) n) (ed (i++[A])) ((i++[A]).map string)/\
   Zz w (el (el z ⟨w.1.size+1,0,an⟩ (bx av (ed l) cv)) ⟨w.1.size+1,1,an⟩ (bx (ai ⟨H,0,an⟩) (ed i+1) n))):=
   ⟨(ownsRow_setCell_below (ownsRow_setCell_below X Yu _) Yu _).mono Yv,by
     have:=(ownsRow_setCell_below (ownsRow_setCell_below R (a:=⟨w.1.size+1,0,an⟩) Yu (bx av (ed l) cv)) (a:=⟨w.1.size+1,1,an⟩) Yu (bx (ai ⟨H,0,an⟩) (ed i+1) n)).mono (show w.1.size<=w.1.size+2 by omega);simpa using this,(j.setCell (p:=⟨w.1.size+1,0,an⟩) Yu _).setCell (p:=⟨w.1.size+1,1,an⟩) Yu _⟩
  have u:Hid _:=k;clear G h P S o X R k j RB HK HO Y F zB;go_wp2;refine Co (.tuple #[ca #[bx av (ed l) cv,bx (ai ⟨H,0,an⟩) (ed i+1) n],.int .i64 0]) (by simp[results,results139,go_sem,y0,y1]) ⟨_,bx (ai ⟨H,0,an⟩) (ed (i++[A])) n,Yu,g.1,g.2.1,u,g.2.2⟩
theorem Tr(c d:Nat){g:Zl}(j:Zi)(r:Ad w w.1.size a f)(m:Ad w w.1.size b g)(B:ed f<=1048576)(z:ed g<=1048576)(y:∀s∈f,s.size<=1048576)(k:∀s∈g,s.size<=1048576)(E:Fb f g j≠0):
 D4 139 #[ca #[Cx a (ed f) c,Cx b (ed g) d],C0 j] w λe i=>e=C1 (.tuple #[ca #[Zb,Zb],Zg (Fb f g j)])/\Zz w i:=by
 have t:bg w.1.size w ((w.alloc (bs #[Cw a f c,Cw b g d] 25)).alloc (bs #[Zb,Zb] 25)):=(Zy).alloc Yu _;delta D4;go_in;go_wp2_with fail;refine(EL c d (r.U t) (m.U t) B z y k).ah ?_;rintro e n ⟨rfl,i⟩;have l:=t.ag (i.ah Yt);have x:=i.size;simp at x;have A:eh n (Zd (w.1.size) 0)=ai (Cw a f c):=by rw[i.cell (p:=⟨w.1.size,0,an⟩) Yt];simp[go_sem]
 have C:eh n (Zd (w.1.size) 1)=ai (Cw b g d):=by rw[i.cell (p:=⟨w.1.size,1,an⟩) Yt];simp[go_sem]
 have r0:eh n (Zd (w.1.size+1) 0)=ai Zb:=by rw[i.cell (p:=⟨w.1.size+1,0,an⟩) Yu];simp[go_sem]
 have u:eh n (Zd (w.1.size+1) 1)=ai Zb:=by rw[i.cell (p:=⟨w.1.size+1,1,an⟩) Yu];simp[go_sem]
 have q:∀o,ei n ⟨w.1.size+1,o,an⟩=ba:=λo=>by rw[i.frozen (p:=⟨w.1.size+1,o,an⟩) Yu];simp[go_sem]
 clear i r m y k;cases hok:BR f g with
 |false=>
  have m:Fb f g j=1:=by simp[Fb,hok]
  go_wp2;exact Co (.tuple #[ca #[Zb,Zb],Zg 1]) (by simp[results,results139,go_sem,r0,u]) ⟨by rw[m],(l.setCell (p:=⟨w.1.size+1,0,an⟩) Yu _).setCell (p:=⟨w.1.size+1,1,an⟩) Yu _⟩
 |true=>
  by_cases he:j.size<=5000
  .have G:ed f+ed g=4000:=(by apply Classical.byContradiction;intro h;exact E (by simp[Fb,hok,he,h]));have m:Fb f g j=2:=(by simp[Fb,hok,he,G]);have D:bq ((5000:Int)<(j.size:Int))=ba:=Yt;have r:=Yw (Zn r0 (Zn u q));clear r0 u q;go_wp2_with fail;refine(EG a b (ed f) (ed g) c d _).ah ?_;rintro e q ⟨rfl,i⟩;have y:=l.ag (i.ah l.size);have k:Hid (eh q (Zd (w.1.size+1) 0)=ai Zb/\eh q (Zd (w.1.size+1) 1)=ai Zb/\∀o,ei q ⟨w.1.size+1,o,an⟩=ba):=⟨(i.cell (p:=⟨w.1.size+1,0,an⟩) Yt).ag r.1,(i.cell (p:=⟨w.1.size+1,1,an⟩) Yt).ag r.2.1,λo=>(i.frozen (p:=⟨w.1.size+1,o,an⟩) Yt).ag (r.2.2 o)⟩;have F:=i.size;clear i r A C;go_wp2_with fail;refine(IK a b (ed f) (ed g) c d _ B z).ah ?_;rintro e A ⟨rfl,r⟩;have C:bg w.1.size w A:=(y.alloc y.size _).ag (r.ah Yt);have i:bg q.1.size q A:=(Zy).ag (r.ah Yu);have H:=(i.cell (p:=⟨w.1.size+1,0,an⟩) Yt).ag k.1;have I:=(i.cell (p:=⟨w.1.size+1,1,an⟩) Yt).ag k.2.1;have K:∀o,ei A ⟨w.1.size+1,o,an⟩=ba:=λo=>(i.frozen (p:=⟨w.1.size+1,o,an⟩) Yt).ag (k.2.2 o);have J:((ed f:Int)+ed g==4000)=ay:=Yt;clear r i k;go_wp2;exact Co (.tuple #[ca #[Zb,Zb],Zg 2]) (by simp[results,results139,go_sem,H,I]) ⟨by rw[m],(C.setCell (p:=⟨w.1.size+1,0,an⟩) Yu _).setCell (p:=⟨w.1.size+1,1,an⟩) Yu _⟩
  have m:Fb f g j=1:=by simp[Fb,hok,he]
  have D:bq ((5000:Int)<(j.size:Int))=ay:=Yt;go_wp2;exact Co (.tuple #[ca #[Zb,Zb],Zg 1]) (by simp[results,results139,go_sem,r0,u]) ⟨by rw[m],(l.setCell (p:=⟨w.1.size+1,0,an⟩) Yu _).setCell (p:=⟨w.1.size+1,1,an⟩) Yu _⟩
theorem Vm(U M j d G s c b:Int)(a p l a' p' l':Zk)(ac pc lc Z zC zB:Nat)(z o:C5)(C r:C7)(B q:C6)(w:Zh)(E:BV w w.1.size a p l z C B)(D:BV w w.1.size a' p' l' o r q)(hl:ed z<=100000/\ed C<=100000/\ed B<=100000)(zS:ed o<=1048576/\ed r<=1048576/\ed q<=1048576)(P:∀k∈z,ed k.C<=100000)(Q:∀k∈o,ed k.C<=1048576):
 D4 40 #[ca (Yg U M j d a (ed z) ac p (ed C) pc l (ed B) lc),ca (Yg G s c b a' (ed o) Z p' (ed r) zC l' (ed q) zB)] w λe w'=>Au ((U=G/\M=s/\j=c/\d=b)/\z=o/\C=r/\B=q) w w' e:=by
 all_goals
  have⟨W,f⟩:=Ag ((w.alloc (bs (C4 U M j d a z ac p C pc l B lc) 30)).alloc (bs (C4 G s c b a' o Z p' r zC l' q zB) 30));have bW:=(AT f).1;have t:=(AT f).2.2.1;have u:Aa W (w.1.size+1) (C3 G s c b a' o Z p' r zC l' q zB):=by have P:=Aa.new (w.alloc (bs (C4 U M j d a z ac p C pc l B lc) 30)) (C3 G s c b a' o Z p' r zC l' q zB) 30;rw[Aq]at P;rw[f];exact P
  have HX:Hid (∀X,Zz W X->Aa X w.1.size (C3 U M j d a z ac p C pc l B lc)/\Aa X (w.1.size+1) (C3 G s c b a' o Z p' r zC l' q zB)/\BV X w.1.size a p l z C B/\BV X w.1.size a' p' l' o r q/\Zz w X):=λX g=>by have A:=bW.ag (g.ah bW.size);exact⟨Aa.A t g,Aa.A u g,E.ak A,D.ak A,A⟩
  obtain⟨zW,⟨J,_⟩,⟨V,_⟩,⟨K,_⟩,⟨Y,_⟩,⟨L,_⟩,⟨h,_⟩,⟨R,_⟩,⟨n,_⟩,⟨N,_⟩,⟨O,_⟩,⟨S,_⟩,⟨x,_⟩,⟨T,_⟩,⟨y,_⟩,HW⟩:=(AT f).2.1,t 0 _ rfl,u 0 _ rfl,t 1 _ rfl,u 1 _ rfl,t 2 _ rfl,u 2 _ rfl,t 3 _ rfl,u 3 _ rfl,t 4 _ rfl,u 4 _ rfl,t 5 _ rfl,u 5 _ rfl,t 6 _ rfl,u 6 _ rfl,Yw f;clear f E D t u;by_cases e0:U=G
  case' neg=>
   have f:(U !=G)=ay:=by simp[e0]
  case' pos=>
   have f:(U !=G)=ba:=(by simp[e0]);have E0:=Yw e0;clear e0;by_cases e1:M=s
   case' neg=>
    have g:(M !=s)=ay:=by simp[e1]
   case' pos=>
    have g:(M !=s)=ba:=(by simp[e1]);have E1:=Yw e1;clear e1;by_cases e2:j=c
    case' neg=>
     have m:(j !=c)=ay:=by simp[e2]
    case' pos=>
     have m:(j !=c)=ba:=(by simp[e2]);have E2:=Yw e2;clear e2;by_cases e3:d=b
     case' neg=>
      have v:(d !=b)=ay:=by simp[e3]
     case' pos=>
      have v:(d !=b)=ba:=(by simp[e3]);have E3:=Yw e3;clear e3;by_cases e4:ed z=ed o
      case' neg=>
       have F:=bne_iff_ne.2 Yv
      case' pos=>
       have F:((ed z:Int) !=(ed o:Int))=ba:=(by simp[e4]);have E4:=Yw e4;clear e4;by_cases e5:ed C=ed r
       case' neg=>
        have H:=bne_iff_ne.2 Yv
       case' pos=>
        have H:((ed C:Int) !=(ed r:Int))=ba:=(by simp[e5]);have E5:=Yw e5;clear e5;by_cases e6:ed B=ed q
        case' neg=>
         have I:=bne_iff_ne.2 Yv
        case' pos=>
         have I:((ed B:Int) !=(ed q:Int))=ba:=(by simp[e6]);have E6:=Yw e6;clear e6;delta D4;go_in;go_upto_region 1 with fail;rw[<-HW.o];clear HW;go_wp2;clear f g m v F H I;go_loopw [5] (λi wr=>∃k:Nat,k<=ed z/\i=Zg k/\Hid (z.take k=o.take k/\Zz W wr)) (λi _=>ed z -(intOf i).toNat)
         case atStart=>exact⟨0,Aw _,rfl,⟨Yu,Ae⟩⟩
         clear J V K Y L h R n N O S x T y;obtain⟨k,hk,rfl,v⟩:=hrel;have⟨t,u,E,D,g⟩:=HX wr v.2;obtain⟨zK,⟨N,_⟩,O,_⟩:=v.2.size,t 4 _ rfl,u 4 _ rfl;by_cases hlt:k<ed z
         .have f:k<ed o:=C8 E4.o;obtain⟨⟨rb,ro,ha,zA,L⟩,qb,qo,A,X,K⟩:=E.k.at hlt,D.k.at f;subst ha A;obtain⟨⟨c0,c1,c2,ra,rc,h,F⟩,⟨d0,d1,d2,sa,sc,d3,m⟩,S,R,V,Y⟩:=L k _ (Zv hlt),K k _ (Zv f),Zr zA g.size,Zr X g.size,Yw (Zu hlt),Yw (Zu f);have HN:Hid (∀x y,z[k]?=ai x->o[k]?=ai y->x≠y->z≠o):=λx y P Q T e=>by subst e;rw[P]at Q;exact T (A2 Q)
          have H:=Yw (Zv hlt);have I:=Yw (Zv f);have zJ:(k:Int)<ed o:=Yv;have m1:=P _ (getElem_mem hlt);have m2:=Q _ (getElem_mem f);clear L K;generalize z[k]=x at *
          generalize o[k]=y at *
          have HB:=Yw v.2;have HC:Hid (∀n:AA wr,D4 82 #[ca #[C0 x.Q,Cw ra x.C rc],ca #[C0 y.Q,Cw sa y.C sc]] n.w λe w'=>e=C1 (.bool (bq (x.Q=y.Q/\x.C=y.C)))/\bg n.w.1.size n.w w'):=λn=>by
           have zI:=g.ag (n.h.ah g.size);refine(MH x.Q y.Q ra sa rc sc x.C y.C n.w ((F.A (n.h.ah g.size)).ah zI.size) ((m.A (n.h.ah g.size)).ah zI.size) m1 m2).ah ?_;rintro e w' ⟨bb,rfl,zH,zG⟩;refine⟨?_,zG⟩;by_cases hP:x.Q=y.Q/\x.C=y.C
           .rw[zH.2 hP,decide_eq_true hP]
           cases bb with
           |true=>exact absurd (zH.1 rfl) hP
           |false=>rw[decide_eq_false hP]
          have q1:=AA.cell N Yv;obtain⟨q2,r0,s0,r1,s1⟩:=AA.cell O Yv,AA.cell c0 S,AA.cell d0 R,AA.cell c1 S,AA.cell d1 R;obtain⟨r2,s2,r3,s3,T⟩:=AA.cell c2 S,AA.cell d2 R,AA.cell h S,AA.cell d3 R,AA.ne wr;have HE:Hid (∀n:AA wr,Zz W n.w):=λn=>HB.ag (n.h.ah HB.size);clear t u E D F m g;by_cases hs:x.sum=y.sum
          case' neg=>
           have zO:(x.sum.toList !=y.sum.toList)=ay:=(by simp[bne,BZ hs]);have zP:=BZ hs;have zF:=Yw hs;clear hs
          case' pos=>
           have zO:(x.sum.toList !=y.sum.toList)=ba:=(by rw[hs];simp);have zP:(x.sum.toList==y.sum.toList)=ay:=(by rw[hs];simp);by_cases A:x.born=y.born
           case' neg=>
            have zG:(x.born !=y.born)=ay:=(by simp[A]);have zN:(x.born==y.born)=ba:=(by simp[A]);have zF:=Yw A;clear A hs
           case' pos=>
            have zG:(x.born !=y.born)=ba:=(by simp[A]);have zN:(x.born==y.born)=ay:=(by simp[A]);by_cases hP:x.Q=y.Q/\x.C=y.C
            case' neg=>
             rw[decide_eq_false hP]at HC;have zF:=Yw hP;clear hP hs A
            case' pos=>
             rw[decide_eq_true hP]at HC;have J:Hid (x=y):=(by obtain⟨e1,e2⟩:=hP;show x=y;cases x;cases y;simp_all);clear hP hs A;go_wp2;refine AN Yr Yr ?_
             repeat (go_big_quiet_step (exact AA.calls (HC _)))
             refine wpQuiet_nil ?_;intro n;clear q1 q2 r0 r1 r2 r3 s0 s1 s2 s3 N O c0 c1 c2 h d0 d1 d2 d3;go_wp2;exact⟨⟨k+1,Yv,Yn,⟨by rw[V.o,Y.o,v.1,J.o],HE.o n⟩⟩,Ys⟩
          all_goals
           go_wp2;refine AN Yr Yr ?_
           repeat (go_big_quiet_step (exact AA.calls (HC _)))
           refine wpQuiet_nil ?_;intro n;have zM:=Yw ((HX _ (HE n)).2.2.2.2);clear q1 q2 r0 r1 r2 r3 s0 s1 s2 s3 N O c0 c1 c2 h d0 d1 d2 d3;go_wp2;go_ret;exact Au.no (λh=>HN x y H I (λe=>zF (by rw[e];first|done|exact⟨rfl,rfl⟩)) h.2.1) zM
         obtain rfl:k=ed z:=Yv;have m:=v.1;rw[Zt (Zx),Zt (C8 E4.o)]at m;have HK:=Yw m;have zE:=Yw v.2;clear m t u E D g;go_wp2;go_loopw [6] (λi wr=>∃k:Nat,k<=ed C/\i=Zg k/\Hid (C.take k=r.take k/\Zz W wr)) (λi _=>ed C -(intOf i).toNat)
         case atStart=>exact⟨0,Aw _,rfl,⟨Yu,zE⟩⟩
         obtain⟨k,hk,rfl,v⟩:=hrel;have⟨t,u,E,D,g⟩:=HX wr v.2;obtain⟨zK,⟨N,_⟩,O,_⟩:=v.2.size,t 5 _ rfl,u 5 _ rfl;by_cases hlt:k<ed C
         .have f:k<ed r:=C8 E5.o;obtain⟨⟨rb,ro,ha,zA,L⟩,qb,qo,A,X,K⟩:=E.p.at hlt,D.p.at f;subst ha A;obtain⟨⟨c0,c1⟩,⟨d0,d1⟩,S,R,V,Y⟩:=L k _ (Zv hlt),K k _ (Zv f),Zr zA g.size,Zr X g.size,Yw (Zu hlt),Yw (Zu f);have HN:Hid (∀x y,C[k]?=ai x->r[k]?=ai y->x≠y->C≠r):=λx y P Q T e=>by subst e;rw[P]at Q;exact T (A2 Q)
          have H:=Yw (Zv hlt);have I:=Yw (Zv f);have zJ:(k:Int)<ed r:=Yv;clear L K;generalize C[k]=x at *
          generalize r[k]=y at *
          have HB:=Yw v.2;have F:=Yw g;clear t u E D g;by_cases hxy:x=y
          .subst hxy;go_wp2
           go_region
           all_goals go_wp2
           all_goals exact⟨⟨k+1,Yv,Yn,⟨by rw[V.o,Y.o,v.1],HB.drew⟩⟩,Ys⟩
          have J:=Yw hxy;by_cases n0:x.name=y.name
          .have k0:x.name.toList=y.name.toList:=(by rw[n0]);have n1:¬x.sum=y.sum:=λe=>hxy (by
            cases x;cases y;simp_all)
           have k1:¬x.sum.toList=y.sum.toList:=λe=>n1 (Gm e);clear hxy n0 n1;go_wp2
           go_region
           all_goals go_wp2
           all_goals go_ret
           all_goals exact Au.no (λh=>HN x y H I J h.2.2.1) F.drew
          have k0:¬x.name.toList=y.name.toList:=λe=>n0 (Gm e);clear n0 hxy;go_wp2
          go_region
          all_goals go_wp2
          all_goals go_ret
          all_goals exact Au.no (λh=>HN x y H I J h.2.2.1) F.drew
         obtain rfl:k=ed C:=Yv;have m:=v.1;rw[Zt (Zx),Zt (C8 E5.o)]at m;obtain⟨HP,zE,F⟩:=Yw m,Yw v.2,Yw g;clear m t u E D g;go_wp2;go_loopw [7] (λi wr=>∃k:Nat,k<=ed B/\i=Zg k/\Hid (B.take k=q.take k/\Zz W wr)) (λi _=>ed B -(intOf i).toNat)
         case atStart=>exact⟨0,Aw _,rfl,⟨Yu,zE⟩⟩
         obtain⟨k,hk,rfl,v⟩:=hrel;have⟨t,u,E,D,g⟩:=HX wr v.2;obtain⟨zK,⟨N,_⟩,O,_⟩:=v.2.size,t 6 _ rfl,u 6 _ rfl;by_cases hlt:k<ed B
         case neg=>
          obtain rfl:k=ed B:=Yv;have m:=v.1;rw[Zt (Zx),Zt (C8 E6.o)]at m;obtain⟨K,zE,F⟩:=Yw m,Yw v.2,Yw g;clear m t u E D g;go_wp2;go_ret;exact Au.yes ⟨⟨E0,E1,E2,E3⟩,HK,HP,K⟩ F
         have f:k<ed q:=C8 E6.o;obtain⟨⟨rb,ro,ha,zA,L⟩,qb,qo,A,X,K⟩:=E.l.at hlt,D.l.at f;subst ha A;obtain⟨⟨c0,c1,c2⟩,⟨d0,d1,d2⟩,S,R,V,Y⟩:=L k _ (Zv hlt),K k _ (Zv f),Zr zA g.size,Zr X g.size,Yw (Zu hlt),Yw (Zu f);have HN:Hid (∀x y,B[k]?=ai x->q[k]?=ai y->x≠y->B≠q):=λx y P Q T e=>by subst e;rw[P]at Q;exact T (A2 Q)
         have H:=Yw (Zv hlt);have I:=Yw (Zv f);have zJ:(k:Int)<ed q:=Yv;clear L K;generalize B[k]=x at *
         generalize q[k]=y at *
         have HB:=Yw v.2;have F:=Yw g;clear t u E D g;by_cases hxy:x=y
         .subst hxy;go_wp2
          go_region
          all_goals go_wp2
          all_goals exact⟨⟨k+1,Yv,Yn,⟨by rw[V.o,Y.o,v.1],HB.drew⟩⟩,Ys⟩
         have J:=Yw hxy;by_cases n0:x.M=y.M
         .have k0:=n0;by_cases n1:x.sum=y.sum
          .have k1:x.sum.toList=y.sum.toList:=(by rw[n1]);have L:¬x.ci=y.ci:=λe=>hxy (by
            cases x;cases y;simp_all)
           clear hxy n1;go_wp2
           go_region
           all_goals go_wp2
           all_goals go_ret
           all_goals exact Au.no (λh=>HN x y H I J h.2.2.2) F.drew
          have k1:¬x.sum.toList=y.sum.toList:=λe=>n1 (Gm e);clear n1 hxy;go_wp2
          go_region
          all_goals go_wp2
          all_goals go_ret
          all_goals exact Au.no (λh=>HN x y H I J h.2.2.2) F.drew
         clear hxy;go_wp2
         go_region
         all_goals go_wp2
         all_goals go_ret
         all_goals exact Au.no (λh=>HN x y H I J h.2.2.2) F.drew
  all_goals
   delta D4;go_in;go_upto_region 1 with fail;rw[<-HW.o];clear HW;go_wp2;go_ret;exact Au.no (by first|exact λh=>e0 h.1.1|exact λh=>e1 h.1.2.1|exact λh=>e2 h.1.2.2.1|exact λh=>e3 h.1.2.2.2|exact λh=>e4 (by rw[h.2.1])|exact λh=>e5 (by rw[h.2.2.1])|exact λh=>e6 (by rw[h.2.2.2])) bW
theorem Ly{a:Zl}:a.Nodup↔∀(j:Nat) x,a[j]?=ai x->x∉a.take j:=by
 unfold Nodup;rw[pairwise_iff_getElem];constructor
 .intro h j x b f;obtain⟨l,rfl⟩:=Zw b;have⟨i,d,e⟩:=getElem_of_mem f;have g:i<j:=gG;rw[getElem_take]at e;exact gA
 intro h i j d b k e;refine h j a[j] (Zv b) ?_;rw[<-e];have c:i<ed (a.take j):=Yt;have:=getElem_mem c;rw[getElem_take]at this;exact this
theorem Ad.front(h:Ad w B a c)(K:Nat):Ad w B a (c.take K):=by
 rcases h with h|⟨q,d,e,f,g⟩
 .exact .inl (by simp[h])
 refine ct ⟨q,d,e,f,λi s b=>g i s ?_⟩;have j:=(Zw b).1;simp at j;rw[getElem?_take_of_lt Yv]at b;exact b
theorem XG(o B r c p f l q:Int)(T P L:Dg)(Q C:Nat){m g:Zl}(hq:Ad w w.1.size a m)(hm:Ad w w.1.size b g)(hf:GM m g)(zN:ed g<=C)(zT:c<=1000000000):
 D4 41 #[ca #[Zg o,Zg B,Zg r,Zg c,T,P,L],ca (Yb p a (ed m) Q b (ed g) C f l q)] w λe w'=>Au (Bb o c p f l q m g) w w' e:=by
 obtain⟨zV,zU,W,hW⟩:=hf.q,hf.m,Ag ((w.alloc (bs #[Zg o,Zg B,Zg r,Zg c,T,P,L] 30)).alloc (bs (Yb p a (ed m) Q b (ed g) C f l q) 32));have d:bg w.1.size w W:=gB;have zI:BA W w.1.size o B r c T P L:=by rw[hW];exact(BA.new w o B r c T P L 30).A (Zy)
 have zH:BM W (w.1.size+1) p (Cw a m Q) (Cw b g C) f l q:=by rw[hW];have:=BM.new (w.alloc (bs #[Zg o,Zg B,Zg r,Zg c,T,P,L] 30)) p f l q (Cw a m Q) (Cw b g C) 32;rw[Aq]at this;exact this
 have zM:W.1.size=w.1.size+2:=gB;have HW:=Yw hW;clear hW;obtain⟨v,u,HQ,HM⟩:=Yw zI,Yw zH,Yw hq,Yw hm;clear zI zH hq hm;by_cases p1:p<0
 .have d1:bq (p<0)=ay:=Yt;delta D4;go_in;go_wp2;go_ret;rw[<-HW.o];exact Au.no (P:=Bb o c p f l q m g) (λh=>by rcases h.I with h|h|h<;>(have:=h.1;omega)) d
 have d1:bq (p<0)=ba:=Yt;by_cases p2:2<p
 .have d2:bq ((2:Int)<p)=ay:=Yt;delta D4;go_in;go_wp2;go_ret;rw[<-HW.o];exact Au.no (P:=Bb o c p f l q m g) (λh=>by rcases h.I with h|h|h<;>(have:=h.1;omega)) d
 have d2:bq ((2:Int)<p)=ba:=Yt;delta D4;go_in;go_wp2_with fail;rw[<-HW.o];refine(IC q 0 1000000000 W).ah ?_;rintro e w1 ⟨rfl,rfl⟩;have⟨F,D,E,G,H,I,N⟩:=u.o;by_cases h1:0<=q/\q<=1000000000
 case neg=>rw[decide_eq_false h1];go_wp2;go_ret;exact Au.no (P:=Bb o c p f l q m g) (λh=>h1 ⟨h.ig,h.jg⟩) d
 rw[decide_eq_true h1];by_cases h2:ed m<=23200
 case neg=>
  have A:bq ((23200:Int)<(ed m:Int))=ay:=Yt;go_wp2;go_ret;exact Au.no (P:=Bb o c p f l q m g) (λh=>h2 h.dy.nq) d
 have A:bq ((23200:Int)<(ed m:Int))=ba:=Yt;by_cases h3:ed g<=600
 case neg=>
  have R:bq ((600:Int)<(ed g:Int))=ay:=Yt;go_wp2;go_ret;exact Au.no (P:=Bb o c p f l q m g) (λh=>h3 h.dy.T) d
 have R:bq ((600:Int)<(ed g:Int))=ba:=Yt;clear HW;go_wp2;go_loopw [5] (λi wr=>∃k:Nat,k<=ed m/\i=Zg k/\Hid (∀j x,j<k->m[j]?=ai x->(x.size:Int)=o)/\Hid (BA wr w.1.size o B r c T P L)/\Hid (BM wr (w.1.size+1) p (Cw a m Q) (Cw b g C) f l q)/\Zz w wr) (λi _=>ed m -(intOf i).toNat)
 case atStart=>exact⟨0,Aw _,rfl,λj x h=>Yv,v,u,d⟩
 clear F D E G H I N v u d zM;obtain⟨k,hk,rfl,t,v,u,d⟩:=hrel;obtain⟨⟨F,D,E,G,H,I,N⟩,J,_,_,O,_,_,_,Y⟩:=u.o,v.o;by_cases hlt:k<ed m
 .obtain⟨b',zC,ha,hb,hc⟩:=(Ad.A HQ d).at hlt;subst ha;have S:=Yw (Zv hlt);have M:=hc k _ S;have K:=Zr hb d.size;clear hc;generalize m[k]=x at *
  obtain⟨U,V,X,zJ⟩:=AA.cell D N,AA.cell M K,AA.cell J Y,AA.ne wr;by_cases h:(x.size:Int)=o
  .have hn:((x.size:Int) !=o)=ba:=Yt;have HA:Hid (∀j y,j<k+1->m[j]?=ai y->(y.size:Int)=o):=gH;go_wp2;refine AN Yr Yr ?_
   repeat (go_big_quiet_step (fail))
   refine wpQuiet_nil ?_;intro n;obtain⟨zB,zA,z⟩:=Yw (BA.ak v n.h Y),Yw (BM.ak u n.h N),d.ag (n.h.ah d.size);clear U V X F D E G H I J O M;go_wp2;exact⟨⟨k+1,Yv,Yn,HA,zB,zA,z⟩,Ys⟩
  have hn:((x.size:Int) !=o)=ay:=Yt;go_wp2;refine AN Yr Yr ?_
  repeat (go_big_quiet_step (fail))
  refine wpQuiet_nil ?_;intro n;have z:=d.ag (n.h.ah d.size);clear U V X F D E G H I J O M;go_wp2;go_ret;exact Au.no (P:=Bb o c p f l q m g) (λZ=>h (Z.dy.q x (Zs S))) z
 have zF:Hid (∀s∈m,(s.size:Int)=o):=by intro s hs;obtain⟨j,hj,rfl⟩:=getElem_of_mem hs;exact t j _ Yv (Zv hj)
 clear t;go_wp2;go_loopw [6] (λi wr=>∃k:Nat,k<=ed g/\i=Zg k/\Hid (∀j x,j<k->g[j]?=ai x->(x.size:Int)=o/\x∉g.take j)/\Hid (BA wr w.1.size o B r c T P L)/\Hid (BM wr (w.1.size+1) p (Cw a m Q) (Cw b g C) f l q)/\Zz w wr) (λi _=>ed g -(intOf i).toNat)
 case atStart=>exact⟨0,Aw _,rfl,λj x h=>Yv,v,u,d⟩
 clear F D E G H I N J O Y v u d;obtain⟨k,hk,rfl,t,v,u,d⟩:=hrel;obtain⟨⟨F,D,E,G,H,I,N⟩,J,_,_,O,_,_,_,Y⟩:=u.o,v.o;by_cases hlt:k<ed g
 .obtain⟨b',zC,ha,hb,hc⟩:=(Ad.A HM d).at hlt;subst ha;have S:=Yw (Zv hlt);have M:=hc k _ S;have K:=Zr hb d.size;clear hc;generalize g[k]=x at *
  obtain⟨U,V,X,zJ⟩:=AA.cell E N,AA.cell M K,AA.cell J Y,AA.ne wr;have zK:ed (g.take k)=k:=Yt;have hH:∀n:AA wr,D4 83 #[Cx (ai ⟨b',zC,an⟩) k C,C0 x] n.w λe w'=>e=C1 (.bool ((g.take k).any (λy=>decide (y=x))))/\bg n.w.1.size n.w w':=λn=>by have:=Nh C x (Ad.front (Ad.A HM (d.ag (n.h.ah d.size))) k) Yv;rw[zK]at this;exact this.ah (by rintro e w' ⟨rfl,rfl⟩;exact⟨rfl,Ae⟩)
  have HH:=Yw hH;clear hH;have zW:k<=C:=Yv;by_cases h:(x.size:Int)=o
  .have hn:((x.size:Int) !=o)=ba:=Yt
   cases hin:(g.take k).any (λy=>decide (y=x))with
   |false=>
    rw[hin]at HH;have zE:x∉g.take k:=λhx=>by have:(g.take k).any (λy=>decide (y=x))=ay:=any_eq_true.2 ⟨x,hx,Yu⟩;rw[hin]at this;cases this
    have HA:Hid (∀j y,j<k+1->g[j]?=ai y->(y.size:Int)=o/\y∉g.take j):=gH;clear zE t;go_wp2;refine AN Yr Yr ?_
    repeat (go_big_quiet_step (exact AA.calls (HH _)))
    refine wpQuiet_nil ?_;intro n;obtain⟨zB,zA,z⟩:=Yw (BA.ak v n.h Y),Yw (BM.ak u n.h N),d.ag (n.h.ah d.size);clear U V X F D E G H I J O M;go_wp2;exact⟨⟨k+1,Yv,Yn,HA,zB,zA,z⟩,Ys⟩
   |true=>
    rw[hin]at HH;have HN:Hid (x∈g.take k):=gH;clear t;go_wp2;refine AN Yr Yr ?_
    repeat (go_big_quiet_step (exact AA.calls (HH _)))
    refine wpQuiet_nil ?_;intro n;have z:=d.ag (n.h.ah d.size);clear U V X F D E G H I J O M;go_wp2;go_ret;exact Au.no (P:=Bb o c p f l q m g) (λZ=>(Ly.1 Z.dy.nd) k x S HN) z
  have hn:((x.size:Int) !=o)=ay:=Yt;go_wp2;refine AN Yr Yr ?_
  repeat (go_big_quiet_step (fail))
  refine wpQuiet_nil ?_;intro n;have z:=d.ag (n.h.ah d.size);clear U V X F D E G H I J O M;go_wp2;go_ret;exact Au.no (P:=Bb o c p f l q m g) (λZ=>h (Z.dy.m x (Zs S))) z
 have HS:Hid (MG o m g):=by refine⟨h2,h3,zF,λs hs=> ?_,Ly.2 λj x hx=>(t j x (C8 (Zw hx).1) hx).2⟩;obtain⟨j,hj,rfl⟩:=getElem_of_mem hs;exact(t j _ Yv (Zv hj)).1
 clear t zF;by_cases p0:p=0
 .subst p0;by_cases e1:ed m=0
  .by_cases A:ed g=0
   .by_cases R:f=0
    .by_cases e4:l=0
     .go_wp2;go_ret;exact Au.yes (P:=Bb o c 0 f l q m g) ⟨h1.1,h1.2,HS,.inl ⟨rfl,A9 e1,A9 A,R,e4⟩⟩ d
     have zS:(l==0)=ba:=Yt;go_wp2;go_ret;exact Au.no (P:=Bb o c 0 f l q m g) (λh=>by have:=h.I;unfold Er at this;simp at this;have h9:=this.2.2.2;omega) d
    have zG:(f==0)=ba:=Yt;go_wp2;go_ret;exact Au.no (P:=Bb o c 0 f l q m g) (λh=>by have:=h.I;unfold Er at this;simp at this;have h9:=this.2.2.1;omega) d
   have zP:=beq_eq_false_iff_ne.2 Yv;go_wp2;go_ret;exact Au.no (P:=Bb o c 0 f l q m g) (λh=>by have:=h.I;unfold Er at this;simp at this;exact A gA) d
  have zO:=beq_eq_false_iff_ne.2 Yv;go_wp2;go_ret;exact Au.no (P:=Bb o c 0 f l q m g) (λh=>by have:=h.I;unfold Er at this;simp at this;exact e1 gA) d
 have zY:(p==0)=ba:=Yt;go_wp2_with fail;refine(IC f 0 c wr).ah ?_;rintro e w1 ⟨rfl,rfl⟩;by_cases e1:0<=f/\f<=c
 case neg=>rw[decide_eq_false e1];go_wp2;go_ret;exact Au.no (P:=Bb o c p f l q m g) (λh=>by rcases h.I with h|h|h;exact p0 h.1;exact e1 ⟨h.2.1,h.2.2.1⟩;exact e1 ⟨h.2.1,h.2.2.1⟩) d
 rw[decide_eq_true e1];have zX:=Hv Yv Yv;go_wp2_with fail;refine(IC l 1 (f+1) _).ah ?_;rintro e w1 ⟨rfl,rfl⟩;by_cases A:1<=l/\l<=f+1
 .rw[decide_eq_true A];by_cases p3:p=2
  .subst p3;go_wp2;go_ret;exact Au.yes (P:=Bb o c 2 f l q m g) ⟨h1.1,h1.2,HS,ct (ct ⟨rfl,e1.1,e1.2,A.1,A.2⟩)⟩ d
  have zZ:(p==2)=ba:=Yt;obtain rfl:p=1:=Yv;by_cases R:l=f+1
  .have zG:(l==f+1)=ay:=Yt;go_wp2;go_ret;exact Au.yes (P:=Bb o c 1 f l q m g) ⟨h1.1,h1.2,HS,ct (.inl ⟨rfl,e1.1,e1.2,R⟩)⟩ d
  have zG:(l==f+1)=ba:=Yt;go_wp2;go_ret;exact Au.no (P:=Bb o c 1 f l q m g) (λh=>by have:=h.I;unfold Er at this;simp at this;exact R this.2.2) d
 rw[decide_eq_false A];go_wp2;go_ret;exact Au.no (P:=Bb o c p f l q m g) (λh=>by rcases h.I with h|h|h;exact p0 h.1;exact A Yv;exact A h.2.2.2) d
end
def GU(w:Zh)(base:Nat)(a:Zk)(ss:Zl):Prop:=
 ss=[]\/∃b off,a=ai ⟨b,off,an⟩/\base<=b/\b<w.1.size/\∀i s,ss[i]?=ai s->eh w (Zd b (off+i))=ai (.string s)/\ei w ⟨b,off+i,an⟩=ba
def Agh(a:Zk):Option Nat:=a.map (·.block)
theorem GU.stays{w':Zh}{c:Nat}(h:GU w c a k)(m:w.1.size<=w'.1.size)(f:∀b,Agh a=ai b->c<=b->b<w.1.size->w'.1[b]?=w.1[b]?):GU w' c a k:=by
 rcases h with h|⟨b,d,rfl,g,l,j⟩
 .exact .inl h
 have e:=f b rfl g l;exact ct ⟨b,d,rfl,g,Yv,λi s f=>⟨(cell?_of_block (a:=⟨b,d+i,an⟩) e).ag (j i s f).1,(frozen?_of_block (a:=⟨b,d+i,an⟩) e).ag (j i s f).2⟩⟩
theorem GU.A{e:Zh}(h:GU w base a d)(c:Zz w e):GU e base a d:=
 h.stays c.size (λb _ _ f=>c.block b f)
theorem GU.mono{base':Nat}(h:GU w base a c)(i:base'<=base):GU w base' a c:=by
 rcases h with h|⟨b,d,rfl,g,e,f⟩
 .exact .inl h
 exact ct ⟨b,d,rfl,Yv,e,f⟩
abbrev GU.ah:=@GU.mono
theorem GU.set{a:Nat}(h:GU w base (ai ⟨g,a,an⟩) d)(f:j<ed d)(t:Zi):GU (el w (Zd g (a+j)) (C0 t)) base (ai ⟨g,a,an⟩) (d.set j t):=by
 rcases h with h|⟨b,l,e,m,n,k⟩
 .rw[h]at f;simp at f
 cases e;refine ct ⟨g,a,rfl,m,C9 n,λi s c=> ?_⟩;have p:i<ed d:=gG;have o:=k i _ (Zv p);refine⟨?_,C9 o.2⟩;by_cases hij:i=j
 .subst hij;rw[getElem?_set_self f]at c;cases c;exact cell?_setCell_same' _ _ _ gA
 rw[getElem?_set_ne (λe=>hij e.symm)]at c;exact(cell?_setCell_other w _ _ _ Ym).ag (k i s c).1
theorem Vn{z A:Zk}(c d:Nat)(hr:Ad w w.1.size z h)(Q:Ad w w.1.size A i)(Y:z=an->ed h=0/\c=0)(Z:A=an->ed i=0/\d=0)(hl:ed h<=1048576)(zE:ed i<=1048576):
 D4 143 #[ca #[Cx z (ed h) c,Cx A (ed i) d]] w λe b=>∃x f y g,e=C1 (ca #[Yz x (ed h) f,Yz y (ed i) g])/\
  ej b w.1.size 9 1 (Yz x (ed h) f) (ed h) (h.map string)/\ej b w.1.size 9 1 (Yz y (ed i) g) (ed i) (i.map string)/\x≠y/\Zz w b:=by
 have⟨R,N,B,C,D⟩:=info_parts CQ;have b:bg w.1.size w ((w.alloc (bs #[Cw z h c,Cw A i d] 25)).alloc (bs #[Zb,Zb] 25)):=gB;have⟨W,f⟩:=Ag ((w.alloc (bs #[Cw z h c,Cw A i d] 25)).alloc (bs #[Zb,Zb] 25));have P:Ls w W (Cw z h c) (Cw A i d):=by rw[f];exact⟨by simp[go_sem],by simp[go_sem],by simp[go_sem],by simp[go_sem],λo=>by simp[go_sem],b,Yu⟩
 have g:=Yw f;have t:=Yw P;delta D4;go_in;go_wp2_with fail;rw[<-g.o];obtain⟨b0,b1,r0,r1,f0,_,zF⟩:=P;obtain⟨⟨a0,a1,_,_,_,_,_⟩,zB,zC,_,_,_,_,_⟩:=t.alloc (bs #[] 9),(t.alloc (bs #[] 9)).alloc (bs #[] 9);clear f b g;have oA:ej (W.alloc (bs #[] 9)).drew (w.1.size+2) 9 1 (Yz W.1.size 0 0) 0 (([]:Zl).map string):=ownsRow_lit W #[] 0 Yv Yo rfl;have H:ej ((W.alloc (bs #[] 9)).alloc (bs #[] 9)).drew (w.1.size+2) 9 1 (Yz W.1.size 0 0) 0 (([]:Zl).map string):=ownsRow.alloc (ownsRow_lit W #[] 0 Yv Yo rfl) _;have I:ej ((W.alloc (bs #[] 9)).alloc (bs #[] 9)).drew (w.1.size+2) 9 1 (Yz (W.1.size+1) 0 0) 0 (([]:Zl).map string):=by have h1:=ownsRow_lit (base:=w.1.size+2) (e:=9) (size:=1) (W.alloc (bs #[] 9)) #[] 0 Yt Yo rfl;rw[Aq]at h1;exact h1
 obtain⟨y,zA,G,x⟩:=(hr.A (t.alloc (bs #[] 9)).drew.cn).dg,(Q.A (t.alloc (bs #[] 9)).drew.cn).dg,(hr.A ((t.alloc (bs #[] 9)).alloc (bs #[] 9)).drew.cn).dg,(Q.A ((t.alloc (bs #[] 9)).alloc (bs #[] 9)).drew.cn).dg
 go_region_law (first
  |(guard_target=if Region.wanted _ _=ay then Oper.wp _ _ _ (W.alloc (bs #[] 9)).drew _ _ else _;refine Be (W.alloc (bs #[] 9)).drew rfl (.tmp 3) (.tmp 5) 23 rfl (w.1.size+2) 9 R Zc 16 underlying23 N B C D rfl (W.1.size) 0 0 [] rfl oA z (ed h) c h rfl rfl Y y Yo Yv Yl ?_;intro S F K s k l L;simp only[Ax,nil_append]at s;have J:=k.size;simp at J l;have j:=(t.alloc _).drew.grown k Yv;have c0:=j.b0;have c1:=j.b1;have d0:=(j.alloc (bs #[] 9)).b0;have d1:=(j.alloc (bs #[] 9)).b1;have T:=J)
  |(guard_target=if Region.wanted _ _=ay then Oper.wp _ _ _ ((W.alloc (bs #[] 9)).alloc (bs #[] 9)).drew _ _ else _;refine Be ((W.alloc (bs #[] 9)).alloc (bs #[] 9)).drew rfl (.tmp 3) (.tmp 5) 23 rfl (w.1.size+2) 9 R Zc 16 underlying23 N B C D rfl (W.1.size) 0 0 [] rfl H z (ed h) c h rfl rfl Y G Yo Yv Yl ?_;intro S F K s k l L;simp only[Ax,nil_append]at s;have J:=k.size;simp at J l;have j:=((t.alloc _).alloc _).drew.grown k Yv;have c0:=j.b0;have c1:=j.b1;have q:=I.kept k (ct (by simp[ownBlock]));have U:=J)
  |(guard_target=if Region.wanted _ _=ay then Oper.wp _ _ _ ((W.alloc (bs #[] 9)).alloc (bs #[] 9)).drew _ _ else _;refine Be ((W.alloc (bs #[] 9)).alloc (bs #[] 9)).drew rfl (.tmp 3) (.tmp 5) 23 rfl (w.1.size+2) 9 R Zc 16 underlying23 N B C D rfl (W.1.size+1) 0 0 [] rfl I z (ed h) c h rfl rfl Y G Yo Yv Yl ?_;intro S F K s k l L;simp only[Ax,nil_append]at s;have J:=k.size;simp at J l;have j:=((t.alloc _).alloc _).drew.grown k Yv;have c0:=j.b0;have c1:=j.b1;have q:=H.kept k (ct (by simp[ownBlock]));have V:=J)
  |(have r:=T;refine Be (K.alloc (bs #[] 9)) rfl (.tmp 7) (.tmp 9) 23 rfl (w.1.size+2) 9 R Zc 16 underlying23 N B C D rfl (K.1.size) 0 0 [] rfl (ownsRow_lit K #[] 0 Yv Yo rfl) A (ed i) d i rfl rfl Z (Q.A (j.alloc _).cn).dg Yo Yv Yl ?_;intro E n w9 f b g u;simp only[Ax,nil_append]at f;have X:=b.size;(try simp at X g);have e:=(s.alloc _).kept b (ct D7);have M:=f;have O:S≠E:=Yv;have m:=(j.alloc _).grown b Yv;have y0:=m.r0;have y1:=m.r1;have yf:=m.f)
  |(have r:=U;refine Be K rfl (.tmp 7) (.tmp 9) 23 rfl (w.1.size+2) 9 R Zc 16 underlying23 N B C D rfl (W.1.size+1) 0 0 [] rfl q A (ed i) d i rfl rfl Z (Q.A j.cn).dg Yo Yv Yl ?_;intro E n w9 f b g u;simp only[Ax,nil_append]at f;have X:=b.size;(try simp at X g);have e:=s.kept b (ct D7);have M:=f;have O:S≠E:=Yv;have m:=j.grown b Yv;have y0:=m.r0;have y1:=m.r1;have yf:=m.f)
  |(have r:=V;refine Be K rfl (.tmp 7) (.tmp 9) 23 rfl (w.1.size+2) 9 R Zc 16 underlying23 N B C D rfl (W.1.size) 0 0 [] rfl q A (ed i) d i rfl rfl Z (Q.A j.cn).dg Yo Yv Yl ?_;intro E n w9 f b g u;simp only[Ax,nil_append]at f;have X:=b.size;(try simp at X g);have e:=s.kept b (ct D7);have M:=f;have O:S≠E:=Yv;have m:=j.grown b Yv;have y0:=m.r0;have y1:=m.r1;have yf:=m.f))
 all_goals
  have o:=Yw (Zn e (Zn M (Zn O m)));clear m;clear e M O oA H I y zA G x hr Q t;go_wp2;refine Co (ca #[C2 S h F,C2 E i n]) (by simp[results,results143,go_sem,y0,y1]) ⟨_,_,_,_,rfl,?_,?_,o.2.2.1,?_⟩
  .exact(ownsRow_setCell_below (ownsRow_setCell_below o.1 (a:=⟨w.1.size+1,0,an⟩) Yu _) (a:=⟨w.1.size+1,1,an⟩) Yu _).ah Yv
  .exact(ownsRow_setCell_below (ownsRow_setCell_below o.2.1 (a:=⟨w.1.size+1,0,an⟩) Yu _) (a:=⟨w.1.size+1,1,an⟩) Yu _).ah Yv
  exact(o.2.2.2.cn.setCell (p:=⟨w.1.size+1,0,an⟩) Yu _).setCell (p:=⟨w.1.size+1,1,an⟩) Yu _
theorem Vo(c d:Nat)(r:Ad w w.1.size a h)(q:Ad w w.1.size b f)(B:ed h<=1048576)(z:ed f<=1048576)(t:∀s∈h,s.size<=1048576)(l:∀s∈f,s.size<=1048576)(A:ed f<=d):
 D4 65 #[ca #[Cx a (ed h) c,Cx b (ed f) d]] w λe i=>∃v,e=C1 (ca #[v,Zb])/\
  ej i w.1.size 9 1 v (ed (AX h f (ed f))) ((AX h f (ed f)).map string)/\Zz w i:=by
 have j:bg w.1.size w ((w.alloc (bs #[Cw a h c,Cw b f d] 25)).alloc (bs #[Zb,Zb] 25)):=gB;delta D4;go_in;go_wp2_with fail;refine(MJ c d _ (r.U j) (q.U j) B z t l A).ah ?_;rintro e n ⟨v,rfl,m,i⟩;have y:=j.ag (i.ah Yt);have r0:eh n (Zd (w.1.size+1) 0)=ai Zb:=by rw[i.cell (p:=⟨w.1.size+1,0,an⟩) Yu];simp
 have x:eh n (Zd (w.1.size+1) 1)=ai Zb:=by rw[i.cell (p:=⟨w.1.size+1,1,an⟩) Yu];simp
 have C:∀o,ei n ⟨w.1.size+1,o,an⟩=ba:=λo=>by rw[i.frozen (p:=⟨w.1.size+1,o,an⟩) Yu];simp[go_sem]
 have u:=Joins.ownsRow_forms m;have R:=IN y (m.ah Yu);have k:=Yw R;clear R m i r q t l;rcases u with⟨rfl,u⟩|⟨g,i,rfl⟩
 .go_wp2;exact Co (ca #[Zb,Zb]) (by simp[results,results65,go_sem,r0,x]) ⟨_,rfl,k.1,k.2⟩
 go_wp2;exact Co (ca #[C2 g (AX h f (ed f)) i,Zb]) (by simp[results,results65,go_sem,r0,x]) ⟨_,rfl,k.1,k.2⟩
