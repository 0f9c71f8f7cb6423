import Derived.Test.YtdofmfnmackjhaaGreatDoorX09
set_option maxRecDepth 100000
set_option maxHeartbeats 16000000
namespace Go.Proofs.YtdofmfnmackjhaaGreatDoor
open ChangeShapes WideShapes ChangeAt RowKit _root_.Go.Proofs.Tryz List World Value
variable{w:Zh}{a:Zk}{f:Int}{P L:Value}{A:Addr}{B:Nat}
theorem Sx(w:Zh)(x:Kd)(g c:Nat):∀j u,(kC (x,Yz g x.B.length c))[j]?=some u->(w.alloc (.cells #[C4 x.sum,Zg x.born,C4 x.J,Yz g x.B.length c] 68)).cell? ((⟨w.1.size,0,none⟩:Addr).add j)=some u:=by intro j u a;rw[A3,A0];exact((Aa.new w (kC (x,C7 g x.B c)) 68) j u a).1
theorem VF(x:Kd)(g c:Nat):∀u∈kC (x,Yz g x.B.length c),u.oneCell'=true:=by intro u a;simp[kC]at a;rcases a with rfl|rfl|rfl|rfl<;>rfl
theorem Aal{a:Nat}{e:TypeId}{size:Nat}{v:D4}{n:Nat}{b:Zj}(h:w.ownsRow a e size v n b)(c:0<n):v≠Zb:=by
 intro e;subst e;rcases h.2 with⟨_,d⟩|⟨_,_,_,e,_⟩
 .omega
 .cases e
def Ig(w:Zh)(aa:Addr)(ks:List Kd):Prop:=∀(i:Nat) (k:Kd),ks[i]?=some k->∃ad rc,w.cell? (Zd (aa.block) (aa.off+i *4+3))=some (.slice (some ad) k.B.length rc)
theorem Aw.same''{g:Zh}{b:Nat}{i e d:Int}{T:D4}(h:Aw w b i f e d T P L)(r:g.1[b]?=w.1[b]?)(s:b<g.1.size):Aw g b i f e d T P L:=by obtain⟨k,l,m,n,o,p,q,t⟩:=h;have c:=λj=>cell?_of_block (a:=⟨b,j,none⟩) r;exact⟨(c 0).ah k,(c 1).ah l,(c 2).ah m,(c 3).ah n,(c 4).ah o,(c 5).ah p,(c 6).ah q,s⟩
def IF(w:Zh)(aa:Addr)(ks:List Kd):Prop:=∀(i:Nat) (k:Kd),ks[i]?=some k->∀rc,w.cell? (Zd (aa.block) (aa.off+i *4+3))=some (.slice none k.B.length rc)->rc=0
theorem Ig.cp{b:Dj}(h:Ig w A b):IF w A b:=λi k d a a=>by have⟨f,e,c⟩:=h i k d;rw[c]at a;cases a
structure Kw (w wr:Zh) (k tg tc:Nat) (rs:Zj) (wd now given births:Int) (A P L:Value) (ks:List Kd):Prop where
 o:Aa wr (w.1.size+1+1) [Zg wd,Zg now,Zg given,Zg births,.slice (some ⟨tg,0,none⟩) k tc,P,L]
 cf:Aa wr (w.1.size+1) z7
 box:Aw wr w.1.size wd now given births A P L
 ak:wr.ownsRow (w.1.size+3) 68 4 (.slice (some ⟨tg,0,none⟩) k tc) k (Ab kC ((ks.take k).zip rs))
 len:rs.length=k
 B:∀(i:Nat) (x:Kd) (r:Value),(ks.take k)[i]?=some x->rs[i]?=some r->wr.ownsRow (w.1.size+3) 9 1 r x.B.length (x.B.map Value.string)
 all:∀v∈rs,∃g n c,v=Value.slice (some ⟨g,0,none⟩) n c
 nd:(tg::rs.filterMap Value.ownBlock).Nodup
 cu:Below w.1.size w wr
theorem Kw.step{wr U t D:Zh}{k s tc:Nat}{C:Zj}{Z V l:Int}{A:D4}{q:Dj}{x:Kd}{u I p E:Nat}(h:Kw w wr k s tc C Z V l f A P L q)(Y:q[k]?=some x)(X:Zz wr U)(W:Zz U t)(Q:t.ownsRow U.1.size 9 1 (Yz u x.B.length I) x.B.length (x.B.map Value.string))(o:t.grownBy D (some s))(zF:D.ownsRow (w.1.size+3) 68 4 (Yz p (k+1) E) (k+1) (Ab kC ((q.take k).zip C)++kC (x,Yz u x.B.length I)))(M:p=s\/t.1.size<=p):Kw w (D.setCell (Zd (w.1.size+1+1) 4) (Yz p (k+1) E)) (k+1) p E (C++[Yz u x.B.length I]) Z V l f A P L q:=by
 have zC:=(Zw Y).1;have T:q.take (k+1)=q.take k++[x]:=by obtain⟨_,rfl⟩:=Zw Y;exact Zu zC
 have zK:=Ac h.ak (g:=s) rfl;have l3:=Ac Q (g:=u) rfl;have zH:=X.size;have zM:=W.size;have zJ:=h.o.lt;have m:Below wr.1.size wr t:=X.ah (W.aj zH);have S:∀b,b<t.1.size->b≠s->b≠w.1.size+1+1->(D.setCell (Zd (w.1.size+1+1) 4) (Yz p (k+1) E)).1[b]?=t.1[b]?:=λb F c d=>(Below.heap_setCell _ _ _ _ (D2 d)).ah (o.block b F (λe=>c (A4 e)))
 have n:∀b,b<wr.1.size->b≠s->b≠w.1.size+1+1->(D.setCell (Zd (w.1.size+1+1) 4) (Yz p (k+1) E)).1[b]?=wr.1[b]?:=λb F c d=>(S b Yv c d).ah (m.block b F);have N:(q.take k).length=k:=by rw[Ct];omega
 have H:∀r∈C,∀g,r.ownBlock=some g->w.1.size+3<=g/\g<wr.1.size:=by
  intro r d g c;obtain⟨i,K⟩:=A5 d;have zI:i<k:=by have:=(Zw K).1;have:=h.len;omega
  exact Ac (h.B i _ r (Zv Yv) K) c
 have zE:∀r∈C,∀g,r.ownBlock=some g->g≠s:=λr d g c e=>(List.nodup_cons.1 h.nd).1 (e▸List.mem_filterMap.2 ⟨r,d,c⟩);refine⟨?_,?_,?_,?_,by simp[h.len],?_,?_,?_,?_⟩
 .have F:Aa D (w.1.size+1+1) _:=Aa.same (Aa.A h.o m) (o.block _ Yv (λe=>Dz (A4 e)));exact Aa.set F 4 _
 .exact Aa.same h.cf (n _ Yv Yv Yv)
 .exact Aw.same'' h.box (n _ Yv Yv Yv) (by simp;have:=o.size;omega)
 .rw[T,List.zip_append (by rw[N,h.len]),Bn];exact BH zF (λg c=>by simp[Value.ownBlock]at c;omega) 4 _
 .intro i y r B d;rw[T]at B;have zG:=h.len;rcases Bz i k with K|K
  .rw[List.getElem?_append_left Yv]at B d;have j:=Zs d;exact As (h.B i y r B d) (λg c=>n g (H r j g c).2 (zE r j g c) (Dz (H r j g c).1))
  .have zB:i=k:=by have:=(Zw d).1;simp at this;omega
   subst zB;rw[List.getElem?_append_right Yv,N,Nat.sub_self]at B;rw[List.getElem?_append_right Yv,zG,Nat.sub_self]at d;simp at B d;subst B;subst d;exact As (World.ownsRow.aj Q Yv) (λg c=>by simp[Value.ownBlock]at c;subst c;exact S _ l3.2 Yv Yv)
 .intro v z;rcases A7.1 z with z|z
  .exact h.all v z
  .simp at z;exact⟨_,_,_,z⟩
 .rw[List.filterMap_append];have zA:List.filterMap Value.ownBlock [C7 u x.B I]=[u]:=by simp[Value.ownBlock]
  rw[zA];have R:∀b∈C.filterMap Value.ownBlock,b<wr.1.size:=λb G=>by obtain⟨r,d,G⟩:=List.mem_filterMap.1 G;exact(H r d b G).2
  have O:=List.nodup_cons.1 h.nd;refine List.nodup_cons.2 ⟨?_,?_⟩
  .intro j;rcases A7.1 j with j|j
   .rcases M with rfl|J
    .exact O.1 j
    .have:=R _ j;omega
   .simp at j;have:=o.size;rcases M with J|J<;>omega
  .refine List.nodup_append.2 ⟨O.2,Yu,λa J b G e=> ?_⟩;simp at G;have:=R a J;omega
 .exact(((h.cu.ah (m.aj h.cu.size)).grown o (Dz h.cu.size) (λg c=>by cases c;omega))).setCell Yt _
theorem Gn{P:Program}(w:Zh){B:Array Oper}{rest:List Oper}{o:Oper}{a:Act}{Q:Exit->Act->Zh->Prop}(y:o.guard=none)(s x:Operand)(t:TypeId)(F:o.op=.call {callee:=.builtin .append,args:= #[s,x],argTypes:= #[t,t]})(base:Nat)(e:TypeId)(i:TypeInfo)(z:D4)(size bytes:Nat)(H:P.underlying t=some (.slice e))(D:P.info? e=some i)(O:i.zero=some z)(k:i.size=size)(K:i.bytes=bytes)(M:z.cells.size=size)(L:0<size)(v:D4)(n:Nat)(q:Zj)(G:a.eval s=v)(b:w.ownsRow base e size v n q)(p:Zk)(m c:Nat)(news:Zj)(I:a.eval x=C3 p m c)(r:p=none->m=0/\c=0)(E:news.length=m *size)(g:∀A,p=some A->∀j u,news[j]?=some u->w.cell? (A.add j)=some u)(N:∀u∈news,u.oneCell'=true)(J:n+m<=maxLen)(d:(n+m) *bytes<=140737488355328)(f:base<=w.1.size)(h:∀l C,C.ownsRow base e size l (n+m) (q++news)->w.grownBy C v.ownBlock->(l=Zb↔v=Zb/\m=0)->(l.ownBlock=v.ownBlock\/l.ownBlock=some w.1.size)->wpList P B Q rest (a.put o.dst l) C):
 wpList P B Q (o::rest) a w:=by
 cases p with
 |some A=>exact wpList_append_own_at w y s x t F base e i z size bytes H D O k K M L v n q G b A m c news I E (g A rfl) N J d f h
 |none=>obtain⟨rfl,rfl⟩:=r rfl;have l:news=[]:=Bl (D2 E);subst l;have C:(Builtin.append_ #[t,t] o.type #[v,Zb]).run P w=.ok v w:=run_append_owned_none (P:=P) w base t o.type e i size H D v n q b;exact wpList_append_run y s x t t F G I C (h v w (D2 b) ⟨rfl,rfl,rfl,Zx,λ_ _ _=>rfl⟩ Yu (.inl rfl))
theorem AU.gh{d:Dy}(h:AU w B a d)(c:a=some A):∀j u,(Ab pC d)[j]?=some u->w.cell? (A.add j)=some u:=by
 rcases h with h|⟨b,f,e,g,i⟩
 .subst h;intro j u k;simp[Ab]at k
 .rw[e]at c;cases c;exact AU.dy (B:=B) (.inr ⟨b,f,rfl,g,i⟩)
theorem AS.gh{d:Dv}(h:AS w B a d)(c:a=some A):∀j u,(Ab lC d)[j]?=some u->w.cell? (A.add j)=some u:=by
 rcases h with h|⟨b,f,e,g,i⟩
 .subst h;intro j u k;simp[Ab]at k
 .rw[e]at c;cases c;exact AS.dy (B:=B) (.inr ⟨b,f,rfl,g,i⟩)
theorem Ft(M C d a:Int)(sa L H:Zk)(ac Q O:Nat)(l:Dj)(f:Dy)(s:Dv)(w:Zh)(y:Bx w w.1.size sa L H l f s)(m:∀A,sa=some A->IF w A l)(xD:L=none->Q=0)(yY:H=none->O=0)(hk:l.length<=600)(hp:f.length<=100)(hl:s.length<=200)(zJ:∀k∈l,k.B.length<=30):
 Calls prog 31 #[.agg (Yg M C d a sa l.length ac L f.length Q H s.length O)] w λe B=>∃T z t R,e=C5 (.agg #[Zg M,Zg C,Zg d,Zg a,T,z,t])/\Ba B w.1.size T z t R l f s/\(∀v∈T::z::t::R,∃g n c,v=Yz g n c)/\Zz w B:=by
 obtain⟨W,t⟩:=Ae ((((w.alloc (.cells (C9 M C d a sa l ac L f Q H s O) 27)).alloc (.cells Yi 27)).alloc (.cells (Yg M C d a (some ⟨w.1.size+1+1+1,0,none⟩) 0 0 L f.length Q H s.length O) 27)).alloc (.cells #[] 68));have hB:=(ZR t).1;have D:=(ZR t).2.1
 have G:Aw W w.1.size M C d a (C1 sa l ac) (C1 L f Q) (C1 H s O):=by rw[t];exact⟨by simp[go_sem],by simp[go_sem],by simp[go_sem],by simp[go_sem],by simp[go_sem],by simp[go_sem],by simp[go_sem],Yt⟩
 have J:Aa W (w.1.size+1) z7:=by intro j v K;have hj:j<7:=(Zw K).1;rw[t];rcases(show j=0\/j=1\/j=2\/j=3\/j=4\/j=5\/j=6 by omega)with rfl|rfl|rfl|rfl|rfl|rfl|rfl<;>(simp[z7]at K;subst K;simp[go_sem])
 have I:Aa W (w.1.size+1+1) (Yh M C d a (some ⟨w.1.size+1+1+1,0,none⟩) 0 0 L f.length Q H s.length O):=by intro j v K;have hj:j<7:=(Zw K).1;rw[t];rcases(show j=0\/j=1\/j=2\/j=3\/j=4\/j=5\/j=6 by omega)with rfl|rfl|rfl|rfl|rfl|rfl|rfl<;>(simp at K;subst K;simp[go_sem])
 have F:W.ownsRow (w.1.size+3) 68 4 (Yz (w.1.size+1+1+1) 0 0) 0 (Ab kC []):=by have:=World.ownsRow_lit (base:=w.1.size+3) (e:=68) (size:=4) (((w.alloc (.cells (C9 M C d a sa l ac L f Q H s O) 27)).alloc (.cells Yi 27)).alloc (.cells (Yg M C d a (some ⟨w.1.size+1+1+1,0,none⟩) 0 0 L f.length Q H s.length O) 27)) #[] 0 Yu Yo rfl;rw[<-t]at this;simpa [Ab]using this
 have B:=Yw (Zn y m);have E:=Yw t;have yP:=Yw D;have z:=Yw (Zn I (Zn J (Zn G F)));clear t y m I J G F D;go_enter func31,ntmps31;go_upto_region 3 with fail;rw[<-E.o];clear E;go_wp2
 go_loopw [4] (λi wr=>∃(k S tc:Nat) (R:Zj),k<=l.length/\i=Zg k/\Hid (Kw w wr k S tc R M C d a (C1 sa l ac) (C1 L f Q) (C1 H s O) l)) (λi _=>l.length -(intOf i).toNat)
 case atStart=>exact⟨0,w.1.size+1+1+1,0,[],Az _,rfl,⟨z.o.1,z.o.2.1,z.o.2.2.1,z.o.2.2.2,rfl,(λi x r hx=>by simp at hx),(λv K=>by simp at K),Yu,hB⟩⟩
 case round=>
  clear z;obtain⟨k,S,tc,R,xQ,rfl,E⟩:=hrel;have G:=E.o.cu;have T:=G.size;obtain⟨n,u,x2,x3,x4,x5,x6,c⟩:=E.o.box;by_cases Z:k<l.length
  .obtain⟨ab,ao,ha,hb,t⟩:=(AW.A B.o.1.k G).at Z;subst ha;have HG:Hid (l[k]?=some l[k]):=Zv Z;obtain⟨V,X,Y,ra,rc,N,m⟩:=t k _ HG.o;have yH:Hid (ra=none->l[k].B.length=0/\rc=0):=λe=>by
    subst e;refine⟨?_,B.o.2 _ rfl k _ HG.o rc ((G.cell (p:=⟨ab,ao+k *4+3,none⟩) hb).symm.ah N)⟩;rcases m with h|⟨_,_,h,_⟩
    .rw[h];rfl
    .cases h
   have xL:=zJ _ (List.getElem_mem Z);have xM:Hid (l.take (k+1)=l.take k++[l[k]]):=Zu Z;have xO:ab<wr.1.size:=Yv
   have yL:=Yw (Af.aj m T);clear t m;generalize l[k]=x at *
   obtain⟨U,y⟩:=D6 wr #[C4 x.sum,Zg x.born,C4 x.J,C1 ra x.B rc] 68;have t:=(AE y).1;have I:=(AE y).2.1;have z:=(AE y).2.2;obtain⟨i0,hi,xG,xH,xI⟩:=info_parts GY;have m:=yP.o;have J:w.1.size+4<=wr.1.size\/True:=.inr trivial;have yZ:w.1.size+1+1<wr.1.size:=E.o.o.lt;have zC:=Ac E.o.ak (g:=S) rfl;have HU:=Yw y;have D:=Aa.A E.o.o t
   have u4:=(D 4 _ rfl).1;obtain⟨k0,k1,k2,k3⟩:=Aa.c4 z 0 1 2 3;have F:=Ah E.o.ak t;have HT:=Yw F;have HS:=Yw D;have zM:=Yw z;have yN:=Yw t;have yO:=Yw I;have yK:Hid (Af U.drew U.drew.1.size ra x.B):=Af.aj (Af.A yL.o t.drew) t.size;have xE:x.B.length<=1048576:=Yv
   have zG:¬w.1.size+1+1=wr.1.size:=Yv
   clear y F D z t I m J;go_upto_region 7 with fail;rw[<-HU.o];clear HU n u x2 x3 x4 x5 x6 c V X Y N
   go_region_law (first
    |(go_simp;go_at_call 77;refine(Gi x.J ra rc x.B U.drew yK.o yH.o xE).aj ?_;rintro e y ⟨V,N,rfl,I,t⟩;have F:Below U.1.size U y:=⟨t.os,t.tape,t.output,t.size,t.block⟩;have z3:=F.size;have J:=Aa.A HS.o F;have n4:=(J 4 _ rfl).1;obtain⟨m0,_⟩:=Aa.A zM.o F 0 _ rfl;obtain⟨m1,_⟩:=Aa.A zM.o F 1 _ rfl;have X:Below y.1.size y (y.alloc (.cells #[C4 x.sum,Zg x.born,C4 x.J,C7 V x.B N] 68)):=Zy;have q:=(Aa.A J X 4 _ rfl).1;have m:=yO.o;obtain⟨v5,w5,hr5,ho5,hg5,_,ha5⟩:=run_append_own_at (P:=prog) (y.alloc (.cells #[C4 x.sum,Zg x.born,C4 x.J,C7 V x.B N] 68)) (w.1.size+3) 23 23 68 i0 _ 4 64 underlying23 hi xG xH xI rfl Yq _ k _ (Ah (Ah HT.o F) X) ⟨y.1.size,0,none⟩ 1 1 (kC (x,C7 V x.B N)) rfl (Sx y x V N) (VF x V N) Yo Yv Yt;obtain⟨g4,c4,rfl,hg4a,hg4b⟩:=BF ho5 (Aal ho5 Yv);have o:=Ac I (g:=V) rfl;have D:y.grownBy w5 (some S):=Aj (Ag _ X) hg5;have z:g4=S\/y.1.size<=g4:=ha5.imp (λe=>by simpa [Value.ownBlock]using e) (λe=>by simp[Value.ownBlock]at e;omega);have Y:w5.1[w.1.size+1+1]?=(y.alloc (.cells #[C4 x.sum,Zg x.born,C4 x.J,C7 V x.B N] 68)).1[w.1.size+1+1]?:=hg5.block _ Yt (by simp[Value.ownBlock];omega);have c:=Aa.same (Aa.A J X) Y;have y5:=(c 4 _ rfl).1;have f5:=(c 4 _ rfl).2;clear m;go_wp2_with fail)
    |(refine Bt Yp (.tmp 22) (.tmp 31) 23 23 Yp Yp Yp hr5 ?_))
   all_goals
    have HF:Hid (Kw w _ (k+1) g4 c4 (R++[C7 V x.B N]) M C d a (C1 (some ⟨ab,ao,none⟩) l ac) (C1 L f Q) (C1 H s O) l):=Kw.step E.o HG.o yN.o F I D ho5 z;clear I t F z3 J n4 m0 m1 X q hr5 ho5 hg5 ha5 D z hg4a hg4b o Y c y5 f5 u4 k0 k1 k2 k3;go_wp2;exact⟨⟨k+1,g4,c4,R++[C7 V x.B N],Yv,Yn,HF⟩,Ys⟩
  .obtain rfl:k=l.length:=Yv
   have t:=E.o;have zC:=Ac t.ak (g:=S) rfl;have yZ:=t.o.lt;obtain⟨ip,yU,xA,xB,xC⟩:=info_parts GP;obtain⟨il,yT,yV,yW,yX⟩:=info_parts Gm;have bP:Below wr.1.size wr (wr.alloc (.cells #[] 71)):=Zy;have D:=(t.o 5 _ rfl);have zG:¬w.1.size+1+1=wr.1.size:=Yv
   have z:AU wr wr.1.size L f:=AU.aj (AU.A B.o.1.p G) T;have yM:=Yw z;have yJ:Hid (L=none->f.length=0):=λe=>by
    rcases B.o.1.p with h|⟨q,o,h,_⟩
    .rw[h];rfl
    .rw[e]at h;cases h
   have yG:Hid (H=none->s.length=0):=λe=>by
    rcases B.o.1.l with h|⟨q,o,h,_⟩
    .rw[h];rfl
    .rw[e]at h;cases h
   clear t n u x2 x3 z D;go_wp2_with (first
    |(at_builtin;refine Gn _ rfl _ _ 24 rfl (w.1.size+3) 71 ip _ 2 32 underlying24 yU xA xB xC rfl Yq _ 0 (Ab pC []) rfl ?d0 L f.length Q (Ab pC f) rfl ?dn ?d1 ?d2 ?d3 ?d4 ?d5 ?d6 ?_)
    |go_in)
   case d0=>exact World.ownsRow_lit (base:=w.1.size+3) (e:=71) (size:=2) wr #[] 0 Yv Yo rfl
   case dn=>exact λe=>⟨yJ.o e,xD e⟩
   case d1=>exact Bq Ce f
   case d2=>exact λA hA=>AU.gh (AU.A yM.o bP) hA
   case d3=>exact JD f
   case d4=>unfold maxLen;omega
   case d5=>omega
   case d6=>simp;omega
   intro v1 z Y n zW zE;obtain⟨t,D,rfl,xK,zH⟩:=BF Y zW;rw[show Ab pC []=[]from rfl,List.nil_append]at Y;have c:Below wr.1.size wr z:=bP.grown n Yu (λq m=>by simp[Value.ownBlock]at m;omega);have z1:=c.size;have S1:=Aa.A E.o.o c;obtain⟨s5,f5⟩:=S1 5 _ rfl;obtain⟨_,_,_,_,_,_,z6,_⟩:=Aw.A E.o.box c;have yA:wr.1.size<=t:=by
    rcases(Ac Y (g:=t) rfl)with⟨X,h2⟩;have:=n;rcases Bz t wr.1.size with h|h
    .exfalso;have hb:=c.block t h;rcases Y.2 with⟨e,_⟩|⟨q,cq,xN,e,_,m,_⟩
     .cases e
     .cases e;exact absurd h (by rcases zE with hh|hh<;>simp[Value.ownBlock]at hh<;>omega)
    .exact h
   have S2:=Aa.set S1 5 (C7 t f D);have yQ:(z.setCell (Zd (w.1.size+1+1) 5) (C7 t f D)).1.size=z.1.size:=Yu
   have g:AS z z.1.size H s:=AS.aj (AS.A B.o.1.l (G.ah (c.aj T))) Yv;have bL:Below z.1.size z z:=Below.refl _ _;have zN:Hid (∀A,H=some A->∀j u,(Ab lC s)[j]?=some u->((z.setCell (Zd (w.1.size+1+1) 5) (C7 t f D)).alloc (.cells #[] 73)).cell? (A.add j)=some u):=by
    intro A hA j u hu;rcases B.o.1.l with h|⟨lb,lo,e,Z,_⟩
    .subst h;simp[Ab]at hu
    .rw[e]at hA;cases hA;have X:=AS.gh g e j u hu;rw[A3]at X |-;rw[World.cell?_of_block (Below.heap_alloc _ _ _ Yt),World.cell?_of_block (Below.heap_setCell _ _ _ _ Yt)];exact X
   have yI:=Yw Y;have zP:=Yw S2;have zK:=Yw c;have yE:¬w.1.size+1+1=z.1.size:=Yv
   have yF:¬w.1.size=w.1.size+1+1:=Yv
   clear Y n zW c S1 S2 x5 x6 x4 g bL;go_wp2_with (first
    |(at_builtin;refine Gn _ rfl _ _ 25 rfl (w.1.size+3) 73 il _ 3 32 underlying25 yT yV yW yX rfl Yq _ 0 (Ab lC []) rfl ?e0 H s.length O (Ab lC s) rfl ?en ?e1 ?e2 ?e3 ?e4 ?e5 ?e6 ?_)
    |go_in)
   case e0=>
    have:=World.ownsRow_lit (base:=w.1.size+3) (e:=73) (size:=3) (z.setCell (Zd (w.1.size+1+1) 5) (C7 t f D)) #[] 0 Yt Yo rfl;rw[yQ]at this;exact this
   case en=>exact λe=>⟨yG.o e,yY e⟩
   case e1=>exact Bq CR s
   case e2=>exact zN.o
   case e3=>exact Vx s
   case e4=>unfold maxLen;omega
   case e5=>omega
   case e6=>simp;omega
   intro v3 y I zT zX g;obtain⟨c,zA,rfl,xJ,zF⟩:=BF I zX;rw[show Ab lC []=[]from rfl,List.nil_append]at I;have F:Below z.1.size (z.setCell (Zd (w.1.size+1+1) 5) (C7 t f D)) y:=by have h0:Below z.1.size (z.setCell (Zd (w.1.size+1+1) 5) (C7 t f D)) ((z.setCell (Zd (w.1.size+1+1) 5) (C7 t f D)).alloc (.cells #[] 73)):=Ad.alloc Yu _;exact h0.grown zT Yu (λq m=>by simp[Value.ownBlock]at m;omega)
   have z3:z.1.size<=y.1.size:=by have:=F.size;simpa using this
   have zV:z.1.size<=c:=by rcases g with hh|hh<;>simp[Value.ownBlock]at hh<;>omega
   have zI:t<z.1.size:=zH;have J:Aa y (w.1.size+1+1) _:=Aa.same zP.o (F.block _ Yv);have S4:=Aa.set J 6 (C7 c s zA);obtain⟨r6,f6⟩:=J 6 _ rfl;have r0:=(J 0 _ rfl).1;have r1:=(J 1 _ rfl).1;have r2:=(J 2 _ rfl).1;have r3:=(J 3 _ rfl).1;have r4:=(J 4 _ rfl).1;have r5:=(J 5 _ rfl).1
   have Y:∀q,q<wr.1.size->q≠w.1.size+1+1->y.1[q]?=wr.1[q]?:=λq X h2=>((F.block q Yv).ah (Below.heap_setCell _ _ _ _ (D2 h2))).ah (zK.o.block q X);have R3:Aa y (w.1.size+1) z7:=Aa.same E.o.cf (Y _ Yv Yv);obtain⟨⟨y0,q0⟩,⟨y1,q1⟩,⟨y2,q2⟩,⟨y3,q3⟩,⟨y4,q4⟩,⟨y5,q5⟩,y6,q6⟩:=Hb R3;have yD:¬w.1.size+1+1=w.1.size+1:=Yv
   have zZ:∀q,(C7 t f D).ownBlock=some q->t=q:=λq m=>by simpa [Value.ownBlock]using m
   have n:y.ownsRow (w.1.size+3) 71 2 (C7 t f D) f.length (Ab pC f):=As (BH (b:=w.1.size+1+1) yI.o (λq m=>Dz (zZ q m)) 5 (C7 t f D)) (λq m=>(zZ q m)▸F.block t zI);have H3:=Yw (Zn I (Zn n (Zn Y (Zn F (Zn zV (Zn yA z3))))));clear I zT zX g n Y F J S4 R3 z6 s5 f5 zN zP;go_wp2;obtain⟨I,n,Y,F,zV,yA,z3⟩:=H3.o
   have hX:∀q,q<y.1.size->q≠w.1.size+1+1->q≠w.1.size+1->(((((((((y.setCell (Zd (w.1.size+1+1) 6) (C7 c s zA)).setCell (Zd (w.1.size+1) 0) (Zg M)).setCell (Zd (w.1.size+1) 1) (Zg C)).setCell (Zd (w.1.size+1) 2) (Zg d)).setCell (Zd (w.1.size+1) 3) (Zg a)).setCell (Zd (w.1.size+1) 4) (C7 S l tc)).setCell (Zd (w.1.size+1) 5) (C7 t f D)).setCell (Zd (w.1.size+1) 6) (C7 c s zA))).1[q]?=y.1[q]?:=λq _ h2 J=>by
    rw[Below.heap_setCell _ _ _ _ (D2 J),Below.heap_setCell _ _ _ _ (D2 J),Below.heap_setCell _ _ _ _ (D2 J),Below.heap_setCell _ _ _ _ (D2 J),Below.heap_setCell _ _ _ _ (D2 J),Below.heap_setCell _ _ _ _ (D2 J),Below.heap_setCell _ _ _ _ (D2 J),Below.heap_setCell _ _ _ _ (D2 h2)]
   have xF:l.take l.length=l:=Zt (Zx);have zS:=E.o.ak;have g:=E.o.B;have yS:=E.o.nd;have yR:=E.o.len;rw[xF]at zS g;have zB:∀r∈R,∀q,r.ownBlock=some q->w.1.size+3<=q/\q<wr.1.size:=by intro r J q m;obtain⟨i,hi⟩:=A5 J;have xP:=(Zw hi).1;exact Ac (g i l[i] r (Zv Yv) hi) m
   have yC:∀q,q<wr.1.size->w.1.size+3<=q->_:=λq X h2=>(hX q Yv Yv Yv).ah (Y q X Yv);refine C0 (.agg (C9 M C d a (some ⟨S,0,none⟩) l tc (some ⟨t,0,none⟩) f D (some ⟨c,0,none⟩) s zA)) (by simp[results,results31,go_sem,y0,y1,y2,y3,y4,y5,y6]) ⟨_,_,_,R,rfl,⟨yR,?_,?_,?_,?_,?_⟩,?_,?_⟩
   .exact(As zS (fun q m=>by have e:S=q:=by simpa [Value.ownBlock]using m
                             rw[<-e];exact yC S zC.2 zC.1)).aj Yv
   .intro i x r hx J;have hm:=Zs J;exact(As (g i x r hx J) (λq m=>yC q (zB r hm q m).2 (zB r hm q m).1)).aj Yv
   .exact(As n (fun q m=>by have e:t=q:=by simpa [Value.ownBlock]using m
                            rw[<-e];exact hX t Yv Yv Yv)).aj Yv
   .exact(As I (fun q m=>by have e:c=q:=by simpa [Value.ownBlock]using m
                            rw[<-e];exact hX c zF Yv Yv)).aj Yv
   .rw[Fo];unfold BX;have zY:=List.nodup_cons.1 yS;have yB:∀q∈R.filterMap Value.ownBlock,q<wr.1.size:=λq m=>by obtain⟨r,J,m⟩:=List.mem_filterMap.1 m;exact(zB r J q m).2
    simp only[Value.ownBlock,Option.toList_some,List.cons_append,List.nil_append,List.nodup_cons,Bv,not_or];refine⟨⟨Yv,Yv,zY.1⟩,⟨Yv,λh=>Dz (yB _ h)⟩,λh=>Dz (yB _ h),zY.2⟩
   .intro v K;simp only[Bv]at K;rcases K with rfl|rfl|rfl|K
    .exact⟨_,_,_,rfl⟩
    .exact⟨_,_,_,rfl⟩
    .exact⟨_,_,_,rfl⟩
    .exact E.o.all v K
   .have X:Below w.1.size w y:=by have h0:=G.ah (zK.o.aj T);exact(h0.setCell Yt _).ah (F.aj Yv)
    exact FA (X.setCell (p:=⟨w.1.size+1+1,6,none⟩) Yt _) Yv _ _ _ _ _ _ _
theorem IV(x j b a:Int)(l o m:Zk)(y u t:Nat)(d:Dj)(i:Dy)(h:Dv)(w:Zh)(q:Bx w w.1.size l o m d i h)(f:∀A,l=some A->Ig w A d)(D:o=none->u=0)(C:m=none->t=0)(E:d.length<=600)(G:i.length<=100)(F:h.length<=200)(p:∀k∈d,k.B.length<=30):
 D8 31 #[.agg (Yg x j b a l d.length y o i.length u m h.length t)] w λe B=>∃T s r z,e=C5 (.agg #[Zg x,Zg j,Zg b,Zg a,T,s,r])/\Ba B w.1.size T s r z d i h/\(∀v∈T::s::r::z,∃g n c,v=Yz g n c)/\Zz w B:=
 Ft x j b a l o m y u t d i h w q (λA r=>(f A r).cp) D C E G F p
