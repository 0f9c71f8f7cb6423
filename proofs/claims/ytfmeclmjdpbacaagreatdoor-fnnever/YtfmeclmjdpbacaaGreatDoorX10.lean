import Derived.Test.YtfmeclmjdpbacaaGreatDoorX05
import Derived.Orders
import Derived.Laws.BytesArg
set_option maxRecDepth 100000
set_option maxHeartbeats 16000000
open Option renaming some->ai,none->an
open Bool renaming true->ay,false->ba
open Go.RowKit renaming Below->bg
open Decidable renaming decide->bq
open Go.Obj renaming cells->bs
open Go.Value renaming slice->bx,agg->ca
open Or renaming inl->cr,inr->ct
open List renaming length->ed,toArray->ee
open Go.World renaming cell?->eh,ownsRow->ej,grownBy->ek,setCell->el
open Go renaming maxLen->eo
namespace Go.Proofs.YtfmeclmjdpbacaaGreatDoor
open ChangeShapes WideShapes ChangeAt RowKit _root_.Go.Proofs.Tryz List World Value
variable{w e:Zh}{base c g b n j k i id last:Nat}{v:Value}{d l:Zl}{a:Zk}{x y:Zi}{p:Int}{P:Program}
def Ah(w:Zh)(base:Nat)(v:Value)(ss:Zl):Prop:=
 (v=Zb/\ss=[])\/∃g off cap,v=bx (ai ⟨g,off,an⟩) (ed ss) cap/\base<=g/\g<w.1.size/\ed ss<=cap/\cap<=eo/\
   (∀j,j<cap->(eh w (Zd g (off+j))).isSome=ay/\w.frozen? ⟨g,off+j,an⟩=ba)/\
   ∀i s,ss[i]?=ai s->eh w (Zd g (off+i))=ai (.string s)
theorem Ah.nil(w:Zh)(a:Nat):Ah w a Zb []:=cr ⟨rfl,rfl⟩
theorem Ah.own{ss:Zl}(h:ej w base 9 1 v (ed ss) (ss.map string)):Ah w base v ss:=by
 rcases h.2 with⟨rfl,o⟩|⟨g,f,b,rfl,k,c,l,n,e,q⟩
 .exact cr ⟨rfl,A9 o⟩
 have m:=(A0.1 c).1;have a:∀j,eh w (Zd g (0+j))=b[j]?:=λj=>by rw[Ax];simp[cell?,c]
 refine ct ⟨g,0,f,rfl,k,m,l,n,λj d=>⟨?_,?_⟩,λi s e=> ?_⟩
 .rw[a,B8 Yv];rfl
 .simp[frozen?,c]
 have p:=(Zw e).1;rw[a];have d:(b.toList.take (ed ss *1))[i]?=ai (C0 s):=gA;rw[getElem?_take_of_lt Yv]at d;simpa using d
theorem Ah.row(h:Ah w c v d):∃a b,v=bx a (ed d) b/\Ad w w.1.size a d:=by
 rcases h with⟨rfl,rfl⟩|⟨g,e,b,rfl,j,f,_,_,_,i⟩
 .exact⟨an,0,rfl,cr rfl⟩
 exact⟨_,b,rfl,ct ⟨g,e,rfl,f,i⟩⟩
theorem Ah.stays{w':Zh}{a:Nat}{e:Zl}(h:Ah w a v e)(q:w.1.size<=w'.1.size)(b:∀g,Aj v=ai g->w'.1[g]?=w.1[g]?):Ah w' a v e:=by
 rcases h with h|⟨g,k,f,rfl,l,p,m,n,c,o⟩
 .exact cr h
 exact ct ⟨g,k,f,rfl,l,Yv,m,n,λj d=>⟨by rw[cell?_of_block (b g rfl)];exact(c j d).1,by rw[frozen?_of_block (b g rfl)];exact(c j d).2⟩,λi s d=>(cell?_of_block (b g rfl)).ag (o i s d)⟩
theorem Ah.S{a:Nat}{e:Zl}(h:Ah w a v e)(b:Aj v=ai g):a<=g/\g<w.1.size:=by
 rcases h with⟨rfl,_⟩|⟨j,i,f,rfl,c,d,_⟩
 .cases b
 cases b;exact⟨c,d⟩
theorem Ah.A{c:Zh}{b:Zl}(h:Ah w base v b)(a:Zz w c):Ah c base v b:=
 h.stays a.size (λg e=>a.block g (h.S e).2)
theorem Ah.O{d:Zh}{V:List Nat}{a:Nat}{c:Zl}(h:Ah w a v c)(b:Tn V w d)(f:∀g,Aj v=ai g->g∉V):Ah d a v c:=
 h.stays b.size (λg e=>b.block g (h.S e).2 (f g e))
theorem Ah.mono{base':Nat}{a:Zl}(h:Ah w base v a)(e:base'<=base):Ah w base' v a:=by
 rcases h with h|⟨g,c,b,rfl,d,rest⟩
 .exact cr h
 exact ct ⟨g,c,b,rfl,Yv,rest⟩
abbrev Ah.ah:=@Ah.mono
theorem Ah.tail{a:Nat}{s:Zi}(h:Ah w b (Cx (ai ⟨g,a,an⟩) n c) (s::d)):Ah w b (Cx (ai ⟨g,a+1,an⟩) (ed d) (c -1)) d/\n=ed d+1/\n<=c/\eh w (Zd g a)=ai (C0 s):=by
 rcases h with⟨h,_⟩|⟨t,m,l,e,o,q,f,u,p,k⟩
 .cases h
 simp only[length_cons]at e f;cases e;refine⟨ct ⟨g,a+1,c -1,rfl,o,q,Yv,Yv,λj r=> ?_,λi s r=> ?_⟩,rfl,f,C9 (k 0 s rfl)⟩
 .have:=p (j+1) Yv;rw[show a+(j+1)=a+1+j by omega]at this;exact this
 have:=k (i+1) s (C9 r);rw[show a+(i+1)=a+1+i by omega]at this;exact this
theorem Ah.fresh(w:Zh)(d:Nat)(b:Zl)(c:Nat)(z:Array Value)(h:d<=w.1.size)(f:ed b<=c)(g:c<=eo)(l:z.size=c -ed b):
 Ah (w.drew.alloc (bs (ee (b.map string)++z) 9)) d (Yz w.1.size (ed b) c) b:=by
 have a:∀j,eh (w.drew.alloc (bs (ee (b.map string)++z) 9)) (Zd (w.1.size) (0+j))=(ee (b.map string)++z)[j]?:=λj=>by rw[Ax];show eh (w.drew.alloc (bs (ee (b.map string)++z) 9)) (Zd (w.drew.1.size) j)=_;rw[cell?_alloc_at _ _ _ _ rfl]
 refine ct ⟨w.1.size,0,c,rfl,h,Yu,f,g,λj e=>⟨?_,?_⟩,λi s e=> ?_⟩
 .rw[a,B8 Yt];rfl
 .simp[go_sem]
 have k:=(Zw e).1;rw[a,Array.getElem?_append_left Yt];simp[e]
theorem WI{a:Zl}(U:Ah w c v a)(p:Addr)(C:Nat)(t:Zi)(D:eh w p=ai (C0 t))(X:ed a<=100000000)(z:c<=w.1.size)(E:TypeId):
 ∃f h,(Builtin.append_ #[23,23] E #[v,Cx (ai p) 1 C]).run prog w=.ok f h/\Ah h c f (a++[t])/\(((∀m,ek w h m)/\Aj f=ai w.1.size)\/∃g o d b,(v=Cx (ai ⟨g,d,an⟩) (ed a) b/\ed a<b)/\Aj f=ai g/\h=w.setCells g o [C0 t]/\(eh w (Zd g o)).isSome=ay):=by
 obtain⟨i,I,M,y,N⟩:=info_parts CQ;have r:Src prog i.size 23 (Cx (ai p) 1 C) 1 [C0 t] w:=by
  rw[y];exact Src.ofSlice w underlying23 p 1 C [C0 t] rfl (λj u l=>by
   match j,l with
   |0,l=>cases l;rw[show p.add 0=p from by cases p;simp[Addr.add]];exact D) Ef
 have grow:∀(B:Zk) (b:Nat),b<ed a+1->(Builtin.firstCells i.size (ed a) (Cw B a b)).run prog w.drew=.ok (ee (a.map string)) w.drew->
  ∃f h,(Builtin.append_ #[23,23] E #[Cw B a b,Cx (ai p) 1 C]).run prog w=.ok f h/\Ah h c f (a++[t])/\(∀m,ek w h m)/\Aj f=ai w.1.size:=by
  intro B b G hold;have n:=run_append_grow_src w _ _ E _ i _ underlying23 I M B (ed a) b (a.map string) hold _ 1 [C0 t] r G Yv (by
   have:=nextslicecap_le G;rw[N];omega)
  rw[show a.map string++[C0 t]=(a++[t]).map string by simp]at n;have V:=grownCap_ge w (ed a+1) b 9;have L:=grownCap_le_maxLen w (ed a+1) b 9 Yo;have F:=Ah.fresh w c (a++[t]) (grownCap w (ed a+1) b 9) (Builtin.zeroCells (C0 ⟨#[]⟩).cells (grownCap w (ed a+1) b 9 -(ed a+1))) z Yt L (by rw[size_zeroCells,Am];simp[Value.cells]);rw[Am]at F;exact⟨_,_,n,F,λm=>⟨rfl,rfl,rfl,Yu,λk m _=>heap_alloc_old w.drew _ m⟩,rfl⟩
 rcases U with⟨rfl,rfl⟩|⟨g,d,b,rfl,O,T,W,P,x,D⟩
 .obtain⟨f,h,n,Q,R,S⟩:=grow an 0 Yu (run_firstCells_none w.drew _ _ _ _);exact gG
 by_cases hroom:ed a+1<=b
 .have A:∀j,j<ed [C0 t]->(ed a *1+j)<b:=gG;have n:=run_append_room_src w _ _ E _ i underlying23 I g d (ed a) b _ 1 [C0 t] r hroom (λj m=>by rw[y,Nat.add_assoc];exact(x _ (A j m)).1) (λj m=>by rw[y,Nat.add_assoc];exact(x _ (A j m)).2);rw[y]at n;refine⟨_,_,n,ct ⟨g,d,b,by rw[Am];rfl,O,by rw[FQ];exact T,by rw[Am];exact hroom,P,λj m=>⟨?_,?_⟩,λk s q=> ?_⟩,ct ⟨g,_,d,b,⟨rfl,hroom⟩,rfl,rfl,by rw[Nat.mul_one];exact(x _ hroom).1⟩⟩
  .exact IZ _ _ _ _ _ (x j m).1
  .rw[frozen?_setCells];exact(x j m).2
  rcases B0 k (ed a) with H|H
  .rw[getElem?_append_left H]at q;rw[cell?_setCells_out _ _ _ _ _ (λ_ _=> cr Yt)];exact D k s q
  rw[getElem?_append_right H]at q;have K:k=ed a:=gG;subst K;simp at q;subst q;have J:=cell?_setCells_in g [C0 t] (d+ed a *1) w (λj m=>by rw[Nat.add_assoc];exact(x _ (A j m)).1) 0 Yu;simpa using J
 obtain⟨f,h,n,Q,R,S⟩:=grow (ai ⟨g,d,an⟩) b Yv (run_firstCells_some w.drew _ _ _ _ _ _ gA (by
  intro j u l;obtain⟨s,q,rfl⟩:∃s,a[j]?=ai s/\u=C0 s:=by
   rw[getElem?_map]at l;cases e:a[j]? with
   |none=>rw[e]at l;cases l
   |some s=>rw[e]at l;cases l;exact⟨s,rfl,rfl⟩
  rw[A1];exact D j s q))
 exact gG
theorem KZ{a:Nat}(u:Ah w a v d)(p:Addr)(i:Nat)(t:Zi)(n:eh w p=ai (C0 t))(r:ed d<=100000000)(c:a<=w.1.size)(l:TypeId):
 ∃b f,(Builtin.append_ #[23,23] l #[v,Cx (ai p) 1 i]).run prog w=.ok b f/\Ah f a b (d++[t])/\ek w f (Aj v)/\(Aj b=Aj v\/Aj b=ai w.1.size):=by
 obtain⟨b,f,x,s,⟨h,j⟩|⟨g,o,_,_,⟨h,_⟩,j,rfl,_⟩⟩:=WI u p i t n r c l
 .exact gG
 exact⟨b,_,x,s,⟨os_setCells _ _ _ _,Kj _ _ _ _,output_setCells _ _ _ _,by rw[FQ];exact Zx,λk q m=>heap_setCells_other _ _ _ _ q (λe=>m (by rw[e,h];rfl))⟩,cr (by rw[h,j];rfl)⟩
def Oj(a b:Zi):Bool:=Op.bytesLess a.toList b.toList
def GQ:Zl->Zi->Nat
 |[],_=>0
 |y::l,x=>if Oj y x=ay then GQ l x+1 else 0
theorem Aay(l:Zl)(x:Zi):GQ l x<=ed l:=by
 induction l with
 |nil=>simp[GQ]
 |cons y l ih=>unfold GQ;split<;>simp;omega
theorem Nr(h:∀i y,i<j->l[i]?=ai y->Oj y x=ay)(b:∀y,l[j]?=ai y->Oj y x=ba)(a:j<=ed l):GQ l x=j:=by
 induction l generalizing j with
 |nil=>simp at a;simp[GQ,a]
 |cons y l ih=>
  unfold GQ;cases j with
  |zero=>rw[if_neg gA]
  |succ j=>rw[if_pos (h 0 y Yv rfl),ih (j:=j) (λi z c c=>h (i+1) z Yv Yt) (λz c=>b z Yt) gA]
def GR(l:Zl)(x:Zi):Zl:=if l[GQ l x]?=ai x then l else l.take (GQ l x)++[x]++l.drop (GQ l x)
def Cj(ss:Zl):Zl:=ss.foldl GR []
theorem Rg(l:Zl)(x:Zi):ed (GR l x)<=ed l+1:=by
 unfold GR;split
 .omega
 have:=Aay l x;simp;omega
theorem WJ(h:y∈GR l x):y∈l\/y=x:=by
 unfold GR at h;split at h
 .exact cr h
 simp only[A5,mem_singleton]at h;rcases h with(h|h)|h
 .exact cr (mem_of_mem_take h)
 .exact ct h
 exact cr (mem_of_mem_drop h)
theorem RT(b:Zl):∀a:Zl,ed (b.foldl GR a)<=ed a+ed b/\∀y∈b.foldl GR a,y∈a\/y∈b:=by
 induction b with
 |nil=>intro a;exact⟨Yu,λy c=> cr c⟩
 |cons x b ih=>
  intro a;have⟨e,d⟩:=ih (GR a x);have:=Rg a x;refine⟨by simp only[foldl_cons,length_cons];omega,λy c=> ?_⟩;rcases d y c with h|h
  .rcases WJ h with h|h
   .exact cr h
   exact gA
  exact gA
theorem Ij(a:Zl):ed (Cj a)<=ed a:=by simpa [Cj]using (RT a []).1
theorem UU{a:Zl}(h:y∈Cj a):y∈a:=by
 rcases(RT a []).2 y h with h|h
 .cases h
 exact h
theorem SW{a:Zl}(h:a[k]?=ai x):Cj (a.take (k+1))=GR (Cj (a.take k)) x:=by obtain⟨b,rfl⟩:=Zw h;unfold Cj;rw[Zu b,foldl_append];rfl
theorem JE(yM:Nat){f:Zl}(b:Ad w w.1.size a f)(hl:ed f<=100000):
 D4 56 #[Cx a (ed f) yM] w λe d=>∃g c,e=C1 (Yz g (ed (Cj f)) c)/\
  ej d w.1.size 9 1 (Yz g (ed (Cj f)) c) (ed (Cj f)) ((Cj f).map string)/\Zz w d:=by
 have⟨i0,J,M,N,P⟩:=info_parts CQ;have yL:=Yw b;clear b;have b:bg w.1.size w (w.alloc (bs #[] 9)):=Zy;have d:ej (w.alloc (bs #[] 9)) w.1.size 9 1 (Yz w.1.size 0 0) 0 (([]:Zl).map string):=ownsRow_lit w #[] 0 (Zx) Yo rfl;have yH:=Yw (Zn b d);clear b d;delta D4;go_in;go_wp2;go_loopw [3,4] (λv i wr=>∃(k g c:Nat),k<=ed f/\i=Zg k/\v=Yz g (ed (Cj (f.take k))) c/\Hid (ej wr w.1.size 9 1 (Yz g (ed (Cj (f.take k))) c) (ed (Cj (f.take k))) ((Cj (f.take k)).map string))/\Hid (Zz w wr)) (λ_ i _=>ed f -(intOf i).toNat)
 case atStart=>exact⟨0,w.1.size,0,Aw _,rfl,rfl,yH.2,yH.1⟩
 obtain⟨k,g,c,hk,rfl,rfl,HO,Z⟩:=hrel;by_cases hlt:k<ed f
 case neg=>
  have m:k=ed f:=Yv;subst m;rw[take_length]at HO |-;go_wp2;go_ret;exact⟨_,_,rfl,HO,Z⟩
 have HG:Hid (f[k]?=ai f[k]):=Zv hlt;have⟨I,oa,ha,yT,b⟩:=(Ad.A yL Z).at hlt;subst ha;have cx:=b k _ HG;have HS:=Yw (SW HG);have hlen:ed (Cj (f.take k))<=k:=by have:=Ij (f.take k);simp at this;omega
 have yW:=Z.size;have zP:I<wr.1.size:=Yv;generalize f[k]=x at *
 generalize hO:Cj (f.take k)=O at *
 have yJ:=(HO.lt g rfl).2;have yV:=(HO.lt g rfl).1;have zY:Hid (∀j y,O[j]?=ai y->eh wr (Zd g j)=ai (C0 y)):=by
  intro j y B;have:=Ad.own HO;rcases this with h|⟨b',yX,e1,_,h3⟩
  .subst h;simp at B
  cases e1;simpa using h3 j y B
 clear b;go_wp2;go_loopw [5] (λv b=>∃j:Nat,j<=ed O/\v=Zg j/\(∃nq,b=wr.drewN nq)/\Hid (∀i y,i<j->O[i]?=ai y->Oj y x=ay)) (λv _=>ed O -(intOf v).toNat)
 case atStart=>exact⟨0,Aw _,rfl,⟨0,rfl⟩,λi y h=>Yv⟩
 obtain⟨j,hj,rfl,⟨nq,rfl⟩,HJ⟩:=hrel;by_cases hjl:j<ed O
 case neg=>
  obtain rfl:j=ed O:=Yv;have d1:bq ((ed O:Int)<(ed O:Int))=ba:=Yu;have zS:Hid (∀z,O[ed O]?=ai z->Oj z x=ba):=by intro z hz;simp at hz
  have zV:Hid (¬O[ed O]?=ai x):=by show ¬_;simp
  go_upto_region 6 with fail;go_quiet (fail);go_upto_region 8 with fail;go_quiet (fail);go_upto_region 9 with fail;have HP:Hid (GQ O x=ed O):=Nr HJ zS hj;have v:Hid (Cj (f.take (k+1))=O.take (ed O)++[x]++O.drop (ed O)):=by show _=_;rw[HS.o];unfold GR;rw[HP.o,if_neg zV.o]
  generalize hW:(((wr.drewN _).drewN _).drewN _)=W;have o:Hid (Zz wr W):=by rw[<-hW];exact Cg (Cg (Cg Ae _) _) _
  have zB:Hid (Zz w W):=Z.ag (o.ah Z.size);have zX:Hid (ej W w.1.size 9 1 (Yz g (ed O) c) (ed O) (O.map string)):=HO.kept (Al an o) (Classical.em _);have yS:wr.1.size<=W.1.size:=o.size;have zJ:g<W.1.size:=Yv;have yB:I<W.1.size:=Yv;have zF:eh W (Zd I (oa+k))=ai (C0 x):=(o.cell (p:=⟨I,oa+k,an⟩) zP).ag cx;have zC:Hid (∀i y,O[i]?=ai y->eh W (Zd g i)=ai (C0 y)):=λi y B=>(o.cell (p:=⟨g,i,an⟩) yJ).ag (zY i y B);have Q:Hid (ed O<=c):=by
   rcases zX.2 with⟨hv,_⟩|⟨_,_,_,hv,_,_,D,_⟩
   .cases hv
   cases hv;exact D
  have D:ed O<=c:=Q.o;clear hW cx;go_wp2_with (first
   |(at_builtin;refine wpList_append_own_at _ rfl _ _ 23 rfl w.1.size 9 i0 Zc 1 16 underlying23 J M N P rfl Yq _ 0 [] rfl ?d0 ⟨g,0,an⟩ (ed O) c ((O.take (ed O)).map string) rfl ?dl ?d1 ?d2 ?d3 ?d4 ?d5 ?_))
  case d0=>exact ownsRow_lit W #[] 0 Yv Yo rfl
  case dl=>first|(simp;done)|(simp;omega)
  case d1=>
   intro i u r;rw[getElem?_map]at r;cases d:(O.take (ed O))[i]? with
   |none=>rw[d]at r;cases r
   |some y=>
    rw[d]at r;cases r;have B:O[i]?=ai y:=by
     rw[getElem?_take]at d;split at d
     .exact d
     cases d
    have:=zC i y B;rw[A1,Ax];exact(((Below.refl W.1.size W).alloc (Zx) _).cell (p:=⟨g,i,an⟩) zJ).ag this
  case d2=>intro u r;obtain⟨s,_,rfl⟩:=mem_map.1 r;rfl
  case d3=>unfold eo;omega
  case d4=>omega
  case d5=>simp;omega
  intro v' V b m E zG;have⟨l,G,yD⟩:∃l G,v'=Yz l (ed O) G:=by
   rcases Joins.ownsRow_forms b with⟨e1,_⟩|hf
   .exact(E e1).elim
   exact hf
  subst yD;try simp only[Ax,nil_append]at b
  have q:bg W.1.size W V:=((Below.refl W.1.size W).alloc (Zx) _).grown m Yu (λi J=>by simp[ownBlock]at J;omega);have yR:W.1.size<=V.1.size:=q.size;have yN:eh V (Zd I (oa+k))=ai (C0 x):=(q.cell (p:=⟨I,oa+k,an⟩) yB).ag zF;have yI:Hid (∀i y,O[i]?=ai y->eh V (Zd g i)=ai (C0 y)):=λi y B=>(q.cell (p:=⟨g,i,an⟩) zJ).ag (zC i y B);have zZ:=Yw q;have zM:ej V w.1.size 9 1 (Yz l (ed O) G) (ed O) ((O.take (ed O)).map string):=by
   first|exact b|(rw[map_take];exact b)|(rw[take_length];exact b)
  have zW:=Yw zM;clear zM;have zI:=b.lt l rfl;have zT:=Yw zG;clear b m E q zF zG;try simp only[Ax]
  go_upto_region 10 with fail;have H:bg V.1.size V (V.alloc (bs #[C0 x] 9)):=Zy;have zO:ej (V.alloc (bs #[C0 x] 9)).drew w.1.size 9 1 (Yz l (ed O) G) (ed O) ((O.take (ed O)).map string):=zW.kept (Al an H.drew) (Classical.em _);have zN:∀A,(ai ⟨V.1.size,0,an⟩:Zk)=ai A->∀i s,[x][i]?=ai s->eh (V.alloc (bs #[C0 x] 9)).drew (A.add i)=ai (C0 s):=by
   intro A e i s d;injection e with e;subst e;cases i with
   |zero=>simp at d;subst d;simp[Addr.add]
   |succ i=>simp at d
  have yA:ed (O.drop (ed O))=0:=Yu;have b:(if c=ed O then ai ⟨g,0,an⟩else ai ⟨g,ed O,an⟩:Zk)=an->(0:Nat)=0/\c -ed O=0:=by intro e;split at e<;>cases e
  have yO:ed (O.take (ed O))=ed O:=Ym;have yE:w.1.size<=V.1.size:=Yv;have F:w.1.size<=(V.alloc (bs #[C0 x] 9)).drew.1.size:=Yt;have U:w.1.size<=l:=zI.1;have yQ:g<l:=by rcases zT.o with h|h<;>simp[ownBlock]at h<;>omega
  have yF:l<V.1.size:=zI.2;have zE:∀n:Zh,∀A,(if c=ed O then ai ⟨g,0,an⟩else ai ⟨g,ed O,an⟩:Zk)=ai A->∀i s,(O.drop (ed O))[i]?=ai s->eh n (A.add i)=ai (C0 s):=by intro n A _ i s d;simp at d
  go_region_law (first
   |(refine Be (V.alloc (bs #[C0 x] 9)).drew rfl (.tmp 51) (.tmp 56) 23 rfl w.1.size 9 i0 Zc 16 underlying23 J M N P rfl l (ed O) G (O.take (ed O)) rfl zO (ai ⟨V.1.size,0,an⟩) 1 1 [x] rfl rfl (λe=>by cases e) zN Yo Yv Yt ?_;intro k5 R n L t S X;have z5:w.1.size<=n.1.size:=Zm F t.size;have Y:=X)
   |(have zA:=Y;refine Be n rfl (.tmp 57) (.tmp 60) 23 rfl w.1.size 9 i0 Zc 16 underlying23 J M N P rfl k5 (ed O+1) R (O.take (ed O)++[x]) rfl L (if c=ed O then ai ⟨g,0,an⟩else ai ⟨g,ed O,an⟩) 0 (c -ed O) (O.drop (ed O)) rfl yA b (zE n) Yo Yv z5 ?_;intro k6 C w6 zK zH T yG))
  all_goals
   have yC:w.1.size<=k5:=(L.lt k5 rfl).1;have b5:bg w.1.size V n:=(H.drew.ah yE).grown t F (λi e=>by cases e;exact U);have b6:bg w.1.size V w6:=b5.grown zH z5 (λi e=>by cases e;exact yC);have HF:Hid (Zz w w6):=(zB.ag (zZ.ah (C8 zB.size))).ag (b6.ah (Zx));have K:ed (O.take (ed O)++[x]++O.drop (ed O))=ed O+1+0:=Ym;have HN:Hid (ej w6 w.1.size 9 1 (Yz k6 (ed (O.take (ed O)++[x]++O.drop (ed O))) C) (ed (O.take (ed O)++[x]++O.drop (ed O))) ((O.take (ed O)++[x]++O.drop (ed O)).map string)):=(by rw[K];exact zK);have zU:=Yw K;clear zK zH T L t S K zO zN zE b5 b6 H;go_wp2;refine⟨⟨k+1,k6,C,Yv,Yn,by rw[v.o,zU.o],?_,HF⟩,Ys⟩;rw[v.o];exact HN.o
 have HY:Hid (O[j]?=ai O[j]):=Zv hjl;have cy:=zY j _ HY;generalize O[j]=y at *
 have d1:bq ((j:Int)<(ed O:Int))=ay:=Yt
 cases hb:Oj y x with
 |true=>
  have yP:Op.bytesLess y.toList x.toList=ay:=hb;have yK:Hid (∀i z,i<j+1->O[i]?=ai z->Oj z x=ay):=by
   intro i z J hz;rcases B0 i j with h|h
   .exact HJ i z h hz
   obtain rfl:i=j:=Yv;rw[HY.o]at hz;cases hz;exact hb
  clear hb;go_upto_region 6 with fail;go_quiet (fail);go_wp2;exact⟨⟨j+1,Yv,Yn,⟨_,rfl⟩,yK⟩,Ys⟩
 |false=>
  have yP:Op.bytesLess y.toList x.toList=ba:=hb;have zS:Hid (∀z,O[j]?=ai z->Oj z x=ba):=by intro z hz;rw[HY.o]at hz;cases hz;exact hb
  clear hb;go_upto_region 6 with fail;go_quiet (fail);by_cases hyx:y=x
  .have v:Hid (Cj (f.take (k+1))=O):=(by show _=_;rw[HS.o];unfold GR;rw[Nr HJ.o zS.o hj,if_pos (by rw[HY.o,hyx])]);subst hyx;go_upto_region 8 with fail;go_quiet (fail);go_wp2;refine⟨⟨k+1,g,c,Yv,Yn,by rw[v.o],?_,?_⟩,Ys⟩
   .rw[v.o];exact HO.kept (Al an (Cg Ae _)) (Classical.em _)
   exact Cg Z _
  have zV:Hid (¬O[j]?=ai x):=by show ¬_;rw[HY.o];intro e;cases e;exact hyx rfl
  have e1:(y.toList==x.toList)=ba:=by rw[beq_eq_false_iff_ne];intro h;rw[ByteArray.toList_eq,ByteArray.toList_eq]at h;exact hyx (ByteArray.ext (Array.toList_inj.1 h))
  clear hyx;go_upto_region 8 with fail;go_quiet (fail);go_upto_region 9 with fail;have HP:Hid (GQ O x=j):=Nr HJ zS hj;have v:Hid (Cj (f.take (k+1))=O.take j++[x]++O.drop j):=by show _=_;rw[HS.o];unfold GR;rw[HP.o,if_neg zV.o]
  generalize hW:(((wr.drewN _).drewN _).drewN _)=W;have o:Hid (Zz wr W):=by rw[<-hW];exact Cg (Cg (Cg Ae _) _) _
  have zB:Hid (Zz w W):=Z.ag (o.ah Z.size);have zX:Hid (ej W w.1.size 9 1 (Yz g (ed O) c) (ed O) (O.map string)):=HO.kept (Al an o) (Classical.em _);have yS:wr.1.size<=W.1.size:=o.size;have zJ:g<W.1.size:=Yv;have yB:I<W.1.size:=Yv;have zF:eh W (Zd I (oa+k))=ai (C0 x):=(o.cell (p:=⟨I,oa+k,an⟩) zP).ag cx;have zC:Hid (∀i y,O[i]?=ai y->eh W (Zd g i)=ai (C0 y)):=λi y B=>(o.cell (p:=⟨g,i,an⟩) yJ).ag (zY i y B);have Q:Hid (ed O<=c):=by
   rcases zX.2 with⟨hv,_⟩|⟨_,_,_,hv,_,_,D,_⟩
   .cases hv
   cases hv;exact D
  have D:ed O<=c:=Q.o;have yU:¬c=j:=Yv
  clear hW cx;go_wp2_with (first
   |(at_builtin;refine wpList_append_own_at _ rfl _ _ 23 rfl w.1.size 9 i0 Zc 1 16 underlying23 J M N P rfl Yq _ 0 [] rfl ?d0 ⟨g,0,an⟩ j c ((O.take j).map string) rfl ?dl ?d1 ?d2 ?d3 ?d4 ?d5 ?_))
  case d0=>exact ownsRow_lit W #[] 0 Yv Yo rfl
  case dl=>first|(simp;done)|(simp;omega)
  case d1=>
   intro i u r;rw[getElem?_map]at r;cases d:(O.take j)[i]? with
   |none=>rw[d]at r;cases r
   |some y=>
    rw[d]at r;cases r;have B:O[i]?=ai y:=by
     rw[getElem?_take]at d;split at d
     .exact d
     cases d
    have:=zC i y B;rw[A1,Ax];exact(((Below.refl W.1.size W).alloc (Zx) _).cell (p:=⟨g,i,an⟩) zJ).ag this
  case d2=>intro u r;obtain⟨s,_,rfl⟩:=mem_map.1 r;rfl
  case d3=>unfold eo;omega
  case d4=>omega
  case d5=>simp;omega
  intro v' V b m E zG;have⟨l,G,yD⟩:∃l G,v'=Yz l j G:=by
   rcases Joins.ownsRow_forms b with⟨e1,_⟩|hf
   .exact(E e1).elim
   exact hf
  subst yD;try simp only[Ax,nil_append]at b
  have q:bg W.1.size W V:=((Below.refl W.1.size W).alloc (Zx) _).grown m Yu (λi J=>by simp[ownBlock]at J;omega);have yR:W.1.size<=V.1.size:=q.size;have yN:eh V (Zd I (oa+k))=ai (C0 x):=(q.cell (p:=⟨I,oa+k,an⟩) yB).ag zF;have yI:Hid (∀i y,O[i]?=ai y->eh V (Zd g i)=ai (C0 y)):=λi y B=>(q.cell (p:=⟨g,i,an⟩) zJ).ag (zC i y B);have zZ:=Yw q;have zM:ej V w.1.size 9 1 (Yz l j G) j ((O.take j).map string):=by
   first|exact b|(rw[map_take];exact b)|(rw[take_length];exact b)
  have zW:=Yw zM;clear zM;have zI:=b.lt l rfl;have zT:=Yw zG;clear b m E q zF zG;try simp only[Ax]
  go_upto_region 10 with fail;have H:bg V.1.size V (V.alloc (bs #[C0 x] 9)):=Zy;have zO:ej (V.alloc (bs #[C0 x] 9)).drew w.1.size 9 1 (Yz l j G) j ((O.take j).map string):=zW.kept (Al an H.drew) (Classical.em _);have zN:∀A,(ai ⟨V.1.size,0,an⟩:Zk)=ai A->∀i s,[x][i]?=ai s->eh (V.alloc (bs #[C0 x] 9)).drew (A.add i)=ai (C0 s):=by
   intro A e i s d;injection e with e;subst e;cases i with
   |zero=>simp at d;subst d;simp[Addr.add]
   |succ i=>simp at d
  have yA:ed (O.drop j)=ed O -j:=Yu;have yO:ed (O.take j)=j:=Ym;have yE:w.1.size<=V.1.size:=Yv;have F:w.1.size<=(V.alloc (bs #[C0 x] 9)).drew.1.size:=Yt;have U:w.1.size<=l:=zI.1;have yQ:g<l:=by rcases zT.o with h|h<;>simp[ownBlock]at h<;>omega
  have yF:l<V.1.size:=zI.2;have zE:∀n:Zh,ek (V.alloc (bs #[C0 x] 9)).drew n (ai l)->∀A,(ai ⟨g,j,an⟩:Zk)=ai A->∀i s,(O.drop j)[i]?=ai s->eh n (A.add i)=ai (C0 s):=by intro n t A e i s d;injection e with e;subst e;rw[getElem?_drop]at d;have hc:=yI _ _ d;rw[A1];refine(t.cell_far ⟨g,j+i,an⟩ Yt (λe=>by have:=A2 e;simp at this;omega)).ag ?_;exact(H.drew.cell (p:=⟨g,j+i,an⟩) Yt).ag hc
  go_region_law (first
   |(refine Be (V.alloc (bs #[C0 x] 9)).drew rfl (.tmp 51) (.tmp 56) 23 rfl w.1.size 9 i0 Zc 16 underlying23 J M N P rfl l j G (O.take j) rfl zO (ai ⟨V.1.size,0,an⟩) 1 1 [x] rfl rfl (λe=>by cases e) zN Yo Yv Yt ?_;intro k5 R n L t S X;have z5:w.1.size<=n.1.size:=Zm F t.size;have Y:=X)
   |(have zA:=Y;refine Be n rfl (.tmp 57) (.tmp 60) 23 rfl w.1.size 9 i0 Zc 16 underlying23 J M N P rfl k5 (j+1) R (O.take j++[x]) rfl L (ai ⟨g,j,an⟩) (ed O -j) (c -j) (O.drop j) rfl yA (λe=>by cases e) (zE n t) Yo Yv z5 ?_;intro k6 C w6 zK zH T yG))
  all_goals
   have yC:w.1.size<=k5:=(L.lt k5 rfl).1;have b5:bg w.1.size V n:=(H.drew.ah yE).grown t F (λi e=>by cases e;exact U);have b6:bg w.1.size V w6:=b5.grown zH z5 (λi e=>by cases e;exact yC);have HF:Hid (Zz w w6):=(zB.ag (zZ.ah (C8 zB.size))).ag (b6.ah (Zx));have K:ed (O.take j++[x]++O.drop j)=j+1+(ed O -j):=Ym;have HN:Hid (ej w6 w.1.size 9 1 (Yz k6 (ed (O.take j++[x]++O.drop j)) C) (ed (O.take j++[x]++O.drop j)) ((O.take j++[x]++O.drop j).map string)):=(by rw[K];exact zK);have zU:=Yw K;clear zK zH T L t S K zO zN zE b5 b6 H;go_wp2;refine⟨⟨k+1,k6,C,Yv,Yn,by rw[v.o,zU.o],?_,HF⟩,Ys⟩;rw[v.o];exact HN.o
structure AP (w:Zh) (b:Nat) (a:Zk) (n c:Nat) (p:Int):Prop where
 c0:eh w (Zd b 0)=ai (bx a n c)
 c1:eh w (Zd b 1)=ai (Zg p)
 f1:w.frozen? ⟨b,1,an⟩=ba
 lt:b<w.1.size
 n2:n<=2000
 bytes:n=0\/∃q off,a=ai ⟨q,off,an⟩/\q<b/\∀j,j<n->∃x:Int,eh w (Zd q (off+j))=ai (.int .u8 x)/\0<=x/\x<256
theorem AP.next(h:AP w b a n c p)(d:Int):AP (el w (Zd b 1) (Zg d)) b a n c d:=by
 obtain⟨m,o,r,g,i,f⟩:=h;refine⟨by simp[go_sem,m],by simp[go_sem,o],by simpa [go_sem]using r,C9 g,i,?_⟩;rcases f with h|⟨q,l,u,k,z⟩
 .exact cr h
 refine ct ⟨q,l,u,k,λj y=> ?_⟩;have⟨x,v,s,t⟩:=z j y;exact⟨x,by rw[cell?_setCell_other _ _ _ _ (by intro e;injection e;omega)];exact v,s,t⟩
theorem AP.drew(h:AP w b a n c p):AP w.drew b a n c p:=⟨h.c0,h.c1,h.f1,h.lt,h.n2,h.bytes⟩
theorem AP.drewN(h:AP w b a n c p)(k:Nat):AP (w.drewN k) b a n c p:=⟨h.c0,h.c1,h.f1,h.lt,h.n2,h.bytes⟩
theorem Lu{a:Zh}{r:Option Nat}(h:ek w a r)(k:Nat):ek w (a.drewN k) r:=⟨h.os,h.tape,h.output,h.size,h.block⟩
theorem WK{f:Zh}(a:ek w e (ai b))(c:ek e f (ai g))(i:w.1.size<=g):ek w f (ai b):=
 ⟨c.os.ag a.os,c.tape.ag a.tape,c.output.ag a.output,Zm a.size c.size,λk d h=>(c.block k (Zr d a.size) Yt).ag (a.block k d h)⟩
theorem WL(w:Zh)(g p:Nat)(v:Dg):ek w (el w (Zd g p) v) (ai g):=
 ⟨rfl,rfl,rfl,Yu,λi _ a=>Below.heap_setCell _ _ _ _ (λe=>a (by rw[e]))⟩
theorem AP.grown(h:AP w b a n c p)(d:ek w e (ai g))(u:b<g):AP e b a n c p:=by
 have v:=d.size;have s:=h.lt;refine⟨d.cell h.c0 Yt,d.cell h.c1 Yt,(d.frozen_far ⟨b,1,an⟩ s Yt).ag h.f1,Yv,h.n2,?_⟩;rcases h.bytes with h|⟨q,i,m,f,t⟩
 .exact cr h
 refine ct ⟨q,i,m,f,λj r=> ?_⟩;have⟨x,o,k,l⟩:=t j r;exact⟨x,d.cell o Yt,k,l⟩
theorem AP.A{g:Zh}(h:AP w b a n c p)(d:Zz w g):AP g b a n c p:=by
 have e:=h.lt;refine⟨(d.cell (p:=⟨b,0,an⟩) e).ag h.c0,(d.cell (p:=⟨b,1,an⟩) e).ag h.c1,(d.frozen (p:=⟨b,1,an⟩) e).ag h.f1,Zr e d.size,h.n2,?_⟩;rcases h.bytes with h|⟨q,f,m,i,s⟩
 .exact cr h
 refine ct ⟨q,f,m,i,λj r=> ?_⟩;have⟨x,o,k,l⟩:=s j r;exact⟨x,(d.cell (p:=⟨q,f+j,an⟩) Yt).ag o,k,l⟩
theorem Dq{a:Int}(b:0<=a)(c:a<=2000000000):IntKind.i64.wrap a=a:=F4
theorem WM(a b:Nat)(d:a<2^30)(e:b<2^30):∃z:Nat,bits .xor .i64 (a:Int) (b:Int)=(z:Int):=by refine⟨a^^^b,?_⟩;have f:a^^^b<2^30:=Nat.xor_lt_two_pow d e;have c:(BitVec.ofInt 64 (a:Int)^^^BitVec.ofInt 64 (b:Int)).toNat=a^^^b:=gG;show IntKind.i64.wrap ((BitVec.ofInt 64 (a:Int)^^^BitVec.ofInt 64 (b:Int)).toNat:Int)=_;rw[c];exact Dq Yv Yv
theorem Bx(b:Nat)(a:Zk)(n c:Nat)(p m:Int)(w:Zh)(h:AP w b a n c p)(hp:0<=p)(J:p<=1000000)(hm:1<=m)(G:m<=2000000):
 D4 14 #[Yy b,Zg m] w λe d=>∃r:Int,e=C1 (Zg r)/\0<=r/\r<m/\AP d b a n c (p+1)/\ek w d (ai b):=by
 have HN:Hid (AP (el w (Zd b 1) (Zg (p+1))) b a n c (p+1)/\ek w (el w (Zd b 1) (Zg (p+1))) (ai b)):=⟨h.next _,WL _ _ _ _⟩;obtain⟨P,Q,T,F,H,o⟩:=h;by_cases hn:n=0
 .subst hn;delta D4;go_in;go_wp2;go_ret;exact⟨0,rfl,Yv,Yv,HN.1,HN.2⟩
 obtain⟨q,O,D,K,i⟩:=o.resolve_left hn;subst D;have I:((n:Int)==0)=ba:=Yt;delta D4;go_in;by_cases hk:p<n
 .obtain⟨x,l,A,B⟩:=i p.toNat Yv;obtain⟨k,rfl⟩:∃k:Nat,p=k:=⟨p.toNat,Yv⟩;simp only[Int.toNat_natCast]at l;go_wp2;go_ret;exact⟨_,rfl,Int.emod_nonneg _ Yv,Int.emod_lt_of_pos _ Yv,HN.1,HN.2⟩
 obtain⟨k,rfl⟩:∃k:Nat,p=k:=⟨p.toNat,Yv⟩;have u:k%n<n:=Nat.mod_lt _ Yv;have v:(k *7+3)%n<n:=Nat.mod_lt _ Yv;obtain⟨⟨x,l,A,B⟩,y,hd,L,M⟩:=i _ u,i _ v;have R:(k:Int)%(n:Int)=((k%n:Nat):Int):=Yu;have S:((k:Int) *7+3)%(n:Int)=(((k *7+3)%n:Nat):Int):=Yu;have t:k/n<=k:=Nat.div_le_self _ _;have C:(k:Int)/(n:Int)=((k/n:Nat):Int):=Yu;have s:k/n<=1000000:=Yv;have⟨d,f⟩:=Ag (k/n);rw[<-f]at C t s;clear f;have f:IntKind.i64.wrap ((k:Int) *7)=(k:Int) *7:=Dq Yv Yv;have U:IntKind.i64.wrap ((k:Int) *7+3)=(k:Int) *7+3:=Dq Yv Yv;have V:IntKind.i64.wrap (x *131)=x *131:=Dq Yv Yv;have W:IntKind.i64.wrap (y *1117)=y *1117:=Dq Yv Yv;have Y:IntKind.i64.wrap (x *131+y *1117)=x *131+y *1117:=Dq Yv Yv;have Z:IntKind.i64.wrap ((k:Int) *29)=(k:Int) *29:=Dq Yv Yv;have e:IntKind.i64.wrap (x *131+y *1117+(k:Int) *29)=x *131+y *1117+(k:Int) *29:=Dq Yv Yv;have r:IntKind.i64.wrap ((d:Int) *53)=(d:Int) *53:=Dq Yv Yv;have g9:IntKind.i64.wrap (x *131+y *1117+(k:Int) *29+(d:Int) *53)=x *131+y *1117+(k:Int) *29+(d:Int) *53:=Dq Yv Yv;generalize k%n=i1 at *
 generalize (k *7+3)%n=i2 at *
 go_wp2;go_quiet (fail);have⟨X,j⟩:∃X:Nat,x *131+y *1117+(k:Int) *29+(d:Int) *53=X:=⟨(x *131+y *1117+(k:Int) *29+(d:Int) *53).toNat,Yv⟩;have g:X<2^30:=Yv;have f:(X:Int)/64=((X/64:Nat):Int):=Yu;have⟨z,E⟩:=WM X (X/64) g Yv;rw[<-f,<-j]at E;have N:(z:Int).tmod m=(z:Int)%m:=gG;clear f j g X;go_wp2;go_ret;exact⟨(z:Int)%m,Yp,Int.emod_nonneg _ Yv,Int.emod_lt_of_pos _ Yv,AP.drewN HN.1 _,Lu HN.2 _⟩
theorem JF(a:Zk)(n c:Nat)(w:Zh)(t:n<=eo)(m:n=0\/∃q b,a=ai ⟨q,b,an⟩/\q<w.1.size/\∀j,j<n->∃x:Int,eh w (Zd q (b+j))=ai (.int .u8 x)/\0<=x/\x<256)(u:n<=c):
 D4 13 #[Cx a n c] w λe g=>∃d f,e=C1 (Yy w.1.size)/\AP g w.1.size a d f 0/\Zz w g:=by
 have g:∀o,Zz w (w.alloc o):=gB;unfold eo at t;have l:∀d f,d<=n->d<=2000->AP (w.alloc (bs #[Cx a d f,Ze] 102)) w.1.size a d f 0:=λd f d d=>by
  refine⟨by simp[go_sem],by simp[go_sem],by simp[go_sem],Yu,d,?_⟩;rcases m with h|⟨q,b,d,f,i⟩
  .exact cr Yv
  refine ct ⟨q,b,d,f,λj k=> ?_⟩;have⟨x,r,s⟩:=i j Yv;exact⟨x,((g _).cell (p:=⟨q,b+j,an⟩) f).ag r,s⟩
 have k:=Yw l;clear l;by_cases h:n<=2000
 .have l:bq ((2000:Int)<(n:Int))=ba:=Yt;delta D4;go_in;go_wp2;go_ret;exact⟨n,c,rfl,k.o n c (Zx) h,g _⟩
 have l:bq ((2000:Int)<(n:Int))=ay:=Yt;have⟨q,b,d,f,i⟩:=m.resolve_left Yv;subst d;clear i;delta D4;go_in;go_wp2;go_ret;exact⟨2000,_,rfl,k.o 2000 _ Yv (Zx),g _⟩
theorem Ns{a:Int}(b:0<=a)(c:a<256):IntKind.u8.wrap a=a:=F4
theorem EY(l:List Int):(strOfNums l).size=ed l:=by unfold strOfNums;simp[ByteArray.size]
theorem UW:(prog.info? 5).map (λi=>(i.zero,i.size,i.bytes))=ai (ai (.int .u8 0),1,1):=Yr
structure JG (w w':Zh) (b:Nat) (a:Zk) (n c:Nat) (p:Int) (k:Int):Prop where
 st:∃p',AP w' b a n c p'/\p<=p'/\p'<=p+k
 gr:ek w w' (ai b)
theorem JH(h:AP w b a n c p)(hp:0<=p)(zE:p<=900000):
 D4 53 #[Yy b] w λe d=>∃s,e=C1 (C0 s)/\s.size<=16/\JG w d b a n c p 10:=by
 have⟨i0,K,Q,R,S⟩:=info_parts UW;delta D4;go_in;go_wp2_with fail;refine(Bx b a n c p 9 w h hp Yv Yv Yv).ah ?_;rintro e M ⟨r,rfl,r0,r1,I,G⟩;have C:Hid (JG w M b a n c p 10):=⟨⟨_,I,Yv,Yv⟩,G⟩;by_cases q0:r=0
 .have zG:(r==0)=ay:=Yt;go_wp2;go_ret;exact⟨_,rfl,Yq,C⟩
 by_cases q1:r=1
 .have zH:(r==1)=ay:=Yt;go_wp2;go_ret;exact⟨_,rfl,Yq,C⟩
 by_cases q2:r=2
 .have zI:(r==2)=ay:=Yt;go_wp2;go_ret;exact⟨_,rfl,Yq,C⟩
 by_cases q3:r=3
 .have zJ:(r==3)=ay:=Yt;go_wp2;go_ret;exact⟨_,rfl,Yq,C⟩
 go_wp2_with fail;refine(Bx b a n c (p+1) 4 M I Yv Yv Yv Yv).ah ?_;rintro e d ⟨k,rfl,k0,k1,J,g2⟩;have D:=AF G g2;have W:=D.size;have zA:=J.lt;have x:bg d.1.size d (d.alloc (bs #[] 5)):=gB;have B:=Yw (J.A x);have A:=Yw (AF D (Al (ai b) x));have t:Hid (ej (d.alloc (bs #[] 5)) d.1.size 5 1 (Yz d.1.size 0 0) 0 (([]:List Int).map (int .u8))):=ownsRow_lit d #[] 0 (Zx) Yo rfl;go_wp2;go_loopw [4,5] (λv i wr=>∃(j g q:Nat) (f:List Int),(j:Int)<=k+1/\ed f=j/\i=Zg j/\v=Yz g j q/\Hid (ej wr d.1.size 5 1 (Yz g j q) j (f.map (int .u8)))/\Hid (AP wr b a n c (p+1+1+j))/\Hid (ek w wr (ai b))) (λ_ i _=>(k+1).toNat -(intOf i).toNat)
 case atStart=>exact⟨0,_,_,[],Yv,rfl,rfl,rfl,t,C9 B,A⟩
 obtain⟨j,g,q,f,hj,E,rfl,rfl,t,B,A⟩:=hrel;have lg:=t.lt g rfl;by_cases hlt:(j:Int)<=k
 .have hd:bq ((j:Int)<=k)=ay:=Yt
  go_wp2_with fail;refine(Bx b a n c (p+1+1+j) 6 wr B Yv Yv Yv Yv).ah ?_;rintro e l ⟨y,rfl,y0,y1,v,F⟩;have wy:IntKind.i64.wrap (97+y)=97+y:=Dq Yv Yv;have wu:IntKind.u8.wrap (97+y)=97+y:=Ns Yv Yv;have Z:=Yw (ownsRow.kept t F (ct D7));have zF:=F.size;go_wp2_with (first
   |(at_builtin;refine wpList_append_lies _ rfl _ _ 22 rfl d.1.size 5 i0 (.int .u8 0) 1 1 underlying22 K Q R S rfl Yq _ j (f.map (int .u8)) rfl ?d0 ⟨l.1.size,0,an⟩ 1 1 [.int .u8 (97+y)] rfl rfl ?d1 ?d2 Yq ?d3 ?d4 ?d5 _ rfl ?_)
   |go_in)
  case d0=>exact ownsRow.alloc Z _
  case d1=>exact cell_one_new l _ 5
  case d2=>intro u L;simp at L;subst L;rfl
  case d3=>unfold eo;omega
  case d4=>omega
  case d5=>simp;omega
  intro H m z zC O U V;have x:bg l.1.size l (l.alloc (bs #[.int .u8 (97+y)] 5)):=gB;have o:ek (l.alloc (bs #[.int .u8 (97+y)] 5)) z (ai g):=by simpa [ownBlock]using O
  have Y:Hid (AP z b a n c (p+1+1+((j+1:Nat):Int))):=by have:=(v.A x).grown o Yv;rw[show p+1+1+((j+1:Nat):Int)=p+1+1+(j:Int)+1 by omega];exact this
  have N:ek (l.alloc (bs #[.int .u8 (97+y)] 5)) z (ai g):=o;have X:Hid (ek w z (ai b)):=WK (AF A (AF F (Al _ x))) N Yv;have s:Hid (ej z d.1.size 5 1 (Yz H (j+1) m) (j+1) ((f++[97+y]).map (int .u8))):=gD;go_wp2;exact⟨⟨j+1,H,m,f++[97+y],Yv,by simp[E],Yn,Yu,s,Y,X⟩,Ys⟩
 have hd:bq ((j:Int)<=k)=ba:=Yt;have zB:=run_convert_bytes_arg (P:=prog) wr 22 5 underlying22 underlying5 g 0 j q f E (λi K=>by
  rw[Ax,t.cellAt i Yt,getElem?_map,Zv Yv];simp[getD,Zv (show i<ed f by omega)]) 9 underlying9
 have i:=EY f;generalize strOfNums f=T at *
 go_wp2;go_ret;exact⟨T,rfl,Yv,⟨_,B,Yv,Yv⟩,A⟩
theorem SX(s:Zi)(n:Nat)(w:Zh)(d:1<=s.size)(l:s.size *n<=100000):
 D4 130 #[C0 s,Zg n] w λe a=>∃T:Zi,e=C1 (C0 T)/\T.size=s.size *n/\a=w:=by
 delta D4;go_in;go_wp2
 go_loop [0,1,5] (λu m o=>∃(S T:Zi) (k:Nat),u=C0 S/\m=Zg k/\o=C0 T/\1<=S.size/\T.size+S.size *k=s.size *n) (λ_ m _=>(intOf m).toNat)
 case atStart=>exact⟨s,⟨#[]⟩,n,rfl,rfl,rfl,d,by show 0+_=_;omega⟩
 obtain⟨S,T,k,rfl,rfl,rfl,hS,hT⟩:=hrel;by_cases hk:0<k
 .have j:bq ((0:Int)<(k:Int))=ay:=Yt;have g:S.size<=S.size *k:=Nat.le_mul_of_pos_right _ hk;have h:=Nat.div_add_mod k 2;have i:k<=100000:=C8 (Nat.le_mul_of_pos_left k hS);rcases Nat.mod_two_eq_zero_or_one k with c|c
  .have f:((k:Int)%2==1)=ba:=Yt;have b:Hid (T.size+(S++S).size *(k/2)=s.size *n):=gH;have a:1<=(S++S).size:=Yt;go_wp2;exact⟨⟨S++S,T,k/2,rfl,Yu,rfl,a,b⟩,Ys⟩
  have f:((k:Int)%2==1)=ay:=Yt;have b:Hid ((T++S).size+(S++S).size *(k/2)=s.size *n):=gH;have a:1<=(S++S).size:=Yt;go_wp2;exact⟨⟨S++S,T++S,k/2,rfl,Yu,rfl,a,b⟩,Ys⟩
 obtain rfl:k=0:=Yv;go_wp2;go_ret;exact⟨T,rfl,C9 hT,rfl⟩
theorem OU(h:AP w b a n c p)(g:0<=p)(i:p<=900000):
 D4 84 #[Yy b] w λe f=>∃d,e=C1 (Zg d)/\(1<=d/\d<=8)/\AP f b a n c (p+1)/\ek w f (ai b):=by
 delta D4;go_in;go_wp2_with fail;refine(Bx b a n c p 8 w h g Yv Yv Yv).ah ?_;rintro e k ⟨r,rfl,r0,j,f,d⟩;have H:=Yw (Zn f d);clear f d h;by_cases c1:r<2
 .go_wp2;go_ret;exact⟨1,rfl,Yv,H⟩
 by_cases c2:r=2
 .subst c2;go_wp2;go_ret;exact⟨2,rfl,Yv,H⟩
 have d:(r==2)=ba:=Yt;go_wp2;go_ret;exact⟨8,rfl,Yv,H⟩
theorem WN(n:Int)(w:Zh):
 D4 35 #[Zg n] w λe a=>e=C1 (.bool (bq (1<=n/\n<=8)))/\a=w:=by
 by_cases h1:1<=n
 .by_cases h2:n<=8
  .delta D4;go_in;go_wp2;go_ret;exact⟨AE (by simp[h1,h2]),rfl⟩
  have b:bq (n<=8)=ba:=C9 h2;delta D4;go_in;go_wp2;go_ret;exact⟨rfl,rfl⟩
 have a:bq (1<=n)=ba:=C9 h1;delta D4;go_in;go_wp2;go_ret;exact⟨rfl,rfl⟩
structure Et (w w':Zh) (e:Ending) (b:Nat) (a:Zk) (n c:Nat) (p K:Int) (TX RF:Nat):Prop where
 ex:∃(t:Zi) (ra:Zk) (rc:Nat) (ss:Zl),e=.returned (ca #[.string t,bx ra (ed ss) rc])/\t.size<=TX/\ed ss<=RF/\(∀s∈ss,s.size<=8)/\
  ej w' w.1.size 9 1 (bx ra (ed ss) rc) (ed ss) (ss.map Value.string)
 R:JG w w' b a n c p K
theorem Qa(l:List UInt8)(k:Nat):(CV l k).size=k:=by unfold CV;rw[EY,DE]
theorem OV(o:Int)(h:AP w b a n c p)(hp:0<=p)(zW:p<=800000)(Q:1<=o)(Y:o<=8):
 D4 85 #[Yy b,Zg o] w λe D=>Et w D e b a n c p 60 16 3:=by
 obtain⟨⟨i0,N,zI,zJ,zK⟩,O,W,d⟩:=info_parts CQ,h.lt,Du w #[Zc,Zb] 48;have l:bg w.1.size w W:=by rw[d];exact Zy
 have A:Aa W w.1.size [Zc,Zb]:=by rw[d];exact Aa.new w _ _
 have I:=h.A l;have f:=Yw d;have yA:bq (1<=o/\o<=8)=ay:=by simp[Q,Y]
 clear d h;delta D4;go_in;go_upto_region 1 with fail;rw[<-f.o];clear f;go_wp2_with fail;refine(JH I hp Yv).ah ?_;rintro e G ⟨t,rfl,ht,⟨⟨X,J,l1,u1⟩,q⟩⟩;have⟨d,k⟩:=Du G #[.string t,Zb] 48;have f:bg G.1.size G d:=by rw[k];exact Zy
 have yC:w.1.size<W.1.size:=A.lt;have zN:=q.size;have z:Aa d G.1.size [.string t,Zb]:=by rw[k];exact Aa.new G _ _
 have F:=(A.br q O).A f;have K:=J.A f;have H:ek w d (ai b):=((Al (ai b) l).ag q).ag (Al (ai b) f);have⟨B,C⟩:=Ag G.1.size;have zS:w.1.size<B:=Yv;rw[<-C]at z;obtain⟨y,E,g⟩:=Yw k,Yw C,Yw (Zn F (Zn z (Zn K H)));clear k C f A I J q F z K H l;go_upto_region 2 with fail;rw[<-y.o,<-E.o];clear y E;have f:bg d.1.size d (d.alloc (bs #[] 9)):=Zy;have zO:B<d.1.size:=g.2.1.lt;have k:=Yw (Zn (g.1.A f) (Zn (g.2.1.A f) (Zn (g.2.2.1.A f) (g.2.2.2.ag (Al (ai b) f)))))
 have q:ej (d.alloc (bs #[] 9)) (B+1) 9 1 (Yz d.1.size 0 0) 0 (([]:Zl).map string):=ownsRow_lit d #[] 0 Yv Yo rfl;have l:=Yw q;clear q f g;go_wp2_with (first
  |(go_at_call 35;refine(WN o _).ah ?_;rintro e D ⟨rfl,f⟩;rw[f];clear f D))
 refine(Bx b a n c X 4 _ k.2.2.1 Yv Yv Yv Yv).ah ?_;rintro e H ⟨r,rfl,r0,r1,g,f⟩;have zM:=f.size;simp at zM;have E3:Hid (Aa H w.1.size [Zc,Zb]/\Aa H B [.string t,Zb]/\AP H b a n c (X+1)/\ek w H (ai b)):=⟨k.1.br f O,k.2.1.br f Yv,g,k.2.2.2.ag f⟩;have O3:Hid (ej H (B+1) 9 1 (Yz d.1.size 0 0) 0 (([]:Zl).map string)):=ownsRow.kept l f (ct D7);have zP:B<H.1.size:=Yv;obtain⟨V,rfl⟩:∃V:Nat,r=V:=⟨r.toNat,Yv⟩;clear k l g f;go_wp2;go_loopw [6,7] (λv i wr=>∃(m q K:Nat) (L:Zl) (E:Int),i=Zg m/\v=Yz q (ed L) K/\ed L+m<=3/\p<=E/\E<=p+11+10 *(3 -(m:Int))/\Hid (∀s∈L,s.size<=8)/\Hid (ej wr (B+1) 9 1 (Yz q (ed L) K) (ed L) (L.map string))/\Hid (Aa wr w.1.size [Zc,Zb]/\Aa wr B [.string t,Zb]/\AP wr b a n c E/\ek w wr (ai b))) (λ_ i _=>(intOf i).toNat)
 case atStart=>exact⟨V,d.1.size,0,[],X+1,rfl,rfl,Yt,Yv,Yv,(λs l=>by cases l),O3,E3⟩
 obtain⟨m,q,K,L,E,rfl,rfl,zT,zX,zY,HS,I,k⟩:=hrel;have zC:B<wr.1.size:=k.2.1.lt;by_cases hm:0<m
 case neg=>
  obtain rfl:m=0:=Yv;go_wp2_with fail;refine(JE K (Ad.own I) Yv).ah ?_;rintro e h ⟨U,c4,rfl,y,f⟩;have zV:=Ij L;have zA:Hid (∀s∈Cj L,s.size<=8):=λs l=>HS s (UU l);generalize Cj L=L4 at *
  obtain⟨T,C,F,g⟩:=k.1.A f,k.2.1.A f,k.2.2.1.A f,k.2.2.2.ag (Al (ai b) f);obtain⟨⟨x0,f0⟩,⟨x1,f1⟩,⟨y0,q0⟩,y1,q1⟩:=C 0 _ rfl,C 1 _ rfl,T 0 _ rfl,T 1 _ rfl;have S:¬B=w.1.size:=Yv;have J:=Yw (Zn F (Zn g y));clear T C F g y f I k HS;go_wp2;refine Co (ca #[.string t,Yz U (ed L4) c4]) (by simp[results,results85,go_sem, *]) ?_;have f:w.1.size<wr.1.size:=Yv;refine⟨⟨t,_,_,L4,rfl,ht,Yv,zA,?_⟩,⟨E,?_,Yv,Yv⟩,?_⟩
  .exact(ownsRow_setCell_below (ownsRow_setCell_below (ownsRow_setCell_below J.2.2 zC _) f _) f _).ah Yv
  .exact((J.1.grown (Ao _ B 1 _) Yv).grown (Ao _ w.1.size 0 _) Yv).grown (Ao _ w.1.size 1 _) Yv
  exact((J.2.1.andThen (Ao _ B 1 _) (λi e=>by cases e;exact cr Yv)).andThen (Ao _ w.1.size 0 _) (λi e=>by cases e;exact cr Yv)).andThen (Ao _ w.1.size 1 _) (λi e=>by cases e;exact cr Yv)
 have d1:bq ((0:Int)<(m:Int))=ay:=Yt;go_wp2_with fail;refine(JH k.2.2.1 Yv Yv).ah ?_;rintro e h ⟨F,rfl,zZ,⟨⟨Z,s5,l5,u5⟩,U⟩⟩;go_wp2_with fail;refine(LJ F o h Yo Q Y).ah ?_;rintro e z ⟨rfl,R⟩;have zH:(CV F.data.toList o.toNat).size<=8:=by rw[Qa];omega
 generalize CV F.data.toList o.toNat=x at *
 have M:ek wr z (ai b):=U.ag (Al (ai b) R);have zU:=(I.lt q rfl).1;have T:ej z (B+1) 9 1 (Yz q (ed L) K) (ed L) (L.map string):=I.kept M (ct D7);have yB:=M.size;go_wp2_with (first
  |(at_builtin;refine wpList_append_own_at _ rfl _ _ 23 rfl (B+1) 9 i0 Zc 1 16 underlying23 N zI zJ zK rfl Yq _ (ed L) (L.map string) rfl ?d0 ⟨z.1.size,0,an⟩ 1 1 [.string x] rfl rfl ?d1 ?d2 ?d3 ?d4 ?d5 ?_))
 case d0=>exact T.alloc _
 case d1=>
  intro j u D;cases j with
  |zero=>simp at D;subst D;simp[Addr.add]
  |succ j=>simp at D
 case d2=>intro u D;simp at D;subst D;rfl
 case d3=>unfold eo;omega
 case d4=>omega
 case d5=>simp;omega
 intro v' A g f C zE;have⟨P,c6,zG⟩:∃P c6,v'=Yz P (ed L+1) c6:=by
  rcases Joins.ownsRow_forms g with⟨e1,_⟩|hf
  .exact(C e1).elim
  exact hf
 subst zG;have J:bg (B+1) z A:=(Ae.alloc Yv _).grown f Yt (λi N=>by simp[ownBlock]at N;omega);have y:ek z A (ai q):=⟨J.os,J.tape,J.output,J.size,λi N S=>by
  have Q:=f.block i Yt (by simpa [ownBlock]using S);rw[Q];exact(Al an ((Below.refl z.1.size z).alloc (Zx) _)).block i N Yu⟩
 have zF:b<q:=Yv;have E6:Hid (Aa A w.1.size [Zc,Zb]/\Aa A B [.string t,Zb]/\AP A b a n c Z/\ek w A (ai b)):=⟨(k.1.br M O).az y Yv,(k.2.1.br M Yv).az y Yv,(s5.A R).grown y zF,(k.2.2.2.ag M).andThen y (λi e=>by cases e;exact cr Yv)⟩;have O6:Hid (ej A (B+1) 9 1 (Yz P (ed (L++[x])) c6) (ed (L++[x])) ((L++[x]).map string)):=by
  have:ed (L++[x])=ed L+1:=Yu;rw[this,map_append];exact g
 have zB:Hid (∀s∈L++[x],s.size<=8):=by
  intro s l;rcases A5.1 l with l|l
  .exact HS s l
  simp at l;subst l;exact zH
 clear g f C zE J y T I k HS;go_wp2;refine⟨⟨m -1,P,c6,L++[x],Z,?_,Yu,Yt,Yv,?_,zB,O6,E6⟩,?_⟩
 .congr 1;omega
 .have:((m -1:Nat):Int)=(m:Int) -1:=Yv;omega
 simp[intOf];omega
def Dt(L:Nat->Bool)(i:Nat):Nat->Bool:=fun j=>if j=i then ay else L j
theorem KD{k:Region.Mode}{b:Array Oper}{a:Array Bool}:i∈Region.ready k b a↔i<b.size/\a.getD i ay=ba/\∃o,b[i]?=ai o/\∀e∈o.after,Region.binds k e=ay->a.getD e.on ba=ay:=by
 unfold Region.ready;rw[A8,mem_range];constructor
 .rintro⟨g,c⟩;rw[Bool.and_eq_true,Bool.not_eq_true']at c;have f:b[i]?=ai b[i]:=gA;refine⟨g,c.1,_,f,λe j h=> ?_⟩;have d:=c.2;rw[f]at d;simp only[Option.map_some,Option.getD_some,Array.all_eq_true_iff_forall_mem]at d;have l:=d e j;rw[h]at l;simpa using l
 rintro⟨g,c,o,f,d⟩;refine⟨g,?_⟩;rw[c,f];simp only[Option.map_some,Option.getD_some,Bool.not_false,Bool.true_and,Array.all_eq_true_iff_forall_mem];intro e j;cases h:Region.binds k e with
 |false=>rfl
 |true=>simpa using d e j h
theorem RU:∀(l:List Bool) (i:Nat),l[i]?=ai ba->ed ((l.set i ay).filter (! ·))+1=ed (l.filter (! ·))
 |[],i,h=>by simp at h
 |x::l,0,h=>by simp at h;simp[h]
 |x::l,i+1,h=>by have:=RU l i (C9 h);cases x<;>simp at this |-<;>omega
theorem Aaz{c:Array Oper}{Q:Exit->Act->Zh->Prop}(I:(Nat->Bool)->Act->Zh->Prop)(B:∀L a w i o,I L a w->c[i]?=ai o->L i=ba->(∀e∈o.after,Region.binds .any e=ay->L e.on=ay)->wpOp P c Q i (I (Dt L i)) a w)(u:∀L a w,I L a w->(∀i,i<c.size->L i=ay)->Q .normal a w)(z:∀i o,c[i]?=ai o->∀e∈o.after,Region.binds .any e=ay->e.on<i):
 ∀(d:Nat) (b:Array Bool) (a:Act) (w:Zh),b.size=c.size->ed (b.toList.filter (! ·))<=d->I (λj=>b.getD j ba) a w->wpAny P .any c Q d b a w:=by
 have p:∀b:Array Bool,b.size=c.size->Region.ready .any c b=[]->∀i,i<c.size->b.getD i ba=ay:=by
  intro b t s i;induction i using Nat.strongRecOn with
  |_ i ih=>
   intro n;cases hv:b.getD i ba with
   |true=>rfl
   |false=>
    have g:i∈Region.ready .any c b:=by
     refine KD.2 ⟨n,?_,_,B8 n,λe k f=> ?_⟩
     .rw[Array.getD_eq_getD_getElem?,B8 Yv]at hv |-;simpa using hv
     have r:=z i _ (B8 n) e k f;exact gG
    rw[s]at g;cases g
 intro d;induction d with
 |zero=>
  intro b a w t A m;have r:∀i,i<c.size->b.getD i ba=ay:=by
   intro i n;cases hv:b.getD i ba with
   |true=>rfl
   |false=>exfalso;have k:(b.toList.filter (! ·))=[]:=gA;rw[filter_eq_nil_iff]at k;rw[Array.getD_eq_getD_getElem?,B8 Yv]at hv;have:=k (b[i]'(by omega)) Yu;simp at hv;simp[hv]at this
  refine⟨?_,u _ a w m r⟩;rw[eq_nil_iff_forall_not_mem];intro i g;have⟨k,l,_⟩:=KD.1 g;have f:=r i k;rw[Array.getD_eq_getD_getElem?,B8 Yv]at l f;simp at l f;rw[l]at f;cases f
 |succ d ih=>
  intro b a w t A m;refine⟨λs=>u _ a w m (p b t s),λi g=> ?_⟩;have⟨k,l,o,f,x⟩:=KD.1 g;have q:i<b.size:=Yv;have y:b[i]=ba:=gA;refine wpOp_mono (λv C h=>ih _ v C Yt ?_ ?_) (B _ a w i o m f ?_ x)
  .have v:ed ((b.setIfInBounds i ay).toList.filter (! ·))+1=ed (b.toList.filter (! ·)):=(by rw[Array.toList_setIfInBounds];exact RU _ i gA);omega
  .have e:(λj=>(b.setIfInBounds i ay).getD j ba)=Dt (λj=>b.getD j ba) i:=by
    funext j
    unfold Dt;by_cases hj:j=i
    .subst hj;simp[q]
    simp[hj,Array.getD_eq_getD_getElem?,Array.getElem?_setIfInBounds_ne (Ne.symm hj)]
   rw[e];exact h
  show b.getD i ba=ba;rw[Array.getD_eq_getD_getElem?,B8 q];simpa using y
theorem SY{b:Array Oper}{Q:Exit->Act->Zh->Prop}{a:Act}(g:P.follows .mixedOrders=ay)(I:(Nat->Bool)->Act->Zh->Prop)(d:∀i o,b[i]?=ai o->∀e∈o.after,Region.binds .any e=ay->e.on<i)(c:I (λ_=>ba) a w.drew)(h:∀L a w i o,I L a w->b[i]?=ai o->L i=ba->(∀e∈o.after,Region.binds .any e=ay->L e.on=ay)->wpOp P b Q i (I (Dt L i)) a w)(f:∀L a w,I L a w->(∀i,i<b.size->L i=ay)->Q .normal a w):(Code.region k b ay).wp P Q a w:=by
 refine wp_region_any g (Aaz I h f d b.size _ a _ Yu Yu ?_);have e:(λj=>(Array.replicate b.size ba).getD j ba)=λ_=>ba:=by
  funext j
  rw[Array.getD_eq_getD_getElem?];by_cases hj:j<b.size
  .simp[hj]
  simp[hj]
 rw[e];exact c
theorem Qb(L:Nat->Bool)(i:Nat):∀n,i<n->L i=ba->ed ((range n).filter (Dt L i))=ed ((range n).filter L)+1
 |0,h,_=>absurd h (Nat.not_lt_zero _)
 |n+1,h,hL=>by
  rw[range_succ,filter_append,filter_append,Am,Am];by_cases hn:i=n
  .subst hn;have a:(range i).filter (Dt L i)=(range i).filter L:=filter_congr (λx b=>by have:=mem_range.1 b;unfold Dt;rw[if_neg Yv]);rw[a];simp[Dt,hL]
  have a:=Qb L i n Yv hL;have b:Dt L i n=L n:=by unfold Dt;rw[if_neg (Ne.symm hn)]
  rw[a];simp only[filter_cons,b,filter_nil];omega
def Ik(ops:Array Oper):Bool:=(List.range ops.size).all fun i=>((ops[i]?).map (·.after.all fun e=>decide (e.on<i)|| !Region.binds .any e)).getD ay
theorem Lw{a:Array Oper}(h:Ik a=ay):∀i o,a[i]?=ai o->∀e∈o.after,Region.binds .any e=ay->e.on<i:=by intro i o d e g f;unfold Ik at h;rw[all_eq_true]at h;have b:=h i (mem_range.2 (A0.1 d).1);rw[d]at b;simp only[Option.map_some,Option.getD_some,Array.all_eq_true_iff_forall_mem]at b;have c:=b e g;rw[f]at c;simpa using c
def Il(ops:Array Oper)(i j:Nat):Bool:=((ops[i]?).map (·.after.any fun e=>e.on==j&&Region.binds .any e)).getD ba
theorem IL{a:Array Oper}{o:Oper}(c:a[i]?=ai o)(h:Il a i j=ay):∃e∈o.after,e.on=j/\Region.binds .any e=ay:=by unfold Il at h;rw[c]at h;simp only[Option.map_some,Option.getD_some,Array.any_eq_true']at h;obtain⟨e,d,b⟩:=h;rw[Bool.and_eq_true]at b;exact gG
def Nt(ops:Array Oper)(last:Nat):Bool:=(List.range last).all fun i=>Il ops last i||(List.range last).any fun m=>Il ops last m&&Il ops m i
def LV(e:Edge):Bool:=match e.ground with
 |.data=>Region.binds .any e
 |_=>ba
theorem MI{e:Edge}(h:LV e=ay):Region.binds .any e=ay:=by
 unfold LV at h;split at h
 .exact h
 cases h
def ZA(ops:Array Oper)(last:Nat)(kl:List (Nat×Nat)):Bool:=kl.all fun p=>(List.range last).all fun m=>m==p.1||(p.1<last&&Il ops p.1 m)||((ops[m]?).map (·.after.all fun e=>e.on !=p.2|| !LV e)).getD ay
theorem JZ{b:Array Oper}{Q:Exit->Act->Zh->Prop}(last:Nat)(W:P.follows .mixedOrders=ay)(zH:b.size=last+1)(Z:Ik b=ay)(V:Nt b last=ay)(x:List (Nat×Nat))(D:ZA b last x=ay)(F:(Nat->Value)->Act)(M:Nat->Value)(J:(Nat->Bool)->Zh->Prop)(T:Nat->Zh->Value->Prop)(E:Nat->Zh->Zh->Prop)(hE:∀j i w q v,j≠i->(j,i)∉x->Il b i j=ba->E j w q->T i w v->T i q v)(hF:∀i o d v,i<last->b[i]?=ai o->(F d).put o.dst v=F (λj=>if j=i then v else d j))(h0:J (λ_=>ba) w.drew)(hs:∀i o L d w,i<last->b[i]?=ai o->L i=ba->(∀e∈o.after,Region.binds .any e=ay->L e.on=ay)->J L w->(∀e∈o.after,LV e=ay->T e.on w (d e.on))->∀K:Act->Zh->Prop,Hid (∀v q,T i q v->E i w q->J (Dt L i) q->K ((F d).put o.dst v) q)->if Region.wanted o (yielded b (F d).tmps)=ay then Oper.wp P o (F d) w K Q else K ((F d).put o.dst undef) w)(hf:∀o L d w,b[last]?=ai o->(∀i,i<last->L i=ay)->J L w->(∀i,i<last->(∀j,(j,i)∉x)->T i w (d i))->∀K:Act->Zh->Prop,Hid (∀a w,Q .normal a w->K a w)->if Region.wanted o (yielded b (F d).tmps)=ay then Oper.wp P o (F d) w K Q else K ((F d).put o.dst undef) w):
 (Code.region id b ay).wp P Q (F M) w:=by
 refine SY W (λL a w=>if L last=ay then (∀i,i<last->L i=ay)/\Q .normal a w else ∃d,a=F d/\J L w/\(∀j o,j<last->b[j]?=ai o->L j=ay->∀e∈o.after,Region.binds .any e=ay->L e.on=ay)/\∀i,i<last->L i=ay->(∀j,(j,i)∈x->L j=ba)->T i w (d i)) (Lw Z) ?_ ?_ ?_
 .rw[if_neg Yu];exact⟨M,rfl,h0,λj o _ _ h=>by simp at h,λi _ h=>by simp at h⟩
 .intro L a w i o r p U u;have hi:i<b.size:=gG;by_cases hil:i=last
  .subst hil;rw[if_neg Yt]at r;obtain⟨d,rfl,R,C,hT⟩:=r;have k:∀j,j<i->L j=ay:=by
    intro j g;unfold Nt at V;rw[all_eq_true]at V;have c:=V j (mem_range.2 g);rw[Bool.or_eq_true]at c;rcases c with c|c
    .obtain⟨e,n,O,l⟩:=IL p c;rw[<-O];exact u e n l
    obtain⟨m,W,s⟩:=any_eq_true.1 c;rw[Bool.and_eq_true]at s;have⟨e,n,O,l⟩:=IL p s.1;have zF:=mem_range.1 W;have I:b[m]?=ai b[m]:=gA;have⟨N,y,e2,zC⟩:=IL I s.2;rw[<-e2];exact C m _ zF I (by rw[<-O];exact u e n l) N y zC
   refine wpOp_step p (λK S=>hf o L d w p k R (λj g hn=>hT j g (k j g) (λX z=>absurd z (hn X))) K (λa w h=>S a w ?_));show if Dt L i i=ay then _ else _
   rw[if_pos (by unfold Dt;rw[if_pos rfl])];exact⟨λj g=>by unfold Dt;rw[if_neg Yv];exact k j g,h⟩
  have A:i<last:=Yv;have zB:L last=ba:=gG;rw[if_neg Yt]at r;obtain⟨d,rfl,R,C,hT⟩:=r;have G:∀j,j<last->L j=ay->Il b j i=ba:=λj g f=>by
   cases c:Il b j i with
   |false=>rfl
   |true=>have H:b[j]?=ai b[j]:=gA;have⟨N,y,s,h4⟩:=IL H c;have t:=C j _ g H f N y h4;rw[s,U]at t;cases t
  refine wpOp_step p (λK S=>hs i o L d w A p U u R (λe n l=>hT e.on (C8 (Lw Z i o p e n (MI l))) (u e n (MI l)) (λj g=> ?_)) K (λv q hv hw zA=>S _ q ?_))
  .unfold ZA at D;have c:=all_eq_true.1 (all_eq_true.1 D _ g) i (mem_range.2 A);rw[p]at c;simp only[Option.map_some,Option.getD_some,Bool.or_eq_true,beq_iff_eq,Array.all_eq_true_iff_forall_mem]at c;rcases c with(c|c)|c
   .rw[<-c];exact U
   .rw[Bool.and_eq_true]at c;cases f:L j with
    |false=>rfl
    |true=>have zE:j<last:=gA;have t:=G j zE f;rw[c.2]at t;cases t
   have:=c e n;rw[l]at this;simp at this
  show if Dt L i last=ay then _ else _
  rw[if_neg (by unfold Dt;rw[if_neg (Ne.symm hil),zB];simp),hF i o d v A p];refine⟨_,rfl,zA,λj o' g B f e n l=> ?_,λj g f Y=> ?_⟩
  .have c:L e.on=ay:=by
    by_cases hji:j=i
    .subst hji;rw[p]at B;cases B;exact u e n l
    unfold Dt at f;rw[if_neg hji]at f;exact C j o' g B f e n l
   unfold Dt;rw[c];simp
  by_cases hji:j=i
  .subst hji;rw[if_pos rfl];exact hv
  rw[if_neg hji];have zG:(i,j)∉x:=λh=>by have:=Y i h;unfold Dt at this;rw[if_pos rfl]at this;cases this
  unfold Dt at f;rw[if_neg hji]at f;refine hE i j w q _ (λe=>hji e.symm) zG (G j g f) hw (hT j g f (λX z=> ?_));have:=Y X z;unfold Dt at this;split at this
  .cases this
  exact this
 intro L a w r k;rw[if_pos (k last Yv)]at r;exact r.2
def KE(last:Nat)(J:Nat->Zh->Prop):(Nat->Bool)->Zh->Prop:=fun L w=>J (ed ((List.range last).filter L)) w
theorem ZB{J:Nat->Zh->Prop}(h:J 0 w):KE last J (fun _=>ba) w:=by unfold KE;rw[show(List.range last).filter (fun _=>ba)=[]from by simp];exact h
theorem UX{L:Nat->Bool}(c:i<last)(b:L i=ba):ed ((range last).filter L)<last:=by have d:=Qb L i last c b;have a:ed ((range last).filter (Dt L i))<=ed (range last):=length_filter_le _ _;rw[length_range]at a;omega
theorem ZC{J:Nat->Zh->Prop}{L:Nat->Bool}(b:i<last)(a:L i=ba)(h:J (ed ((List.range last).filter L)+1) w):KE last J (Dt L i) w:=by unfold KE;rw[Qb L i last b a];exact h
theorem RW{J:Nat->Zh->Prop}{L:Nat->Bool}(a:∀i,i<last->L i=ay)(h:KE last J L w):J last w:=by have b:(range last).filter L=range last:=filter_eq_self.2 (λx c=>a x (mem_range.1 c));unfold KE at h;rw[b,length_range]at h;exact h
theorem Qc{c:Array Oper}{Q:Exit->Act->Zh->Prop}{G:Nat}(last:Nat)(C:P.follows .mixedOrders=ay)(q:c.size=last+1)(m:Ik c=ay)(B:Nt c last=ay)(F:(Nat->Value)->Act)(g:Nat->Value)(J:Nat->Zh->Prop)(T:Nat->Zh->Value->Prop)(E:Zh->Zh->Prop)(x:∀i w d v,E w d->T i w v->T i d v)(y:∀i o b v,i<last->c[i]?=ai o->(F b).put o.dst v=F (λj=>if j=i then v else b j))(r:J 0 w.drew)(D:∀i o k b w,i<last->c[i]?=ai o->k<last->J k w->(∀e∈o.after,LV e=ay->T e.on w (b e.on))->∀K:Act->Zh->Prop,Hid (∀v d,T i d v->E w d->J (k+1) d->K ((F b).put o.dst v) d)->if Region.wanted o (yielded c (F b).tmps)=ay then Oper.wp P o (F b) w K Q else K ((F b).put o.dst undef) w)(A:∀o b w,c[last]?=ai o->J last w->(∀i,i<last->T i w (b i))->∀K:Act->Zh->Prop,Hid (∀a w,Q .normal a w->K a w)->if Region.wanted o (yielded c (F b).tmps)=ay then Oper.wp P o (F b) w K Q else K ((F b).put o.dst undef) w):
 (Code.region G c ay).wp P Q (F g) w:=
 JZ last C q m B [] rfl F g (KE last J) T (λ_=>E) (λ_ i w d v _ _ _ f l=>x i w d v f l) y (ZB r) (λi o L b w f n p _ l hT K z=>D i o _ b w f n (UX f p) l hT K (λv d s t u=>z.out v d s t (ZC f p u))) (λo L b w n m l hT=>A o b w n (RW m l) (λi f=>hT i f (λ_ h=>by cases h)))
def Bt(a:Act):List Nat->(Nat->Value)->Nat->Act
 |[],_,_=>a
 |d::ds,xs,k=>Bt (a.put (ai d) (xs k)) ds xs (k+1)
theorem Aba(a:Act)(d:Nat)(v u:Dg):(a.put (ai d) v).put (ai d) u=a.put (ai d) u:=by simp[Act.put]
theorem Qd:∀(ds:List Nat) (a:Act) (xs:Nat->Value) (k d:Nat) (v:Dg),d∉ds->(Bt a ds xs k).put (ai d) v=Bt (a.put (ai d) v) ds xs k
 |[],_,_,_,_,_,_=>rfl
 |e::ds,a,xs,k,d,v,h=>by have b:d≠e:=λx=>h Yt;show(Bt (a.put (ai e) (xs k)) ds xs (k+1)).put (ai d) v=Bt ((a.put (ai d) v).put (ai e) (xs k)) ds xs (k+1);rw[Qd ds _ xs (k+1) d v (λx=>h (mem_cons_of_mem _ x)),Act.put_comm a (xs k) v Yt]
theorem JI:∀(ds:List Nat) (a:Act) (xs ys:Nat->Value) (k:Nat),(∀j,k<=j->xs j=ys j)->Bt a ds xs k=Bt a ds ys k
 |[],_,_,_,_,_=>rfl
 |d::ds,a,xs,ys,k,h=>by show Bt (a.put (ai d) (xs k)) ds xs (k+1)=Bt (a.put (ai d) (ys k)) ds ys (k+1);rw[h k (Zx)];exact JI ds _ xs ys (k+1) (λj b=>h j Yv)
theorem RZ:∀(ds:List Nat) (a:Act) (xs:Nat->Value) (k i d:Nat) (v:Dg),ds.Nodup->ds[i]?=ai d->(Bt a ds xs k).put (ai d) v=Bt a ds (λj=>if j=k+i then v else xs j) k
 |[],_,_,_,_,_,_,_,h=>by simp at h
 |e::ds,a,xs,k,0,d,v,hn,h=>by
  obtain rfl:e=d:=C9 h
  show(Bt (a.put (ai e) (xs k)) ds xs (k+1)).put (ai e) v=Bt (a.put (ai e) (if k=k+0 then v else xs k)) ds _ (k+1);rw[Qd ds _ xs (k+1) e v (nodup_cons.1 hn).1,Aba,if_pos (Nat.add_zero k).symm];exact JI ds _ _ _ (k+1) (λj b=>by rw[if_neg Yv])
 |e::ds,a,xs,k,i+1,d,v,hn,h=>by show(Bt (a.put (ai e) (xs k)) ds xs (k+1)).put (ai d) v=Bt (a.put (ai e) (if k=k+(i+1)then v else xs k)) ds _ (k+1);rw[RZ ds _ xs (k+1) i d v (nodup_cons.1 hn).2 gA,if_neg Yv];exact gG
theorem WO(a:Act)(d:Nat):a.put (ai d) (a.tmps.getD d undef)=a:=by
 obtain⟨t,b⟩:=a;show Act.mk (t.setIfInBounds d (t.getD d undef)) b=_;congr 1;apply Array.ext
 .simp
 intro i e c;rw[Array.getElem_setIfInBounds];split
 .rename_i h
  subst h;simp[c]
 rfl
theorem Ok:∀(ds:List Nat) (a:Act) (k:Nat),∃b,Bt a ds b k=a
 |[],a,_=>⟨λ_=>undef,rfl⟩
 |d::ds,a,k=>by have⟨b,h⟩:=Ok ds a (k+1);refine⟨λj=>if j=k then a.tmps.getD d undef else b j,?_⟩;show Bt (a.put (ai d) (if k=k then _ else _)) ds _ (k+1)=a;rw[if_pos rfl,WO];exact(JI ds a _ b (k+1) (λj c=>if_neg Yv)).ag h
theorem Qe:∀(ds:List Nat) (a:Act) (xs:Nat->Value) (k i:Nat) (v:Dg),k+ed ds<=i->Bt a ds (λj=>if j=i then v else xs j) k=Bt a ds xs k
 |[],_,_,_,_,_,_=>rfl
 |d::ds,a,xs,k,i,v,h=>by rw[length_cons]at h;show Bt (a.put (ai d) (if k=i then v else xs k)) ds _ (k+1)=Bt (a.put (ai d) (xs k)) ds xs (k+1);rw[if_neg Yv];exact Qe ds _ xs (k+1) i v Yv
def WQ(ops:Array Oper)(ds:List Nat)(last:Nat):Bool:=(List.range last).all fun i=>((ops[i]?).map (fun o=>decide (o.dst=ds[i]?))).getD ba
def Adp(ops:Array Oper)(ds:List Nat):Bool:=WQ ops ds (ed ds)
theorem Im{b:Array Oper}{Q:Exit->Act->Zh->Prop}{a:Act}(d:List Nat)(last:Nat)(x:Oper)(z:b[last]?=ai x)(H:P.follows .mixedOrders=ay)(A:b.size=last+1)(q:Ik b=ay)(G:Nt b last=ay)(h:WQ b d last=ay)(I:d.Nodup)(m:b.all (·.guard.isNone)=ay)(l:List (Nat×Nat))(y:ZA b last l=ay)(J:(Nat->Bool)->Zh->Prop)(T:Nat->Zh->Value->Prop)(E:Nat->Zh->Zh->Prop)(D:∀j i w f v,j≠i->(j,i)∉l->Il b i j=ba->E j w f->T i w v->T i f v)(C:J (λ_=>ba) w.drew)(M:∀i o L c w,i<last->b[i]?=ai o->L i=ba->(∀e∈o.after,Region.binds .any e=ay->L e.on=ay)->J L w->(∀e∈o.after,LV e=ay->T e.on w (c e.on))->∀K:Act->Zh->Prop,Hid (∀v f,T i f v->E i w f->J (Dt L i) f->K ((Bt a d c 0).put o.dst v) f)->Oper.wp P o (Bt a d c 0) w K Q)(F:∀L c w,(∀i,i<last->L i=ay)->J L w->(∀i,i<last->(∀j,(j,i)∉l)->T i w (c i))->∀K:Act->Zh->Prop,Hid (∀a w,Q .normal a w->K a w)->Oper.wp P x (Bt a d c 0) w K Q):
 (Code.region id b ay).wp P Q a w:=by
 have u:∀i o t,b[i]?=ai o->Region.wanted o t=ay:=λi o t f=>by rw[Array.all_eq_true_iff_forall_mem]at m;have g:=m o (Array.mem_of_getElem? f);simp[Region.wanted,Option.isNone_iff_eq_none.1 g]
 have⟨B,k⟩:=Ok d a 0;have:=JZ (id:=id) (w:=w) (Q:=Q) last H A q G l y (λc=>Bt a d c 0) B J T E D ?_ C (λi o L c w r f s h n hT K p=>by rw[if_pos (u i o _ f)];exact M i o L c w r f s h n hT K p) (λo L c w f q n hT K p=>by rw[if_pos (u _ o _ f)];rw[z]at f;cases f;exact F L c w q n hT K p)
 .rw[<-k];rw[k]at this;rw[k];exact this
 intro i o c v r f;unfold WQ at h;rw[all_eq_true]at h;have g:=h i (mem_range.2 r);rw[f]at g;simp only[Option.map_some,Option.getD_some,decide_eq_true_eq]at g;rw[g];rcases B0 i (ed d) with n|n
 .have p:=Zv n;rw[p];have s:=RZ d a c 0 i _ v I p;rw[Ax]at s;exact s
 rw[getElem?_eq_none n];exact(Qe d a c 0 i v Yv).symm
theorem Qf{b:Array Oper}{Q:Exit->Act->Zh->Prop}{A:Nat}{a:Act}{c:List Nat}(last:Nat)(hlen:ed c=last)(h:Oper)(m:b[last]?=ai h)(x:P.follows .mixedOrders=ay)(n:b.size=last+1)(r:Ik b=ay)(u:Nt b last=ay)(s:Adp b c=ay)(y:c.Nodup)(k:b.all (·.guard.isNone)=ay)(g:List (Nat×Nat))(l:ZA b last g=ay)(J:(Nat->Bool)->Zh->Prop)(T:Nat->Zh->Value->Prop)(E:Nat->Zh->Zh->Prop)(q:∀j i w d v,j≠i->(j,i)∉g->Il b i j=ba->E j w d->T i w v->T i d v)(p:J (λ_=>ba) w.drew)(z:∀i o L f w,i<last->b[i]?=ai o->L i=ba->(∀e∈o.after,Region.binds .any e=ay->L e.on=ay)->J L w->(∀e∈o.after,LV e=ay->T e.on w (f e.on))->∀K:Act->Zh->Prop,Hid (∀v d,T i d v->E i w d->J (Dt L i) d->K ((Bt a c f 0).put o.dst v) d)->Oper.wp P o (Bt a c f 0) w K Q)(t:∀L f w,(∀i,i<last->L i=ay)->J L w->(∀i,i<last->(∀j,(j,i)∉g)->T i w (f i))->∀K:Act->Zh->Prop,Hid (∀a w,Q .normal a w->K a w)->Oper.wp P h (Bt a c f 0) w K Q):
 (Code.region A b ay).wp P Q a w:=by
 subst hlen;exact Im c (ed c) h m x n r u s y k g l J T E q p z t
theorem DA{b:Array Oper}{Q:Exit->Act->Zh->Prop}{H:Nat}{a:Act}(f:List Nat)(last:Nat)(hlen:ed f=last)(m:Oper)(q:b[last]?=ai m)(D:P.follows .mixedOrders=ay)(r:b.size=last+1)(l:Ik b=ay)(C:Nt b last=ay)(A:Adp b f=ay)(F:f.Nodup)(p:b.all (·.guard.isNone)=ay)(J:Nat->Zh->Prop)(T:Nat->Zh->Value->Prop)(E:Zh->Zh->Prop)(y:∀i w c v,E w c->T i w v->T i c v)(s:J 0 w.drew)(G:∀i o k d w,i<last->b[i]?=ai o->k<last->J k w->(∀e∈o.after,LV e=ay->T e.on w (d e.on))->∀K:Act->Zh->Prop,Hid (∀v c,T i c v->E w c->J (k+1) c->K ((Bt a f d 0).put o.dst v) c)->Oper.wp P o (Bt a f d 0) w K Q)(B:∀d w,J last w->(∀i,i<last->T i w (d i))->∀K:Act->Zh->Prop,Hid (∀a w,Q .normal a w->K a w)->Oper.wp P m (Bt a f d 0) w K Q):
 (Code.region H b ay).wp P Q a w:=
 Qf last hlen m q D r l C A F p [] rfl (KE last J) T (λ_=>E) (λ_ i w c v _ _ _ g j=>y i w c v g j) (ZB s) (λi o L d w g t n _ j hT K z=>G i o _ d w g t (UX g n) j hT K (λv c t u x=>z.out v c t u (ZC g n x))) (λL d w l j hT=>B d w (RW l j) (λi g=>hT i g (λ_ h=>by cases h)))
theorem Qg{d:Zk}{a:Zl}(h:ej w b 9 1 (Cx d (ed a) i) (ed a) (a.map string)):Ad w w.1.size d a/\(d=an->ed a=0/\i=0):=by
 rcases h.2 with⟨c,f⟩|⟨g,k,l,c,_,_,j,_⟩
 .injection c with e1 e2 e3;subst e1;exact⟨cr (A9 f),λ_=>⟨f,e3⟩⟩
 cases c;exact⟨Ad.own h,λe=>by cases e⟩
theorem Et.fin{V:Zh}{g K:Int}{TX RF Q:Nat}{t':Zi}{d:Zk}{f:Nat}{L:Zl}(r:t'.size<=TX)(k:ed L<=RF)(q:∀s∈L,s.size<=8)(m:ej V (Q+1) 9 1 (Cx d (ed L) f) (ed L) (L.map string))(o:AP V b a n c g)(h:p<=g)(j:g<=p+K)(l:ek w V (ai b))(t:w.1.size<Q)(u:b<w.1.size):
 Et w (el (el V (Zd Q 0) (C0 t')) (Zd Q 1) (Cx d (ed L) f)) (.returned (ca #[C0 t',Cx d (ed L) f])) b a n c p K TX RF:=by
 refine⟨⟨t',_,_,L,rfl,r,k,q,?_⟩,⟨g,?_,h,j⟩,?_⟩
 .exact(ownsRow_setCell_below (ownsRow_setCell_below m (a:=⟨Q,0,an⟩) (Nat.lt_succ_self Q) _) (a:=⟨Q,1,an⟩) (Nat.lt_succ_self Q) _).ah Yv
 .exact(o.grown (Ao _ Q 0 _) Yv).grown (Ao _ Q 1 _) Yv
 exact(l.andThen (Ao _ Q 0 _) (λi e=>by cases e;exact cr Yv)).andThen (Ao _ Q 1 _) (λi e=>by cases e;exact cr Yv)
theorem Qh(t:Zi){ra:Zk}(rc:Nat)(h:AP w b a n c p)(hp:0<=p)(yY:p<=800000)(K:Ad w w.1.size ra d)(zK:ra=an->ed d=0/\rc=0)(ht:t.size<=2000)(hl:ed d<=30)(D:∀s∈d,s.size<=8):
 D4 86 #[Yy b,ca #[C0 t,Cx ra (ed d) rc]] w λe f=>Et w f e b a n c p 2 2001 31:=by
 obtain⟨⟨i0,V,zH,zI,zJ⟩,S,G,f⟩:=info_parts CQ,h.lt,Du w #[C0 t,Cx ra (ed d) rc] 48;have o:bg w.1.size w G:=by rw[f];exact Zy
 have I:Aa G w.1.size [C0 t,Cx ra (ed d) rc]:=by rw[f];exact Aa.new w _ _
 have C:G.1.size=w.1.size+1:=by rw[f];simp
 have⟨W,z⟩:=Du G #[Zc,Zb] 48;have q:bg G.1.size G W:=by rw[z];exact Zy
 have x:Aa W G.1.size [Zc,Zb]:=by rw[z];exact Aa.new G _ _
 have F:=I.A q;have l:bg w.1.size w W:=o.ag (q.ah o.size);have⟨Q,J⟩:=Ag G.1.size;have R:w.1.size<Q:=Yv;rw[<-J]at x;have HZ:Hid (w.1.size+1=Q):=by show _=_;omega
 obtain⟨⟨M,_⟩,⟨N,_⟩,zV,HW⟩:=F 0 _ rfl,F 1 _ rfl,Yw f,Yw z;have H:Hid (Ad W W.1.size ra d):=K.U l;have y:Hid (Aa W Q [Zc,Zb]/\AP W b a n c p/\ek w W (ai b)):=⟨x,h.A l,Al _ l⟩;have yS:Q<W.1.size:=x.lt;clear f z J o q I x F l C h K;delta D4;go_in;go_upto_region 1 with fail;rw[<-zV.o,<-HW.o,HZ.o];go_wp2_with fail;refine(Gy t rc H zK Yv).ah ?_;rintro e w1 ⟨g,I,rfl,x,o⟩;have⟨K,l⟩:=Du w1 #[C0 t,Yz g (ed d) I] 48;have q:bg w1.1.size w1 K:=by rw[l];exact Zy
 have f:bg W.1.size W K:=o.ag (q.ah o.size);have⟨B,z⟩:=Ag w1.1.size;have C:Aa K B [C0 t,Yz g (ed d) I]:=by rw[l,z];exact Aa.new w1 _ _
 have yQ:Q<B:=C8 o.size;have yD:=x.lt g rfl;have yM:g<B:=by rw[z];exact yD.2
 have F:ej K (Q+1) 9 1 (Yz g (ed d) I) (ed d) (d.map string):=(x.kept (Al an q) (Classical.em _)).ah Yv;have HD:Hid (Aa K Q [Zc,Zb]/\AP K b a n c p/\ek w K (ai b)):=⟨y.1.A f,y.2.1.A f,y.2.2.ag (Al _ f)⟩;obtain⟨zW,HB,HE⟩:=Yw l,Yw z,Yw (Zn C F);clear l z q f y H C F x o M N;go_upto_region 2 with fail;rw[<-zW.o,<-HB.o];go_wp2_with fail;refine(Bx b a n c p 5 K HD.2.1 Yv Yv Yv Yv).ah ?_;rintro e f ⟨r,rfl,r0,r1,s3,g3⟩;have x:Hid (Aa f Q [Zc,Zb]/\AP f b a n c (p+1)/\ek w f (ai b)):=⟨HD.1.br g3 Yv,s3,HD.2.2.ag g3⟩;have B3:Hid (Aa f B [C0 t,Yz g (ed d) I]):=Aa.br HE.1 g3 Yv;have yV:Q+1<=g:=(ownsRow.lt HE.2 g rfl).1;have O3:Hid (ej f (Q+1) 9 1 (Yz g (ed d) I) (ed d) (d.map string)):=ownsRow.kept HE.2 g3 (ct D7);have zO:B<f.1.size:=B3.lt;obtain⟨⟨x0,f0⟩,⟨x1,f1⟩,⟨y0,q0⟩,y1,q1⟩:=B3 0 _ rfl,B3 1 _ rfl,x.1 0 _ rfl,x.1 1 _ rfl;have zS:¬B=Q:=Yv;have yO:¬Q=B:=Yv;by_cases c0:r=0
 .subst c0;go_wp2_with fail;refine(Bx b a n c (p+1) 2 f x.2.1 Yv Yv Yv Yv).ah ?_;rintro e w4 ⟨r',rfl,yH,yI,s4,g4⟩;obtain⟨m,rfl⟩:∃m:Nat,r'=m:=⟨r'.toNat,Yv⟩;have zP:=SX ⟨#[116]⟩ (2000+m) w4 Yq (by show 1 *(2000+m)<=100000;omega);rw[show((2000+m:Nat):Int)=2000+(m:Int) by omega]at zP;have HM:=Yw zP;have k:=B3.br g4 Yv;have Y4:=x.1.br g4 Yv;have O4:=O3.kept g4 (ct D7);have G4:=x.2.2.ag g4;go_wp2_with fail;refine HM.Ak ?_;rintro e w5 ⟨T,rfl,hT,yG⟩;rw[yG];obtain⟨⟨x0,f0⟩,⟨x1,f1⟩,⟨y0,q0⟩,y1,q1⟩:=k 0 _ rfl,k 1 _ rfl,Y4 0 _ rfl,Y4 1 _ rfl;have HT:Hid (T.size<=2001):=by show _<=_;rw[hT];show 1 *(2000+m)<=2001;omega
  go_wp2;refine Co (ca #[C0 T,Yz g (ed d) I]) F0 ?_;refine Et.fin HT Yv D (O4.kept (Ao _ B 0 _) (ct D7)) (s4.grown (Ao _ B 0 _) Yv) Yv Yv (G4.andThen (Ao _ B 0 _) (λi e=>by cases e;exact cr Yv)) R S
 have d0:(r==0)=ba:=C9 c0;by_cases c1:r=1
 .subst c1;go_wp2_with (first
   |(at_builtin;refine wpList_append_own_at _ rfl _ _ 23 rfl (Q+1) 9 i0 Zc 1 16 underlying23 V zH zI zJ rfl Yq _ (ed d) (d.map string) rfl ?d0 ⟨f.1.size,0,an⟩ 1 1 [C0 ⟨#[120]⟩] rfl rfl ?d1 ?d2 ?d3 ?d4 ?d5 ?_))
  case d0=>exact O3.alloc _
  case d1=>
   intro j u C;cases j with
   |zero=>simp at C;subst C;simp[Addr.add]
   |succ j=>simp at C
  case d2=>intro u C;simp at C;subst C;rfl
  case d3=>unfold eo;omega
  case d4=>omega
  case d5=>simp;omega
  intro v' F l q z zB;have⟨y,c6,zG⟩:∃y c6,v'=Yz y (ed d+1) c6:=by
   rcases Joins.ownsRow_forms l with⟨e1,_⟩|hf
   .exact(z e1).elim
   exact hf
  subst zG;have b6:bg (Q+1) f F:=(Ae.alloc Yv _).grown q Yt (λi V=>by simp[ownBlock]at V;omega);have o:ek f F (ai g):=⟨b6.os,b6.tape,b6.output,b6.size,λi V zS=>by
   have h1:=q.block i Yt (by simpa [ownBlock]using zS);rw[h1];exact(Al an ((Below.refl f.1.size f).alloc (Zx) _)).block i V Yu⟩
  have H:=B3.az o Yv;have N:=x.1.az o Yv;have G6:=x.2.2.andThen o (λi e=>by cases e;exact cr Yv);have S6:=x.2.1.grown o Yv;have yU:=l.lt y rfl;have U:y≠B:=by rcases zB with h|h<;>simp[ownBlock]at h<;>omega
  have O6:ej F (Q+1) 9 1 (Yz y (ed (d++[ByteArray.mk #[120]])) c6) (ed (d++[ByteArray.mk #[120]])) ((d++[ByteArray.mk #[120]]).map string):=by
   have:ed (d++[ByteArray.mk #[120]])=ed d+1:=Yu;rw[this,map_append];exact l
  obtain⟨HF,⟨x0,f0⟩,⟨x1,f1⟩,⟨y0,q0⟩,y1,q1⟩:=Yw (Zn G6 (Zn S6 O6)),H 0 _ rfl,H 1 _ rfl,N 0 _ rfl,N 1 _ rfl;go_wp2;refine Co (ca #[C0 t,Yz y (ed d+1) c6]) F0 ?_;have J:ed d+1=ed (d++[ByteArray.mk #[120]]):=Yu;rw[J];refine Et.fin Yv Yt ?_ (HF.2.2.kept (Ao _ B 1 _) (ct D7)) (HF.2.1.grown (Ao _ B 1 _) Yv) Yv Yv (HF.1.andThen (Ao _ B 1 _) (λi e=>by cases e;exact cr Yv)) R S;intro s Z;rcases A5.1 Z with h|h
  .exact D s h
  simp at h;subst h;decide
 have d1:(r==1)=ba:=C9 c1;by_cases c2:r=2
 .subst c2;by_cases hl0:0<ed d
  case neg=>have dl:bq ((0:Int)<(ed d:Int))=ba:=decide_eq_false Yv;have zU:=Yw hl0;clear hl0;go_wp2;refine Co (ca #[C0 t,Yz g (ed d) I]) F0 ?_;exact Et.fin (t':=t) (L:=d) (TX:=2001) (RF:=31) Yv Yv D O3 x.2.1 Yv Yv x.2.2 R S
  have dl:bq ((0:Int)<(ed d:Int))=ay:=decide_eq_true Yv;have HX:Hid (d[0]?=ai d[0]):=Zv hl0;have yF:d[0]∈d:=getElem_mem hl0;generalize d[0]=X at *
  have cX:eh f (Zd g 0)=ai (C0 X):=by
   have:=Ad.own O3;rcases this with h|⟨b',xA,e1,_,h3⟩
   .subst h;simp at hl0
   cases e1;simpa using h3 0 X HX
  have yT:g<f.1.size:=(O3.lt g rfl).2;have zU:=Yw hl0;have yX:(0:Int)<(ed d:Int):=Yv;have zF:bg f.1.size f (f.alloc (bs #[C0 X] 9)):=Zy;have O:ej (f.alloc (bs #[C0 X] 9)).drew (Q+1) 9 1 (Yz g (ed d) I) (ed d) (d.map string):=O3.kept (Al an zF.drew) (Classical.em _);have L:∀A,(ai ⟨f.1.size,0,an⟩:Zk)=ai A->∀i s,[X][i]?=ai s->eh (f.alloc (bs #[C0 X] 9)).drew (A.add i)=ai (C0 s):=by
   intro A e i s D;injection e with e;subst e;cases i with
   |zero=>simp at D;subst D;simp[Addr.add]
   |succ i=>simp at D
  have yL:eh (f.alloc (bs #[C0 X] 9)) (Zd B 1)=ai (Yz g (ed d) I):=(zF.cell (p:=⟨B,1,an⟩) zO).ag x1;clear hl0;go_upto_region 10 with fail
  go_region_law (first
   |(refine Be (f.alloc (bs #[C0 X] 9)).drew rfl (.tmp 37) (.tmp 42) 23 rfl (Q+1) 9 i0 Zc 16 underlying23 V zH zI zJ rfl g (ed d) I d rfl O (ai ⟨f.1.size,0,an⟩) 1 1 [X] rfl rfl (λe=>by cases e) L Yo Yv Yt ?_;intro y c6 F Y E M yN;have o:ek f F (ai g):=(Al (ai g) zF.drew).ag E;have H:=B3.az o Yv;have N:=x.1.az o Yv;obtain⟨yJ,zY⟩:=H 0 _ rfl;obtain⟨yK,zZ⟩:=H 1 _ rfl;obtain⟨y0',q0'⟩:=N 0 _ rfl;obtain⟨y1',q1'⟩:=N 1 _ rfl))
  all_goals
   have U:y≠B:=by
    have:=zO;rcases M with h|h
    .omega
    simp at h;omega
   have HF:=Yw (Zn (x.2.2.andThen o (λi e=>by cases e;exact cr Yv)) (Zn (x.2.1.grown o Yv) Y));have yE:=(Y.lt y rfl).1;clear Y E M H N O L yL x0 x1 f0 f1 y0 y1 q0 q1 cX;go_wp2;refine Co (ca #[C0 t,Yz y (ed d+1) c6]) F0 ?_;have J:ed d+1=ed (d++[X]):=Yu;rw[J];refine Et.fin Yv Yt ?_ (ownsRow.kept (by rw[<-J];exact HF.2.2) (Ao _ B 1 _) (ct D7)) (HF.2.1.grown (Ao _ B 1 _) Yv) Yv Yv (HF.1.andThen (Ao _ B 1 _) (λi e=>by cases e;exact cr Yv)) R S;intro s Z;rcases A5.1 Z with h|h
   .exact D s h
   simp at h;subst h;exact D _ yF
 have d2:(r==2)=ba:=C9 c2;by_cases c3:r=3
 case neg=>
  have d3:(r==3)=ba:=C9 c3;go_wp2;refine Co (ca #[C0 (t++⟨#[122]⟩),Yz g (ed d) I]) F0 ?_;refine Et.fin (by rw[ByteArray.size_append];show t.size+1<=2001;omega) Yv D (O3.kept (Ao _ B 0 _) (ct D7)) (x.2.1.grown (Ao _ B 0 _) Yv) Yv Yv (x.2.2.andThen (Ao _ B 0 _) (λi e=>by cases e;exact cr Yv)) R S
 subst c3;have yA:bg f.1.size f (f.alloc (bs #[] 9)):=Zy;have⟨M,Y⟩:=Ag ((el f (Zd B 1) (Yz f.1.size 0 0)).alloc (bs #[] 9));have N:ek f M (ai B):=by rw[Y];exact(Ao _ B 1 _).ag (grownBy_alloc _ _ _)
 have k:Aa M B [C0 t,Yz f.1.size 0 0]:=by rw[Y];exact Aa.A (B3.set 1 _) (Zy)
 have o4:ej M (Q+1) 9 1 (Yz f.1.size 0 0) 0 (([]:Zl).map string):=by have:=ownsRow_lit (base:=Q+1) (e:=9) (size:=1) (el f (Zd B 1) (Yz f.1.size 0 0)) #[] 0 Yt Yo rfl;rw[size_setCell]at this;rw[Y];exact this
 have E:Hid (Aa M Q [Zc,Zb]/\AP M b a n c (p+1)/\ek w M (ai b)):=⟨x.1.az N Yv,x.2.1.grown N Yv,x.2.2.andThen N (λi e=>by cases e;exact cr Yv)⟩;obtain⟨zN,O,zM,yP⟩:=Yw k,Yw o4,Yw Y,N.size;clear Y N k o4 yA;go_upto_region 13 with fail;rw[<-zM.o];clear zM x0 x1 f0 f1 y0 y1 q0 q1;go_wp2_with fail;refine(Bx b a n c (p+1) 2 M E.2.1 Yv Yv Yv Yv).ah ?_;rintro e w5 ⟨r',rfl,yH,yI,Y,N⟩;obtain⟨m,rfl⟩:∃m:Nat,r'=m:=⟨r'.toNat,Yv⟩;have X5:Hid (Aa w5 B [C0 t,Yz f.1.size 0 0]):=Aa.br zN N Yv;have E5:Hid (Aa w5 Q [Zc,Zb]/\AP w5 b a n c (p+1+1)/\ek w w5 (ai b)):=⟨E.1.br N Yv,Y,E.2.2.ag N⟩;have O5:Hid (ej w5 (Q+1) 9 1 (Yz f.1.size 0 0) 0 (([]:Zl).map string)):=O.kept N (ct D7);clear Y N zN E O;go_wp2;go_loopw [7] (λi wr=>∃(k N ck:Nat) (L:Zl),i=Zg k/\k<=30+m/\ed L=k/\B≠N/\Hid (Aa wr B [C0 t,Yz N (ed L) ck])/\Hid (∀s∈L,s.size<=8)/\Hid (ej wr (Q+1) 9 1 (Yz N (ed L) ck) (ed L) (L.map string))/\Hid (Aa wr Q [Zc,Zb]/\AP wr b a n c (p+1+1)/\ek w wr (ai b))) (λi _=>30+m -(intOf i).toNat)
 case atStart=>exact⟨0,f.1.size,0,[],rfl,Yv,rfl,Yv,X5,(λs D=>by cases D),O5,E5⟩
 obtain⟨k,N,ck,L,rfl,hk,zA,yB,X,HS,O,E⟩:=hrel;have yR:B<wr.1.size:=X.lt;obtain⟨⟨x0,f0⟩,⟨x1,f1⟩,yW⟩:=X 0 _ rfl,X 1 _ rfl,O.lt N rfl;by_cases hlt:k<30+m
 case neg=>
  obtain rfl:k=30+m:=Yv;have dk:bq (((30+m:Nat):Int)<30+(m:Int))=ba:=decide_eq_false Yv;obtain⟨⟨y0,q0⟩,⟨y1,q1⟩,Y⟩:=E.1 0 _ rfl,E.1 1 _ rfl,Yw zA;clear zA;go_wp2;refine Co (ca #[C0 t,Yz N (ed L) ck]) F0 ?_;exact Et.fin (t':=t) (L:=L) (TX:=2001) (RF:=31) Yv (C8 Y.o) HS O E.2.1 Yv Yv E.2.2 R S
 have dk:bq ((k:Int)<30+(m:Int))=ay:=decide_eq_true Yv;have yZ:IntKind.u8.wrap (33+(k:Int))=33+(k:Int):=Ns Yv Yv;have yC:=run_convert_bytes_arg (P:=prog) (wr.alloc (bs #[.int .u8 (33+(k:Int))] 5)) 22 5 underlying22 underlying5 wr.1.size 0 1 1 [33+(k:Int)] rfl (λi V=>by
  obtain rfl:i=0:=Yv;simp) 9 underlying9
 have zT:=EY [33+(k:Int)];generalize strOfNums [33+(k:Int)]=T at *
 have zC:bg wr.1.size wr (wr.alloc (bs #[.int .u8 (33+(k:Int))] 5)):=Zy;have zE:bg wr.1.size wr ((wr.alloc (bs #[.int .u8 (33+(k:Int))] 5)).alloc (bs #[C0 T] 9)):=zC.alloc zC.size _;have Y:=Yw zA;clear zA;go_wp2_with (first
  |(at_builtin;refine wpList_append_own_at _ rfl _ _ 23 rfl (Q+1) 9 i0 Zc 1 16 underlying23 V zH zI zJ rfl Yq _ (ed L) (L.map string) rfl ?d0 ⟨wr.1.size+1,0,an⟩ 1 1 [C0 T] rfl rfl ?d1 ?d2 ?d3 ?d4 ?d5 ?_))
 case d0=>exact O.kept (Al an zE) (Classical.em _)
 case d1=>
  intro j u C;cases j with
  |zero=>simp at C;subst C;simp[Addr.add]
  |succ j=>simp at C
 case d2=>intro u C;simp at C;subst C;rfl
 case d3=>have:=Y.o;unfold eo;omega
 case d4=>have:=Y.o;omega
 case d5=>simp;omega
 intro v' F l q z zB;have⟨y,c6,zG⟩:∃y c6,v'=Yz y (ed L+1) c6:=by
  rcases Joins.ownsRow_forms l with⟨e1,_⟩|hf
  .exact(z e1).elim
  exact hf
 subst zG;have o:ek wr F (ai N):=(Al (ai N) zE).ag (by simpa [ownBlock]using q);have U:B≠y:=by rcases zB with h|h<;>simp[ownBlock]at h<;>omega
 have H:=X.az o (λe=>yB e.symm);obtain⟨⟨yJ,zY⟩,⟨yK,zZ⟩,yE⟩:=H 0 _ rfl,H 1 _ rfl,(l.lt y rfl).1;have HN:Hid (ej F (Q+1) 9 1 (Yz y (ed (L++[T])) c6) (ed (L++[T])) ((L++[T]).map string)):=by
  have:ed (L++[T])=ed L+1:=Yu;rw[this,map_append];exact l
 have HE:Hid (Aa F Q [Zc,Zb]/\AP F b a n c (p+1+1)/\ek w F (ai b)):=⟨E.1.az o Yv,E.2.1.grown o Yv,E.2.2.andThen o (λi e=>by cases e;exact cr Yv)⟩;have HT:Hid (∀s∈L++[T],s.size<=8):=by
  intro s Z;rcases A5.1 Z with h|h
  .exact HS s h
  simp at h;subst h;simp at zT;omega
 have zX:=Yw H;clear l q z zB H yC zT zC zE o x0 x1 f0 f1;go_wp2;have J:ed (L++[T])=ed L+1:=Yu;refine⟨⟨k+1,y,c6,L++[T],Yn,Yv,by rw[J,Y.o],U,?_,HT,?_,?_⟩,Ys⟩
 .rw[J];exact zX.set 1 _
 .exact HN.kept (Ao _ B 1 _) (ct D7)
 exact⟨HE.1.az (Ao _ B 1 _) Yv,HE.2.1.grown (Ao _ B 1 _) Yv,HE.2.2.andThen (Ao _ B 1 _) (λi e=>by cases e;exact cr Yv)⟩
theorem Nu(t:Zi)(f:Zk)(i:Nat)(d:Zl)(h:AP w b a n c p)(k:0<=p)(j:p<=800000)(l:Ad w w.1.size f d)(g:f=an->ed d=0/\i=0)(r:t.size<=16)(q:ed d<=3)(m:∀s∈d,s.size<=8):
 D4 86 #[Yy b,ca #[C0 t,Cx f (ed d) i]] w λe o=>Et w o e b a n c p 2 2001 31:=
 Qh t i h k j l g Yv Yv m
def Sa(w:Zh)(a:Zk)(n:Nat):Prop:=n=0\/∃q off,a=ai ⟨q,off,an⟩/\q<w.1.size/\∀j,j<n->∃x:Int,eh w (Zd q (off+j))=ai (.int .u8 x)/\0<=x/\x<256
theorem Sa.A(h:Sa w a n)(c:Zz w e):Sa e a n:=by
 rcases h with h|⟨q,b,i,d,l⟩
 .exact cr h
 refine ct ⟨q,b,i,Zr d c.size,λj k=> ?_⟩;have⟨x,f,g⟩:=l j k;exact⟨x,(c.cell (p:=⟨q,b+j,an⟩) d).ag f,g⟩
