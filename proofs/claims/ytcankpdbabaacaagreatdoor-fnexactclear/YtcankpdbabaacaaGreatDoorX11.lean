import Derived.Test.YtcankpdbabaacaaGreatDoorX04
import Derived.Laws.OwnMore
set_option maxRecDepth 100000
set_option maxHeartbeats 16000000
namespace Go.Proofs.YtcankpdbabaacaaGreatDoor
open Go.ChangeShapes Go.WideShapes Go.ChangeAt Go.RowKit _root_.Go.Proofs.Tryz
variable{w:Zh}{a:Zk}{f:Int}{P L:Value}{A:Addr}{B:Nat}
theorem OV(t:Zi)(d:Addr)(j:Nat)(a:Zl)(w:Zh)(B:Ad w w.heap.size (some d) a)(Y:a.length<=100000):
 Calls prog 93 #[.agg #[.string t,.slice (some d) a.length j]] w fun e C=>∃g c,e=.returned (.agg #[.string t,Za g a.length c])/\
  C.ownsRow w.heap.size 9 1 (Za g a.length c) a.length (a.map Value.string)/\Zz w C:=by
 obtain⟨O,M,F,G,H⟩:=info_parts Dw;obtain⟨W,i⟩:∃W,W=(w.alloc (.cells #[.string t,.slice (some d) a.length j] 64)).alloc (.cells #[Zd,Zc] 64):=⟨_,rfl⟩;have l:=(Bo i).1;have I:=(Bo i).2.1;have p:=(Bo i).2.2.1;have o:Aa W (w.heap.size+1) [Zd,Zc]:=by have z:=Aa.new (w.alloc (.cells #[.string t,.slice (some d) a.length j] 64)) [Zd,Zc] 64;rw[World.size_alloc]at z;rw[i];exact z
 have q:Below W.heap.size W (W.alloc (.cells #[] 9)).drew:=(Zy).drew
 obtain⟨Z,D,f,b,m,n,_⟩:=run_append_own_at (P:=prog) (W.alloc (.cells #[] 9)).drew W.heap.size 22 22 9 O Zd 1 16 underlying22 M F G H rfl Ys (Za W.heap.size 0 0) 0 (([]:Zl).map Value.string) (World.ownsRow_lit (base:=W.heap.size) (e:=9) (size:=1) W #[] 0 (Zx) Yq rfl) d a.length j (a.map Value.string) Yv ((B.below (l.trans (q.mono l.size))).dq) (Rt a) Yq Yw Yv
 obtain⟨x,y,rfl,S,T⟩:=Cc b (fun e=>by have:=n.1 e;simp at this);rw[List.map_nil,List.nil_append]at b;simp only[Nat.zero_add]at b f;have h:Below W.heap.size W D:=q.grown m Yv (fun k N=>by simp[Value.ownBlock]at N;omega)
 have HS:Hid (∀X,Zz W X->X.cell? (Ze (w.heap.size) 0)=some (.string t)/\X.cell? (Ze (w.heap.size) 1)=some (.slice (some d) a.length j)):=fun X A=>⟨(Aa.below p A 0 _ rfl).1,(Aa.below p A 1 _ rfl).1⟩;have K:Below W.heap.size W W.drew:=(Below.refl _ _).drew;obtain⟨Q,U⟩:=Aa.below o h 0 _ rfl;obtain⟨R,V⟩:=Aa.below o h 1 _ rfl
 have E:∀u v,Zz w ((D.setCell (Ze (w.heap.size+1) 0) u).setCell (Ze (w.heap.size+1) 1) v):=fun u v=>((l.trans (h.mono l.size)).setCell Yv _).setCell Yv _;have L:=Yx b;have J:w.heap.size+2<=W.heap.size:=Yw
 have s:=Yx i;clear i B b I p o m n;go_enter func93,ntmps93;go_upto_region 1 with fail;rw[<-s.o];clear s;go_region_held3 (fun X=>X.cell? (Ze (w.heap.size) 0)=some (.string t)/\X.cell? (Ze (w.heap.size) 1)=some (.slice (some d) a.length j))
  (first|with_reducible exact HS.o _ K|with_reducible exact HS.o _ q|with_reducible exact HS.o _ h|exact⟨(World.cell?_setCell_other _ _ _ _ Yv).trans ((World.cell?_setCell_other _ _ _ _ Yv).trans (HS.o _ h).1),(World.cell?_setCell_other _ _ _ _ Yv).trans ((World.cell?_setCell_other _ _ _ _ Yv).trans (HS.o _ h).2)⟩)
  (first|(refine Bv Yr (.tmp 5) (.tmp 7) 22 22 Yr Yr Yr f ?_))
 all_goals
  clear HS;go_wp2;refine bodyPost_ret (v:=.agg #[.string t,Za x a.length y]) (by simp[results,results93,go_sem,Q,R]) rfl ⟨x,y,rfl,?_,E _ _⟩;exact(Bn (Bn L.o (fun g r=>by simp[Value.ownBlock]at r;omega) 0 _) (fun g r=>by simp[Value.ownBlock]at r;omega) 1 _).mono Yw
theorem Sb(w:Zh)(x:Kd)(g c:Nat):∀j u,(kC (x,Za g x.B.length c))[j]?=some u->(w.alloc (.cells #[.string x.sum,Zg x.born,.string x.M,Za g x.B.length c] 99)).cell? ((⟨w.heap.size,0,none⟩:Addr).add j)=some u:=by intro j u hu;rw[Go.WideShapes.add_plain,Nat.zero_add];exact((Aa.new w (kC (x,Za g x.B.length c)) 99) j u hu).1
theorem VO(x:Kd)(g c:Nat):∀u∈kC (x,Za g x.B.length c),u.oneCell'=true:=by intro u hu;simp[kC]at hu;rcases hu with rfl|rfl|rfl|rfl<;>rfl
theorem Aae{a:Nat}{e:TypeId}{size:Nat}{v:Value}{n:Nat}{b:Zj}(h:w.ownsRow a e size v n b)(c:0<n):v≠Zc:=by
 intro e;subst e;rcases h.2 with⟨_,d⟩|⟨_,_,_,e,_⟩
 .omega
 .cases e
def Fk(w:Zh)(aa:Addr)(ks:List Kd):Prop:=∀(i:Nat) (k:Kd),ks[i]?=some k->∃ad rc,w.cell? (Ze (aa.block) (aa.off+i *4+3))=some (.slice (some ad) k.B.length rc)
theorem AZ.same''{g:Zh}{b:Nat}{i e d:Int}{T:Value}(h:AZ w b i f e d T P L)(r:g.heap[b]?=w.heap[b]?)(s:b<g.heap.size):AZ g b i f e d T P L:=by obtain⟨k,l,m,n,o,p,q,t⟩:=h;have c:=fun j=>World.cell?_of_block (a:=⟨b,j,none⟩) r;exact⟨(c 0).trans k,(c 1).trans l,(c 2).trans m,(c 3).trans n,(c 4).trans o,(c 5).trans p,(c 6).trans q,s⟩
structure Kj (w wr:Zh) (k tg tc:Nat) (rs:Zj) (wd now given births:Int) (A P L:Value) (ks:List Kd):Prop where
 o:Aa wr (w.heap.size+1+1) [Zg wd,Zg now,Zg given,Zg births,.slice (some ⟨tg,0,none⟩) k tc,P,L]
 gh:Aa wr (w.heap.size+1) z7
 box:AZ wr w.heap.size wd now given births A P L
 aj:wr.ownsRow (w.heap.size+3) 99 4 (.slice (some ⟨tg,0,none⟩) k tc) k (Ab kC ((ks.take k).zip rs))
 len:rs.length=k
 B:∀(i:Nat) (x:Kd) (r:Value),(ks.take k)[i]?=some x->rs[i]?=some r->wr.ownsRow (w.heap.size+3) 9 1 r x.B.length (x.B.map Value.string)
 all:∀v∈rs,∃g n c,v=Value.slice (some ⟨g,0,none⟩) n c
 nd:(tg::rs.filterMap Value.ownBlock).Nodup
 br:Below w.heap.size w wr
theorem Kj.step{wr U t D:Zh}{k s tc:Nat}{C:Zj}{Z S l:Int}{A:Value}{q:List Kd}{x:Kd}{u c3 p c4:Nat}(h:Kj w wr k s tc C Z S l f A P L q)(Y:q[k]?=some x)(X:Zz wr U)(W:Zz U t)(N:t.ownsRow U.heap.size 9 1 (Za u x.B.length c3) x.B.length (x.B.map Value.string))(o:t.grownBy D (some s))(zF:D.ownsRow (w.heap.size+3) 99 4 (Za p (k+1) c4) (k+1) (Ab kC ((q.take k).zip C)++kC (x,Za u x.B.length c3)))(J:p=s\/t.heap.size<=p):Kj w (D.setCell (Ze (w.heap.size+1+1) 4) (Za p (k+1) c4)) (k+1) p c4 (C++[Za u x.B.length c3]) Z S l f A P L q:=by
 have zC:=(Zw Y).1;have R:q.take (k+1)=q.take k++[x]:=by obtain⟨_,rfl⟩:=Zw Y;exact Zu zC
 have zK:=Ac h.aj (g:=s) rfl;have l3:=Ac N (g:=u) rfl;have zH:=X.size;have zM:=W.size;have zJ:=h.o.lt;have m:Below wr.heap.size wr t:=X.trans (W.mono zH);have Q:∀b,b<t.heap.size->b≠s->b≠w.heap.size+1+1->(D.setCell (Ze (w.heap.size+1+1) 4) (Za p (k+1) c4)).heap[b]?=t.heap[b]?:=fun b E T V=>(Below.heap_setCell _ _ _ _ (by simpa using V)).trans (o.block b E (fun e=>T (Option.some.inj e)))
 have n:∀b,b<wr.heap.size->b≠s->b≠w.heap.size+1+1->(D.setCell (Ze (w.heap.size+1+1) 4) (Za p (k+1) c4)).heap[b]?=wr.heap[b]?:=fun b E T V=>(Q b Yw T V).trans (m.block b E);have K:(q.take k).length=k:=by rw[List.length_take];omega
 have G:∀r∈C,∀g,r.ownBlock=some g->w.heap.size+3<=g/\g<wr.heap.size:=by
  intro r d g c;obtain⟨i,I⟩:=List.getElem?_of_mem d;have zI:i<k:=by have:=(Zw I).1;have:=h.len;omega
  exact Ac (h.B i _ r (Zv Yw) I) c
 have zE:∀r∈C,∀g,r.ownBlock=some g->g≠s:=fun r d g c e=>(List.nodup_cons.1 h.nd).1 (e▸List.mem_filterMap.2 ⟨r,d,c⟩);refine⟨?_,?_,?_,?_,by simp[h.len],?_,?_,?_,?_⟩
 .have E:Aa D (w.heap.size+1+1) _:=Aa.same (Aa.below h.o m) (o.block _ Yw (fun e=>by have:=Option.some.inj e;omega));exact Aa.set E 4 _
 .exact Aa.same h.gh (n _ Yw Yw Yw)
 .exact AZ.same'' h.box (n _ Yw Yw Yw) (by simp;have:=o.size;omega)
 .rw[R,List.zip_append (by rw[K,h.len]),Bm];exact Bn zF (fun g c=>by simp[Value.ownBlock]at c;omega) 4 _
 .intro i y r B d;rw[R]at B;have zG:=h.len;rcases Nat.lt_or_ge i k with I|I
  .rw[List.getElem?_append_left Yw]at B d;have j:=Zs d;exact Ak (h.B i y r B d) (fun g c=>n g (G r j g c).2 (zE r j g c) (by have:=(G r j g c).1;omega))
  .have zB:i=k:=by have:=(Zw d).1;simp at this;omega
   subst zB;rw[List.getElem?_append_right Yw,K,Nat.sub_self]at B;rw[List.getElem?_append_right Yw,zG,Nat.sub_self]at d;simp at B d;subst B;subst d;exact Ak (World.ownsRow.mono N Yw) (fun g c=>by simp[Value.ownBlock]at c;subst c;exact Q _ l3.2 Yw Yw)
 .intro v z;rcases List.mem_append.1 z with z|z
  .exact h.all v z
  .simp at z;exact⟨_,_,_,z⟩
 .rw[List.filterMap_append];have zA:List.filterMap Value.ownBlock [Za u x.B.length c3]=[u]:=by simp[Value.ownBlock]
  rw[zA];have O:∀b∈C.filterMap Value.ownBlock,b<wr.heap.size:=fun b F=>by obtain⟨r,d,F⟩:=List.mem_filterMap.1 F;exact(G r d b F).2
  have M:=List.nodup_cons.1 h.nd;refine List.nodup_cons.2 ⟨?_,?_⟩
  .intro j;rcases List.mem_append.1 j with j|j
   .rcases J with rfl|H
    .exact M.1 j
    .have:=O _ j;omega
   .simp at j;have:=o.size;rcases J with H|H<;>omega
  .refine List.nodup_append.2 ⟨M.2,Yv,fun a H b F e=> ?_⟩;simp at F;have:=O a H;omega
 .exact(((h.br.trans (m.mono h.br.size)).grown o (by have:=h.br.size;omega) (fun g c=>by cases c;omega))).setCell Yu _
theorem Gx{P:Program}(w:Zh){B:Array Oper}{rest:List Oper}{o:Oper}{a:Act}{Q:Exit->Act->Zh->Prop}(y:o.guard=none)(s x:Operand)(t:TypeId)(F:o.op=.call {callee:=.builtin .append,args:= #[s,x],argTypes:= #[t,t]})(base:Nat)(e:TypeId)(i:TypeInfo)(z:Value)(size bytes:Nat)(H:P.underlying t=some (.slice e))(D:P.info? e=some i)(S:i.zero=some z)(k:i.size=size)(K:i.bytes=bytes)(M:z.cells.size=size)(L:0<size)(v:Value)(n:Nat)(q:Zj)(G:a.eval s=v)(b:w.ownsRow base e size v n q)(p:Zk)(m c:Nat)(news:Zj)(I:a.eval x=.slice p m c)(r:p=none->m=0/\c=0)(E:news.length=m *size)(g:∀A,p=some A->∀j u,news[j]?=some u->w.cell? (A.add j)=some u)(N:∀u∈news,u.oneCell'=true)(J:n+m<=maxLen)(d:(n+m) *bytes<=140737488355328)(f:base<=w.heap.size)(h:∀l C,C.ownsRow base e size l (n+m) (q++news)->w.grownBy C v.ownBlock->(l=Zc↔v=Zc/\m=0)->(l.ownBlock=v.ownBlock\/l.ownBlock=some w.heap.size)->wpList P B Q rest (a.put o.dst l) C):
 wpList P B Q (o::rest) a w:=by
 cases p with
 |some A=>exact wpList_append_own_at w y s x t F base e i z size bytes H D S k K M L v n q G b A m c news I E (g A rfl) N J d f h
 |none=>obtain⟨rfl,rfl⟩:=r rfl;have O:news=[]:=List.eq_nil_of_length_eq_zero (by simpa using E);subst O;have R:(Builtin.append_ #[t,t] o.type #[v,Zc]).run P w=.ok v w:=run_append_owned_none (P:=P) w base t o.type e i size H D v n q b;exact wpList_append_run y s x t t F G I R (h v w (by simpa using b) ⟨rfl,rfl,rfl,Zx,fun _ _ _=>rfl⟩ Yv (.inl rfl))
theorem AG.fc{d:List Pd}(h:AG w B a d)(c:a=some A):∀j u,(Ab pC d)[j]?=some u->w.cell? (A.add j)=some u:=by
 rcases h with h|⟨b,f,e,g,i⟩
 .subst h;intro j u hu;simp[Ab]at hu
 .rw[e]at c;cases c;exact AG.di (B:=B) (.inr ⟨b,f,rfl,g,i⟩)
theorem AI.fc{d:List Ld}(h:AI w B a d)(c:a=some A):∀j u,(Ab lC d)[j]?=some u->w.cell? (A.add j)=some u:=by
 rcases h with h|⟨b,f,e,g,i⟩
 .subst h;intro j u hu;simp[Ab]at hu
 .rw[e]at c;cases c;exact AI.di (B:=B) (.inr ⟨b,f,rfl,g,i⟩)
theorem IY(M C d a:Int)(sa L H:Zk)(ac O N:Nat)(m:List Kd)(f:List Pd)(s:List Ld)(w:Zh)(zG:BI w w.heap.size sa L H m f s)(S:∀A,sa=some A->Fk w A m)(xS:L=none->O=0)(xN:H=none->N=0)(hk:m.length<=600)(hp:f.length<=100)(hl:s.length<=200)(zY:∀k∈m,k.B.length<=30):
 Calls prog 47 #[.agg (Yi M C d a sa m.length ac L f.length O H s.length N)] w fun e w'=>∃T P' L' Q,e=.returned (.agg #[Zg M,Zg C,Zg d,Zg a,T,P',L'])/\Bf w' w.heap.size T P' L' Q m f s/\(∀v∈T::P'::L'::Q,∃g n c,v=Za g n c)/\Zz w w':=by
 obtain⟨W,hW⟩:∃W,W=(((w.alloc (.cells (Yi M C d a sa m.length ac L f.length O H s.length N) 40)).alloc (.cells Yk 40)).alloc (.cells (Yi M C d a (some ⟨w.heap.size+1+1+1,0,none⟩) 0 0 L f.length O H s.length N) 40)).alloc (.cells #[] 99):=⟨_,rfl⟩;have hB:=(al4 hW).1;have yS:=(al4 hW).2.1
 have xW:AZ W w.heap.size M C d a (.slice sa m.length ac) (.slice L f.length O) (.slice H s.length N):=by rw[hW];exact⟨by simp[go_sem],by simp[go_sem],by simp[go_sem],by simp[go_sem],by simp[go_sem],by simp[go_sem],by simp[go_sem],Yu⟩
 have zR:Aa W (w.heap.size+1) z7:=by intro j v K;have hj:j<7:=(Zw K).1;rw[hW];rcases(show j=0\/j=1\/j=2\/j=3\/j=4\/j=5\/j=6 by omega)with rfl|rfl|rfl|rfl|rfl|rfl|rfl<;>(simp[z7]at K;subst K;simp[go_sem])
 have zO:Aa W (w.heap.size+1+1) (Yj M C d a (some ⟨w.heap.size+1+1+1,0,none⟩) 0 0 L f.length O H s.length N):=by intro j v K;have hj:j<7:=(Zw K).1;rw[hW];rcases(show j=0\/j=1\/j=2\/j=3\/j=4\/j=5\/j=6 by omega)with rfl|rfl|rfl|rfl|rfl|rfl|rfl<;>(simp at K;subst K;simp[go_sem])
 have oT:W.ownsRow (w.heap.size+3) 99 4 (Za (w.heap.size+1+1+1) 0 0) 0 (Ab kC []):=by have:=World.ownsRow_lit (base:=w.heap.size+3) (e:=99) (size:=4) (((w.alloc (.cells (Yi M C d a sa m.length ac L f.length O H s.length N) 40)).alloc (.cells Yk 40)).alloc (.cells (Yi M C d a (some ⟨w.heap.size+1+1+1,0,none⟩) 0 0 L f.length O H s.length N) 40)) #[] 0 Yv Yq rfl;rw[<-hW]at this;simpa [Ab]using this
 have B:=Yx (Zn zG S);have HW:=Yx hW;have xE:=Yx yS;have H0:=Yx (Zn zO (Zn zR (Zn xW oT)));clear hW zG S zO zR xW oT yS;go_enter func47,ntmps47;go_upto_region 3 with fail;rw[<-HW.o];clear HW;go_wp2
 go_loopw [4] (fun i wr=>∃(k R tc:Nat) (Q:Zj),k<=m.length/\i=Zg k/\Hid (Kj w wr k R tc Q M C d a (.slice sa m.length ac) (.slice L f.length O) (.slice H s.length N) m)) (fun i _=>m.length -(intOf i).toNat)
 case atStart=>exact⟨0,w.heap.size+1+1+1,0,[],Nat.zero_le _,rfl,⟨H0.o.1,H0.o.2.1,H0.o.2.2.1,H0.o.2.2.2,rfl,(fun i x r hx=>by simp at hx),(fun v K=>by simp at K),Yv,hB⟩⟩
 case round=>
  clear H0;obtain⟨k,R,tc,Q,vJ,rfl,E⟩:=hrel;have G:=E.o.br;have zI:=G.size;obtain⟨x0,x1,x2,x3,x4,x5,x6,x7⟩:=E.o.box;by_cases zA:k<m.length
  .obtain⟨ab,ao,ha,hb,hc⟩:=(By.below B.o.1.k G).at zA;subst ha;have HG:Hid (m[k]?=some m[k]):=Zv zA;obtain⟨c0,c1,c2,ra,rc,c3,yM⟩:=hc k _ HG.o;obtain⟨ad,vK,hs⟩:=B.o.2 _ rfl k _ HG.o;have yQ:=(G.cell (p:=⟨ab,ao+k *4+3,none⟩) hb).trans hs;rw[c3]at yQ;cases yQ;have vE:=zY _ (List.getElem_mem zA);have vF:Hid (m.take (k+1)=m.take k++[m[k]]):=Zu zA;have vH:ab<wr.heap.size:=Yw
   have xA:=Yx (Ad.mono yM zI);clear hc hs yM;generalize m[k]=x at *
   obtain⟨U,hU⟩:∃U,U=wr.alloc (.cells #[.string x.sum,Zg x.born,.string x.M,.slice (some ad) x.B.length rc] 99):=⟨_,rfl⟩;have bU:=(AA hU).1;have zU:=(AA hU).2.1;have KU:=(AA hU).2.2;obtain⟨i0,hi,xV,xX,xY⟩:=info_parts Hf;have l:=xE.o;have xZ:w.heap.size+4<=wr.heap.size\/True:=.inr trivial;have xO:w.heap.size+1+1<wr.heap.size:=E.o.o.lt;have zP:=Ac E.o.aj (g:=R) rfl;have HU:=Yx hU
   have SU:=Aa.below E.o.o bU;have u4:=(SU 4 _ rfl).1;obtain⟨k0,k1,k2,k3⟩:=Aa.c4 KU 0 1 2 3;have oU:=Ae E.o.aj bU;have HT:=Yx oU;have HS:=Yx SU;have yA:=Yx KU;have xC:=Yx bU;have xD:=Yx zU;have yZ:Hid (Ad U.drew U.drew.heap.size (some ad) x.B):=Ad.mono (Ad.below xA.o bU.drew) bU.size;have xT:x.B.length<=100000:=Yw
   have zV:¬w.heap.size+1+1=wr.heap.size:=Yw
   clear hU oU SU KU bU zU l xZ;go_upto_region 7 with fail;rw[<-HU.o];clear HU x0 x1 x2 x3 x4 x5 x6 x7 c0 c1 c2 c3
   go_region_law (first
    |(go_simp;go_at_call 93;refine(OV x.M ad rc x.B U.drew yZ.o xT).mono ?_;rintro e y ⟨V,c3,rfl,I,Y⟩;have F:Below U.heap.size U y:=⟨Y.os,Y.tape,Y.output,Y.size,Y.block⟩;have z3:=F.size;have J:=Aa.below HS.o F;have n4:=(J 4 _ rfl).1;obtain⟨m0,_⟩:=Aa.below yA.o F 0 _ rfl;obtain⟨m1,_⟩:=Aa.below yA.o F 1 _ rfl;have bA:Below y.heap.size y (y.alloc (.cells #[.string x.sum,Zg x.born,.string x.M,Za V x.B.length c3] 99)):=Zy;have a4:=(Aa.below J bA 4 _ rfl).1;have l:=xD.o;obtain⟨v5,w5,hr5,ho5,hg5,_,ha5⟩:=run_append_own_at (P:=prog) (y.alloc (.cells #[.string x.sum,Zg x.born,.string x.M,Za V x.B.length c3] 99)) (w.heap.size+3) 36 36 99 i0 _ 4 64 underlying36 hi xV xX xY rfl Ys _ k _ (Ae (Ae HT.o F) bA) ⟨y.heap.size,0,none⟩ 1 1 (kC (x,Za V x.B.length c3)) rfl (Sb y x V c3) (VO x V c3) Yq Yw Yu;obtain⟨g4,c4,rfl,hg4a,hg4b⟩:=Cc ho5 (Aae ho5 Yw);have vA:=Ac I (g:=V) rfl;have zF:y.grownBy w5 (some R):=Aw (Aq _ bA) hg5;have zC:g4=R\/y.heap.size<=g4:=ha5.imp (fun e=>by simpa [Value.ownBlock]using e) (fun e=>by simp[Value.ownBlock]at e;omega);have yI:w5.heap[w.heap.size+1+1]?=(y.alloc (.cells #[.string x.sum,Zg x.born,.string x.M,Za V x.B.length c3] 99)).heap[w.heap.size+1+1]?:=hg5.block _ Yu (by simp[Value.ownBlock];omega);have S5:=Aa.same (Aa.below J bA) yI;have y5:=(S5 4 _ rfl).1;have f5:=(S5 4 _ rfl).2;clear l;go_wp2_with fail)
    |(refine Bv Yr (.tmp 22) (.tmp 31) 36 36 Yr Yr Yr hr5 ?_))
   all_goals
    have HF:Hid (Kj w _ (k+1) g4 c4 (Q++[Za V x.B.length c3]) M C d a (.slice (some ⟨ab,ao,none⟩) m.length ac) (.slice L f.length O) (.slice H s.length N) m):=Kj.step E.o HG.o xC.o F I zF ho5 zC;clear I Y F z3 J n4 m0 m1 bA a4 hr5 ho5 hg5 ha5 zF zC hg4a hg4b vA yI S5 y5 f5 u4 k0 k1 k2 k3;go_wp2;exact⟨⟨k+1,g4,c4,Q++[Za V x.B.length c3],Yw,Yp,HF⟩,by simp[intOf];omega⟩
  .obtain rfl:k=m.length:=Yw
   have hI:=E.o;have zP:=Ac hI.aj (g:=R) rfl;have xO:=hI.o.lt;obtain⟨ip,xJ,xP,xQ,xR⟩:=info_parts GY;obtain⟨il,xI,xK,xL,xM⟩:=info_parts Gv;have bP:Below wr.heap.size wr (wr.alloc (.cells #[] 163)):=Zy;have u5:=(hI.o 5 _ rfl);have zV:¬w.heap.size+1+1=wr.heap.size:=Yw
   have yP:AG wr wr.heap.size L f:=AG.mono (AG.below B.o.1.p G) zI;have xB:=Yx yP;have yY:Hid (L=none->f.length=0):=fun e=>by
    rcases B.o.1.p with h|⟨q,o,h,_⟩
    .rw[h];rfl
    .rw[e]at h;cases h
   have yW:Hid (H=none->s.length=0):=fun e=>by
    rcases B.o.1.l with h|⟨q,o,h,_⟩
    .rw[h];rfl
    .rw[e]at h;cases h
   clear hI x0 x1 x2 x3 yP u5;go_wp2_with (first
    |(at_builtin;refine Gx _ rfl _ _ 37 rfl (w.heap.size+3) 163 ip _ 2 32 underlying37 xJ xP xQ xR rfl Ys _ 0 (Ab pC []) rfl ?d0 L f.length O (Ab pC f) rfl ?dn ?d1 ?d2 ?d3 ?d4 ?d5 ?d6 ?_)
    |go_in)
   case d0=>exact World.ownsRow_lit (base:=w.heap.size+3) (e:=163) (size:=2) wr #[] 0 Yw Yq rfl
   case dn=>exact fun e=>⟨yY.o e,xS e⟩
   case d1=>exact Bu BM f
   case d2=>exact fun A hA=>AG.fc (AG.below xB.o bP) hA
   case d3=>exact Jy f
   case d4=>unfold maxLen;omega
   case d5=>omega
   case d6=>simp;omega
   intro v1 z Z zM yG zS;obtain⟨t,D,rfl,vD,zW⟩:=Cc Z yG;rw[show Ab pC []=[]from rfl,List.nil_append]at Z;have b1:Below wr.heap.size wr z:=bP.grown zM Yv (fun q l=>by simp[Value.ownBlock]at l;omega);have z1:=b1.size;have S1:=Aa.below E.o.o b1;obtain⟨s5,f5⟩:=S1 5 _ rfl;obtain⟨_,_,_,_,_,_,z6,_⟩:=AZ.below E.o.box b1;have yL:wr.heap.size<=t:=by
    rcases(Ac Z (g:=t) rfl)with⟨X,h2⟩;have:=zM;rcases Nat.lt_or_ge t wr.heap.size with h|h
    .exfalso;have hb:=b1.block t h;rcases Z.2 with⟨e,_⟩|⟨q,cq,vG,e,_,l,_⟩
     .cases e
     .cases e;exact absurd h (by rcases zS with hh|hh<;>simp[Value.ownBlock]at hh<;>omega)
    .exact h
   have S2:=Aa.set S1 5 (Za t f.length D);have xF:(z.setCell (Ze (w.heap.size+1+1) 5) (Za t f.length D)).heap.size=z.heap.size:=Yv
   have yO:AI z z.heap.size H s:=AI.mono (AI.below B.o.1.l (G.trans (b1.mono zI))) Yw;have bL:Below z.heap.size z z:=Below.refl _ _;have yB:Hid (∀A,H=some A->∀j u,(Ab lC s)[j]?=some u->((z.setCell (Ze (w.heap.size+1+1) 5) (Za t f.length D)).alloc (.cells #[] 164)).cell? (A.add j)=some u):=by
    intro A hA j u hu;rcases B.o.1.l with h|⟨lb,lo,e,zA,_⟩
    .subst h;simp[Ab]at hu
    .rw[e]at hA;cases hA;have X:=AI.fc yO e j u hu;rw[Go.WideShapes.add_plain]at X |-;rw[World.cell?_of_block (Below.heap_alloc _ _ _ Yu),World.cell?_of_block (Below.heap_setCell _ _ _ _ Yu)];exact X
   have yX:=Yx Z;have yC:=Yx S2;have zZ:=Yx b1;have yU:¬w.heap.size+1+1=z.heap.size:=Yw
   have yV:¬w.heap.size=w.heap.size+1+1:=Yw
   clear Z zM yG b1 S1 S2 x5 x6 x4 yO bL;go_wp2_with (first
    |(at_builtin;refine Gx _ rfl _ _ 38 rfl (w.heap.size+3) 164 il _ 3 32 underlying38 xI xK xL xM rfl Ys _ 0 (Ab lC []) rfl ?e0 H s.length N (Ab lC s) rfl ?en ?e1 ?e2 ?e3 ?e4 ?e5 ?e6 ?_)
    |go_in)
   case e0=>
    have:=World.ownsRow_lit (base:=w.heap.size+3) (e:=164) (size:=3) (z.setCell (Ze (w.heap.size+1+1) 5) (Za t f.length D)) #[] 0 Yu Yq rfl;rw[xF]at this;exact this
   case en=>exact fun e=>⟨yW.o e,xN e⟩
   case e1=>exact Bu Cy s
   case e2=>exact yB.o
   case e3=>exact Vu s
   case e4=>unfold maxLen;omega
   case e5=>omega
   case e6=>simp;omega
   intro v3 y I yE yH zE;obtain⟨lg,zJ,rfl,vC,zT⟩:=Cc I yH;rw[show Ab lC []=[]from rfl,List.nil_append]at I;have F:Below z.heap.size (z.setCell (Ze (w.heap.size+1+1) 5) (Za t f.length D)) y:=by have h0:Below z.heap.size (z.setCell (Ze (w.heap.size+1+1) 5) (Za t f.length D)) ((z.setCell (Ze (w.heap.size+1+1) 5) (Za t f.length D)).alloc (.cells #[] 164)):=(Below.refl _ _).alloc Yv _;exact h0.grown yE Yv (fun q l=>by simp[Value.ownBlock]at l;omega)
   have z3:z.heap.size<=y.heap.size:=by have:=F.size;simpa using this
   have yF:z.heap.size<=lg:=by rcases zE with hh|hh<;>simp[Value.ownBlock]at hh<;>omega
   have zX:t<z.heap.size:=zW;have J:Aa y (w.heap.size+1+1) _:=Aa.same yC.o (F.block _ Yw);have S4:=Aa.set J 6 (Za lg s.length zJ);obtain⟨r6,f6⟩:=J 6 _ rfl;have r0:=(J 0 _ rfl).1;have r1:=(J 1 _ rfl).1;have r2:=(J 2 _ rfl).1;have r3:=(J 3 _ rfl).1;have r4:=(J 4 _ rfl).1;have r5:=(J 5 _ rfl).1
   have zB:∀q,q<wr.heap.size->q≠w.heap.size+1+1->y.heap[q]?=wr.heap[q]?:=fun q X h2=>((F.block q Yw).trans (Below.heap_setCell _ _ _ _ (by simpa using h2))).trans (zZ.o.block q X);have R3:Aa y (w.heap.size+1) z7:=Aa.same E.o.gh (zB _ Yw Yw);obtain⟨⟨y0,q0⟩,⟨y1,q1⟩,⟨y2,q2⟩,⟨y3,q3⟩,⟨y4,q4⟩,⟨y5,q5⟩,y6,q6⟩:=RL R3;have yT:¬w.heap.size+1+1=w.heap.size+1:=Yw
   have yK:∀q,(Za t f.length D).ownBlock=some q->t=q:=fun q l=>by simpa [Value.ownBlock]using l
   have zH:y.ownsRow (w.heap.size+3) 163 2 (Za t f.length D) f.length (Ab pC f):=Ak (Bn (b:=w.heap.size+1+1) yX.o (fun q l=>by have:=yK q l;omega) 5 (Za t f.length D)) (fun q l=>(yK q l)▸F.block t zX);have H3:=Yx (Zn I (Zn zH (Zn zB (Zn F (Zn yF (Zn yL z3))))));clear I yE yH zE zH zB F J S4 R3 z6 s5 f5 yB yC;go_wp2;obtain⟨I,zH,zB,F,yF,yL,z3⟩:=H3.o
   have hX:∀q,q<y.heap.size->q≠w.heap.size+1+1->q≠w.heap.size+1->(((((((((y.setCell (Ze (w.heap.size+1+1) 6) (Za lg s.length zJ)).setCell (Ze (w.heap.size+1) 0) (Zg M)).setCell (Ze (w.heap.size+1) 1) (Zg C)).setCell (Ze (w.heap.size+1) 2) (Zg d)).setCell (Ze (w.heap.size+1) 3) (Zg a)).setCell (Ze (w.heap.size+1) 4) (Za R m.length tc)).setCell (Ze (w.heap.size+1) 5) (Za t f.length D)).setCell (Ze (w.heap.size+1) 6) (Za lg s.length zJ))).heap[q]?=y.heap[q]?:=fun q _ h2 h3=>by
    rw[Below.heap_setCell _ _ _ _ (by simpa using h3),Below.heap_setCell _ _ _ _ (by simpa using h3),Below.heap_setCell _ _ _ _ (by simpa using h3),Below.heap_setCell _ _ _ _ (by simpa using h3),Below.heap_setCell _ _ _ _ (by simpa using h3),Below.heap_setCell _ _ _ _ (by simpa using h3),Below.heap_setCell _ _ _ _ (by simpa using h3),Below.heap_setCell _ _ _ _ (by simpa using h2)]
   have xU:m.take m.length=m:=Zt (Zx);have yD:=E.o.aj;have zK:=E.o.B;have xH:=E.o.nd;have xG:=E.o.len;rw[xU]at yD zK;have zN:∀r∈Q,∀q,r.ownBlock=some q->w.heap.size+3<=q/\q<wr.heap.size:=by intro r hr q l;obtain⟨i,hi⟩:=List.getElem?_of_mem hr;have vI:=(Zw hi).1;exact Ac (zK i m[i] r (Zv Yw) hi) l
   have yR:∀q,q<wr.heap.size->w.heap.size+3<=q->_:=fun q X h2=>(hX q Yw Yw Yw).trans (zB q X Yw);refine bodyPost_ret (v:=.agg (Yi M C d a (some ⟨R,0,none⟩) m.length tc (some ⟨t,0,none⟩) f.length D (some ⟨lg,0,none⟩) s.length zJ)) (by simp[results,results47,go_sem,y0,y1,y2,y3,y4,y5,y6]) rfl ⟨_,_,_,Q,rfl,⟨xG,?_,?_,?_,?_,?_⟩,?_,?_⟩
   .exact(Ak yD (fun q l=>by have e:R=q:=by simpa [Value.ownBlock]using l
                             rw[<-e];exact yR R zP.2 zP.1)).mono Yw
   .intro i x r hx hr;have hm:=Zs hr;exact(Ak (zK i x r hx hr) (fun q l=>yR q (zN r hm q l).2 (zN r hm q l).1)).mono Yw
   .exact(Ak zH (fun q l=>by have e:t=q:=by simpa [Value.ownBlock]using l
                             rw[<-e];exact hX t Yw Yw Yw)).mono Yw
   .exact(Ak I (fun q l=>by have e:lg=q:=by simpa [Value.ownBlock]using l
                            rw[<-e];exact hX lg zT Yw Yw)).mono Yw
   .rw[FA];unfold Bj;have yJ:=List.nodup_cons.1 xH;have yN:∀q∈Q.filterMap Value.ownBlock,q<wr.heap.size:=fun q l=>by obtain⟨r,hr,l⟩:=List.mem_filterMap.1 l;exact(zN r hr q l).2
    simp only[Value.ownBlock,Option.toList_some,List.cons_append,List.nil_append,List.nodup_cons,List.mem_cons,not_or];refine⟨⟨Yw,Yw,yJ.1⟩,⟨Yw,fun h=>by have:=yN _ h;omega⟩,fun h=>by have:=yN _ h;omega,yJ.2⟩
   .intro v K;simp only[List.mem_cons]at K;rcases K with rfl|rfl|rfl|K
    .exact⟨_,_,_,rfl⟩
    .exact⟨_,_,_,rfl⟩
    .exact⟨_,_,_,rfl⟩
    .exact E.o.all v K
   .have X:Below w.heap.size w y:=by have h0:=G.trans (zZ.o.mono zI);exact(h0.setCell Yu _).trans (F.mono Yw)
    exact FJ (X.setCell (p:=⟨w.heap.size+1+1,6,none⟩) Yu _) Yw _ _ _ _ _ _ _
end Go.Proofs.YtcankpdbabaacaaGreatDoor
