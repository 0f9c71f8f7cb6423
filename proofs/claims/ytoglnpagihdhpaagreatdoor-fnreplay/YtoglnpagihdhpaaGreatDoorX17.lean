import Derived.Test.YtoglnpagihdhpaaGreatDoorX12
set_option maxRecDepth 100000
set_option maxHeartbeats 16000000
namespace Go.Proofs.YtoglnpagihdhpaaGreatDoor
open ChangeShapes WideShapes ChangeAt RowKit _root_.Go.Proofs.Tryz
variable{w:Zh}{a:Zk}{now:Int}{P L:Value}{A:Addr}{B:Nat}
theorem Sh(w:Zh)(x:Kd)(g c:Nat):∀j u,(kC (x,Yz g x.B.length c))[j]?=some u->(w.alloc (.cells #[.string x.sum,Zg x.born,.string x.J,Yz g x.B.length c] 66)).cell? ((⟨w.heap.size,0,none⟩:Addr).add j)=some u:=by intro j u a;rw[Go.WideShapes.add_plain,Nat.zero_add];exact((Aa.new w (kC (x,Yz g x.B.length c)) 66) j u a).1
theorem Vv(x:Kd)(g c:Nat):∀u∈kC (x,Yz g x.B.length c),u.oneCell'=true:=by intro u a;simp[kC]at a;rcases a with rfl|rfl|rfl|rfl<;>rfl
theorem ZO{a:Nat}{e:TypeId}{size:Nat}{v:Value}{n:Nat}{b:Zj}(h:w.ownsRow a e size v n b)(c:0<n):v≠Zb:=by
 intro e;subst e;rcases h.2 with⟨_,d⟩|⟨_,_,_,e,_⟩
 .omega
 .cases e
def Ev(w:Zh)(aa:Addr)(ks:List Kd):Prop:=∀(i:Nat) (k:Kd),ks[i]?=some k->∃ad rc,w.cell? (Zd (aa.block) (aa.off+i *4+3))=some (.slice (some ad) k.B.length rc)
theorem AN.same''{f:Zh}{b:Nat}{g e d:Int}{T:Value}(h:AN w b g now e d T P L)(r:f.heap[b]?=w.heap[b]?)(s:b<f.heap.size):AN f b g now e d T P L:=by obtain⟨i,k,l,m,n,o,q,t⟩:=h;have c:=fun j=>World.cell?_of_block (a:=⟨b,j,none⟩) r;exact⟨(c 0).trans i,(c 1).trans k,(c 2).trans l,(c 3).trans m,(c 4).trans n,(c 5).trans o,(c 6).trans q,s⟩
def ND(w:Zh)(aa:Addr)(ks:List Kd):Prop:=∀(i:Nat) (k:Kd),ks[i]?=some k->∀rc,w.cell? (Zd (aa.block) (aa.off+i *4+3))=some (.slice none k.B.length rc)->rc=0
theorem Ev.cp{b:List Kd}(h:Ev w A b):ND w A b:=fun i k d g a=>by obtain⟨f,e,c⟩:=h i k d;rw[c]at a;cases a
structure Kr (w wr:Zh) (k tg tc:Nat) (rs:Zj) (wd now given births:Int) (A P L:Value) (ks:List Kd):Prop where
 o:Aa wr (w.heap.size+1+1) [Zg wd,Zg now,Zg given,Zg births,.slice (some ⟨tg,0,none⟩) k tc,P,L]
 gd:Aa wr (w.heap.size+1) z7
 box:AN wr w.heap.size wd now given births A P L
 ak:wr.ownsRow (w.heap.size+3) 66 4 (.slice (some ⟨tg,0,none⟩) k tc) k (Ab kC ((ks.take k).zip rs))
 len:rs.length=k
 B:∀(i:Nat) (x:Kd) (r:Value),(ks.take k)[i]?=some x->rs[i]?=some r->wr.ownsRow (w.heap.size+3) 9 1 r x.B.length (x.B.map Value.string)
 all:∀v∈rs,∃g n c,v=Value.slice (some ⟨g,0,none⟩) n c
 nd:(tg::rs.filterMap Value.ownBlock).Nodup
 cu:Below w.heap.size w wr
theorem Kr.step{wr U u E:Zh}{k t tc:Nat}{D:Zj}{Z l f:Int}{A:Value}{s:List Kd}{x:Kd}{z c3 q c4:Nat}(h:Kr w wr k t tc D Z now l f A P L s)(Y:s[k]?=some x)(X:Zz wr U)(W:Zz U u)(O:u.ownsRow U.heap.size 9 1 (Yz z x.B.length c3) x.B.length (x.B.map Value.string))(o:u.grownBy E (some t))(zF:E.ownsRow (w.heap.size+3) 66 4 (Yz q (k+1) c4) (k+1) (Ab kC ((s.take k).zip D)++kC (x,Yz z x.B.length c3)))(K:q=t\/u.heap.size<=q):Kr w (E.setCell (Zd (w.heap.size+1+1) 4) (Yz q (k+1) c4)) (k+1) q c4 (D++[Yz z x.B.length c3]) Z now l f A P L s:=by
 have zC:=(Zw Y).1;have S:s.take (k+1)=s.take k++[x]:=by obtain⟨_,rfl⟩:=Zw Y;exact Zu zC
 have zK:=Ac h.ak (g:=t) rfl;have l3:=Ac O (g:=z) rfl;have zH:=X.size;have zM:=W.size;have zJ:=h.o.lt;have m:Below wr.heap.size wr u:=X.trans (W.mono zH);have R:∀b,b<u.heap.size->b≠t->b≠w.heap.size+1+1->(E.setCell (Zd (w.heap.size+1+1) 4) (Yz q (k+1) c4)).heap[b]?=u.heap[b]?:=fun b F T V=>(Below.heap_setCell _ _ _ _ (by simpa using V)).trans (o.block b F (fun e=>T (Option.some.inj e)))
 have n:∀b,b<wr.heap.size->b≠t->b≠w.heap.size+1+1->(E.setCell (Zd (w.heap.size+1+1) 4) (Yz q (k+1) c4)).heap[b]?=wr.heap[b]?:=fun b F T V=>(R b Yv T V).trans (m.block b F);have M:(s.take k).length=k:=by rw[List.length_take];omega
 have H:∀r∈D,∀g,r.ownBlock=some g->w.heap.size+3<=g/\g<wr.heap.size:=by
  intro r d g c;obtain⟨i,J⟩:=List.getElem?_of_mem d;have zI:i<k:=by have:=(Zw J).1;have:=h.len;omega
  exact Ac (h.B i _ r (Zv Yv) J) c
 have zE:∀r∈D,∀g,r.ownBlock=some g->g≠t:=fun r d g c e=>(List.nodup_cons.1 h.nd).1 (e▸List.mem_filterMap.2 ⟨r,d,c⟩);refine⟨?_,?_,?_,?_,by simp[h.len],?_,?_,?_,?_⟩
 .have F:Aa E (w.heap.size+1+1) _:=Aa.same (Aa.below h.o m) (o.block _ Yv (fun e=>by have:=Option.some.inj e;omega));exact Aa.set F 4 _
 .exact Aa.same h.gd (n _ Yv Yv Yv)
 .exact AN.same'' h.box (n _ Yv Yv Yv) (by simp;have:=o.size;omega)
 .rw[S,List.zip_append (by rw[M,h.len]),Bn];exact BM zF (fun g c=>by simp[Value.ownBlock]at c;omega) 4 _
 .intro i y r C d;rw[S]at C;have zG:=h.len;rcases Nat.lt_or_ge i k with J|J
  .rw[List.getElem?_append_left Yv]at C d;have j:=Zs d;exact Ak (h.B i y r C d) (fun g c=>n g (H r j g c).2 (zE r j g c) (by have:=(H r j g c).1;omega))
  .have zB:i=k:=by have:=(Zw d).1;simp at this;omega
   subst zB;rw[List.getElem?_append_right Yv,M,Nat.sub_self]at C;rw[List.getElem?_append_right Yv,zG,Nat.sub_self]at d;simp at C d;subst C;subst d;exact Ak (World.ownsRow.mono O Yv) (fun g c=>by simp[Value.ownBlock]at c;subst c;exact R _ l3.2 Yv Yv)
 .intro v B;rcases List.mem_append.1 B with B|B
  .exact h.all v B
  .simp at B;exact⟨_,_,_,B⟩
 .rw[List.filterMap_append];have zA:List.filterMap Value.ownBlock [Yz z x.B.length c3]=[z]:=by simp[Value.ownBlock]
  rw[zA];have Q:∀b∈D.filterMap Value.ownBlock,b<wr.heap.size:=fun b G=>by obtain⟨r,d,G⟩:=List.mem_filterMap.1 G;exact(H r d b G).2
  have N:=List.nodup_cons.1 h.nd;refine List.nodup_cons.2 ⟨?_,?_⟩
  .intro j;rcases List.mem_append.1 j with j|j
   .rcases K with rfl|I
    .exact N.1 j
    .have:=Q _ j;omega
   .simp at j;have:=o.size;rcases K with I|I<;>omega
  .refine List.nodup_append.2 ⟨N.2,Yu,fun a I b G e=> ?_⟩;simp at G;have:=Q a I;omega
 .exact(((h.cu.trans (m.mono h.cu.size)).grown o (by have:=h.cu.size;omega) (fun g c=>by cases c;omega))).setCell Yt _
theorem Gr{P:Program}(w:Zh){C:Array Oper}{rest:List Oper}{o:Oper}{a:Act}{Q:Exit->Act->Zh->Prop}(B:o.guard=none)(s x:Operand)(t:TypeId)(G:o.op=.call {callee:=.builtin .append,args:= #[s,x],argTypes:= #[t,t]})(base:Nat)(e:TypeId)(i:TypeInfo)(z:Value)(size bytes:Nat)(I:P.underlying t=some (.slice e))(E:P.info? e=some i)(T:i.zero=some z)(k:i.size=size)(L:i.bytes=bytes)(N:z.cells.size=size)(M:0<size)(v:Value)(n:Nat)(r:Zj)(H:a.eval s=v)(b:w.ownsRow base e size v n r)(q:Zk)(m c:Nat)(news:Zj)(J:a.eval x=.slice q m c)(y:q=none->m=0/\c=0)(F:news.length=m *size)(g:∀A,q=some A->∀j u,news[j]?=some u->w.cell? (A.add j)=some u)(O:∀u∈news,u.oneCell'=true)(K:n+m<=maxLen)(d:(n+m) *bytes<=140737488355328)(f:base<=w.heap.size)(h:∀l D,D.ownsRow base e size l (n+m) (r++news)->w.grownBy D v.ownBlock->(l=Zb↔v=Zb/\m=0)->(l.ownBlock=v.ownBlock\/l.ownBlock=some w.heap.size)->wpList P C Q rest (a.put o.dst l) D):
 wpList P C Q (o::rest) a w:=by
 cases q with
 |some A=>exact wpList_append_own_at w B s x t G base e i z size bytes I E T k L N M v n r H b A m c news J F (g A rfl) O K d f h
 |none=>obtain⟨rfl,rfl⟩:=y rfl;have R:news=[]:=List.eq_nil_of_length_eq_zero (by simpa using F);subst R;have S:(Builtin.append_ #[t,t] o.type #[v,Zb]).run P w=.ok v w:=run_append_owned_none (P:=P) w base t o.type e i size I E v n r b;exact wpList_append_run B s x t t G H J S (h v w (by simpa using b) ⟨rfl,rfl,rfl,Zx,fun _ _ _=>rfl⟩ Yu (.inl rfl))
theorem AO.fh{d:List Pd}(h:AO w B a d)(c:a=some A):∀j u,(Ab pC d)[j]?=some u->w.cell? (A.add j)=some u:=by
 rcases h with h|⟨b,f,e,g,i⟩
 .subst h;intro j u k;simp[Ab]at k
 .rw[e]at c;cases c;exact AO.dm (B:=B) (.inr ⟨b,f,rfl,g,i⟩)
theorem AM.fh{d:List Ld}(h:AM w B a d)(c:a=some A):∀j u,(Ab lC d)[j]?=some u->w.cell? (A.add j)=some u:=by
 rcases h with h|⟨b,f,e,g,i⟩
 .subst h;intro j u k;simp[Ab]at k
 .rw[e]at c;cases c;exact AM.dm (B:=B) (.inr ⟨b,f,rfl,g,i⟩)
theorem JS(L now d a:Int)(sa K G:Zk)(ac N M:Nat)(l:List Kd)(f:List Pd)(s:List Ld)(w:Zh)(zG:Bt w w.heap.size sa K G l f s)(R:∀A,sa=some A->ND w A l)(xS:K=none->N=0)(xN:G=none->M=0)(hk:l.length<=600)(hp:f.length<=100)(hl:s.length<=200)(zZ:∀k∈l,k.B.length<=30):
 Calls prog 23 #[.agg (Yg L now d a sa l.length ac K f.length N G s.length M)] w fun e w'=>∃T P' L' O,e=.returned (.agg #[Zg L,Zg now,Zg d,Zg a,T,P',L'])/\AY w' w.heap.size T P' L' O l f s/\(∀v∈T::P'::L'::O,∃g n c,v=Yz g n c)/\Zz w w':=by
 obtain⟨W,Z⟩:=Af ((((w.alloc (.cells (Yg L now d a sa l.length ac K f.length N G s.length M) 30)).alloc (.cells Yi 30)).alloc (.cells (Yg L now d a (some ⟨w.heap.size+1+1+1,0,none⟩) 0 0 K f.length N G s.length M) 30)).alloc (.cells #[] 66));have hB:=(YM Z).1;have yR:=(YM Z).2.1
 have xW:AN W w.heap.size L now d a (.slice sa l.length ac) (.slice K f.length N) (.slice G s.length M):=by rw[Z];exact⟨by simp[go_sem],by simp[go_sem],by simp[go_sem],by simp[go_sem],by simp[go_sem],by simp[go_sem],by simp[go_sem],Yt⟩
 have zR:Aa W (w.heap.size+1) z7:=by intro j v J;have hj:j<7:=(Zw J).1;rw[Z];rcases(show j=0\/j=1\/j=2\/j=3\/j=4\/j=5\/j=6 by omega)with rfl|rfl|rfl|rfl|rfl|rfl|rfl<;>(simp[z7]at J;subst J;simp[go_sem])
 have zO:Aa W (w.heap.size+1+1) (Yh L now d a (some ⟨w.heap.size+1+1+1,0,none⟩) 0 0 K f.length N G s.length M):=by intro j v J;have hj:j<7:=(Zw J).1;rw[Z];rcases(show j=0\/j=1\/j=2\/j=3\/j=4\/j=5\/j=6 by omega)with rfl|rfl|rfl|rfl|rfl|rfl|rfl<;>(simp at J;subst J;simp[go_sem])
 have oT:W.ownsRow (w.heap.size+3) 66 4 (Yz (w.heap.size+1+1+1) 0 0) 0 (Ab kC []):=by have:=World.ownsRow_lit (base:=w.heap.size+3) (e:=66) (size:=4) (((w.alloc (.cells (Yg L now d a sa l.length ac K f.length N G s.length M) 30)).alloc (.cells Yi 30)).alloc (.cells (Yg L now d a (some ⟨w.heap.size+1+1+1,0,none⟩) 0 0 K f.length N G s.length M) 30)) #[] 0 Yu Yo rfl;rw[<-Z]at this;simpa [Ab]using this
 have B:=Yw (Zn zG R);have HW:=Yw Z;have xE:=Yw yR;have H0:=Yw (Zn zO (Zn zR (Zn xW oT)));clear Z zG R zO zR xW oT yR;go_enter func23,ntmps23;go_upto_region 3 with fail;rw[<-HW.o];clear HW;go_wp2
 go_loopw [4] (fun i wr=>∃(k Q tc:Nat) (O:Zj),k<=l.length/\i=Zg k/\Hid (Kr w wr k Q tc O L now d a (.slice sa l.length ac) (.slice K f.length N) (.slice G s.length M) l)) (fun i _=>l.length -(intOf i).toNat)
 case atStart=>exact⟨0,w.heap.size+1+1+1,0,[],Nat.zero_le _,rfl,⟨H0.o.1,H0.o.2.1,H0.o.2.2.1,H0.o.2.2.2,rfl,(fun i x r hx=>by simp at hx),(fun v J=>by simp at J),Yu,hB⟩⟩
 case round=>
  clear H0;obtain⟨k,Q,tc,O,vJ,rfl,D⟩:=hrel;have F:=D.o.cu;have zI:=F.size;obtain⟨x0,x1,x2,x3,x4,x5,x6,x7⟩:=D.o.box;by_cases zA:k<l.length
  .obtain⟨ab,ao,ha,hb,hc⟩:=(Bu.below B.o.1.k F).at zA;subst ha;have HG:Hid (l[k]?=some l[k]):=Zv zA;obtain⟨c0,c1,c2,ra,rc,c3,zN⟩:=hc k _ HG.o;have yW:Hid (ra=none->l[k].B.length=0/\rc=0):=fun e=>by
    subst e;refine⟨?_,B.o.2 _ rfl k _ HG.o rc ((F.cell (p:=⟨ab,ao+k *4+3,none⟩) hb).symm.trans c3)⟩;rcases zN with h|⟨_,_,h,_⟩
    .rw[h];rfl
    .cases h
   have vE:=zZ _ (List.getElem_mem zA);have vF:Hid (l.take (k+1)=l.take k++[l[k]]):=Zu zA;have vH:ab<wr.heap.size:=Yv
   have xA:=Yw (Ad.mono zN zI);clear hc zN;generalize l[k]=x at *
   obtain⟨U,hU⟩:=Af (wr.alloc (.cells #[.string x.sum,Zg x.born,.string x.J,.slice ra x.B.length rc] 66));have bU:=(AB hU).1;have zU:=(AB hU).2.1;have KU:=(AB hU).2.2;obtain⟨i0,hi,xV,xX,xY⟩:=info_parts IE;have m:=xE.o;have xZ:w.heap.size+4<=wr.heap.size\/True:=.inr trivial;have xO:w.heap.size+1+1<wr.heap.size:=D.o.o.lt;have zS:=Ac D.o.ak (g:=Q) rfl;have HU:=Yw hU
   have SU:=Aa.below D.o.o bU;have u4:=(SU 4 _ rfl).1;obtain⟨k0,k1,k2,k3⟩:=Aa.c4 KU 0 1 2 3;have oU:=Ag D.o.ak bU;have HT:=Yw oU;have HS:=Yw SU;have yB:=Yw KU;have xC:=Yw bU;have xD:=Yw zU;have yZ:Hid (Ad U.drew U.drew.heap.size ra x.B):=Ad.mono (Ad.below xA.o bU.drew) bU.size;have xT:x.B.length<=1048576:=Yv
   have zW:¬w.heap.size+1+1=wr.heap.size:=Yv
   clear hU oU SU KU bU zU m xZ;go_upto_region 7 with fail;rw[<-HU.o];clear HU x0 x1 x2 x3 x4 x5 x6 x7 c0 c1 c2 c3
   go_region_law (first
    |(go_simp;go_at_call 54;refine(Ii x.J ra rc x.B U.drew yZ.o yW.o xT).mono ?_;rintro e y ⟨S,c3,rfl,H,X⟩;have E:Below U.heap.size U y:=⟨X.os,X.tape,X.output,X.size,X.block⟩;have z3:=E.size;have I:=Aa.below HS.o E;have n4:=(I 4 _ rfl).1;obtain⟨m0,_⟩:=Aa.below yB.o E 0 _ rfl;obtain⟨m1,_⟩:=Aa.below yB.o E 1 _ rfl;have bA:Below y.heap.size y (y.alloc (.cells #[.string x.sum,Zg x.born,.string x.J,Yz S x.B.length c3] 66)):=Zy;have a4:=(Aa.below I bA 4 _ rfl).1;have m:=xD.o;obtain⟨v5,w5,hr5,ho5,hg5,_,ha5⟩:=run_append_own_at (P:=prog) (y.alloc (.cells #[.string x.sum,Zg x.born,.string x.J,Yz S x.B.length c3] 66)) (w.heap.size+3) 26 26 66 i0 _ 4 64 underlying26 hi xV xX xY rfl Yq _ k _ (Ag (Ag HT.o E) bA) ⟨y.heap.size,0,none⟩ 1 1 (kC (x,Yz S x.B.length c3)) rfl (Sh y x S c3) (Vv x S c3) Yo Yv Yt;obtain⟨g4,c4,rfl,hg4a,hg4b⟩:=Co ho5 (ZO ho5 Yv);have vA:=Ac H (g:=S) rfl;have zF:y.grownBy w5 (some Q):=Ar (Al _ bA) hg5;have zC:g4=Q\/y.heap.size<=g4:=ha5.imp (fun e=>by simpa [Value.ownBlock]using e) (fun e=>by simp[Value.ownBlock]at e;omega);have yJ:w5.heap[w.heap.size+1+1]?=(y.alloc (.cells #[.string x.sum,Zg x.born,.string x.J,Yz S x.B.length c3] 66)).heap[w.heap.size+1+1]?:=hg5.block _ Yt (by simp[Value.ownBlock];omega);have S5:=Aa.same (Aa.below I bA) yJ;have y5:=(S5 4 _ rfl).1;have f5:=(S5 4 _ rfl).2;clear m;go_wp2_with fail)
    |(refine Bv Yp (.tmp 22) (.tmp 31) 26 26 Yp Yp Yp hr5 ?_))
   all_goals
    have HF:Hid (Kr w _ (k+1) g4 c4 (O++[Yz S x.B.length c3]) L now d a (.slice (some ⟨ab,ao,none⟩) l.length ac) (.slice K f.length N) (.slice G s.length M) l):=Kr.step D.o HG.o xC.o E H zF ho5 zC;clear H X E z3 I n4 m0 m1 bA a4 hr5 ho5 hg5 ha5 zF zC hg4a hg4b vA yJ S5 y5 f5 u4 k0 k1 k2 k3;go_wp2;exact⟨⟨k+1,g4,c4,O++[Yz S x.B.length c3],Yv,Yn,HF⟩,Ys⟩
  .obtain rfl:k=l.length:=Yv
   have hI:=D.o;have zS:=Ac hI.ak (g:=Q) rfl;have xO:=hI.o.lt;obtain⟨ip,xJ,xP,xQ,xR⟩:=info_parts Ir;obtain⟨il,xI,xK,xL,xM⟩:=info_parts Ho;have bP:Below wr.heap.size wr (wr.alloc (.cells #[] 69)):=Zy;have u5:=(hI.o 5 _ rfl);have zW:¬w.heap.size+1+1=wr.heap.size:=Yv
   have yP:AO wr wr.heap.size K f:=AO.mono (AO.below B.o.1.p F) zI;have xB:=Yw yP;have yY:Hid (K=none->f.length=0):=fun e=>by
    rcases B.o.1.p with h|⟨q,o,h,_⟩
    .rw[h];rfl
    .rw[e]at h;cases h
   have yV:Hid (G=none->s.length=0):=fun e=>by
    rcases B.o.1.l with h|⟨q,o,h,_⟩
    .rw[h];rfl
    .rw[e]at h;cases h
   clear hI x0 x1 x2 x3 yP u5;go_wp2_with (first
    |(at_builtin;refine Gr _ rfl _ _ 27 rfl (w.heap.size+3) 69 ip _ 2 32 underlying27 xJ xP xQ xR rfl Yq _ 0 (Ab pC []) rfl ?d0 K f.length N (Ab pC f) rfl ?dn ?d1 ?d2 ?d3 ?d4 ?d5 ?d6 ?_)
    |go_in)
   case d0=>exact World.ownsRow_lit (base:=w.heap.size+3) (e:=69) (size:=2) wr #[] 0 Yv Yo rfl
   case dn=>exact fun e=>⟨yY.o e,xS e⟩
   case d1=>exact By Cg f
   case d2=>exact fun A hA=>AO.fh (AO.below xB.o bP) hA
   case d3=>exact Jy f
   case d4=>unfold maxLen;omega
   case d5=>omega
   case d6=>simp;omega
   intro v1 z Y zM yH zT;obtain⟨t,C,rfl,vD,zX⟩:=Co Y yH;rw[show Ab pC []=[]from rfl,List.nil_append]at Y;have b1:Below wr.heap.size wr z:=bP.grown zM Yu (fun q m=>by simp[Value.ownBlock]at m;omega);have z1:=b1.size;have S1:=Aa.below D.o.o b1;obtain⟨s5,f5⟩:=S1 5 _ rfl;obtain⟨_,_,_,_,_,_,z6,_⟩:=AN.below D.o.box b1;have yM:wr.heap.size<=t:=by
    rcases(Ac Y (g:=t) rfl)with⟨V,h2⟩;have:=zM;rcases Nat.lt_or_ge t wr.heap.size with h|h
    .exfalso;have hb:=b1.block t h;rcases Y.2 with⟨e,_⟩|⟨q,cq,vG,e,_,m,_⟩
     .cases e
     .cases e;exact absurd h (by rcases zT with hh|hh<;>simp[Value.ownBlock]at hh<;>omega)
    .exact h
   have S2:=Aa.set S1 5 (Yz t f.length C);have xF:(z.setCell (Zd (w.heap.size+1+1) 5) (Yz t f.length C)).heap.size=z.heap.size:=Yu
   have yO:AM z z.heap.size G s:=AM.mono (AM.below B.o.1.l (F.trans (b1.mono zI))) Yv;have bL:Below z.heap.size z z:=Below.refl _ _;have yC:Hid (∀A,G=some A->∀j u,(Ab lC s)[j]?=some u->((z.setCell (Zd (w.heap.size+1+1) 5) (Yz t f.length C)).alloc (.cells #[] 71)).cell? (A.add j)=some u):=by
    intro A hA j u hu;rcases B.o.1.l with h|⟨lb,lo,e,zA,_⟩
    .subst h;simp[Ab]at hu
    .rw[e]at hA;cases hA;have V:=AM.fh yO e j u hu;rw[Go.WideShapes.add_plain]at V |-;rw[World.cell?_of_block (Below.heap_alloc _ _ _ Yt),World.cell?_of_block (Below.heap_setCell _ _ _ _ Yt)];exact V
   have yX:=Yw Y;have yD:=Yw S2;have yA:=Yw b1;have yT:¬w.heap.size+1+1=z.heap.size:=Yv
   have yU:¬w.heap.size=w.heap.size+1+1:=Yv
   clear Y zM yH b1 S1 S2 x5 x6 x4 yO bL;go_wp2_with (first
    |(at_builtin;refine Gr _ rfl _ _ 28 rfl (w.heap.size+3) 71 il _ 3 32 underlying28 xI xK xL xM rfl Yq _ 0 (Ab lC []) rfl ?e0 G s.length M (Ab lC s) rfl ?en ?e1 ?e2 ?e3 ?e4 ?e5 ?e6 ?_)
    |go_in)
   case e0=>
    have:=World.ownsRow_lit (base:=w.heap.size+3) (e:=71) (size:=3) (z.setCell (Zd (w.heap.size+1+1) 5) (Yz t f.length C)) #[] 0 Yt Yo rfl;rw[xF]at this;exact this
   case en=>exact fun e=>⟨yV.o e,xN e⟩
   case e1=>exact By CU s
   case e2=>exact yC.o
   case e3=>exact Uy s
   case e4=>unfold maxLen;omega
   case e5=>omega
   case e6=>simp;omega
   intro v3 y H yF yI zE;obtain⟨lg,zJ,rfl,vC,zV⟩:=Co H yI;rw[show Ab lC []=[]from rfl,List.nil_append]at H;have E:Below z.heap.size (z.setCell (Zd (w.heap.size+1+1) 5) (Yz t f.length C)) y:=by have h0:Below z.heap.size (z.setCell (Zd (w.heap.size+1+1) 5) (Yz t f.length C)) ((z.setCell (Zd (w.heap.size+1+1) 5) (Yz t f.length C)).alloc (.cells #[] 71)):=Ae.alloc Yu _;exact h0.grown yF Yu (fun q m=>by simp[Value.ownBlock]at m;omega)
   have z3:z.heap.size<=y.heap.size:=by have:=E.size;simpa using this
   have yG:z.heap.size<=lg:=by rcases zE with hh|hh<;>simp[Value.ownBlock]at hh<;>omega
   have zY:t<z.heap.size:=zX;have I:Aa y (w.heap.size+1+1) _:=Aa.same yD.o (E.block _ Yv);have S4:=Aa.set I 6 (Yz lg s.length zJ);obtain⟨r6,f6⟩:=I 6 _ rfl;have r0:=(I 0 _ rfl).1;have r1:=(I 1 _ rfl).1;have r2:=(I 2 _ rfl).1;have r3:=(I 3 _ rfl).1;have r4:=(I 4 _ rfl).1;have r5:=(I 5 _ rfl).1
   have zB:∀q,q<wr.heap.size->q≠w.heap.size+1+1->y.heap[q]?=wr.heap[q]?:=fun q V h2=>((E.block q Yv).trans (Below.heap_setCell _ _ _ _ (by simpa using h2))).trans (yA.o.block q V);have R3:Aa y (w.heap.size+1) z7:=Aa.same D.o.gd (zB _ Yv Yv);obtain⟨⟨y0,q0⟩,⟨y1,q1⟩,⟨y2,q2⟩,⟨y3,q3⟩,⟨y4,q4⟩,⟨y5,q5⟩,y6,q6⟩:=RD R3;have yS:¬w.heap.size+1+1=w.heap.size+1:=Yv
   have yL:∀q,(Yz t f.length C).ownBlock=some q->t=q:=fun q m=>by simpa [Value.ownBlock]using m
   have zH:y.ownsRow (w.heap.size+3) 69 2 (Yz t f.length C) f.length (Ab pC f):=Ak (BM (b:=w.heap.size+1+1) yX.o (fun q m=>by have:=yL q m;omega) 5 (Yz t f.length C)) (fun q m=>(yL q m)▸E.block t zY);have H3:=Yw (Zn H (Zn zH (Zn zB (Zn E (Zn yG (Zn yM z3))))));clear H yF yI zE zH zB E I S4 R3 z6 s5 f5 yC yD;go_wp2;obtain⟨H,zH,zB,E,yG,yM,z3⟩:=H3.o
   have hX:∀q,q<y.heap.size->q≠w.heap.size+1+1->q≠w.heap.size+1->(((((((((y.setCell (Zd (w.heap.size+1+1) 6) (Yz lg s.length zJ)).setCell (Zd (w.heap.size+1) 0) (Zg L)).setCell (Zd (w.heap.size+1) 1) (Zg now)).setCell (Zd (w.heap.size+1) 2) (Zg d)).setCell (Zd (w.heap.size+1) 3) (Zg a)).setCell (Zd (w.heap.size+1) 4) (Yz Q l.length tc)).setCell (Zd (w.heap.size+1) 5) (Yz t f.length C)).setCell (Zd (w.heap.size+1) 6) (Yz lg s.length zJ))).heap[q]?=y.heap[q]?:=fun q _ h2 h3=>by
    rw[Below.heap_setCell _ _ _ _ (by simpa using h3),Below.heap_setCell _ _ _ _ (by simpa using h3),Below.heap_setCell _ _ _ _ (by simpa using h3),Below.heap_setCell _ _ _ _ (by simpa using h3),Below.heap_setCell _ _ _ _ (by simpa using h3),Below.heap_setCell _ _ _ _ (by simpa using h3),Below.heap_setCell _ _ _ _ (by simpa using h3),Below.heap_setCell _ _ _ _ (by simpa using h2)]
   have xU:l.take l.length=l:=Zt (Zx);have yE:=D.o.ak;have zK:=D.o.B;have xH:=D.o.nd;have xG:=D.o.len;rw[xU]at yE zK;have zP:∀r∈O,∀q,r.ownBlock=some q->w.heap.size+3<=q/\q<wr.heap.size:=by intro r hr q m;obtain⟨i,hi⟩:=List.getElem?_of_mem hr;have vI:=(Zw hi).1;exact Ac (zK i l[i] r (Zv Yv) hi) m
   have yQ:∀q,q<wr.heap.size->w.heap.size+3<=q->_:=fun q V h2=>(hX q Yv Yv Yv).trans (zB q V Yv);refine bodyPost_ret (v:=.agg (Yg L now d a (some ⟨Q,0,none⟩) l.length tc (some ⟨t,0,none⟩) f.length C (some ⟨lg,0,none⟩) s.length zJ)) (by simp[results,results23,go_sem,y0,y1,y2,y3,y4,y5,y6]) rfl ⟨_,_,_,O,rfl,⟨xG,?_,?_,?_,?_,?_⟩,?_,?_⟩
   .exact(Ak yE (fun q m=>by have e:Q=q:=by simpa [Value.ownBlock]using m
                             rw[<-e];exact yQ Q zS.2 zS.1)).mono Yv
   .intro i x r hx hr;have hm:=Zs hr;exact(Ak (zK i x r hx hr) (fun q m=>yQ q (zP r hm q m).2 (zP r hm q m).1)).mono Yv
   .exact(Ak zH (fun q m=>by have e:t=q:=by simpa [Value.ownBlock]using m
                             rw[<-e];exact hX t Yv Yv Yv)).mono Yv
   .exact(Ak H (fun q m=>by have e:lg=q:=by simpa [Value.ownBlock]using m
                            rw[<-e];exact hX lg zV Yv Yv)).mono Yv
   .rw[FY];unfold Ci;have yK:=List.nodup_cons.1 xH;have yN:∀q∈O.filterMap Value.ownBlock,q<wr.heap.size:=fun q m=>by obtain⟨r,hr,m⟩:=List.mem_filterMap.1 m;exact(zP r hr q m).2
    simp only[Value.ownBlock,Option.toList_some,List.cons_append,List.nil_append,List.nodup_cons,List.mem_cons,not_or];refine⟨⟨Yv,Yv,yK.1⟩,⟨Yv,fun h=>by have:=yN _ h;omega⟩,fun h=>by have:=yN _ h;omega,yK.2⟩
   .intro v J;simp only[List.mem_cons]at J;rcases J with rfl|rfl|rfl|J
    .exact⟨_,_,_,rfl⟩
    .exact⟨_,_,_,rfl⟩
    .exact⟨_,_,_,rfl⟩
    .exact D.o.all v J
   .have V:Below w.heap.size w y:=by have h0:=F.trans (yA.o.mono zI);exact(h0.setCell Yt _).trans (E.mono Yv)
    exact FE (V.setCell (p:=⟨w.heap.size+1+1,6,none⟩) Yt _) Yv _ _ _ _ _ _ _
theorem IW(x now b a:Int)(j m l:Zk)(y u t:Nat)(d:List Kd)(i:List Pd)(h:List Ld)(w:Zh)(q:Bt w w.heap.size j m l d i h)(f:∀A,j=some A->Ev w A d)(D:m=none->u=0)(C:l=none->t=0)(F:d.length<=600)(H:i.length<=100)(G:h.length<=200)(o:∀k∈d,k.B.length<=30):
 Calls prog 23 #[.agg (Yg x now b a j d.length y m i.length u l h.length t)] w fun e B=>∃T s r z,e=.returned (.agg #[Zg x,Zg now,Zg b,Zg a,T,s,r])/\AY B w.heap.size T s r z d i h/\(∀v∈T::s::r::z,∃g n c,v=Yz g n c)/\Zz w B:=
 JS x now b a j m l y u t d i h w q (fun A E=>(f A E).cp) D C F H G o
end Go.Proofs.YtoglnpagihdhpaaGreatDoor
