import Derived.Test.YtckmnfhmoankmaaGreatDoorX03
import Derived.Laws.OwnMore
set_option maxRecDepth 100000
set_option maxHeartbeats 16000000
namespace Go.Proofs.YtckmnfhmoankmaaGreatDoor
open Go.ChangeShapes Go.WideShapes Go.ChangeAt Go.RowKit _root_.Go.Proofs.Tryz
theorem NX(t:Zi)(d:Addr)(l:Nat)(a:Zl)(w:Zh)(C:Ad w w.heap.size (some d) a)(Z:a.length<=100000):
 Calls prog 22 #[.agg #[.string t,.slice (some d) a.length l]] w fun e D=>∃g c,e=.returned (.agg #[.string t,Za g a.length c])/\
  D.ownsRow w.heap.size 9 1 (Za g a.length c) a.length (a.map Value.string)/\Zz w D:=by
 obtain⟨Q,N,G,H,I⟩:=info_parts CP;obtain⟨W,j⟩:∃W,W=(w.alloc (.cells #[.string t,.slice (some d) a.length l] 51)).alloc (.cells #[Zd,Zc] 51):=⟨_,rfl⟩;have m:=(Bj j).1;have J:=(Bj j).2.1;have q:=(Bj j).2.2.1;have p:Aa W (w.heap.size+1) [Zd,Zc]:=by have A:=Aa.new (w.alloc (.cells #[.string t,.slice (some d) a.length l] 51)) [Zd,Zc] 51;rw[World.size_alloc]at A;rw[j];exact A
 have r:Below W.heap.size W (W.alloc (.cells #[] 9)).drew:=(Zy).drew
 obtain⟨v1,E,f,b,n,o,_⟩:=run_append_own_at (P:=prog) (W.alloc (.cells #[] 9)).drew W.heap.size 22 22 9 Q Zd 1 16 underlying22 N G H I rfl (by decide) (Za W.heap.size 0 0) 0 (([]:Zl).map Value.string) (World.ownsRow_lit (base:=W.heap.size) (e:=9) (size:=1) W #[] 0 (Zx) (by unfold maxLen;omega) rfl) d a.length l (a.map Value.string) (by simp) ((C.below (m.trans (r.mono m.size))).de) (NF a) (by unfold maxLen;omega) (by omega) (by simp)
 obtain⟨x,z,rfl,T,U⟩:=Cp b (fun e=>by have:=o.1 e;simp at this);rw[List.map_nil,List.nil_append]at b;simp only[Nat.zero_add]at b f;have i:Below W.heap.size W E:=r.grown n (by simp) (fun k O=>by simp[Value.ownBlock]at O;omega)
 have h:Hid (∀X,Zz W X->X.cell? (Ze (w.heap.size) 0)=some (.string t)/\X.cell? (Ze (w.heap.size) 1)=some (.slice (some d) a.length l)):=fun X B=>⟨(Aa.below q B 0 _ rfl).1,(Aa.below q B 1 _ rfl).1⟩;have L:Below W.heap.size W W.drew:=(Below.refl _ _).drew;obtain⟨R,V⟩:=Aa.below p i 0 _ rfl;obtain⟨S,Y⟩:=Aa.below p i 1 _ rfl
 have F:∀u v,Zz w ((E.setCell (Ze (w.heap.size+1) 0) u).setCell (Ze (w.heap.size+1) 1) v):=fun u v=>((m.trans (i.mono m.size)).setCell (by simp) _).setCell (by simp) _;have M:=Yx b;have K:w.heap.size+2<=W.heap.size:=by omega
 have y:=Yx j;clear j C b J q p n o;go_enter func22,ntmps22;go_upto_region 1 with fail;rw[←y.o];clear y;go_region_held3 (fun X=>X.cell? (Ze (w.heap.size) 0)=some (.string t)/\X.cell? (Ze (w.heap.size) 1)=some (.slice (some d) a.length l))
  (first|with_reducible exact h.o _ L|with_reducible exact h.o _ r|with_reducible exact h.o _ i|exact⟨(World.cell?_setCell_other _ _ _ _ (by simp)).trans ((World.cell?_setCell_other _ _ _ _ (by simp)).trans (h.o _ i).1),(World.cell?_setCell_other _ _ _ _ (by simp)).trans ((World.cell?_setCell_other _ _ _ _ (by simp)).trans (h.o _ i).2)⟩)
  (first|(refine BP (by rfl) (.tmp 5) (.tmp 7) 22 22 (by rfl) (by rfl) (by rfl) f ?_))
 all_goals
  clear h;go_wp2;refine bodyPost_ret (v:=.agg #[.string t,Za x a.length z]) (by simp[results,results22,go_sem,R,S]) rfl ⟨x,z,rfl,?_,F _ _⟩;exact(Bv (Bv M.o (fun g s=>by simp[Value.ownBlock]at s;omega) 0 _) (fun g s=>by simp[Value.ownBlock]at s;omega) 1 _).mono (by omega)
theorem QD(w:Zh)(x:Kd)(g c:Nat):∀j u,(kC (x,Za g x.refs.length c))[j]?=some u->(w.alloc (.cells #[.string x.sum,Zg x.born,.string x.text,Za g x.refs.length c] 137)).cell? ((⟨w.heap.size,0,none⟩:Addr).add j)=some u:=by intro j u a;rw[Go.WideShapes.add_plain,Nat.zero_add];exact((Aa.new w (kC (x,Za g x.refs.length c)) 137) j u a).1
theorem Uy(x:Kd)(g c:Nat):∀u∈kC (x,Za g x.refs.length c),u.oneCell'=true:=by intro u a;simp[kC]at a;rcases a with rfl|rfl|rfl|rfl<;>rfl
theorem XS{w:Zh}{base:Nat}{e:TypeId}{size:Nat}{v:Value}{n:Nat}{a:Zj}(h:w.ownsRow base e size v n a)(b:0<n):v≠Zc:=by
 intro e;subst e;rcases h.2 with⟨_,c⟩|⟨_,_,_,e,_⟩
 ·omega
 ·cases e
def Gd(w:Zh)(aa:Addr)(ks:List Kd):Prop:=∀(i:Nat) (k:Kd),ks[i]?=some k->∃ad rc,w.cell? (Ze (aa.block) (aa.off+i *4+3))=some (.slice (some ad) k.refs.length rc)
theorem Bb.same''{w e:Zh}{b:Nat}{f d given ae:Int}{T P L:Value}(h:Bb w b f d given ae T P L)(p:e.heap[b]?=w.heap[b]?)(q:b<e.heap.size):Bb e b f d given ae T P L:=by obtain⟨g,i,k,l,m,n,o,r⟩:=h;have c:=fun j=>World.cell?_of_block (a:=⟨b,j,none⟩) p;exact⟨(c 0).trans g,(c 1).trans i,(c 2).trans k,(c 3).trans l,(c 4).trans m,(c 5).trans n,(c 6).trans o,q⟩
structure JF (w wr:Zh) (k tg tc:Nat) (rs:Zj) (wd now given ae:Int) (A P L:Value) (ks:List Kd):Prop where
 o:Aa wr (w.heap.size+1+1) [Zg wd,Zg now,Zg given,Zg ae,.slice (some ⟨tg,0,none⟩) k tc,P,L]
 fo:Aa wr (w.heap.size+1) z7
 box:Bb wr w.heap.size wd now given ae A P L
 ai:wr.ownsRow (w.heap.size+3) 137 4 (.slice (some ⟨tg,0,none⟩) k tc) k (Ab kC ((ks.take k).zip rs))
 len:rs.length=k
 refs:∀(i:Nat) (x:Kd) (r:Value),(ks.take k)[i]?=some x->rs[i]?=some r->wr.ownsRow (w.heap.size+3) 9 1 r x.refs.length (x.refs.map Value.string)
 all:∀v∈rs,∃g n c,v=Value.slice (some ⟨g,0,none⟩) n c
 nd:(tg::rs.filterMap Value.ownBlock).Nodup
 cz:Below w.heap.size w wr
theorem JF.step{w wr U q B:Zh}{k p tc:Nat}{z:Zj}{X Q given ae:Int}{A P L:Value}{o:List Kd}{x:Kd}{s c3 n c4:Nat}(h:JF w wr k p tc z X Q given ae A P L o)(W:o[k]?=some x)(V:Zz wr U)(T:Zz U q)
 (K:q.ownsRow U.heap.size 9 1 (Za s x.refs.length c3) x.refs.length (x.refs.map Value.string)) (m:q.grownBy B (some p)) (zC:B.ownsRow (w.heap.size+3) 137 4 (Za n (k+1) c4) (k+1) (Ab kC ((o.take k).zip z)++kC (x,Za s x.refs.length c3)))
 (H:n=p∨q.heap.size<=n):JF w (B.setCell (Ze (w.heap.size+1+1) 4) (Za n (k+1) c4)) (k+1) n c4 (z++[Za s x.refs.length c3]) X Q given ae A P L o:=by
 have zA:=(Zw W).1;have O:o.take (k+1)=o.take k++[x]:=by obtain⟨_,rfl⟩:=Zw W;exact Zu zA
 have zI:=Ac h.ai (g:=p) rfl;have l3:=Ac K (g:=s) rfl;have zF:=V.size;have zJ:=T.size;have zH:=h.o.lt;have j:Below wr.heap.size wr q:=V.trans (T.mono zF);have N:∀b,b<q.heap.size->b≠p->b≠w.heap.size+1+1->(B.setCell (Ze (w.heap.size+1+1) 4) (Za n (k+1) c4)).heap[b]?=q.heap[b]?:=fun b C R S=>(Below.heap_setCell _ _ _ _ (by simpa using S)).trans (m.block b C (fun e=>R (Option.some.inj e)))
 have l:∀b,b<wr.heap.size->b≠p->b≠w.heap.size+1+1->(B.setCell (Ze (w.heap.size+1+1) 4) (Za n (k+1) c4)).heap[b]?=wr.heap[b]?:=fun b C R S=>(N b (by omega) R S).trans (j.block b C);have I:(o.take k).length=k:=by rw[List.length_take];omega
 have E:∀r∈z,∀g,r.ownBlock=some g->w.heap.size+3<=g/\g<wr.heap.size:=by
  intro r d g c;obtain⟨i,G⟩:=List.getElem?_of_mem d;have zG:i<k:=by have:=(Zw G).1;have:=h.len;omega
  exact Ac (h.refs i _ r (Zv (by omega)) G) c
 have zB:∀r∈z,∀g,r.ownBlock=some g->g≠p:=fun r d g c e=>(List.nodup_cons.1 h.nd).1 (e▸List.mem_filterMap.2 ⟨r,d,c⟩);refine⟨?_,?_,?_,?_,by simp[h.len],?_,?_,?_,?_⟩
 ·have C:Aa B (w.heap.size+1+1) _:=Aa.same (Aa.below h.o j) (m.block _ (by omega) (fun e=>by have:=Option.some.inj e;omega));exact Aa.set C 4 _
 ·exact Aa.same h.fo (l _ (by omega) (by omega) (by omega))
 ·exact Bb.same'' h.box (l _ (by omega) (by omega) (by omega)) (by simp;have:=m.size;omega)
 ·rw[O,List.zip_append (by rw[I,h.len]),Bt];exact Bv zC (fun g c=>by simp[Value.ownBlock]at c;omega) 4 _
 ·intro i y r u d;rw[O]at u;have zE:=h.len;rcases Nat.lt_or_ge i k with G|G
  ·rw[List.getElem?_append_left (by omega)]at u d;have f:=Zs d;exact Ak (h.refs i y r u d) (fun g c=>l g (E r f g c).2 (zB r f g c) (by have:=(E r f g c).1;omega))
  ·have Z:i=k:=by have:=(Zw d).1;simp at this;omega
   subst Z;rw[List.getElem?_append_right (by omega),I,Nat.sub_self]at u;rw[List.getElem?_append_right (by omega),zE,Nat.sub_self]at d;simp at u d;subst u;subst d;exact Ak (World.ownsRow.mono K (by omega)) (fun g c=>by simp[Value.ownBlock]at c;subst c;exact N _ l3.2 (by omega) (by omega))
 ·intro v t;rcases List.mem_append.1 t with t|t
  ·exact h.all v t
  ·simp at t;exact⟨_,_,_,t⟩
 ·rw[List.filterMap_append];have Y:List.filterMap Value.ownBlock [Za s x.refs.length c3]=[s]:=by simp[Value.ownBlock]
  rw[Y];have M:∀b∈z.filterMap Value.ownBlock,b<wr.heap.size:=fun b D=>by obtain⟨r,d,D⟩:=List.mem_filterMap.1 D;exact(E r d b D).2
  have J:=List.nodup_cons.1 h.nd;refine List.nodup_cons.2 ⟨?_,?_⟩
  ·intro f;rcases List.mem_append.1 f with f|f
   ·rcases H with rfl|F
    ·exact J.1 f
    ·have:=M _ f;omega
   ·simp at f;have:=m.size;rcases H with F|F<;>omega
  ·refine List.nodup_append.2 ⟨J.2,by simp,fun a F b D e=> ?_⟩;simp at D;have:=M a F;omega
 ·exact(((h.cz.trans (j.mono h.cz.size)).grown m (by have:=h.cz.size;omega) (fun g c=>by cases c;omega))).setCell (by simp;omega) _
theorem Gn{P:Program}(w:Zh){B:Array Oper}{rest:List Oper}{o:Oper}{a:Act}{Q:Exit->Act->Zh->Prop}(y:o.guard=none)(s x:Operand)(t:TypeId)
 (F:o.op=.call {callee:=.builtin .append,args:= #[s,x],argTypes:= #[t,t]})
 (base:Nat) (e:TypeId) (i:TypeInfo) (z:Value) (size bytes:Nat) (H:P.underlying t=some (.slice e)) (D:P.info? e=some i) (S:i.zero=some z)
 (k:i.size=size) (K:i.bytes=bytes) (M:z.cells.size=size) (L:0<size)
 (v:Value) (n:Nat) (q:Zj) (G:a.eval s=v) (b:w.ownsRow base e size v n q)
 (p:Zk) (m c:Nat) (news:Zj) (I:a.eval x=.slice p m c) (r:p=none->m=0/\c=0) (E:news.length=m *size) (g:∀A,p=some A->∀j u,news[j]?=some u->w.cell? (A.add j)=some u) (N:∀u∈news,u.oneCell'=true)
 (J:n+m<=maxLen) (d:(n+m) *bytes<=140737488355328) (f:base<=w.heap.size)
 (h:∀l C,C.ownsRow base e size l (n+m) (q++news)->w.grownBy C v.ownBlock->(l=Zc↔v=Zc/\m=0)->(l.ownBlock=v.ownBlock∨l.ownBlock=some w.heap.size)->wpList P B Q rest (a.put o.dst l) C):
 wpList P B Q (o::rest) a w:=by
 cases p with
 |some A=>exact wpList_append_own_at w y s x t F base e i z size bytes H D S k K M L v n q G b A m c news I E (g A rfl) N J d f h
 |none=>obtain⟨rfl,rfl⟩:=r rfl;have O:news=[]:=List.eq_nil_of_length_eq_zero (by simpa using E);subst O;have R:(Builtin.append_ #[t,t] o.type #[v,Zc]).run P w=.ok v w:=run_append_owned_none (P:=P) w base t o.type e i size H D v n q b;exact wpList_append_run y s x t t F G I R (h v w (by simpa using b) ⟨rfl,rfl,rfl,Zx,fun _ _ _=>rfl⟩ (by simp) (.inl rfl))
theorem Ba.dw{w:Zh}{B:Nat}{a:Zk}{d:List Pd}(h:Ba w B a d){A:Addr}(c:a=some A):∀j u,(Ab pC d)[j]?=some u->w.cell? (A.add j)=some u:=by
 rcases h with h|⟨b,f,e,g,i⟩
 ·subst h;intro j u k;simp[Ab]at k
 ·rw[e]at c;cases c;exact Ba.ck (B:=B) (.inr ⟨b,f,rfl,g,i⟩)
theorem Be.dw{w:Zh}{B:Nat}{a:Zk}{d:List Ld}(h:Be w B a d){A:Addr}(c:a=some A):∀j u,(Ab lC d)[j]?=some u->w.cell? (A.add j)=some u:=by
 rcases h with h|⟨b,f,e,g,i⟩
 ·subst h;intro j u k;simp[Ab]at k
 ·rw[e]at c;cases c;exact Be.ck (B:=B) (.inr ⟨b,f,rfl,g,i⟩)
theorem GH(K z given ae:Int)(sa J F:Zk)(ac M L:Nat)(f:List Kd)(a:List Pd)(l:List Ld)(w:Zh)(zF:BJ w w.heap.size sa J F f a l)(Q:∀A,sa=some A->Gd w A f)(xR:J=none->M=0)(xM:F=none->L=0)(hk:f.length<=600)(hp:a.length<=100)(hl:l.length<=200)(zX:∀k∈f,k.refs.length<=30):
 Calls prog 45 #[.agg (Ys K z given ae sa f.length ac J a.length M F l.length L)] w fun e w'=>∃T P' L' N,e=.returned (.agg #[Zg K,Zg z,Zg given,Zg ae,T,P',L'])/\AV w' w.heap.size T P' L' N f a l/\(∀v∈T::P'::L'::N,∃g n c,v=Za g n c)/\Zz w w':=by
 obtain⟨W,Y⟩:∃W,W=(((w.alloc (.cells (Ys K z given ae sa f.length ac J a.length M F l.length L) 43)).alloc (.cells Yu 43)).alloc (.cells (Ys K z given ae (some ⟨w.heap.size+1+1+1,0,none⟩) 0 0 J a.length M F l.length L) 43)).alloc (.cells #[] 137):=⟨_,rfl⟩;have hB:=(ZS Y).1;have yR:=(ZS Y).2.1
 have xW:Bb W w.heap.size K z given ae (.slice sa f.length ac) (.slice J a.length M) (.slice F l.length L):=by rw[Y];exact⟨by simp[go_sem],by simp[go_sem],by simp[go_sem],by simp[go_sem],by simp[go_sem],by simp[go_sem],by simp[go_sem],by simp;omega⟩
 have zR:Aa W (w.heap.size+1) z7:=by intro j v I;have hj:j<7:=(Zw I).1;rw[Y];rcases(show j=0∨j=1∨j=2∨j=3∨j=4∨j=5∨j=6 by omega)with rfl|rfl|rfl|rfl|rfl|rfl|rfl<;>(simp[z7]at I;subst I;simp[go_sem])
 have zO:Aa W (w.heap.size+1+1) (Yt K z given ae (some ⟨w.heap.size+1+1+1,0,none⟩) 0 0 J a.length M F l.length L):=by intro j v I;have hj:j<7:=(Zw I).1;rw[Y];rcases(show j=0∨j=1∨j=2∨j=3∨j=4∨j=5∨j=6 by omega)with rfl|rfl|rfl|rfl|rfl|rfl|rfl<;>(simp at I;subst I;simp[go_sem])
 have oT:W.ownsRow (w.heap.size+3) 137 4 (Za (w.heap.size+1+1+1) 0 0) 0 (Ab kC []):=by have:=World.ownsRow_lit (base:=w.heap.size+3) (e:=137) (size:=4) (((w.alloc (.cells (Ys K z given ae sa f.length ac J a.length M F l.length L) 43)).alloc (.cells Yu 43)).alloc (.cells (Ys K z given ae (some ⟨w.heap.size+1+1+1,0,none⟩) 0 0 J a.length M F l.length L) 43)) #[] 0 (by simp) (by unfold maxLen;omega) rfl;rw[←Y]at this;simpa [Ab]using this
 have y:=Yx (Zn zF Q);have HW:=Yx Y;have xD:=Yx yR;have H0:=Yx (Zn zO (Zn zR (Zn xW oT)));clear Y zF Q zO zR xW oT yR;go_enter func45,ntmps45;go_upto_region 3 with fail;rw[←HW.o];clear HW;go_wp2
 go_loopw [4] (fun i wr=>∃(k O tc:Nat) (N:Zj),k<=f.length/\i=Zg k/\Hid (JF w wr k O tc N K z given ae (.slice sa f.length ac) (.slice J a.length M) (.slice F l.length L) f)) (fun i _=>f.length -(intOf i).toNat)
 case atStart=>exact⟨0,w.heap.size+1+1+1,0,[],Nat.zero_le _,rfl,⟨H0.o.1,H0.o.2.1,H0.o.2.2.1,H0.o.2.2.2,rfl,(fun i x r hx=>by simp at hx),(fun v I=>by simp at I),(by simp),hB⟩⟩
 case round=>
  clear H0;obtain⟨k,O,tc,N,vI,rfl,C⟩:=hrel;have E:=C.o.cz;have zH:=E.size;obtain⟨x0,x1,x2,x3,x4,x5,x6,x7⟩:=C.o.box;by_cases Z:k<f.length
  ·obtain⟨ab,ao,ha,hb,hc⟩:=(BF.below y.o.1.k E).at Z;subst ha;have HG:Hid (f[k]?=some f[k]):=Zv Z;obtain⟨c0,c1,c2,ra,rc,c3,yL⟩:=hc k _ HG.o;obtain⟨ad,vJ,hs⟩:=y.o.2 _ rfl k _ HG.o;have yP:=(E.cell (p:=⟨ab,ao+k *4+3,none⟩) hb).trans hs;rw[c3]at yP;cases yP;have vD:=zX _ (List.getElem_mem Z);have vE:Hid (f.take (k+1)=f.take k++[f[k]]):=Zu Z;have vG:ab<wr.heap.size:=by omega
   have yZ:=Yx (Ad.mono yL zH);clear hc hs yL;generalize f[k]=x at *
   obtain⟨U,hU⟩:∃U,U=wr.alloc (.cells #[.string x.sum,Zg x.born,.string x.text,.slice (some ad) x.refs.length rc] 137):=⟨_,rfl⟩;have bU:=(AJ hU).1;have zU:=(AJ hU).2.1;have KU:=(AJ hU).2.2;obtain⟨i0,hi,xU,xV,xX⟩:=info_parts GR;have d:=xD.o;have xY:w.heap.size+4<=wr.heap.size∨True:=.inr trivial;have xN:w.heap.size+1+1<wr.heap.size:=C.o.o.lt;have zN:=Ac C.o.ai (g:=O) rfl;have HU:=Yx hU
   have SU:=Aa.below C.o.o bU;have u4:=(SU 4 _ rfl).1;obtain⟨k0,k1,k2,k3⟩:=Aa.c4 KU 0 1 2 3;have oU:=Ag C.o.ai bU;have HT:=Yx oU;have HS:=Yx SU;have zZ:=Yx KU;have xB:=Yx bU;have xC:=Yx zU;have yY:Hid (Ad U.drew U.drew.heap.size (some ad) x.refs):=Ad.mono (Ad.below yZ.o bU.drew) bU.size;have xS:x.refs.length<=100000:=by omega
   have zT:¬w.heap.size+1+1=wr.heap.size:=by omega
   clear hU oU SU KU bU zU d xY;go_upto_region 7 with fail;rw[←HU.o];clear HU x0 x1 x2 x3 x4 x5 x6 x7 c0 c1 c2 c3
   go_region_law (first
    |(go_simp;go_at_call 22;refine(NX x.text ad rc x.refs U.drew yY.o xS).mono ?_;rintro e s ⟨R,c3,rfl,G,V⟩;have D:Below U.heap.size U s:=⟨V.os,V.tape,V.output,V.size,V.block⟩;have z3:=D.size;have H:=Aa.below HS.o D;have n4:=(H 4 _ rfl).1;obtain⟨m0,_⟩:=Aa.below zZ.o D 0 _ rfl;obtain⟨m1,_⟩:=Aa.below zZ.o D 1 _ rfl;have bA:Below s.heap.size s (s.alloc (.cells #[.string x.sum,Zg x.born,.string x.text,Za R x.refs.length c3] 137)):=Zy;have a4:=(Aa.below H bA 4 _ rfl).1;have d:=xC.o;obtain⟨v5,w5,hr5,ho5,hg5,_,ha5⟩:=run_append_own_at (P:=prog) (s.alloc (.cells #[.string x.sum,Zg x.born,.string x.text,Za R x.refs.length c3] 137)) (w.heap.size+3) 39 39 137 i0 _ 4 64 underlying39 hi xU xV xX rfl (by decide) _ k _ (Ag (Ag HT.o D) bA) ⟨s.heap.size,0,none⟩ 1 1 (kC (x,Za R x.refs.length c3)) rfl (QD s x R c3) (Uy x R c3) (by unfold maxLen;omega) (by omega) (by simp;omega);obtain⟨g4,c4,rfl,hg4a,hg4b⟩:=Cp ho5 (XS ho5 (by omega));have xZ:=Ac G (g:=R) rfl;have zE:s.grownBy w5 (some O):=Aw (AA _ bA) hg5;have zB:g4=O∨s.heap.size<=g4:=ha5.imp (fun e=>by simpa [Value.ownBlock]using e) (fun e=>by simp[Value.ownBlock]at e;omega);have yH:w5.heap[w.heap.size+1+1]?=(s.alloc (.cells #[.string x.sum,Zg x.born,.string x.text,Za R x.refs.length c3] 137)).heap[w.heap.size+1+1]?:=hg5.block _ (by simp;omega) (by simp[Value.ownBlock];omega);have S5:=Aa.same (Aa.below H bA) yH;have y5:=(S5 4 _ rfl).1;have f5:=(S5 4 _ rfl).2;clear d;go_wp2_with fail)
    |(refine BP (by rfl) (.tmp 22) (.tmp 31) 39 39 (by rfl) (by rfl) (by rfl) hr5 ?_))
   all_goals
    have HF:Hid (JF w _ (k+1) g4 c4 (N++[Za R x.refs.length c3]) K z given ae (.slice (some ⟨ab,ao,none⟩) f.length ac) (.slice J a.length M) (.slice F l.length L) f):=JF.step C.o HG.o xB.o D G zE ho5 zB;clear G V D z3 H n4 m0 m1 bA a4 hr5 ho5 hg5 ha5 zE zB hg4a hg4b xZ yH S5 y5 f5 u4 k0 k1 k2 k3;go_wp2;exact⟨⟨k+1,g4,c4,N++[Za R x.refs.length c3],by omega,by go_num,HF⟩,by simp[intOf];omega⟩
  ·obtain rfl:k=f.length:=by omega
   have hI:=C.o;have zN:=Ac hI.ai (g:=O) rfl;have xN:=hI.o.lt;obtain⟨ip,xI,xO,xP,xQ⟩:=info_parts GM;obtain⟨il,xH,xJ,xK,xL⟩:=info_parts Gm;have bP:Below wr.heap.size wr (wr.alloc (.cells #[] 142)):=Zy;have u5:=(hI.o 5 _ rfl);have zT:¬w.heap.size+1+1=wr.heap.size:=by omega
   have yO:Ba wr wr.heap.size J a:=Ba.mono (Ba.below y.o.1.p E) zH;have xA:=Yx yO;have yX:Hid (J=none->a.length=0):=fun e=>by
    rcases y.o.1.p with h|⟨q,o,h,_⟩
    ·rw[h];rfl
    ·rw[e]at h;cases h
   have yV:Hid (F=none->l.length=0):=fun e=>by
    rcases y.o.1.l with h|⟨q,o,h,_⟩
    ·rw[h];rfl
    ·rw[e]at h;cases h
   clear hI x0 x1 x2 x3 yO u5;go_wp2_with (first
    |(at_builtin;refine Gn _ rfl _ _ 40 rfl (w.heap.size+3) 142 ip _ 2 32 underlying40 xI xO xP xQ rfl (by decide) _ 0 (Ab pC []) rfl ?d0 J a.length M (Ab pC a) rfl ?dn ?d1 ?d2 ?d3 ?d4 ?d5 ?d6 ?_)
    |go_in)
   case d0=>exact World.ownsRow_lit (base:=w.heap.size+3) (e:=142) (size:=2) wr #[] 0 (by omega) (by unfold maxLen;omega) rfl
   case dn=>exact fun e=>⟨yX.o e,xR e⟩
   case d1=>exact BC BU a
   case d2=>exact fun A hA=>Ba.dw (Ba.below xA.o bP) hA
   case d3=>exact Jc a
   case d4=>unfold maxLen;omega
   case d5=>omega
   case d6=>simp;omega
   intro v1 t X zK yF zP;obtain⟨m,B,rfl,vC,zV⟩:=Cp X yF;rw[show Ab pC []=[]from rfl,List.nil_append]at X;have b1:Below wr.heap.size wr t:=bP.grown zK (by simp) (fun q d=>by simp[Value.ownBlock]at d;omega);have z1:=b1.size;have S1:=Aa.below C.o.o b1;obtain⟨s5,f5⟩:=S1 5 _ rfl;obtain⟨_,_,_,_,_,_,z6,_⟩:=Bb.below C.o.box b1;have yK:wr.heap.size<=m:=by
    rcases(Ac X (g:=m) rfl)with⟨S,h2⟩;have:=zK;rcases Nat.lt_or_ge m wr.heap.size with h|h
    ·exfalso;have hb:=b1.block m h;rcases X.2 with⟨e,_⟩|⟨q,cq,vF,e,_,d,_⟩
     ·cases e
     ·cases e;exact absurd h (by rcases zP with hh|hh<;>simp[Value.ownBlock]at hh<;>omega)
    ·exact h
   have S2:=Aa.set S1 5 (Za m a.length B);have xE:(t.setCell (Ze (w.heap.size+1+1) 5) (Za m a.length B)).heap.size=t.heap.size:=by simp
   have yN:Be t t.heap.size F l:=Be.mono (Be.below y.o.1.l (E.trans (b1.mono zH))) (by omega);have bL:Below t.heap.size t t:=Below.refl _ _;have yA:Hid (∀A,F=some A->∀j u,(Ab lC l)[j]?=some u->((t.setCell (Ze (w.heap.size+1+1) 5) (Za m a.length B)).alloc (.cells #[] 144)).cell? (A.add j)=some u):=by
    intro A hA j u hu;rcases y.o.1.l with h|⟨lb,lo,e,Z,_⟩
    ·subst h;simp[Ab]at hu
    ·rw[e]at hA;cases hA;have S:=Be.dw yN e j u hu;rw[Go.WideShapes.add_plain]at S ⊢;rw[World.cell?_of_block (Below.heap_alloc _ _ _ (by simp;omega)),World.cell?_of_block (Below.heap_setCell _ _ _ _ (by simp;omega))];exact S
   have yW:=Yx X;have yB:=Yx S2;have zY:=Yx b1;have yT:¬w.heap.size+1+1=t.heap.size:=by omega
   have yU:¬w.heap.size=w.heap.size+1+1:=by omega
   clear X zK yF b1 S1 S2 x5 x6 x4 yN bL;go_wp2_with (first
    |(at_builtin;refine Gn _ rfl _ _ 41 rfl (w.heap.size+3) 144 il _ 3 32 underlying41 xH xJ xK xL rfl (by decide) _ 0 (Ab lC []) rfl ?e0 F l.length L (Ab lC l) rfl ?en ?e1 ?e2 ?e3 ?e4 ?e5 ?e6 ?_)
    |go_in)
   case e0=>
    have:=World.ownsRow_lit (base:=w.heap.size+3) (e:=144) (size:=3) (t.setCell (Ze (w.heap.size+1+1) 5) (Za m a.length B)) #[] 0 (by simp;omega) (by unfold maxLen;omega) rfl;rw[xE]at this;exact this
   case en=>exact fun e=>⟨yV.o e,xM e⟩
   case e1=>exact BC Cz l
   case e2=>exact yA.o
   case e3=>exact Ug l
   case e4=>unfold maxLen;omega
   case e5=>omega
   case e6=>simp;omega
   intro v3 s G yD yG zC;obtain⟨lg,zI,rfl,vA,zS⟩:=Cp G yG;rw[show Ab lC []=[]from rfl,List.nil_append]at G;have D:Below t.heap.size (t.setCell (Ze (w.heap.size+1+1) 5) (Za m a.length B)) s:=by have h0:Below t.heap.size (t.setCell (Ze (w.heap.size+1+1) 5) (Za m a.length B)) ((t.setCell (Ze (w.heap.size+1+1) 5) (Za m a.length B)).alloc (.cells #[] 144)):=(Below.refl _ _).alloc (by simp) _;exact h0.grown yD (by simp) (fun q d=>by simp[Value.ownBlock]at d;omega)
   have z3:t.heap.size<=s.heap.size:=by have:=D.size;simpa using this
   have yE:t.heap.size<=lg:=by rcases zC with hh|hh<;>simp[Value.ownBlock]at hh<;>omega
   have zW:m<t.heap.size:=zV;have H:Aa s (w.heap.size+1+1) _:=Aa.same yB.o (D.block _ (by omega));have S4:=Aa.set H 6 (Za lg l.length zI);obtain⟨r6,f6⟩:=H 6 _ rfl;have r0:=(H 0 _ rfl).1;have r1:=(H 1 _ rfl).1;have r2:=(H 2 _ rfl).1;have r3:=(H 3 _ rfl).1;have r4:=(H 4 _ rfl).1;have r5:=(H 5 _ rfl).1
   have zA:∀q,q<wr.heap.size->q≠w.heap.size+1+1->s.heap[q]?=wr.heap[q]?:=fun q S h2=>((D.block q (by omega)).trans (Below.heap_setCell _ _ _ _ (by simpa using h2))).trans (zY.o.block q S);have R3:Aa s (w.heap.size+1) z7:=Aa.same C.o.fo (zA _ (by omega) (by omega));obtain⟨⟨y0,q0⟩,⟨y1,q1⟩,⟨y2,q2⟩,⟨y3,q3⟩,⟨y4,q4⟩,⟨y5,q5⟩,y6,q6⟩:=Qz R3;have yS:¬w.heap.size+1+1=w.heap.size+1:=by omega
   have yJ:∀q,(Za m a.length B).ownBlock=some q->m=q:=fun q d=>by simpa [Value.ownBlock]using d
   have zG:s.ownsRow (w.heap.size+3) 142 2 (Za m a.length B) a.length (Ab pC a):=Ak (Bv (b:=w.heap.size+1+1) yW.o (fun q d=>by have:=yJ q d;omega) 5 (Za m a.length B)) (fun q d=>(yJ q d)▸D.block m zW);have H3:=Yx (Zn G (Zn zG (Zn zA (Zn D (Zn yE (Zn yK z3))))));clear G yD yG zC zG zA D H S4 R3 z6 s5 f5 yA yB;go_wp2;obtain⟨G,zG,zA,D,yE,yK,z3⟩:=H3.o
   have hX:∀q,q<s.heap.size->q≠w.heap.size+1+1->q≠w.heap.size+1->(((((((((s.setCell (Ze (w.heap.size+1+1) 6) (Za lg l.length zI)).setCell (Ze (w.heap.size+1) 0) (Zg K)).setCell (Ze (w.heap.size+1) 1) (Zg z)).setCell (Ze (w.heap.size+1) 2) (Zg given)).setCell (Ze (w.heap.size+1) 3) (Zg ae)).setCell (Ze (w.heap.size+1) 4) (Za O f.length tc)).setCell (Ze (w.heap.size+1) 5) (Za m a.length B)).setCell (Ze (w.heap.size+1) 6) (Za lg l.length zI))).heap[q]?=s.heap[q]?:=fun q _ h2 h3=>by
    rw[Below.heap_setCell _ _ _ _ (by simpa using h3),Below.heap_setCell _ _ _ _ (by simpa using h3),Below.heap_setCell _ _ _ _ (by simpa using h3),Below.heap_setCell _ _ _ _ (by simpa using h3),Below.heap_setCell _ _ _ _ (by simpa using h3),Below.heap_setCell _ _ _ _ (by simpa using h3),Below.heap_setCell _ _ _ _ (by simpa using h3),Below.heap_setCell _ _ _ _ (by simpa using h2)]
   have xT:f.take f.length=f:=Zt (Zx);have yC:=C.o.ai;have zJ:=C.o.refs;have xG:=C.o.nd;have xF:=C.o.len;rw[xT]at yC zJ;have zM:∀r∈N,∀q,r.ownBlock=some q->w.heap.size+3<=q/\q<wr.heap.size:=by intro r hr q d;obtain⟨i,hi⟩:=List.getElem?_of_mem hr;have vH:=(Zw hi).1;exact Ac (zJ i f[i] r (Zv (by omega)) hi) d
   have yQ:∀q,q<wr.heap.size->w.heap.size+3<=q->_:=fun q S h2=>(hX q (by omega) (by omega) (by omega)).trans (zA q S (by omega));refine bodyPost_ret (v:=.agg (Ys K z given ae (some ⟨O,0,none⟩) f.length tc (some ⟨m,0,none⟩) a.length B (some ⟨lg,0,none⟩) l.length zI)) (by simp[results,results45,go_sem,y0,y1,y2,y3,y4,y5,y6]) rfl ⟨_,_,_,N,rfl,⟨xF,?_,?_,?_,?_,?_⟩,?_,?_⟩
   ·exact(Ak yC (fun q d=>by have e:O=q:=by simpa [Value.ownBlock]using d
                             rw[←e];exact yQ O zN.2 zN.1)).mono (by omega)
   ·intro i x r hx hr;have hm:=Zs hr;exact(Ak (zJ i x r hx hr) (fun q d=>yQ q (zM r hm q d).2 (zM r hm q d).1)).mono (by omega)
   ·exact(Ak zG (fun q d=>by have e:m=q:=by simpa [Value.ownBlock]using d
                             rw[←e];exact hX m (by omega) (by omega) (by omega))).mono (by omega)
   ·exact(Ak G (fun q d=>by have e:lg=q:=by simpa [Value.ownBlock]using d
                            rw[←e];exact hX lg zS (by omega) (by omega))).mono (by omega)
   ·rw[Fp];unfold Bk;have yI:=List.nodup_cons.1 xG;have yM:∀q∈N.filterMap Value.ownBlock,q<wr.heap.size:=fun q d=>by obtain⟨r,hr,d⟩:=List.mem_filterMap.1 d;exact(zM r hr q d).2
    simp only[Value.ownBlock,Option.toList_some,List.cons_append,List.nil_append,List.nodup_cons,List.mem_cons,not_or];refine⟨⟨by omega,by omega,yI.1⟩,⟨by omega,fun h=>by have:=yM _ h;omega⟩,fun h=>by have:=yM _ h;omega,yI.2⟩
   ·intro v I;simp only[List.mem_cons]at I;rcases I with rfl|rfl|rfl|I
    ·exact⟨_,_,_,rfl⟩
    ·exact⟨_,_,_,rfl⟩
    ·exact⟨_,_,_,rfl⟩
    ·exact C.o.all v I
   ·have S:Below w.heap.size w s:=by have h0:=E.trans (zY.o.mono zH);exact(h0.setCell (by simp;omega) _).trans (D.mono (by omega))
    exact Fy (S.setCell (p:=⟨w.heap.size+1+1,6,none⟩) (by simp;omega) _) (by omega) _ _ _ _ _ _ _
theorem KQ(q h given ae:Int)(o p u y s lo r x t:Nat)(a:List Kd)(f:List Pd)(d:List Ld)(w:Zh)(j:BJ w w.heap.size (some ⟨o,p,none⟩) (some ⟨u,y,none⟩) (some ⟨s,lo,none⟩) a f d)(b:Gd w ⟨o,p,none⟩ a)(D:a.length<=600)(F:f.length<=100)(E:d.length<=200)(i:∀k∈a,k.refs.length<=30):
 Calls prog 45 #[.agg (Ys q h given ae (some ⟨o,p,none⟩) a.length r (some ⟨u,y,none⟩) f.length x (some ⟨s,lo,none⟩) d.length t)] w fun e B=>∃T m l z,e=.returned (.agg #[Zg q,Zg h,Zg given,Zg ae,T,m,l])/\AV B w.heap.size T m l z a f d/\(∀v∈T::m::l::z,∃g n c,v=Za g n c)/\Zz w B:=
 GH q h given ae _ _ _ r x t a f d w j (fun A C=>by cases C;exact b) (fun e=>by cases e) (fun e=>by cases e) D F E i
end Go.Proofs.YtckmnfhmoankmaaGreatDoor
