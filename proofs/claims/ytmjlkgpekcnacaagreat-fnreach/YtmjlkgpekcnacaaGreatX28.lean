import Derived.Test.YtmjlkgpekcnacaaGreatX27
import Derived.Test.YtmjlkgpekcnacaaGreatX16
import Derived.Shelf.Slices.In.SortAlone
import Derived.Shelf.Slices.In.SortNone
import Derived.Sort.EveryDepth
import Derived.Sort.OwnSorted
import Derived.Ground.NamesProg
import Derived.Shelf.Lay
set_option maxRecDepth 100000
set_option maxHeartbeats 16000000
namespace Go.Proofs.YtmjlkgpekcnacaaGreat
open Go.ChangeShapes Go.WideShapes Go.ChangeAt Go.RowKit _root_.Go.Proofs.Tryz
variable{x y:Zi}{a:Zl}
section
attribute [local go_sem↓] Go.wp_at_zero Go.wp_at_succ
theorem Sm(l:Zl)(x:Zi):x∈CM l x:=by
 unfold CM;split
 .rename_i h
  exact Zs h
 .simp
theorem TR{l:Zl}(h:y∈l):y∈CM l x:=by
 unfold CM;split
 .exact h
 .have:=List.take_append_drop (Dz l x) l;rw[<-this]at h;rcases List.mem_append.1 h with h|h
  .simp[h]
  .simp[h]
theorem GU:y∈Bg a↔y∈a:=by
 refine⟨RS,fun h=> ?_⟩;have go:∀(a b:Zl),(y∈b\/y∈a)->y∈a.foldl CM b:=by
  intro a;induction a with
  |nil=>intro b h;simpa using h
  |cons x xs ih=>
   intro b h;refine ih _ ?_;rcases h with h|h
   .exact .inl (TR h)
   .rcases List.mem_cons.1 h with rfl|h
    .exact .inl (Sm _ _)
    .exact .inr h
 exact go a [] (.inr h)
theorem QL{b:List Pd}{a:List Ld}:x∈Cq b a↔x∈Bl b a:=by unfold Cq Bl;rw[Dl,Dl,List.mem_append];simp
theorem QM{a:List Pd}{b:List Ld}(f:a.length<=100)(e:b.length<=200):(Cq a b).length<=300:=by unfold Cq;have c:=Dk (b.map (·.sum)) ((a.map (·.sum)).foldl AG []);have d:=Dk (a.map (·.sum)) [];simp at c d;omega
structure Sn (ks:List Kd) (fr:Zl) (w:Zh) (e:Ending) (w':Zh):Prop where
 ex:∃g c R,e=.returned (.slice (some ⟨g,0,none⟩) (Bg R).length c)/\w'.ownsRow w.heap.size 9 1 (.slice (some ⟨g,0,none⟩) (Bg R).length c) (Bg R).length ((Bg R).map Value.string)/\(∀s,s∈R↔Reach ks fr s)/\R.Nodup/\R.length<=20000/\Zz w w'
theorem Sp(h now c b:Int)(a p l:Zk)(k n m:Nat)(ks:List Kd)(d:List Pd)(f:List Ld)(w:Zh)(t:AZ w w.heap.size a p l ks d f)(hk:Fm ks)(hp:FP d)(hf:Fo ks d f)(v:Bq h now c b ks d f):
 Calls prog 11 #[.agg (Yj h now c b a ks.length k p d.length n l f.length m)] w fun e i=>Sn ks (Bl d f) w e i:=by
 obtain⟨r,q⟩:∃r,r=w.alloc (.cells (Yj h now c b a ks.length k p d.length n l f.length m) 27):=⟨_,rfl⟩;have T:Below w.heap.size w r:=by rw[q];exact Zy
 have z1:r.heap.size=w.heap.size+1:=by rw[q];simp
 have Z:Ah r w.heap.size h now c b (.slice a ks.length k) (.slice p d.length n) (.slice l f.length m):=by rw[q];exact Ah.new w h now c b _ _ _ 27
 have D:=Yw q;have B:=Yw t;have Q:=Yw (Zn hk (Zn hp hf));have HX:=Yw Z;have S:=Yw (Ec v);have HP:=Yw v;have zC:=v.nth;have L:=v.np;have K:=v.nl;obtain⟨x0,x1,x2,x3,x4,x5,x6,x7⟩:=Z;clear q t hk hp hf v;go_enter func11,ntmps11;go_upto_region 1 with fail;rw[<-D.o];clear D;go_wp2_with fail;refine(Fg h now c b a p l k n m ks d f r (AZ.M B.o T) Q.o.1 Q.o.2.1 Q.o.2.2).mono ?_;rintro e g ⟨b2,rfl,P,y⟩
 have C:b2=true:=P.2 HP.o;subst C;have z2:=y.size;have j:Below w.heap.size w g:=T.trans (y.mono T.size);have u:Hid (Ah g w.heap.size h now c b (.slice a ks.length k) (.slice p d.length n) (.slice l f.length m)):=Ah.af HX.o y Yv;have kD:Below g.heap.size g g.drew:=(Below.refl _ _).drew;have zB:=Eb (Ah.af u.o kD Yv);have zE:=QM L K;clear P y x0 x1 x2 x3 x4 x5 x6 x7
 go_upto_region 3 with fail;go_region_held3 (fun i=>i.cell? (Zd (w.heap.size) 0)=some (Zg h)/\i.cell? (Zd (w.heap.size) 1)=some (Zg now)/\i.cell? (Zd (w.heap.size) 2)=some (Zg c)/\i.cell? (Zd (w.heap.size) 3)=some (Zg b)/\i.cell? (Zd (w.heap.size) 4)=some (.slice a ks.length k)/\i.cell? (Zd (w.heap.size) 5)=some (.slice p d.length n)/\i.cell? (Zd (w.heap.size) 6)=some (.slice l f.length m))
  (first|exact zB|exact E|exact F|exact G)
  (first
    |(go_at_call 36;refine(Lg h now c b _ p l n m d f g.drew (AZ.M B.o j.drew).p (AZ.M B.o j.drew).l L K).mono ?_;rintro e V ⟨g3,c3,rfl,M,H⟩;have z:Below g.heap.size g V:=kD.trans (H.mono (Zx));have E:=Eb (Ah.af u.o z Yv);have X:Below w.heap.size w V:=j.trans (z.mono j.size))
    |(go_at_call 35;refine(QJ h now c b a k _ _ ks _ c3 (Cq d f) V (AZ.M B.o X).k (Ab.own M) zC zE S.o.cu S.o.uniq).mono ?_;rintro e W ⟨g4,c4,R,rfl,N,o,I⟩;have A:Below g.heap.size g W:=z.trans (I.mono z.size);have F:=Eb (Ah.af u.o A Yv);have zA:R.length<=20000:=(by have h1:=Fx o.nd o.cw;have h2:=Km (ks:=ks) (from':=Cq d f) S.o.cu;omega);have Y:Below w.heap.size w W:=j.trans (A.mono j.size))
    |(go_at_call 34;refine(Gh _ c4 R W (Ab.own N) Yv).mono ?_;rintro e w5 ⟨g5,c5,rfl,O,J⟩;have U:Below g.heap.size g w5:=A.trans (J.mono A.size);have G:=Eb (Ah.af u.o U Yv);have HF:Hid (Sn ks (Bl d f) w (.returned (Yz g5 (Bg R).length c5)) w5):=⟨g5,c5,R,rfl,O.mono Y.size,(fun s=>o.reach.trans (QK (fun x=>QL))),o.nd,zA,j.trans (U.mono j.size)⟩))
 all_goals
  clear E F G M N O o H I J z A U X Y;go_wp2;go_ret;exact HF.o
end
section
attribute [local go_sem↓] Go.wp_at_zero Go.wp_at_succ
structure VR (ks:List Kd) (fr:Zl) (J:Nat->Zl->Zh->Prop) (V:List Nat) (w:Zh) (e:Ending) (w':Zh):Prop where
 ex:∃n0 vs,w.heap.size<=n0/\n0<=w'.heap.size/\(∃v,e=.returned v)/\J n0 vs w'/\vs.Nodup/\(∀s,s∈vs↔Reach ks fr s)/\Cr w.heap.size V w w'
theorem Na(S:FuncId)(cv:Value)(eg:∀args w,(callFunc S args).run prog w=.ok (.enter S args) w)(k now c b:Int)(a p l:Zk)(G R Q:Nat)(f:List Kd)(r:List Pd)(n:List Ld)(V:List Nat)(J:Nat->Zl->Zh->Prop)(w:Zh)(hk:AI w w.heap.size a f)(K:AO w w.heap.size p r)(hq:AR w w.heap.size l n)(i:CB k f r n)(Y:∀q∈V,q<w.heap.size)(zA:∀W,Zz w W->J W.heap.size [] W)(hA:∀o,w.heap.size<=o->Abides o (J o))(hv:∀o B W u ra rc,w.heap.size<=o->B.length<600->u∈f->J o B W->o<=W.heap.size->Calls prog S #[CE u ra rc,cv] W fun e W'=>(∃v,e=.returned v)/\J o (B++[u.sum]) W'/\Cr o V W W'):
 Calls prog 17 #[.agg (Yj k now c b a f.length G p r.length R l n.length Q),.func (.func S) #[] #[cv]] w fun e x=>VR f (r.map (·.sum)++n.map (·.sum)) J V w e x:=by
 obtain⟨d,y⟩:∃d,d=w.alloc (.cells (Yj k now c b a f.length G p r.length R l n.length Q) 27):=⟨_,rfl⟩;have A:Below w.heap.size w d:=by rw[y];exact Zy
 have z1:d.heap.size=w.heap.size+1:=by rw[y];simp
 have X1:Ah d w.heap.size k now c b (.slice a f.length G) (.slice p r.length R) (.slice l n.length Q):=by rw[y];exact Ah.new w k now c b _ _ _ 27
 have bD:Below w.heap.size w d.drew:=A.drew;have kD:Below d.heap.size d d.drew:=(Below.refl _ _).drew;have zJ:=Eb (X1.af kD Yv);have Z:=Yw y;have T:=Yw (Zn hk (Zn K hq));have j:=Yw i;have HJ:=Yw (Zn zA (Zn hA hv));have U:=Yw X1;have zI:=i.nk;have zO:=i.np;have zN:=i.nl;have h8:=i.w8;have zK:=i.gn;clear y hk K hq i zA hA hv X1;go_enter func17,ntmps17;go_upto_region 1 with fail;rw[<-Z.o]
 clear Z;go_region_held3 (fun x=>x.cell? (Zd (w.heap.size) 0)=some (Zg k)/\x.cell? (Zd (w.heap.size) 1)=some (Zg now)/\x.cell? (Zd (w.heap.size) 2)=some (Zg c)/\x.cell? (Zd (w.heap.size) 3)=some (Zg b)/\x.cell? (Zd (w.heap.size) 4)=some (.slice a f.length G)/\x.cell? (Zd (w.heap.size) 5)=some (.slice p r.length R)/\x.cell? (Zd (w.heap.size) 6)=some (.slice l n.length Q))
  (first|exact zJ|exact zC|exact zE|exact zF|exact zG)
  (first
    |(go_at_call 30;refine(Ew k now c b a G _ _ f d.drew (AI.mono (AI.below T.o.1 bD) bD.size) Yv j.o.sum h8).mono ?_;rintro e w2 ⟨m,fm,rfl,zR,X,hH,zH⟩;have N:Below d.heap.size d w2:=kD.trans (zH.mono (Zx));have zC:=Eb (Ah.af U.o N Yv);have L:Below w.heap.size w w2:=A.trans (N.mono A.size))
    |(go_at_call 46;refine(MO k now c b _ p l R Q r n w2 (AO.mono (AO.below T.o.2.1 L) L.size) (AR.mono (AR.below T.o.2.2 L) L.size) zO zN).mono ?_;rintro e w3 ⟨fv,rfl,zP,I⟩;have O:Below d.heap.size d w3:=N.trans (I.mono N.size);have zE:=Eb (Ah.af U.o O Yv);have M:Below w.heap.size w w3:=A.trans (O.mono A.size))
    |(go_at_call 47;refine(IQ k now c b a G _ _ f w3 (AI.mono (AI.below T.o.1 M) M.size) zI j.o.cu j.o.sum j.o.je h8).mono ?_;rintro e C ⟨lb,ln,fl,rfl,zS,hL,z⟩;have P:Below d.heap.size d C:=O.trans (z.mono O.size);have zF:=Eb (Ah.af U.o P Yv);have E:Below w.heap.size w C:=A.trans (P.mono A.size))
    |(go_at_call 39;refine(IF S cv eg k m f.length fm f d.drew d.drew.heap.size fv (r.map (·.sum)++n.map (·.sum)) (lb+1) lb ln (ET f) fl V (J C.heap.size) C ((X.af I X.lt).af z (Zr X.lt I.size)) hH (R8.mono (R8.below zP.read z) z.size) hL (fun h=>by have:=Y m h;have:=bD.size;omega) (fun h=>by have:=Y lb h;have:=M.size;omega) (fun t ht g hg h=>by have:=Y g h;have:=((hL.row t ht).W hg).1;have:=M.size;omega) zI Yt zK h8 (fun s hs=>j.o.sz (j.o.roots hs)) (fun p K=>j.o.sz (j.o.dn K)) (fun s hs=>j.o.roots hs) (fun p K=>j.o.dn K) (HJ.o.1 C E) (HJ.o.2.1 C.heap.size E.size) (fun B W u ra rc h1 h2 h3 h4=>HJ.o.2.2 C.heap.size B W u ra rc E.size h1 h2 h3 h4)).mono ?_;rintro e w5 ⟨B,⟨rv,rfl⟩,zB,zM,D,H⟩;have V5:Cr w.heap.size V w w5:=(JU E H);have F:=Yw (Zn zB (Zn zM (Zn D (Zn V5 (Zn E.size H.size)))));have zG:=Eb (Ah.same U.o ((H.old w.heap.size (by have:=P.size;omega) (fun h=>by have:=Y _ h;omega)).trans (P.block _ Yv)))))
 all_goals
  clear X hH hL zH I z N O P L M E zC zE zF zG zB D H V5;go_wp2
  go_end0
  exact⟨_,B,F.o.2.2.2.2.1,F.o.2.2.2.2.2,⟨_,rfl⟩,F.o.1,F.o.2.1,fun s=>(F.o.2.2.1 s).trans GA,F.o.2.2.2.1⟩
end
section
attribute [local go_sem↓] Go.wp_at_zero Go.wp_at_succ
def LW(c n0:Nat)(vs:Zl)(W:Zh):Prop:=
 ∃v,W.cell? (Zd c 0)=some v/\W.frozen? ⟨c,0,none⟩=false/\W.ownsRow n0 9 1 v vs.length (vs.map Value.string)
theorem OT(c b:Nat)(i:c<b):Abides b (LW c b):=by
 rintro r W l ⟨v,m,d,e⟩ _ _ _ _ j q;refine⟨v,(World.cell?_of_block (a:=⟨c,0,none⟩) (j c i)).trans m,?_,e.1,?_⟩
 .unfold World.frozen? at d |-;rw[show l.heap[(⟨c,0,none⟩:Addr).block]?=W.heap[(⟨c,0,none⟩:Addr).block]? from j c i];exact d
 .rcases e.2 with h|⟨g,cap,k,rfl,f,o,n⟩
  .exact .inl h
  .exact .inr ⟨g,cap,k,rfl,f,q g _ f o (by simp[Fi]),n⟩
theorem Nb(i c:Nat)(d:Zl)(W:Zh)(u:Kd)(M:Zk)(N:Nat)(hc:c<i)(hn:i<=W.heap.size)(zA:d.length<600)(hJ:LW c i d W):
 Calls prog 18 #[CE u M N,Yy c] W fun e K=>(∃v,e=.returned v)/\LW c i (d++[u.sum]) K/\Cr i [c] W K:=by
 obtain⟨i0,hi,S,T,U⟩:=info_parts BW;obtain⟨v,y,A,H⟩:=hJ;obtain⟨j,s⟩:∃j,j=W.alloc (.cells #[.string u.sum,Zg u.born,.string u.E,.slice M u.B.length N] 37):=⟨_,rfl⟩;have t:Below W.heap.size W j:=by rw[s];exact Zy
 have z1:=t.size;have s1:j.cell? (Zd (W.heap.size) 0)=some (.string u.sum):=by rw[s];simp[go_sem]
 have Y:j.cell? (Zd c 0)=some v:=(t.cell (p:=⟨c,0,none⟩) (World.block_lt_of_cell? W _ y)).trans y;have Z:j.frozen? ⟨c,0,none⟩=false:=(t.frozen (p:=⟨c,0,none⟩) (World.block_lt_of_cell? W _ y)).trans A;have G:Hid (j.ownsRow i 9 1 v d.length (d.map Value.string)):=World.ownsRow.kept H (Ae none t) (Classical.em _);have D:=Yw s
 have X:Hid (∀g,v.ownBlock=some g->∃n,W.heap[g]?=some (.cells n 9 (0,0))):=by
  intro g I;rcases H.2 with⟨J,_⟩|⟨x,cap,n,rfl,hb,O,h4⟩
  .rw[J]at I;cases I
  .cases I;exact⟨n,O⟩
 clear H s;unfold CE;go_enter func18,ntmps18;go_upto_region 1 with fail;rw[<-D.o];clear D;go_wp2_with (first
  |(at_builtin;refine wpList_append_own _ rfl _ _ 29 rfl i 9 i0 Zc 1 16 underlying29 hi S T U rfl Yr _ d.length (d.map Value.string) rfl ?d0 ⟨j.heap.size,0,none⟩ 1 1 [.string u.sum] rfl rfl ?d1 ?d2 ?d3 ?d4 ?d5 ?_)
  |go_in)
 case d0=>exact World.ownsRow.alloc G.o _
 case d1=>exact cell_one_new _ _ _
 case d2=>intro u L;simp at L;subst L;rfl
 case d3=>unfold maxLen;omega
 case d4=>omega
 case d5=>simp;omega
 intro v' l b f _;obtain⟨x,z,R,_,_⟩:=b.form Yv;subst R;have F:some c≠v.ownBlock:=fun e=>by have:=(World.ownsRow.lt G.o c e.symm).1;omega
 have E:c<W.heap.size:=Yv
 have g:W.grownBy l v.ownBlock:=Am (Ae _ t) (Am (Ae _ (Zy)) f);have c2:l.cell? (Zd c 0)=some v:=(World.cell?_of_block (a:=⟨c,0,none⟩) (g.block c E F)).trans y;have f2:l.frozen? ⟨c,0,none⟩=false:=by unfold World.frozen? at A |-;rw[show l.heap[(⟨c,0,none⟩:Addr).block]?=W.heap[(⟨c,0,none⟩:Addr).block]? from g.block c E F];exact A
 have V:Hid (LW c i (d++[u.sum]) (l.setCell (Zd c 0) (Yz x (d.length+1) z))/\Cr i [c] W (l.setCell (Zd c 0) (Yz x (d.length+1) z))):=by
  have r:=Jc l c 0 (Yz x (d.length+1) z);refine⟨⟨Yz x (d.length+1) z,by simp[go_sem,c2],by simpa [go_sem]using f2,?_⟩,?_⟩
  .rw[List.length_append,List.map_append];exact ownsRow_setCell_below b (by simpa using hc) _
  .have m:∀q,q≠c->some q≠some c:=fun q h e=>h (Option.some.inj e);refine⟨r.os.trans g.os,r.tape.trans g.tape,r.output.trans g.output,Zm g.size r.size,fun q hq J=> ?_,fun q o hq B hs=> ?_⟩
   .have P:q≠c:=fun e=>J (by simp[e]);have k:q<W.heap.size:=Yv
    exact(r.block q (Zr k g.size) (m q P)).trans (g.block q k (fun e=>by have:=(World.ownsRow.lt G.o q e.symm).1;omega))
   .have k:=(Array.getElem?_eq_some_iff.1 B).1;have Q:some q≠v.ownBlock:=fun e=>by obtain⟨n,C⟩:=X.o q e.symm;rw[C]at B;cases B;simp[Fi]at hs
    exact((r.block q (Zr k g.size) (m q Yv)).trans (g.block q k Q)).trans B
 clear b f g y A Y Z;go_wp2
 go_end0
 exact⟨⟨_,rfl⟩,V.o⟩
end
section
open Go.Proofs
theorem Ol{α:Type}{lt:α->α->Prop}(d:∀a,¬lt a a)(j:∀a b c,lt a b->lt b c->lt a c):∀(l1 l2:List α),l1.Pairwise lt->l2.Pairwise lt->(∀x,x∈l1↔x∈l2)->l1=l2
 |[],[],_,_,_=>rfl
 |[],b::l2,_,_,h=>by have:=(h b).2 Yu;simp at this
 |a::l1,[],_,_,h=>by have:=(h a).1 Yu;simp at this
 |a::l1,b::l2,h1,h2,h=>by
  obtain⟨g,n⟩:=List.pairwise_cons.1 h1;obtain⟨i,o⟩:=List.pairwise_cons.1 h2;have k:a=b:=by
   rcases List.mem_cons.1 ((h a).1 Yu)with e|l
   .exact e
   .rcases List.mem_cons.1 ((h b).2 Yu)with e|m
    .exact e.symm
    .exact absurd (j _ _ _ (g b m) (i a l)) (d a)
  subst k;rw[Ol d j l1 l2 n o (fun x=>⟨fun f=>((List.mem_cons.1 ((h x).1 (List.mem_cons_of_mem _ f))).resolve_left (fun e=>d a (e▸g x f))),fun f=>((List.mem_cons.1 ((h x).2 (List.mem_cons_of_mem _ f))).resolve_left (fun e=>d a (e▸i x f)))⟩)]
theorem TT(x:Zi):CM [] x=[x]:=by simp[CM,Dz]
theorem Sq(y:Zi)(l:Zl)(x:Zi):CM (y::l) x=if Ki y x=true then y::CM l x else if y=x then y::l else x::y::l:=by
 unfold CM;by_cases h:Ki y x=true
 .rw[if_pos h];have e:Dz (y::l) x=Dz l x+1:=by rw[Dz,if_pos h]
  rw[e];by_cases h2:l[Dz l x]?=some x
  .simp[h2]
  .simp[h2]
 .rw[if_neg h];have e:Dz (y::l) x=0:=by rw[Dz,if_neg h]
  rw[e];by_cases h2:y=x
  .simp[h2]
  .simp[h2]
theorem Om:∀{l:Zl},l.Pairwise (fun a b=>less a b=true)->(CM l x).Pairwise (fun a b=>less a b=true)
 |[],_=>by rw[TT];simp
 |y::l,h=>by
  obtain⟨p,q⟩:=List.pairwise_cons.1 h;rw[Sq];split
  .rename_i hl
   refine List.pairwise_cons.2 ⟨fun z c=> ?_,Om q⟩;rcases NT c with c|rfl
   .exact p z c
   .exact hl
  .rename_i hl
   split
   .exact h
   .rename_i hne
    have d:less x y=true:=Kw (by cases hh:less y x with|false=>rfl|true=>exact absurd hh hl) hne;refine List.pairwise_cons.2 ⟨fun z c=> ?_,h⟩;rcases List.mem_cons.1 c with rfl|c
    .exact d
    .exact Cm d (p z c)
theorem GV(c:Zl):(Bg c).Pairwise (fun a b=>less a b=true):=by
 unfold Bg;have go:∀(c l:Zl),l.Pairwise (fun a b=>less a b=true)->(c.foldl CM l).Pairwise (fun a b=>less a b=true):=by
  intro c;induction c with
  |nil=>intro l h;exact h
  |cons x c ih=>intro l h;exact ih _ (Om h)
 exact go c [] .nil
def CL(vs:Zl):Zl:=((vs.map (fun v=>v.toList)).mergeSort (fun x y=>decide (x<=y))).map (fun l=>(⟨l.toArray⟩:Zi))
theorem KK(v:Zi):(⟨v.toList.toArray⟩:Zi)=v:=by rw[Lib.toList_data]
theorem QN:x∈CL a↔x∈a:=by
 unfold CL;simp only[List.mem_map,List.mem_mergeSort];constructor
 .rintro⟨l,⟨v,b,rfl⟩,rfl⟩;rw[KK];exact b
 .intro h;exact⟨_,⟨x,h,rfl⟩,KK x⟩
theorem QO{d:Zl}(k:d.Nodup):(CL d).Pairwise (fun a b=>less a b=true):=by
 unfold CL;rw[List.pairwise_map];have f:((d.map (fun v=>v.toList)).mergeSort (fun x y=>decide (x<=y))).Pairwise (fun x y=>decide (x<=y)=true):=
  List.pairwise_mergeSort (fun a b c f g=>by simp at *;exact Std.le_trans f g) (fun a b=>by simp;exact Std.le_total) _
 have g:((d.map (fun v=>v.toList)).mergeSort (fun x y=>decide (x<=y))).Nodup:=
  (List.mergeSort_perm _ _).nodup_iff.2 (List.Pairwise.map _ (fun a b h e=>h (Hl e)) k)
 refine(f.and g).imp ?_;rintro a b ⟨i,j⟩;rw[Kv];have e:∀l:List UInt8,(⟨l.toArray⟩:Zi).toList=l:=fun l=>by rw[Lib.toList_data]
 rw[e,e];by_cases h:a<b
 .exact h
 .exact absurd (Std.le_antisymm (of_decide_eq_true i) (List.not_lt.1 h)) j
theorem Sr{c R:Zl}(d:c.Nodup)(h:∀s,s∈c↔s∈R):CL c=Bg R:=
 Ol (lt:=fun a b=>less a b=true) (fun a e=>by rw[BU]at e;cases e) (fun _ _ _ h k=>Cm h k) _ _ (QO d) (GV R) (fun x=>by rw[QN,h,GU])
end
end Go.Proofs.YtmjlkgpekcnacaaGreat
namespace Go.Proofs
open Go.Shelf
shelf_lay Lays.n190 Nm 190 at Tryz as Tryz.laysSort
end Go.Proofs
namespace Go.Proofs.YtmjlkgpekcnacaaGreat
open Go.ChangeShapes Go.WideShapes Go.ChangeAt Go.RowKit _root_.Go.Proofs.Tryz
variable{a b fr:Zl}{s:Zi}{c ks:List Kd}{f:Int}{x:Kd}{k:Nat}
theorem TU{w:Zh}{base:Nat}{v:Value}(h:w.ownsRow base 9 1 v a.length (a.map Value.string))(A:a.length<=600):
 Calls prog 19 #[v] w fun e c=>e=.returned (.tuple #[])/\c.ownsRow base 9 1 v a.length ((CL a).map Value.string)/\w.grownBy c v.ownBlock:=by
 rcases h.2 with⟨u,m⟩|⟨g,cap,z,rfl,b,d,o,q,r,s⟩
 .subst u;have j:a=[]:=List.eq_nil_of_length_eq_zero m;subst j;refine(calls_of_every_depth fun D=>AnyS.slices_Sort_string_none_alone laysSort D none 0 w).mono ?_;rintro e c ⟨rfl,rfl⟩;have e:CL []=[]:=by simp[CL]
  rw[e];exact⟨rfl,h,AK _ _⟩
 .have k:(a.map (fun v=>v.toList)).map encStr=a.map Value.string:=by rw[List.map_map];exact List.map_congr_left (fun x _=>congrArg Value.string (KK x))
  have t:Sort.Holds encStr w g 0 (a.map (fun v=>v.toList)).toArray:=holds_of_block d (by rw[k,List.length_map];simpa using s);have f:=calls_of_every_depth fun D=>AnyS.slices_Sort_string_alone laysSort D g 0 cap (a.map (fun v=>v.toList)) w t (Array.getElem?_eq_some_iff.1 d).1 Yt;rw[List.length_map]at f;refine f.mono ?_;rintro e c ⟨rfl,n,os,rfl⟩;refine⟨rfl,?_,grownBy_sorted _⟩
  have i:=ownsRow_sorted (n:=n) (os:=os) (ts:=(a.map (fun v=>v.toList)).mergeSort (fun x y=>decide (x<=y))) (ss:=a.map (fun v=>v.toList)) (base:=base) (cap:=cap) Yu b d (by simpa using o) q r;rw[List.length_map]at i;have l:((a.map (fun v=>v.toList)).mergeSort (fun x y=>decide (x<=y))).map encStr=(CL a).map Value.string:=by unfold CL;rw[List.map_map];rfl
  rw[<-l];exact i
section
attribute [local go_sem↓] Go.wp_at_zero Go.wp_at_succ
open Classical in
noncomputable def liveL (ks:List Kd) (fr:Zl):Zl:=Bg ((ks.map (·.sum)).filter (fun s=>decide (Reach ks fr s)))
open Classical in
noncomputable def liveA (wd now given births:Int) (ks:List Kd) (ps:List Pd) (ls:List Ld):Zl:=if Bq wd now given births ks ps ls then liveL ks (Bl ps ls)else []
open Classical in
theorem JE{a:List Kd}(c:∀s,Reach a b s->Aw a s):s∈(a.map (·.sum)).filter (fun s=>decide (Reach a b s))↔Reach a b s:=by rw[List.mem_filter];refine⟨fun h=>of_decide_eq_true h.2,fun h=>⟨?_,decide_eq_true h⟩⟩;obtain⟨u,d,rfl⟩:=c s h;exact List.mem_map.2 ⟨u,d,rfl⟩
theorem QP{d R:Zl}(f:∀s,Reach c d s->Aw c s)(h:∀s,s∈R↔Reach c d s):Bg R=liveL c d:=
 Ol (lt:=fun a b=>less a b=true) (fun a e=>by rw[BU]at e;cases e) (fun _ _ _ h k=>Cm h k) _ _ (GV R) (GV _) (fun x=>by unfold liveL;rw[GU,GU,h,JE f])
theorem OU(d:∀s,Reach ks a s->Aw ks s)(c:b.Nodup)(h:∀s,s∈b↔Reach ks a s):CL b=liveL ks a:=Sr c (fun s=>(h s).trans (JE d).symm)
theorem CB.live{b:List Pd}{a:List Ld}(h:CB f ks b a):∀s,Reach ks (Bl b a) s->Aw ks s:=fun _ d=>
 FE (E:=ET ks) (fun _ e=>h.roots e) (fun _ c=>h.dn c) (GA.2 d)
theorem QQ(a:Zl):(CL a).length=a.length:=by simp[CL]
theorem Ws(b:a.Nodup)(h:∀s∈a,Aw ks s):a.length<=ks.length:=by have:=Fx b (u:=ks.map (·.sum)) (fun x d=>by obtain⟨u,c,rfl⟩:=h x d;exact List.mem_map.2 ⟨u,c,rfl⟩);simpa using this
theorem VS:∀args w,(callFunc 18 args).run prog w=.ok (.enter 18 args) w:=fun _ _=>rfl
theorem Ss(m now c b:Int)(a p l:Zk)(A C B:Nat)(ks:List Kd)(i:List Pd)(f:List Ld)(w:Zh)(D:AZ w w.heap.size a p l ks i f)(hk:Fm ks)(hp:FP i)(hl:Hx f)(hf:Fo ks i f)(T:∀k∈ks,(Lit.int .i64 k.born).wf=true):
 Calls prog 5 #[.agg (Yj m now c b a ks.length A p i.length C l f.length B)] w fun e w'=>∃v,e=.returned v/\
  w'.ownsRow w.heap.size 9 1 v (liveA m now c b ks i f).length ((liveA m now c b ks i f).map Value.string)/\Zz w w':=by
 have zK:∀(fn:Fn) (first cap:Array Value) (w:Zh),(Instr.makeFunc fn first cap).run prog w=.ok (.func fn first cap) w:=fun _ _ _ _=>rfl;obtain⟨E,y⟩:∃E,E=w.alloc (.cells (Yj m now c b a ks.length A p i.length C l f.length B) 27):=⟨_,rfl⟩;have b1:Below w.heap.size w E:=by rw[y];exact Zy
 have z1:E.heap.size=w.heap.size+1:=by rw[y];simp
 have X1:Ah E w.heap.size m now c b (.slice a ks.length A) (.slice p i.length C) (.slice l f.length B):=by rw[y];exact Ah.new w m now c b _ _ _ 27
 have R:=Yw y;have HR:=Yw D;have H:=Yw (Zn hk (Zn hp (Zn hl (Zn hf T))));have HX:=Yw X1;obtain⟨x0,x1,x2,x3,x4,x5,x6,x7⟩:=X1;have zJ:=hf.k;clear y D hk hp hl hf T;go_enter func5,ntmps5;go_upto_region 1 with fail;rw[<-R.o];clear R;go_wp2_with fail;refine(De m now c b a p l A C B ks i f E (AZ.M HR.o b1) H.o.1 H.o.2.1 H.o.2.2.1 H.o.2.2.2.1 H.o.2.2.2.2).mono ?_;rintro e d ⟨b2,rfl,F,z⟩
 have X2:Ah d w.heap.size m now c b (.slice a ks.length A) (.slice p i.length C) (.slice l f.length B):=Ah.af HX.o z Yv;have Y:Below w.heap.size w d:=b1.trans (z.mono b1.size);have z2:=z.size;clear x0 x1 x2 x3 x4 x5 x6 x7;cases b2 with
 |false=>
  have HN:Hid (¬Bq m now c b ks i f):=fun h=>by have:=F.2 h;cases this
  clear F X2 z HX;go_wp2;go_ret;refine⟨_,rfl,?_,Y⟩;unfold liveA;rw[if_neg HN.o];exact World.ownsRow_nil _ _ _ _
 |true=>
  have M:=F.1 rfl;have HP:=Yw M;have Z:=Yw (Ec M);have zN:=M.nth;obtain⟨j,r⟩:∃j,j=d.alloc (.cells #[Zb] 29):=⟨_,rfl⟩;have b3:Below d.heap.size d j:=by rw[r];exact Zy
  have z3:d.heap.size<j.heap.size:=by rw[r];simp
  have c3:j.cell? (Zd (d.heap.size) 0)=some Zb:=by rw[r];simp[go_sem]
  have f3:j.frozen? ⟨d.heap.size,0,none⟩=false:=by rw[r];simp[go_sem]
  have X3:=X2.af b3 Yv;have x:Below w.heap.size w j:=Y.trans (b3.mono Y.size);have Q:Hid (∀W,Zz j W->LW d.heap.size W.heap.size [] W):=fun W hb=>⟨_,(hb.cell (p:=⟨d.heap.size,0,none⟩) z3).trans c3,(hb.frozen (p:=⟨d.heap.size,0,none⟩) z3).trans f3,World.ownsRow_nil _ _ _ _⟩;have S:=Yw r;have zC:=Yw X3;obtain⟨x0,x1,x2,x3,x4,x5,x6,x7⟩:=X3;obtain⟨y0,y1,y2,y3,y4,y5,y6,y7⟩:=X2
  clear r c3 f3 F M HX z;go_upto_region 4 with fail;rw[<-S.o];clear S y0 y1 y2 y3 y4 y5 y6 y7;have L:=AZ.M HR.o x;go_wp2_with fail;refine(Na 18 (Yy d.heap.size) VS m now c b a p l A C B ks i f [d.heap.size] (LW d.heap.size) j L.k L.p L.l Z.o (by intro q hq;simp at hq;omega) Q.o (fun o hn=>OT _ o Yv) (fun o G W u ra rc hn zH _ hJ hW=>Nb o _ G W u ra rc Yv hW zH hJ)).mono ?_
  rintro e I ⟨o,G,zM,zF,⟨rv,rfl⟩,⟨v5,zE,zI,K⟩,V,t,n⟩;have zA:Hid (o<=I.heap.size):=zF;have z5:=n.size;have B5:Below w.heap.size w I:=⟨n.os.trans x.os,n.tape.trans x.tape,n.output.trans x.output,Zm x.size n.size,fun q hq=>(n.old q Yv Yt).trans (x.block q hq)⟩;have HE:Hid (CL G=liveL ks (Bl i f)):=OU Z.o.live V t
  have zG:G.length<=600:=by have:=Ws (ks:=ks) V (fun s hs=>Z.o.live s ((t s).1 hs));omega
  have HS:=Yw (TU K zG);have P:∀g,v5.ownBlock=some g->o<=g:=fun g hg=>(K.lt g hg).1;clear x0 x1 x2 x3 x4 x5 x6 x7 n t L Q zC K;go_wp2_with fail;refine Calls.mono HS.o ?_;rintro e N ⟨rfl,X,U⟩;have O:o<=I.heap.size:=zA.o;have J:Below o I N:=(Below.refl o I).grown U O P;have c6:N.cell? (Zd (d.heap.size) 0)=some v5:=(J.cell (p:=⟨d.heap.size,0,none⟩) Yt).trans zE
  have B6:Below w.heap.size w N:=B5.trans (J.mono (by have:=x.size;omega));have zB:Hid (N.ownsRow o 9 1 v5 (CL G).length ((CL G).map Value.string)):=by show World.ownsRow _ _ _ _ _ _ _;rw[QQ];exact X
  clear U J X HS;go_wp2;go_ret;refine⟨_,rfl,?_,B6⟩;unfold liveA;rw[if_pos HP.o,<-HE.o];exact World.ownsRow.mono zB.o (by have:=x.size;omega)
theorem St(h now c b:Int)(a p l:Zk)(m o n:Nat)(d:List Kd)(f:List Pd)(g:List Ld)(w:Zh)(i:AZ w w.heap.size a p l d f g)(A:Fm d)(B:FP f)(z:Fo d f g):
 Calls prog 11 #[.agg (Yj h now c b a d.length m p f.length o l g.length n)] w fun e E=>∃v,e=.returned v/\
  E.ownsRow w.heap.size 9 1 v (liveA h now c b d f g).length ((liveA h now c b d f g).map Value.string)/\Zz w E:=by
 by_cases hP:Bq h now c b d f g
 .refine(Sp h now c b a p l m o n d f g w i A B z hP).mono ?_;rintro e W ⟨V,U,R,rfl,H,r,T,S,G⟩;refine⟨_,rfl,?_,G⟩;unfold liveA;rw[if_pos hP,<-QP (Ec hP).live r];exact H
 .obtain⟨k,j⟩:∃k,k=w.alloc (.cells (Yj h now c b a d.length m p f.length o l g.length n) 27):=⟨_,rfl⟩;have y:Below w.heap.size w k:=by rw[j];exact Zy
  have I:Ah k w.heap.size h now c b (.slice a d.length m) (.slice p f.length o) (.slice l g.length n):=by rw[j];exact Ah.new w h now c b _ _ _ 27
  have s:=Yw j;have HN:=Yw hP;obtain⟨J,K,L,M,N,O,P,Q⟩:=I;have C:=Yw (Fg h now c b a p l m o n d f g k (AZ.M i y) A B z);clear j i A B z hP;go_enter func11,ntmps11;go_upto_region 1 with fail;rw[<-s.o];clear s;go_wp2_with fail;refine Calls.mono C.o ?_;rintro e F ⟨D,rfl,u,t⟩;have q:D=false:=by
   cases D with
   |false=>rfl
   |true=>exact absurd (u.1 rfl) HN.o
  subst q;have x:Below w.heap.size w F:=y.trans (t.mono y.size);clear u t J K L M N O P Q C;go_wp2;go_ret;refine⟨_,rfl,?_,x.alloc x.size _⟩;unfold liveA;rw[if_neg HN.o];exact World.ownsRow_lit (base:=w.heap.size) (e:=9) (size:=1) F #[] 0 x.size Yp rfl
theorem Su(g now b a:Int)(c:List Kd)(e:List Pd)(d:List Ld)(f:Fo c e d):(liveA g now b a c e d).length<=1048576:=by
 unfold liveA;split
 .unfold liveL;refine Zm (Ea _) (Zm (List.length_filter_le _ _) ?_);rw[List.length_map];exact f.k
 .simp
end
section
attribute [local go_sem↓] Go.wp_at_zero Go.wp_at_succ
theorem Kn(l now g c:Int)(a:Zk)(z:Nat)(P L:Value)(ks:List Kd)(w:Zh)(Q:AI w w.heap.size a ks)(hl:ks.length<=600)(O:∀k∈ks,k.B.length<=30)(zW:∀k∈ks,(k.sum.size:Int)=l)(zV:∀k∈ks,∀r∈k.B,(r.size:Int)=l)(h8:l<=8):
 Calls prog 40 #[.agg #[Zg l,Zg now,Zg g,Zg c,.slice a ks.length z,P,L]] w fun e t=>∃b n f,e=.returned (.map (some b))/\w.heap.size<b/\Lk t (b+1) b n l (EE ks) [] f/\Zz w t:=by
 have yJ:= @run_makeMap prog;have zY:=Yw Q;have S:=Yw (Zn O (Zn zW zV));have zC:Below w.heap.size w (w.alloc (.cells #[Zg l,Zg now,Zg g,Zg c,.slice a ks.length z,P,L] 27)):=Zy;have hx:=Ah.new w l now g c (.slice a ks.length z) P L 27;obtain⟨Y,E⟩:∃W,W=(w.alloc (.cells #[Zg l,Zg now,Zg g,Zg c,.slice a ks.length z,P,L] 27)).alloc (.map #[] 0):=⟨_,rfl⟩;have yL:Y.heap.size=w.heap.size+2:=by rw[E];simp
 have zO:Below w.heap.size w Y:=by rw[E];exact zC.alloc zC.size _
 have zS:AP Y 52 (w.heap.size+1) 0 (fun _=>none):=by have:=AP.new (w.alloc (.cells #[Zg l,Zg now,Zg g,Zg c,.slice a ks.length z,P,L] 27)) 52;rw[World.size_alloc]at this;rw[E];exact this
 have yE:Ah Y w.heap.size l now g c (.slice a ks.length z) P L:=by rw[E];exact hx.af (Zy) hx.2.2.2.2.2.2.2
 have zK:Hid (Lk Y (w.heap.size+1+1) (w.heap.size+1) 0 l [] [] (fun _=>none)):=Lk.new zS;clear Q O zW zV hx zC zS;obtain⟨q0,q1,q2,q3,q4,q5,q6,q7⟩:=yE;go_enter func40,ntmps40;go_upto_region 2 with fail;rw[<-E];clear E yJ;go_wp2
 go_loopw [13] (fun i wr=>∃(k:Nat) (f:Lit->Option Value),k<=ks.length/\i=Zg k/\Hid (Lk wr (w.heap.size+1+1) (w.heap.size+1) (EE (ks.take k)).length l (EE (ks.take k)) [] f)/\Zz w wr/\Hid (Ah wr w.heap.size l now g c (.slice a ks.length z) P L)/\w.heap.size+2<=wr.heap.size) (fun i _=>ks.length -(intOf i).toNat)
 case atStart=>exact⟨0,_,Nat.zero_le _,rfl,by rw[List.take_zero];exact zK,zO,⟨q0,q1,q2,q3,q4,q5,q6,q7⟩,Yv⟩
 case round=>
  rename Zh=>wo
  clear q0 q1 q2 q3 q4 q5 q6 q7 zK zO yL;obtain⟨k,f,hk,rfl,v,s,J,yZ⟩:=hrel;by_cases hlt:k<ks.length
  .obtain⟨b,off,ha,hb,hc⟩:=(AI.below zY.o s).at hlt;subst ha;have HG:Hid (ks[k]?=some ks[k]):=Zv hlt;obtain⟨c0,c1,c2,ra,rc,c3,zU⟩:=hc k _ HG.o;have y:ks[k]∈ks:=List.getElem_mem hlt;have yQ:=S.o.1 _ y;have yY:=S.o.2.1 _ y;have yC:=Yw (S.o.2.2 _ y);have yX:b<wo.heap.size:=Yv
   have HE:=Yw (TP HG.o);have yU:(EE (ks.take k)).length<=18000:=by
    have:=IE (ks:=ks.take k) (fun u=>u.B.map (fun r=>(r,u.sum))) (fun u hu=>by simpa using S.o.1 u (List.mem_of_mem_take hu));have h2:(ks.take k).length<=600:=Yt
    unfold EE;omega
   have yB:=Yw zU;clear hc zU y;generalize ks[k]=x at *
   generalize EE (ks.take k)=E0 at *
   obtain⟨C,M⟩:∃C,C=wo.alloc (.cells #[.string x.sum,Zg x.born,.string x.E,.slice ra x.B.length rc] 37):=⟨_,rfl⟩;have T:Below wo.heap.size wo C:=by rw[M];exact Zy
   have Z1:Aa C wo.heap.size [.string x.sum,Zg x.born,.string x.E,.slice ra x.B.length rc]:=by rw[M];exact Aa.new wo _ _
   have yM:C.heap.size=wo.heap.size+1:=by rw[M];simp
   obtain⟨z3,_⟩:=Z1 3 _ rfl;have X1:Ah C w.heap.size l now g c (.slice (some ⟨b,off,none⟩) ks.length z) P L:=Ah.af J.o T J.o.2.2.2.2.2.2.2;have B1:Below w.heap.size wo C:=T.mono s.size;have L1:Lk C (w.heap.size+1+1) (w.heap.size+1) E0.length l E0 [wo.heap.size] f:=Lk.af (Lk.gy v.o _ (by intro q hq;simp at hq;omega)) T;have R:=Yw (Zn L1 (Zn B1 (Zn X1 Z1)));have zM:=Yw M;clear M L1 B1 X1 Z1 T
   obtain⟨x0,x1,x2,x3,x4,x5,x6,x7⟩:=J.o;go_upto_region 5 with fail;rw[<-zM.o];clear zM x0 x1 x2 x3 x4 x5 x6 x7;obtain⟨h,zP⟩:∃h,h=wo.heap.size:=⟨_,rfl⟩;rw[<-zP]at R z3 |-;have yO:w.heap.size+2<=h:=Yv
   have zE:h<C.heap.size:=Yv
   clear zP yM;go_wp2
   go_loopw [21] (fun i wr=>∃(m:Nat) (Z:Lit->Option Value),m<=x.B.length/\i=Zg m/\Hid (Lk wr (w.heap.size+1+1) (w.heap.size+1) (E0.length+m) l (E0++(x.B.take m).map (fun r=>(r,x.sum))) [h] Z)/\Below w.heap.size wo wr/\Hid (Ah wr w.heap.size l now g c (.slice (some ⟨b,off,none⟩) ks.length z) P L)/\Hid (Aa wr h [.string x.sum,Zg x.born,.string x.E,.slice ra x.B.length rc])/\h<wr.heap.size) (fun i _=>x.B.length -(intOf i).toNat)
   case atStart=>exact⟨0,f,Nat.zero_le _,rfl,(show Lk _ _ _ _ _ _ _ _ from by simpa using R.o.1),R.o.2.1,R.o.2.2.1,R.o.2.2.2,zE⟩
   case round=>
    clear R z3 v;obtain⟨m,Z,hm,rfl,v,o,J,HZ,yR⟩:=hrel;by_cases hmlt:m<x.B.length
    .obtain⟨b',zJ,yF,yW,zT⟩:=(Ab.below yB.o o).at hmlt;subst yF;have zA:Hid (x.B[m]?=some x.B[m]):=Zv hmlt;have yH:=zT m _ zA.o;have yA:=Yw (Nr (fun r=>(r,x.sum)) zA.o);clear zT;generalize x.B[m]=r at *
     have zG:(r.size:Int)=l:=yC.o r (Zs zA.o);have yP:b'<wr.heap.size:=by have:=o.size;omega
     go_wp2_with fail;refine(Fs r wr).mono ?_;rintro e D ⟨rfl,V⟩;obtain⟨d,U⟩:∃d,d=D.alloc (Cg r):=⟨_,rfl⟩;have zN:Below D.heap.size D d:=by rw[U];exact Zy
     have Y2:Hid (Aa d D.heap.size (Yk (kB r))):=by rw[U];exact Aa.new D _ _
     have K:Below wr.heap.size wr d:=V.trans (zN.mono V.size);have zX:wr.heap.size<=D.heap.size:=V.size;have zI:D.heap.size<d.heap.size:=Y2.o.lt;have L2:Hid (Lk d (w.heap.size+1+1) (w.heap.size+1) (E0.length+m) l (E0++(x.B.take m).map (fun r=>(r,x.sum))) [D.heap.size,h] Z):=Lk.af (Lk.more v.o zX) K
     have X2:Hid (Ah d w.heap.size l now g c (.slice (some ⟨b,off,none⟩) ks.length z) P L):=Ah.af J.o K J.o.2.2.2.2.2.2.2;have Z2:=Yw (Aa.below HZ.o K);have B2:Hid (Below w.heap.size wo d):=o.trans (K.mono (by have:=s.size;have:=o.size;omega));obtain⟨j,zR⟩:∃j,j=D.heap.size:=⟨_,rfl⟩;have zB:=Yw U;unfold Cg at zB;have yN:h<j:=Yv
     have G:j<d.heap.size:=Yv
     clear U zN K V v J HZ yH;go_upto_region 9 with fail;rw[<-zB.o];rw[<-zR]at Y2 L2 |-;clear zB zR zI zX;have yV:(E0++(x.B.take m).map (fun r=>(r,x.sum))).length<=18030:=Yt
     have yK:w.heap.size+1<w.heap.size+1+1:=Nat.lt_succ_self _;have zH:w.heap.size+1+1<=d.heap.size:=Yv
     have zF:∀q∈[j,h],q<d.heap.size:=by intro q hq;simp at hq;rcases hq with rfl|rfl<;>omega
     have kD:Below d.heap.size d d.drew:=(Below.refl _ _).drew;have I:j≠w.heap.size+1:=Yv
     have H:h≠w.heap.size+1:=Yv
     have eD:d.drew.heap[j]?=d.heap[j]? /\d.drew.heap[h]?=d.heap[h]?:=⟨rfl,rfl⟩;have B:j∈[j,h]:=Yu
     have A:h∈[j,h]:=Yu
     have F:h<d.heap.size:=Yv
     go_region_held3 (fun t=>t.cell? (Zd h 0)=some (.string x.sum)/\t.cell? (Zd j 0)=some (.int .u8 (kB r 0))/\t.cell? (Zd j 1)=some (.int .u8 (kB r 1))/\t.cell? (Zd j 2)=some (.int .u8 (kB r 2))/\t.cell? (Zd j 3)=some (.int .u8 (kB r 3))/\t.cell? (Zd j 4)=some (.int .u8 (kB r 4))/\t.cell? (Zd j 5)=some (.int .u8 (kB r 5))/\t.cell? (Zd j 6)=some (.int .u8 (kB r 6))/\t.cell? (Zd j 7)=some (.int .u8 (kB r 7)))
      (exact XC (by assumption) Z2.o Y2.o)
      (first
        |(go_at_call 21;refine(Fs x.sum d.drew).mono ?_;rintro e N ⟨rfl,yG⟩;have k3:Below d.heap.size d N:=kD.trans (yG.mono (Zx));have k4:Below d.heap.size d (N.alloc (Cg x.sum)):=k3.alloc k3.size _;obtain⟨stC,wC,hEC,hgC,hsC⟩:=(L2.o.af k4).entry Yv r;have gC:d.grownBy wC (some (w.heap.size+1)):=(Ae _ k4).trans hgC;have l3:w.heap.size+1<N.heap.size:=(by have:=k3.size;omega);obtain⟨vC,w4C,w5C,hrC,htC,hLC,hbC,haC,hzC⟩:=L2.o.add yK zH zF gC zG h8 hsC (R8.ff x.sum hgC Yv) Yv 71;have e3:N.heap[j]?=d.heap[j]? /\N.heap[h]?=d.heap[h]?:=⟨k3.block j G,k3.block h F⟩;have yD:(N.alloc (Cg x.sum)).heap[j]?=d.heap[j]? /\(N.alloc (Cg x.sum)).heap[h]?=d.heap[h]?:=⟨k4.block j G,k4.block h F⟩;have eC:wC.heap[j]?=d.heap[j]? /\wC.heap[h]?=d.heap[h]?:=⟨gC.block j G (fun e=>I (Option.some.inj e)),gC.block h F (fun e=>H (Option.some.inj e))⟩;have yS:w4C.heap[j]?=d.heap[j]? /\w4C.heap[h]?=d.heap[h]?:=⟨(haC j B I).2,(haC h A H).2⟩;have yT:w5C.heap[j]?=d.heap[j]? /\w5C.heap[h]?=d.heap[h]?:=⟨(haC j B I).1,(haC h A H).1⟩;unfold Cg at hEC yD;unfold goInt at htC)
        |(refine Cc Yq (.tmp 29) (.tmp 33) 71 71 Yq Yq Yq hrC ?_;have X:=Yw (Zn hLC (Zn hbC (Zn haC hzC)))))
     all_goals
      have hlen:E0.length+(m+1)=E0.length+m+1:=Yv
      go_wp2;refine⟨⟨m+1,upd Z (keyL r) vC,Yv,Yo,?_,?_,?_,?_,?_⟩,by simp[intOf];omega⟩
      .rw[yA.o,<-List.append_assoc,hlen];exact Lk.less X.o.1
      .exact B2.o.trans (X.o.2.1.mono Yv)
      .exact Ah.af X2.o X.o.2.1 Yv
      .exact Aa.same Z2.o (X.o.2.2.1 h Yu Yv).1
      .have:=X.o.2.2.2;omega
    .obtain rfl:m=x.B.length:=Yv
     rw[Zt (Zx),<-HE.o]at v;have yI:(EE (ks.take (k+1))).length=E0.length+x.B.length:=by rw[HE.o];simp
     rw[<-yI]at v;have zZ:=Yw (Lk.free v.o);clear v;go_wp2;exact⟨⟨k+1,Z,Yv,Yo,zZ,s.trans o,J,Yv⟩,by simp[intOf];omega⟩
  .rw[Zt Yv]at v;obtain rfl:k=ks.length:=Yv
   go_wp2;go_ret;exact⟨_,_,f,rfl,Yv,v.o,s⟩
end
section
attribute [local go_sem↓] Go.wp_at_zero Go.wp_at_succ
theorem Sv{y x:Zi}:x∈Cf (EE c) y↔∃u∈c,u.sum=x/\y∈u.B:=by
 unfold Cf EE;rw[List.mem_filterMap];constructor
 .rintro⟨p,a,e⟩;rw[List.mem_flatMap]at a;obtain⟨u,b,a⟩:=a;obtain⟨r,d,rfl⟩:=List.mem_map.1 a;split at e
  .rename_i h
   cases e;exact⟨u,b,rfl,h▸d⟩
  .cases e
 .rintro⟨u,b,rfl,f⟩;exact⟨(y,u.sum),List.mem_flatMap.2 ⟨u,b,List.mem_map.2 ⟨y,f,rfl⟩⟩,Yu⟩
theorem ReachE.trans{E:List (Zi×Zi)}{a b c:Zi}(d:ReachE E [a] b)(e:ReachE E [b] c):ReachE E [a] c:=by
 induction e with
 |here hx=>simp at hx;subst hx;exact d
 |step _ hx ih=>exact .step ih hx
theorem Lw{E c:List (Zi×Zi)}(d:∀x y,x∈Cf E y->y∈Cf c x){a b:Zi}(h:ReachE E [a] b):ReachE c [b] a:=by
 induction h with
 |here hx=>simp at hx;subst hx;exact .here Yu
 |step _ hx ih=>exact ReachE.trans (.step (.here Yu) (d _ _ hx)) ih
theorem TV{t:Zi}:ReachE (EE ks) [s] t↔Reach ks [t] s:=by
 rw[<-GA];constructor
 .exact Lw (fun x y h=>by obtain⟨u,c,a,b⟩:=Sv.1 h;exact Lu.2 ⟨u,c,a,b⟩)
 .exact Lw (fun x y h=>by obtain⟨u,c,a,b⟩:=Lu.1 h;exact Sv.2 ⟨u,c,a,b⟩)
theorem CB.up{b:List Kd}{e:List Pd}{d:List Ld}(_:CB f b e d){p:Zi×Zi}(a:p∈EE b):Aw b p.2:=by unfold EE at a;obtain⟨u,c,a⟩:=List.mem_flatMap.1 a;obtain⟨r,g,rfl⟩:=List.mem_map.1 a;exact⟨u,c,rfl⟩
theorem CB.upLen{d:Int}{c:List Pd}{b:List Ld}(h:CB d ks c b):(EE ks).length<=18000:=by have e:=IE (ks:=ks) (fun u=>u.B.map (fun r=>(r,u.sum))) (fun u a=>by simpa using h.cu u a);have f:=h.nk;unfold EE;omega
theorem IS(h l c:Nat)(k:Zl)(W:Zh)(u:Kd)(H:Zk)(I:Nat)(hl:l<h)(_hc:c<h)(hn:h<=W.heap.size)(X:k.length<600)(T:Eu l c k W):
 Calls prog 41 #[CE u H I,Yy c] W fun e E=>(∃v,e=.returned v)/\Eu l c (k++[u.sum]) E/\Cr h [l] W E:=by
 obtain⟨n,Z,f,x,h2,y,F,z⟩:=T;obtain⟨a,d⟩:∃a,a=W.alloc (.cells #[.string u.sum,Zg u.born,.string u.E,.slice H u.B.length I] 37):=⟨_,rfl⟩;have s:Below W.heap.size W a:=by rw[d];exact Zy
 have z1:a.heap.size=W.heap.size+1:=by rw[d];simp
 have J:a.cell? (Zd (W.heap.size) 0)=some (.string u.sum):=by rw[d];simp[go_sem]
 have t:a.cell? (Zd c 0)=some (.map (some l)):=(s.cell (p:=⟨c,0,none⟩) (World.block_lt_of_cell? W _ F)).trans F;have N:c<a.heap.size:=World.block_lt_of_cell? a _ t;have O:=x.lt;obtain⟨B,P,Q,R,_⟩:=y.get (keyL u.sum);have Y:IntKind.i64.wrap (B+1)=B+1:=Ia Yv Yv;have D:=Yw (Zn x y);have m:=Yw d;have L:SV c l W.heap.size (.string u.sum) a.drew:=⟨t,J⟩;clear x y d;unfold CE
 go_enter func41,ntmps41;go_upto_region 1 with fail;rw[<-m.o];clear m;go_region_held3 (fun K=>K.cell? (Zd c 0)=some (.map (some l))/\K.cell? (Zd (W.heap.size) 0)=some (.string u.sum))
  (first|exact L|exact b|exact r|exact i)
  (first
    |(go_at_call 21;refine(Ef u.sum a.drew).mono ?_;rintro e C ⟨rfl,M⟩;have j:Below a.heap.size a C:=(Below.refl _ _).drew.trans (M.mono (Zx));have A:Below W.heap.size W C:=s.trans (j.mono s.size);obtain⟨st,w3,w4,he,hl1,hl3,hs4,hm4,hg3,hg4⟩:=(D.o.1.af A O).ia keyed underlying50 Yp EO (CD u.sum) (Zg (B+1));rw[P]at he hl1 hl3;unfold goInt at he hs4;have b:SV c l W.heap.size (.string u.sum) C:=⟨(j.cell (p:=⟨c,0,none⟩) N).trans t,(j.cell (p:=⟨W.heap.size,0,none⟩) Yt).trans J⟩;have r:SV c l W.heap.size (.string u.sum) w3:=⟨hg3.cell b.1 (by simpa using z),hg3.cell b.2 Yt⟩;have i:SV c l W.heap.size (.string u.sum) w4:=⟨hg4.cell b.1 (by simpa using z),hg4.cell b.2 Yt⟩))
 all_goals
  have S:Hid (Eu l c (k++[u.sum]) w4/\Cr h [l] W w4):=by refine⟨⟨n+1,_,_,hm4,Yt,D.o.2.snoc u.sum Q R,i.1,z⟩,?_⟩;have g:W.grownBy w4 (some l):=(Ae _ A).trans hg4;exact⟨g.os,g.tape,g.output,g.size,fun q U V=>g.block q Yv (fun e=>V (by rw[Option.some.inj e];simp)),fun q o U G _=>(g.block q (Array.getElem?_eq_some_iff.1 G).1 (fun e=>by have:=Option.some.inj e;omega)).trans G⟩
  clear hm4 he hl1 hl3 hs4 hg3 hg4 b r i j A;go_wp2
  go_end0
  exact⟨⟨_,rfl⟩,S.o⟩
end
section
attribute [local go_sem↓] Go.wp_at_zero Go.wp_at_succ
theorem LX(h l c:Nat)(k:Zl)(W:Zh)(u:Kd)(H:Zk)(I:Nat)(hl:l<h)(_hc:c<h)(hn:h<=W.heap.size)(X:k.length<600)(T:Eu l c k W):
 Calls prog 20 #[CE u H I,Yy c] W fun e E=>(∃v,e=.returned v)/\Eu l c (k++[u.sum]) E/\Cr h [l] W E:=by
 obtain⟨n,Z,f,x,h2,y,F,z⟩:=T;obtain⟨a,d⟩:∃a,a=W.alloc (.cells #[.string u.sum,Zg u.born,.string u.E,.slice H u.B.length I] 37):=⟨_,rfl⟩;have s:Below W.heap.size W a:=by rw[d];exact Zy
 have z1:a.heap.size=W.heap.size+1:=by rw[d];simp
 have J:a.cell? (Zd (W.heap.size) 0)=some (.string u.sum):=by rw[d];simp[go_sem]
 have t:a.cell? (Zd c 0)=some (.map (some l)):=(s.cell (p:=⟨c,0,none⟩) (World.block_lt_of_cell? W _ F)).trans F;have N:c<a.heap.size:=World.block_lt_of_cell? a _ t;have O:=x.lt;obtain⟨B,P,Q,R,_⟩:=y.get (keyL u.sum);have Y:IntKind.i64.wrap (B+1)=B+1:=Ia Yv Yv;have D:=Yw (Zn x y);have m:=Yw d;have L:SV c l W.heap.size (.string u.sum) a.drew:=⟨t,J⟩;clear x y d;unfold CE
 go_enter func20,ntmps20;go_upto_region 1 with fail;rw[<-m.o];clear m;go_region_held3 (fun K=>K.cell? (Zd c 0)=some (.map (some l))/\K.cell? (Zd (W.heap.size) 0)=some (.string u.sum))
  (first|exact L|exact b|exact r|exact i)
  (first
    |(go_at_call 21;refine(Ef u.sum a.drew).mono ?_;rintro e C ⟨rfl,M⟩;have j:Below a.heap.size a C:=(Below.refl _ _).drew.trans (M.mono (Zx));have A:Below W.heap.size W C:=s.trans (j.mono s.size);obtain⟨st,w3,w4,he,hl1,hl3,hs4,hm4,hg3,hg4⟩:=(D.o.1.af A O).ia keyed underlying50 Yp EO (CD u.sum) (Zg (B+1));rw[P]at he hl1 hl3;unfold goInt at he hs4;have b:SV c l W.heap.size (.string u.sum) C:=⟨(j.cell (p:=⟨c,0,none⟩) N).trans t,(j.cell (p:=⟨W.heap.size,0,none⟩) Yt).trans J⟩;have r:SV c l W.heap.size (.string u.sum) w3:=⟨hg3.cell b.1 (by simpa using z),hg3.cell b.2 Yt⟩;have i:SV c l W.heap.size (.string u.sum) w4:=⟨hg4.cell b.1 (by simpa using z),hg4.cell b.2 Yt⟩))
 all_goals
  have S:Hid (Eu l c (k++[u.sum]) w4/\Cr h [l] W w4):=by refine⟨⟨n+1,_,_,hm4,Yt,D.o.2.snoc u.sum Q R,i.1,z⟩,?_⟩;have g:W.grownBy w4 (some l):=(Ae _ A).trans hg4;exact⟨g.os,g.tape,g.output,g.size,fun q U V=>g.block q Yv (fun e=>V (by rw[Option.some.inj e];simp)),fun q o U G _=>(g.block q (Array.getElem?_eq_some_iff.1 G).1 (fun e=>by have:=Option.some.inj e;omega)).trans G⟩
  clear hm4 he hl1 hl3 hs4 hg3 hg4 b r i j A;go_wp2
  go_end0
  exact⟨⟨_,rfl⟩,S.o⟩
end
section
attribute [local go_sem↓] Go.wp_at_zero Go.wp_at_succ
open Classical in
noncomputable def wasteK (ks ks':List Kd) (fr:Zl):Zl:=(ks'.filter (fun k=>decide (¬Reach ks fr k.sum))).map (·.sum)
theorem Lx{a:List Kd}(h:a[k]?=some x)(c:Reach ks fr x.sum):wasteK ks (a.take (k+1)) fr=wasteK ks (a.take k) fr:=by obtain⟨b,rfl⟩:=Zw h;unfold wasteK;rw[Zu b,List.filter_append,List.map_append];simp[c]
theorem LY{a:List Kd}(h:a[k]?=some x)(c:¬Reach ks fr x.sum):wasteK ks (a.take (k+1)) fr=wasteK ks (a.take k) fr++[x.sum]:=by obtain⟨b,rfl⟩:=Zw h;unfold wasteK;rw[Zu b,List.filter_append,List.map_append];simp[c]
theorem Ly(c a:List Kd)(b:Zl):(wasteK c a b).length<=a.length:=by unfold wasteK;rw[List.length_map];exact List.length_filter_le _ _
open Classical in
noncomputable def wasteA (wd now given births:Int) (ks:List Kd) (ps:List Pd) (ls:List Ld):Zl:=if Bq wd now given births ks ps ls then wasteK ks ks (Bl ps ls)else []
theorem Vg:∀args w,(callFunc 20 args).run prog w=.ok (.enter 20 args) w:=fun _ _=>rfl
theorem QR(z now d c:Int)(a p l:Zk)(M O N:Nat)(ks:List Kd)(g:List Pd)(f:List Ld)(w:Zh)(Y:AZ w w.heap.size a p l ks g f)(hk:Fm ks)(hp:FP g)(hl:Hx f)(hf:Fo ks g f)(zN:∀k∈ks,(Lit.int .i64 k.born).wf=true):
 Calls prog 6 #[.agg (Yj z now d c a ks.length M p g.length O l f.length N)] w fun e w'=>∃v,e=.returned v/\
  w'.ownsRow w.heap.size 9 1 v (wasteA z now d c ks g f).length ((wasteA z now d c ks g f).map Value.string)/\Zz w w':=by
 obtain⟨i0,hi,yA,yB,yC⟩:=info_parts BW;have yL:= @run_makeMap prog;have yK:∀(fn:Fn) (first cap:Array Value) (w:Zh),(Instr.makeFunc fn first cap).run prog w=.ok (.func fn first cap) w:=fun _ _ _ _=>rfl;obtain⟨W1,J⟩:∃W1,W1=w.alloc (.cells (Yj z now d c a ks.length M p g.length O l f.length N) 27):=⟨_,rfl⟩;have b1:Below w.heap.size w W1:=by rw[J];exact Zy
 have z1:W1.heap.size=w.heap.size+1:=by rw[J];simp
 have X1:Ah W1 w.heap.size z now d c (.slice a ks.length M) (.slice p g.length O) (.slice l f.length N):=by rw[J];exact Ah.new w z now d c _ _ _ 27
 have zG:=Yw J;have HR:=Yw Y;have HM:=Yw (Zn hk (Zn hp (Zn hl (Zn hf zN))));have HX:=Yw X1;obtain⟨P,Q,R,S,T,U,V,x7⟩:=X1;have yI:=hf.k;clear J Y hk hp hl hf zN;go_enter func6,ntmps6;go_upto_region 1 with fail;rw[<-zG.o];clear zG;go_wp2_with fail;refine(De z now d c a p l M O N ks g f W1 (AZ.M HR.o b1) HM.o.1 HM.o.2.1 HM.o.2.2.1 HM.o.2.2.2.1 HM.o.2.2.2.2).mono ?_;rintro e j ⟨b2,rfl,zA,L⟩
 have X2:Ah j w.heap.size z now d c (.slice a ks.length M) (.slice p g.length O) (.slice l f.length N):=Ah.af HX.o L Yv;have B2:Below w.heap.size w j:=b1.trans (L.mono b1.size);have z2:=L.size;clear P Q R S T U V x7;cases b2 with
 |false=>
  have HN:Hid (¬Bq z now d c ks g f):=fun h=>by have:=zA.2 h;cases this
  clear zA X2 L HX;go_wp2;go_ret;refine⟨_,rfl,?_,B2⟩;unfold wasteA;rw[if_neg HN.o];exact World.ownsRow_nil _ _ _ _
 |true=>
  have hP:=zA.1 rfl;have HP:=Yw hP;have HO:=Yw (Ec hP);have yP:=hP.nth;obtain⟨E,H⟩:∃E,E=(j.alloc (.map #[] 0)).alloc (.cells #[.map (some j.heap.size)] 50):=⟨_,rfl⟩;have b3:Below j.heap.size j E:=by rw[H];exact(Zy).alloc Yu _
  have z3:E.heap.size=j.heap.size+2:=by rw[H];simp
  have M3:Br E 52 j.heap.size 0 0 (fun _=>none):=by rw[H];exact(Br.new j 52).af (Zy) Yu
  have c3:E.cell? (Zd (j.heap.size+1) 0)=some (.map (some j.heap.size)):=by rw[H];simp[go_sem]
  have J3:Eu j.heap.size (j.heap.size+1) [] E:=⟨0,0,_,M3,Zx,MK.nil,c3,Yv⟩;have X3:=X2.af b3 Yv;have Z:Below w.heap.size w E:=B2.trans (b3.mono B2.size);have zH:=Yw H;have zJ:=Yw X3;have zE:=Yw J3;obtain⟨P,Q,R,S,T,U,V,x7⟩:=X3;obtain⟨y0,y1,y2,y3,y4,y5,y6,y7⟩:=X2;clear H M3 c3 J3 zA hP HX L;go_upto_region 4 with fail;rw[<-zH.o];clear zH y0 y1 y2 y3 y4 y5 y6 y7;have R3:=AZ.M HR.o Z
  go_wp2_with fail;refine(Oj 20 (Yy (j.heap.size+1)) Vg z now d c a p l M O N ks g f [j.heap.size] (Eu j.heap.size (j.heap.size+1)) E R3.k R3.p R3.l HO.o (by intro q hq;simp at hq;omega) zE.o (fun n0 hn=>Hd n0 _ _ Yv Yv) (fun n0 vs W u ra rc hn zY _ hJ hW=>LX n0 _ _ vs W u ra rc Yv Yv hW zY hJ)).mono ?_;rintro e m ⟨vs,⟨rv,rfl⟩,zP,yO,X,t⟩;have z5:=t.size
  have X5:Ah m w.heap.size z now d c (.slice a ks.length M) (.slice p g.length O) (.slice l f.length N):=Ah.same zJ.o (t.old _ Yv Yt);have B5:Below w.heap.size w m:=⟨t.os.trans Z.os,t.tape.trans Z.tape,t.output.trans Z.output,Zm Z.size t.size,fun q hq=>(t.old q Yv Yt).trans (Z.block q hq)⟩;obtain⟨mn,mc,mf,m1,m2,m3,m4,m5⟩:=zP
  have I:=Yw (Zn m1 (Zn m3 (Zn X m4)));have zU:j.heap.size+1<m.heap.size:=Yv
  have zW:j.heap.size<m.heap.size:=Yv
  have zK:=Yw X5;clear P Q R S T U V x7;obtain⟨P,Q,R,S,T,U,V,x7⟩:=X5;clear t m1 m2 m3 m4 m5 X R3 zE zJ;go_wp2
  go_loopw [4,17] (fun v i wr=>∃(k:Nat),k<=ks.length/\i=Zg k/\Hid (wr.ownsRow m.heap.size 9 1 v (wasteK ks (ks.take k) (Bl g f)).length ((wasteK ks (ks.take k) (Bl g f)).map Value.string))/\Zz m wr) (fun _ i _=>ks.length -(intOf i).toNat)
  case atStart=>exact⟨0,Nat.zero_le _,rfl,World.ownsRow_nil _ _ _ _,Below.refl _ _⟩
  case round=>
   clear P Q R S T U V;obtain⟨k,yJ,rfl,zC,r⟩:=hrel;have B6:Below w.heap.size w wr:=B5.trans (r.mono B5.size);by_cases hlt:k<ks.length
   .obtain⟨b,off,ha,hb,hc⟩:=(AI.below HR.o.k B6).at hlt;subst ha;have HG:Hid (ks[k]?=some ks[k]):=Zv hlt;obtain⟨c0,c1,c2,ra,rc,c3,_⟩:=hc k _ HG.o;have n:ks[k]∈ks:=List.getElem_mem hlt;have yR:=HO.o.sum _ n;have yG:=Yw n;have yH:b<wr.heap.size:=by have:=B6.size;omega
    clear hc n;generalize ks[k]=x at *
    have z6:=r.size;have yQ:=Ly ks (ks.take k) (Bl g f);have yF:(ks.take k).length<=600:=Yt
    have zO:=Yw zC;obtain⟨o,K⟩:∃o,o=wr.alloc (.cells #[.string x.sum,Zg x.born,.string x.E,.slice ra x.B.length rc] 37):=⟨_,rfl⟩;have b7:Below wr.heap.size wr o:=by rw[K];exact Zy
    have s7:o.cell? (Zd (wr.heap.size) 0)=some (.string x.sum):=by rw[K];simp[go_sem]
    have z7:o.heap.size=wr.heap.size+1:=by rw[K];simp
    have A:Below m.heap.size m o:=r.trans (b7.mono r.size);have m7:o.cell? (Zd (j.heap.size+1) 0)=some (.map (some j.heap.size)):=(A.cell (p:=⟨j.heap.size+1,0,none⟩) zU).trans I.o.2.2.2;obtain⟨G,hn,yM,yN,zX⟩:=I.o.2.1.get (keyL x.sum);have n:(G=0)↔¬Reach ks (Bl g f) x.sum:=by
     have h1:0<G↔Reach ks (Bl g f) x.sum:=by
      rw[zX];show keyL x.sum∈vs.map keyL↔Reach ks (g.map (·.sum)++f.map (·.sum)) x.sum;rw[<-I.o.2.2.1];constructor
      .intro h;obtain⟨y,hy,e⟩:=List.mem_map.1 h;have zZ:=(I.o.2.2.1 y).1 hy;have yS:=HO.o.sz (FE (ks:=ks) (fun s hs=>HO.o.roots hs) (fun p hp=>HO.o.dn hp) (GA.2 zZ));exact key_inj e Yv (by have:=HO.o.w8;omega)▸hy
      .intro h;exact List.mem_map.2 ⟨x.sum,h,rfl⟩
     rw[<-h1];omega
    have zI:=Yw K;have zM:SV (j.heap.size+1) j.heap.size wr.heap.size (.string x.sum) o.drew:=⟨m7,s7⟩;have X7:=Ah.af zK.o A Yv;have O7:Hid (o.ownsRow m.heap.size 9 1 u4 (wasteK ks (ks.take k) (Bl g f)).length ((wasteK ks (ks.take k) (Bl g f)).map Value.string)):=zO.o.kept (Ae none b7) (Classical.em _);obtain⟨P,Q,R,S,T,U,V,_⟩:=Ah.af zK.o r Yv;clear K;go_upto_region 9 with fail
    rw[<-zI.o];clear zI c0 c1 c2 c3 P Q R S T U V;go_cut [26] (fun v wx=>v=.bool (decide (G=0))/\Hid (Zz o wx))
    case first=>
     have yE:(G==0)=decide (G=0):=by by_cases h:G=0<;>simp[h]
     go_region_held3 (fun w'=>w'.cell? (Zd (j.heap.size+1) 0)=some (.map (some j.heap.size))/\w'.cell? (Zd (wr.heap.size) 0)=some (.string x.sum))
      (first|exact zM|exact zR)
      (first
        |(go_at_call 21;refine(Ef x.sum o.drew).mono ?_;rintro e B ⟨rfl,zS⟩;have F:Below o.heap.size o B:=(Below.refl _ _).drew.trans (zS.mono (Zx));have yD:Below m.heap.size m B:=A.trans (F.mono A.size);have zV:=(I.o.1.map.af yD zW).look keyed underlying50 (EO B) (CD x.sum);rw[hn]at zV;have zR:SV (j.heap.size+1) j.heap.size wr.heap.size (.string x.sum) B:=⟨(F.cell (p:=⟨j.heap.size+1,0,none⟩) Yt).trans m7,(F.cell (p:=⟨wr.heap.size,0,none⟩) Yt).trans s7⟩))
     all_goals
      go_wp2_with fail;go_meet;exact⟨rfl,F⟩
    case rest=>
    revert wc;intro B hcut;obtain⟨rfl,K8⟩:=hcut;have F:=K8.o;have s8:B.cell? (Zd (wr.heap.size) 0)=some (.string x.sum):=(F.cell (p:=⟨wr.heap.size,0,none⟩) Yt).trans s7;have O8:B.ownsRow m.heap.size 9 1 u4 (wasteK ks (ks.take k) (Bl g f)).length ((wasteK ks (ks.take k) (Bl g f)).map Value.string):=O7.o.kept (Ae none F) (Classical.em _)
    have B8:Below m.heap.size m B:=A.trans (F.mono A.size);have z8:=F.size;clear zM X7 O7 K8 A b7 s7 m7;by_cases h0:G=0
    .have hd:decide (G=0)=true:=by simpa using h0
     have HE:=Yw (LY (ks:=ks) (fr:=Bl g f) HG.o (n.1 h0));have zF:=Yw O8;clear O8;go_wp2_with (first
      |(at_builtin;refine wpList_append_own _ rfl _ _ 29 rfl m.heap.size 9 i0 Zc 1 16 underlying29 hi yA yB yC rfl Yr _ (wasteK ks (ks.take k) (Bl g f)).length ((wasteK ks (ks.take k) (Bl g f)).map Value.string) rfl ?d0 ⟨B.heap.size,0,none⟩ 1 1 [.string x.sum] rfl rfl ?d1 ?d2 ?d3 ?d4 ?d5 ?_)
      |go_in)
     case d0=>exact World.ownsRow.alloc zF.o _
     case d1=>exact cell_one_new _ _ _
     case d2=>intro u hu;simp at hu;subst hu;rfl
     case d3=>unfold maxLen;omega
     case d4=>omega
     case d5=>simp;omega
     intro v' w9 D C _;have zT:Below m.heap.size m w9:=(B8.alloc B8.size _).grown C Yt (fun q hq=>(World.ownsRow.lt zF.o q hq).1);have zB:Hid (w9.ownsRow m.heap.size 9 1 v' (wasteK ks (ks.take (k+1)) (Bl g f)).length ((wasteK ks (ks.take (k+1)) (Bl g f)).map Value.string)):=by rw[HE.o,List.length_append,List.map_append];exact D
     clear D C;go_wp2;exact⟨⟨k+1,Yv,Yo,zB,zT⟩,by simp[intOf];omega⟩
    .have hd:decide (G=0)=false:=by simpa using h0
     have HE:=Yw (Lx (ks:=ks) (fr:=Bl g f) HG.o (Classical.not_not.1 (fun h=>h0 (n.2 h))));have zB:Hid (B.ownsRow m.heap.size 9 1 u4 (wasteK ks (ks.take (k+1)) (Bl g f)).length ((wasteK ks (ks.take (k+1)) (Bl g f)).map Value.string)):=by rw[HE.o];exact O8
     clear O8;go_wp2;exact⟨⟨k+1,Yv,Yo,zB,B8⟩,by simp[intOf];omega⟩
   .rw[Zt Yv]at zC;go_wp2;go_ret;refine⟨_,rfl,?_,B6⟩;unfold wasteA;rw[if_pos HP.o];exact World.ownsRow.mono zC.o Yv
end
end Go.Proofs.YtmjlkgpekcnacaaGreat
