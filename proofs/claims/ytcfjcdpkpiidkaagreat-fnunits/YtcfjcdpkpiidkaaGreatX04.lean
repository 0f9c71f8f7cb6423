import Derived.Test.YtcfjcdpkpiidkaaGreatX01
import Derived.Maps.AppendAt
import Derived.Deep.RegionLaw
import Derived.Laws.OwnMore
import Derived.Lib.OwnKind
import Derived.Laws.Tables
set_option maxRecDepth 100000
set_option maxHeartbeats 16000000
namespace Go.Proofs.YtcfjcdpkpiidkaaGreat
open ChangeShapes WideShapes ChangeAt RowKit _root_.Go.Proofs.Tryz
variable{P:Program}{F:Array Oper}{o:Oper}{a c:Int}{E:Prop}{w wr V:Zh}{B k b n:Nat}{d:Zj}{l:Zl}{x y s t:Zi}{e:TypeId}{v u:Value}{row:Option Nat}{p:Addr}
theorem JX(w:Zh){a:Act}{K:Act->Zh->Prop}{Q:Exit->Act->Zh->Prop}(O:o.guard=none)(J x:Operand)(t:TypeId)(Y:o.op=.call {callee:=.builtin .append,args:= #[J,x],argTypes:= #[t,t]})(b:Nat)(e:TypeId)(i:TypeInfo)(z:Value)(bytes:Nat)(ht:P.underlying t=some (.slice e))(W:P.info? e=some i)(hz:i.zero=some z)(y:i.size=1)(N:i.bytes=bytes)(R:z.cells.size=1)(q n I:Nat)(L:Zl)(B:a.eval J=Yz q n I)(D:w.ownsRow b e 1 (Yz q n I) n (L.map Value.string))(G:Addr)(m c:Nat)(C:Zl)(hx:a.eval x=.slice (some G) m c)(X:C.length=m)(v:∀j s,C[j]?=some s->w.cell? (G.add j)=some (.string s))(M:n+m<=maxLen)(d:(n+m) *bytes<=140737488355328)(l:b<=w.heap.size)(h:∀g cap k,k.ownsRow b e 1 (Yz g (n+m) cap) (n+m) ((L++C).map Value.string)->w.grownBy k (some q)->(g=q\/g=w.heap.size)->g<k.heap.size->K (a.put o.dst (Yz g (n+m) cap)) k):
 if Region.wanted o (yielded F a.tmps)=true then Oper.wp P o a w K Q else E:=by
 have hw:Region.wanted o (yielded F a.tmps)=true:=by simp[Region.wanted,O]
 rw[if_pos hw];obtain⟨v',k,Z,H,T,U,A⟩:=run_append_own_at (P:=P) w b t o.type e i z 1 bytes ht W hz y N R Yq _ n _ D G m c (C.map Value.string) (by simp[X])
  (fun j u f=>by
    rw[List.getElem?_map]at f;cases B:C[j]? with
    |none=>rw[B]at f;cases f
    |some s=>rw[B]at f;cases f;exact v j s B)
  (fun u f=>by obtain⟨s,_,rfl⟩:=List.mem_map.1 f;rfl) M d l
 have r:∃g cap,v'=Yz g (n+m) cap:=by
  rcases Joins.ownsRow_forms H with⟨S,_⟩|V
  .have:=(U.1 S).1;cases this
  .exact V
 obtain⟨g,cap,rfl⟩:=r;unfold Oper.wp execOp;simp only[Y,resolve,invoke,builtin,Sem.run_bind,Sem.run_pure,Result.andThen_ok,List.map_toArray,List.map_cons,List.map_nil,B,hx,Z];refine h g cap k (by rw[List.map_append];exact H) T ?_ (H.lt g rfl).2;rcases A with A|A
 .left;simpa [Value.ownBlock]using A
 .right;simpa [Value.ownBlock]using A
theorem Ax(w:Zh){a:Act}{K:Act->Zh->Prop}{Q:Exit->Act->Zh->Prop}(D:o.guard=none)(G x:Operand)(t:TypeId)(L:o.op=.call {callee:=.builtin .append,args:= #[G,x],argTypes:= #[t,t]})(b:Nat)(e:TypeId)(i:TypeInfo)(z:Value)(bytes:Nat)(N:P.underlying t=some (.slice e))(I:P.info? e=some i)(X:i.zero=some z)(r:i.size=1)(S:i.bytes=bytes)(U:z.cells.size=1)(q n v:Nat)(H:Zl)(M:a.eval G=Yz q n v)(d:w.ownsRow b e 1 (Yz q n v) n (H.map Value.string))(u:Zk)(m c:Nat)(y:Zl)(O:a.eval x=.slice u m c)(J:y.length=m)(C:u=none->m=0/\c=0)(l:∀A,u=some A->∀j s,y[j]?=some s->w.cell? (A.add j)=some (.string s))(R:n+m<=maxLen)(f:(n+m) *bytes<=140737488355328)(k:b<=w.heap.size)(h:∀g cap B,B.ownsRow b e 1 (Yz g (n+m) cap) (n+m) ((H++y).map Value.string)->w.grownBy B (some q)->(g=q\/g=w.heap.size)->g<B.heap.size->K (a.put o.dst (Yz g (n+m) cap)) B):
 if Region.wanted o (yielded F a.tmps)=true then Oper.wp P o a w K Q else E:=by
 cases u with
 |some A=>exact JX w D G x t L b e i z bytes N I X r S U q n v H M d A m c y O J (l A rfl) R f k h
 |none=>
  obtain⟨rfl,rfl⟩:=C rfl;have T:=List.eq_nil_of_length_eq_zero J;subst T;have W:Region.wanted o (yielded F a.tmps)=true:=by simp[Region.wanted,D]
  rw[if_pos W];have V:=run_append_owned_none (P:=P) w b t o.type e i 1 N I _ n _ d;unfold Oper.wp execOp;simp only[L,resolve,invoke,builtin,Sem.run_bind,Sem.run_pure,Result.andThen_ok,List.map_toArray,List.map_cons,List.map_nil,M,O,V];exact h q v w (by simpa using d) ⟨rfl,rfl,rfl,Zx,fun _ _ _=>rfl⟩ (.inl rfl) (d.lt q rfl).2
theorem Ab.ay{a:Zk}{d:Zl}(h:Ab w B a d):∀A,a=some A->∀j s,d[j]?=some s->w.cell? (A.add j)=some (.string s):=by
 rintro A rfl j s c;rcases h with h|⟨b,off,e,_,f⟩
 .subst h;simp at c
 .cases e;have:=f j s c;rw[Go.WideShapes.add_plain];exact this
theorem Ab.take{a:Zk}{c:Zl}(h:Ab w B a c)(K:Nat):Ab w B a (c.take K):=by
 rcases h with h|⟨q,off,d,e,f⟩
 .exact .inl (by simp[h])
 .refine .inr ⟨q,off,d,e,fun i s b=>f i s ?_⟩;have g:=(Zw b).1;simp at g;rw[List.getElem?_take_of_lt Yv]at b;exact b
def JE(a b:Zi):Bool:=Op.bytesLess a.toList b.toList
def Dn:Zl->Zi->Nat
 |[],_=>0
 |y::l,x=>if JE y x=true then Dn l x+1 else 0
theorem UM(l:Zl)(x:Zi):Dn l x<=l.length:=by
 induction l with
 |nil=>simp[Dn]
 |cons y l ih=>unfold Dn;split<;>simp;omega
theorem Lr{j:Nat}(h:∀i y,i<j->l[i]?=some y->JE y x=true)(c:∀y,l[j]?=some y->JE y x=false)(a:j<=l.length):Dn l x=j:=by
 induction l generalizing j with
 |nil=>simp at a;simp[Dn,a]
 |cons y l ih=>
  unfold Dn;cases j with
  |zero=>rw[if_neg (by rw[c y rfl];decide)]
  |succ j=>rw[if_pos (h 0 y Yv rfl),ih (j:=j) (fun i z d b=>h (i+1) z Yv (by simpa using b)) (fun z b=>c z (by simpa using b)) (by simpa using a)]
def Cy(l:Zl)(x:Zi):Zl:=if l[Dn l x]?=some x then l else l.take (Dn l x)++[x]++l.drop (Dn l x)
def Be(ss:Zl):Zl:=ss.foldl Cy []
theorem OI(l:Zl)(x:Zi):(Cy l x).length<=l.length+1:=by
 unfold Cy;split
 .omega
 .have:=UM l x;simp;omega
theorem Nf(h:y∈Cy l x):y∈l\/y=x:=by
 unfold Cy at h;split at h
 .exact .inl h
 .simp only[List.mem_append,List.mem_singleton]at h;rcases h with(h|h)|h
  .exact .inl (List.mem_of_mem_take h)
  .exact .inr h
  .exact .inl (List.mem_of_mem_drop h)
theorem Pp(b:Zl):∀a:Zl,(b.foldl Cy a).length<=a.length+b.length/\∀y∈b.foldl Cy a,y∈a\/y∈b:=by
 induction b with
 |nil=>intro a;exact⟨Yu,fun y c=> .inl c⟩
 |cons x b ih=>
  intro a;obtain⟨e,d⟩:=ih (Cy a x);have:=OI a x;refine⟨by simp only[List.foldl_cons,List.length_cons];omega,fun y c=> ?_⟩;rcases d y c with h|h
  .rcases Nf h with h|h
   .exact .inl h
   .exact .inr (by simp[h])
  .exact .inr (by simp[h])
theorem DW(a:Zl):(Be a).length<=a.length:=by simpa [Be]using (Pp a []).1
theorem Rn{a:Zl}(h:y∈Be a):y∈a:=by
 rcases(Pp a []).2 y h with h|h
 .cases h
 .exact h
theorem PV{a:Zl}(h:a[k]?=some x):Be (a.take (k+1))=Cy (Be (a.take k)) x:=by obtain⟨b,rfl⟩:=Zw h;unfold Be;rw[Zu b,List.foldl_append];rfl
theorem FM(a:Zk)(cap:Nat)(f:Zl)(w:Zh)(hr:Ab w w.heap.size a f)(hl:f.length<=100000):
 Calls prog 24 #[.slice a f.length cap] w fun e w'=>∃g c,e=.returned (Yz g (Be f).length c)/\
  w'.ownsRow w.heap.size 9 1 (Yz g (Be f).length c) (Be f).length ((Be f).map Value.string)/\Zz w w':=by
 obtain⟨i0,J,M,N,P⟩:=info_parts BO;have yN:=Yw hr;clear hr;have yJ:Below w.heap.size w (w.alloc (.cells #[] 9)):=Zy;have oA:(w.alloc (.cells #[] 9)).ownsRow w.heap.size 9 1 (Yz w.heap.size 0 0) 0 (([]:Zl).map Value.string):=World.ownsRow_lit w #[] 0 (Zx) Yo rfl;have yH:=Yw (Zn yJ oA);clear yJ oA;go_enter func24,ntmps24;go_wp2
 go_loopw [3,4] (fun v i wr=>∃(k g c:Nat),k<=f.length/\i=Zg k/\v=Yz g (Be (f.take k)).length c/\Hid (wr.ownsRow w.heap.size 9 1 (Yz g (Be (f.take k)).length c) (Be (f.take k)).length ((Be (f.take k)).map Value.string))/\Hid (Zz w wr)) (fun _ i _=>f.length -(intOf i).toNat)
 case atStart=>exact⟨0,w.heap.size,0,Nat.zero_le _,rfl,rfl,yH.o.2,yH.o.1⟩
 case round=>
  obtain⟨k,g,c,hk,rfl,rfl,HO,Z⟩:=hrel;by_cases hlt:k<f.length
  .have HG:Hid (f[k]?=some f[k]):=Zv hlt;obtain⟨I,oa,ha,yV,yK⟩:=(Ab.below yN.o Z.o).at hlt;subst ha;have cx:=yK k _ HG.o;have HS:=Yw (PV HG.o);have hlen:(Be (f.take k)).length<=k:=by have:=DW (f.take k);simp at this;omega
   have yY:=Z.o.size;have zP:I<wr.heap.size:=Yv
   generalize f[k]=x at *
   generalize hO:Be (f.take k)=O at *
   have yL:=(HO.o.lt g rfl).2;have yX:=(HO.o.lt g rfl).1;have zX:Hid (∀j y,O[j]?=some y->wr.cell? (Zd g j)=some (.string y)):=by
    intro j y B;have:=Ab.own HO.o;rcases this with h|⟨b',off,e1,_,h3⟩
    .subst h;simp at B
    .cases e1;simpa using h3 j y B
   clear yK;go_wp2
   go_loopw [5] (fun v yU=>∃j:Nat,j<=O.length/\v=Zg j/\(∃nq,yU=wr.drewN nq)/\Hid (∀i y,i<j->O[i]?=some y->JE y x=true)) (fun v _=>O.length -(intOf v).toNat)
   case atStart=>exact⟨0,Nat.zero_le _,rfl,⟨0,rfl⟩,fun i y h=>by omega⟩
   case round=>
    obtain⟨j,hj,rfl,⟨nq,rfl⟩,HJ⟩:=hrel;by_cases hjl:j<O.length
    .have HY:Hid (O[j]?=some O[j]):=Zv hjl;have cy:=zX.o j _ HY.o;generalize O[j]=y at *
     have d1:decide ((j:Int)<(O.length:Int))=true:=Yt
     cases hb:JE y x with
     |true=>
      have yQ:Op.bytesLess y.toList x.toList=true:=hb;have yM:Hid (∀i z,i<j+1->O[i]?=some z->JE z x=true):=by
       intro i z J hz;rcases Nat.lt_or_ge i j with h|h
       .exact HJ.o i z h hz
       .obtain rfl:i=j:=Yv
        rw[HY.o]at hz;cases hz;exact hb
      clear hb;go_upto_region 6 with fail;go_quiet (fail);go_wp2;exact⟨⟨j+1,Yv,Yn,⟨_,rfl⟩,yM⟩,Ys⟩
     |false=>
      have yQ:Op.bytesLess y.toList x.toList=false:=hb;have zR:Hid (∀z,O[j]?=some z->JE z x=false):=by intro z hz;rw[HY.o]at hz;cases hz;exact hb
      clear hb;go_upto_region 6 with fail;go_quiet (fail);by_cases hyx:y=x
      .have HE:Hid (Be (f.take (k+1))=O):=by show _=_;rw[HS.o];unfold Cy;rw[Lr HJ.o zR.o hj,if_pos (by rw[HY.o,hyx])]
       subst hyx;go_upto_region 8 with fail;go_quiet (fail);go_wp2;refine⟨⟨k+1,g,c,Yv,Yn,by rw[HE.o],?_,?_⟩,Ys⟩
       .rw[HE.o];exact HO.o.kept (Ak none (AH Ad _)) (Classical.em _)
       .exact AH Z.o _
      .have zU:Hid (¬O[j]?=some x):=by show ¬_;rw[HY.o];intro e;cases e;exact hyx rfl
       have e1:(y.toList==x.toList)=false:=by rw[beq_eq_false_iff_ne];intro h;rw[ByteArray.toList_eq,ByteArray.toList_eq]at h;exact hyx (ByteArray.ext (Array.toList_inj.1 h))
       clear hyx;go_upto_region 8 with fail;go_quiet (fail);go_upto_region 9 with fail;have HP:Hid (Dn O x=j):=Lr HJ.o zR.o hj;have HE:Hid (Be (f.take (k+1))=O.take j++[x]++O.drop j):=by show _=_;rw[HS.o];unfold Cy;rw[HP.o,if_neg zU.o]
       generalize hW:(((wr.drewN _).drewN _).drewN _)=W;have o:Hid (Zz wr W):=by rw[<-hW];exact AH (AH (AH Ad _) _) _
       have zB:Hid (Zz w W):=Z.o.trans (o.o.mono Z.o.size);have zW:Hid (W.ownsRow w.heap.size 9 1 (Yz g O.length c) O.length (O.map Value.string)):=HO.o.kept (Ak none o.o) (Classical.em _);have yT:wr.heap.size<=W.heap.size:=o.o.size;have zJ:g<W.heap.size:=Yv
       have yA:I<W.heap.size:=Yv
       have zF:W.cell? (Zd I (oa+k))=some (.string x):=(o.o.cell (p:=⟨I,oa+k,none⟩) zP).trans cx;have zC:Hid (∀i y,O[i]?=some y->W.cell? (Zd g i)=some (.string y)):=fun i y B=>(o.o.cell (p:=⟨g,i,none⟩) yL).trans (zX.o i y B);have Q:Hid (O.length<=c):=by
        rcases zW.o.2 with⟨hv,_⟩|⟨_,_,_,hv,_,_,D,_⟩
        .cases hv
        .cases hv;exact D
       have D:O.length<=c:=Q.o;have yW:¬c=j:=Yv
       clear hW cx;go_wp2_with (first
        |(at_builtin;refine wpList_append_own_at _ rfl _ _ 29 rfl w.heap.size 9 i0 Zc 1 16 underlying29 J M N P rfl Yq _ 0 [] rfl ?d0 ⟨g,0,none⟩ j c ((O.take j).map Value.string) rfl ?dl ?d1 ?d2 ?d3 ?d4 ?d5 ?_))
       case d0=>exact World.ownsRow_lit W #[] 0 Yv Yo rfl
       case dl=>first|(simp;done)|(simp;omega)
       case d1=>
        intro i u r;rw[List.getElem?_map]at r;cases d:(O.take j)[i]? with
        |none=>rw[d]at r;cases r
        |some y=>
         rw[d]at r;cases r;have B:O[i]?=some y:=by
          rw[List.getElem?_take]at d;split at d
          .exact d
          .cases d
         have:=zC.o i y B;rw[Go.WideShapes.add_plain,Nat.zero_add];exact(((Below.refl W.heap.size W).alloc (Zx) _).cell (p:=⟨g,i,none⟩) zJ).trans this
       case d2=>intro u r;obtain⟨s,_,rfl⟩:=List.mem_map.1 r;rfl
       case d3=>unfold maxLen;omega
       case d4=>omega
       case d5=>simp;omega
       intro v' V b m E zG;obtain⟨l,G,yC⟩:∃l G,v'=Yz l j G:=by
        rcases Joins.ownsRow_forms b with⟨e1,_⟩|hf
        .exact(E e1).elim
        .exact hf
       subst yC;try simp only[Nat.zero_add,List.nil_append]at b
       have q:Below W.heap.size W V:=((Below.refl W.heap.size W).alloc (Zx) _).grown m Yu (fun i J=>by simp[Value.ownBlock]at J;omega);have yS:W.heap.size<=V.heap.size:=q.size;have yO:V.cell? (Zd I (oa+k))=some (.string x):=(q.cell (p:=⟨I,oa+k,none⟩) yA).trans zF
       have yI:Hid (∀i y,O[i]?=some y->V.cell? (Zd g i)=some (.string y)):=fun i y B=>(q.cell (p:=⟨g,i,none⟩) zJ).trans (zC.o i y B);have zY:=Yw q;have zM:V.ownsRow w.heap.size 9 1 (Yz l j G) j ((O.take j).map Value.string):=by
        first|exact b|(rw[List.map_take];exact b)|(rw[List.take_length];exact b)
       have zV:=Yw zM;clear zM;have zI:=b.lt l rfl;have zS:=Yw zG;clear b m E q zF zG;try simp only[Nat.zero_add]
       go_upto_region 10 with fail;have H:Below V.heap.size V (V.alloc (.cells #[.string x] 9)):=Zy;have zO:(V.alloc (.cells #[.string x] 9)).drew.ownsRow w.heap.size 9 1 (Yz l j G) j ((O.take j).map Value.string):=zV.o.kept (Ak none H.drew) (Classical.em _)
       have zN:∀A,(some ⟨V.heap.size,0,none⟩:Zk)=some A->∀i s,[x][i]?=some s->(V.alloc (.cells #[.string x] 9)).drew.cell? (A.add i)=some (.string s):=by
        intro A e i s d;injection e with e;subst e;cases i with
        |zero=>simp at d;subst d;simp[Addr.add]
        |succ i=>simp at d
       have zZ:(O.drop j).length=O.length -j:=Yu
       have yP:(O.take j).length=j:=Ym
       have yD:w.heap.size<=V.heap.size:=Yv
       have F:w.heap.size<=(V.alloc (.cells #[.string x] 9)).drew.heap.size:=Yt
       have U:w.heap.size<=l:=zI.1;have yR:g<l:=by rcases zS.o with h|h<;>simp[Value.ownBlock]at h<;>omega
       have yE:l<V.heap.size:=zI.2;have zE:∀n:Zh,(V.alloc (.cells #[.string x] 9)).drew.grownBy n (some l)->∀A,(some ⟨g,j,none⟩:Zk)=some A->∀i s,(O.drop j)[i]?=some s->n.cell? (A.add i)=some (.string s):=by intro n t A e i s d;injection e with e;subst e;rw[List.getElem?_drop]at d;have hc:=yI.o _ _ d;rw[Go.WideShapes.add_plain];refine(t.cell_far ⟨g,j+i,none⟩ Yt (fun e=>by have:=Option.some.inj e;simp at this;omega)).trans ?_;exact(H.drew.cell (p:=⟨g,j+i,none⟩) Yt).trans hc
       go_region_law (first
        |(refine Ax (V.alloc (.cells #[.string x] 9)).drew rfl (.tmp 51) (.tmp 56) 29 rfl w.heap.size 9 i0 Zc 16 underlying29 J M N P rfl l j G (O.take j) rfl zO (some ⟨V.heap.size,0,none⟩) 1 1 [x] rfl rfl (fun e=>by cases e) zN Yo Yv Yt ?_;intro k5 R n L t S X;have z5:w.heap.size<=n.heap.size:=Zm F t.size;have Y:=X)
        |(have zA:=Y;refine Ax n rfl (.tmp 57) (.tmp 60) 29 rfl w.heap.size 9 i0 Zc 16 underlying29 J M N P rfl k5 (j+1) R (O.take j++[x]) rfl L (some ⟨g,j,none⟩) (O.length -j) (c -j) (O.drop j) rfl zZ (fun e=>by cases e) (zE n t) Yo Yv z5 ?_;intro k6 C w6 zK zH T yF))
       all_goals
        have yB:w.heap.size<=k5:=(L.lt k5 rfl).1;have b5:Below w.heap.size V n:=(H.drew.mono yD).grown t F (fun i e=>by cases e;exact U);have b6:Below w.heap.size V w6:=b5.grown zH z5 (fun i e=>by cases e;exact yB);have HF:Hid (Zz w w6):=(zB.o.trans (zY.o.mono (by have:=zB.o.size;omega))).trans (b6.mono (Zx));have K:(O.take j++[x]++O.drop j).length=j+1+(O.length -j):=Ym
        have HN:Hid (w6.ownsRow w.heap.size 9 1 (Yz k6 (O.take j++[x]++O.drop j).length C) (O.take j++[x]++O.drop j).length ((O.take j++[x]++O.drop j).map Value.string)):=by rw[K];exact zK
        have zT:=Yw K;clear zK zH T L t S K zO zN zE b5 b6 H;go_wp2;refine⟨⟨k+1,k6,C,Yv,Yn,by rw[HE.o,zT.o],?_,HF.o⟩,Ys⟩;rw[HE.o];exact HN.o
    .obtain rfl:j=O.length:=Yv
     have d1:decide ((O.length:Int)<(O.length:Int))=false:=Yu
     have zR:Hid (∀z,O[O.length]?=some z->JE z x=false):=by intro z hz;simp at hz
     have zU:Hid (¬O[O.length]?=some x):=by show ¬_;simp
     go_upto_region 6 with fail;go_quiet (fail);go_upto_region 8 with fail;go_quiet (fail);go_upto_region 9 with fail;have HP:Hid (Dn O x=O.length):=Lr HJ.o zR.o hj;have HE:Hid (Be (f.take (k+1))=O.take O.length++[x]++O.drop O.length):=by show _=_;rw[HS.o];unfold Cy;rw[HP.o,if_neg zU.o]
     generalize hW:(((wr.drewN _).drewN _).drewN _)=W;have o:Hid (Zz wr W):=by rw[<-hW];exact AH (AH (AH Ad _) _) _
     have zB:Hid (Zz w W):=Z.o.trans (o.o.mono Z.o.size);have zW:Hid (W.ownsRow w.heap.size 9 1 (Yz g O.length c) O.length (O.map Value.string)):=HO.o.kept (Ak none o.o) (Classical.em _);have yT:wr.heap.size<=W.heap.size:=o.o.size;have zJ:g<W.heap.size:=Yv
     have yA:I<W.heap.size:=Yv
     have zF:W.cell? (Zd I (oa+k))=some (.string x):=(o.o.cell (p:=⟨I,oa+k,none⟩) zP).trans cx;have zC:Hid (∀i y,O[i]?=some y->W.cell? (Zd g i)=some (.string y)):=fun i y B=>(o.o.cell (p:=⟨g,i,none⟩) yL).trans (zX.o i y B);have Q:Hid (O.length<=c):=by
      rcases zW.o.2 with⟨hv,_⟩|⟨_,_,_,hv,_,_,D,_⟩
      .cases hv
      .cases hv;exact D
     have D:O.length<=c:=Q.o;clear hW cx;go_wp2_with (first
      |(at_builtin;refine wpList_append_own_at _ rfl _ _ 29 rfl w.heap.size 9 i0 Zc 1 16 underlying29 J M N P rfl Yq _ 0 [] rfl ?d0 ⟨g,0,none⟩ O.length c ((O.take O.length).map Value.string) rfl ?dl ?d1 ?d2 ?d3 ?d4 ?d5 ?_))
     case d0=>exact World.ownsRow_lit W #[] 0 Yv Yo rfl
     case dl=>first|(simp;done)|(simp;omega)
     case d1=>
      intro i u r;rw[List.getElem?_map]at r;cases d:(O.take O.length)[i]? with
      |none=>rw[d]at r;cases r
      |some y=>
       rw[d]at r;cases r;have B:O[i]?=some y:=by
        rw[List.getElem?_take]at d;split at d
        .exact d
        .cases d
       have:=zC.o i y B;rw[Go.WideShapes.add_plain,Nat.zero_add];exact(((Below.refl W.heap.size W).alloc (Zx) _).cell (p:=⟨g,i,none⟩) zJ).trans this
     case d2=>intro u r;obtain⟨s,_,rfl⟩:=List.mem_map.1 r;rfl
     case d3=>unfold maxLen;omega
     case d4=>omega
     case d5=>simp;omega
     intro v' V b m E zG;obtain⟨l,G,yC⟩:∃l G,v'=Yz l O.length G:=by
      rcases Joins.ownsRow_forms b with⟨e1,_⟩|hf
      .exact(E e1).elim
      .exact hf
     subst yC;try simp only[Nat.zero_add,List.nil_append]at b
     have q:Below W.heap.size W V:=((Below.refl W.heap.size W).alloc (Zx) _).grown m Yu (fun i J=>by simp[Value.ownBlock]at J;omega);have yS:W.heap.size<=V.heap.size:=q.size;have yO:V.cell? (Zd I (oa+k))=some (.string x):=(q.cell (p:=⟨I,oa+k,none⟩) yA).trans zF;have yI:Hid (∀i y,O[i]?=some y->V.cell? (Zd g i)=some (.string y)):=fun i y B=>(q.cell (p:=⟨g,i,none⟩) zJ).trans (zC.o i y B)
     have zY:=Yw q;have zM:V.ownsRow w.heap.size 9 1 (Yz l O.length G) O.length ((O.take O.length).map Value.string):=by
      first|exact b|(rw[List.map_take];exact b)|(rw[List.take_length];exact b)
     have zV:=Yw zM;clear zM;have zI:=b.lt l rfl;have zS:=Yw zG;clear b m E q zF zG;try simp only[Nat.zero_add]
     go_upto_region 10 with fail;have H:Below V.heap.size V (V.alloc (.cells #[.string x] 9)):=Zy;have zO:(V.alloc (.cells #[.string x] 9)).drew.ownsRow w.heap.size 9 1 (Yz l O.length G) O.length ((O.take O.length).map Value.string):=zV.o.kept (Ak none H.drew) (Classical.em _)
     have zN:∀A,(some ⟨V.heap.size,0,none⟩:Zk)=some A->∀i s,[x][i]?=some s->(V.alloc (.cells #[.string x] 9)).drew.cell? (A.add i)=some (.string s):=by
      intro A e i s d;injection e with e;subst e;cases i with
      |zero=>simp at d;subst d;simp[Addr.add]
      |succ i=>simp at d
     have zZ:(O.drop O.length).length=0:=Yu
     have yG:(if c=O.length then some ⟨g,0,none⟩else some ⟨g,O.length,none⟩:Zk)=none->(0:Nat)=0/\c -O.length=0:=by intro e;split at e<;>cases e
     have yP:(O.take O.length).length=O.length:=Ym
     have yD:w.heap.size<=V.heap.size:=Yv
     have F:w.heap.size<=(V.alloc (.cells #[.string x] 9)).drew.heap.size:=Yt
     have U:w.heap.size<=l:=zI.1;have yR:g<l:=by rcases zS.o with h|h<;>simp[Value.ownBlock]at h<;>omega
     have yE:l<V.heap.size:=zI.2;have zE:∀n:Zh,∀A,(if c=O.length then some ⟨g,0,none⟩else some ⟨g,O.length,none⟩:Zk)=some A->∀i s,(O.drop O.length)[i]?=some s->n.cell? (A.add i)=some (.string s):=by intro n A _ i s d;simp at d
     go_region_law (first
      |(refine Ax (V.alloc (.cells #[.string x] 9)).drew rfl (.tmp 51) (.tmp 56) 29 rfl w.heap.size 9 i0 Zc 16 underlying29 J M N P rfl l O.length G (O.take O.length) rfl zO (some ⟨V.heap.size,0,none⟩) 1 1 [x] rfl rfl (fun e=>by cases e) zN Yo Yv Yt ?_;intro k5 R n L t S X;have z5:w.heap.size<=n.heap.size:=Zm F t.size;have Y:=X)
      |(have zA:=Y;refine Ax n rfl (.tmp 57) (.tmp 60) 29 rfl w.heap.size 9 i0 Zc 16 underlying29 J M N P rfl k5 (O.length+1) R (O.take O.length++[x]) rfl L (if c=O.length then some ⟨g,0,none⟩else some ⟨g,O.length,none⟩) 0 (c -O.length) (O.drop O.length) rfl zZ yG (zE n) Yo Yv z5 ?_;intro k6 C w6 zK zH T yF))
     all_goals
      have yB:w.heap.size<=k5:=(L.lt k5 rfl).1;have b5:Below w.heap.size V n:=(H.drew.mono yD).grown t F (fun i e=>by cases e;exact U);have b6:Below w.heap.size V w6:=b5.grown zH z5 (fun i e=>by cases e;exact yB);have HF:Hid (Zz w w6):=(zB.o.trans (zY.o.mono (by have:=zB.o.size;omega))).trans (b6.mono (Zx));have K:(O.take O.length++[x]++O.drop O.length).length=O.length+1+0:=Ym
      have HN:Hid (w6.ownsRow w.heap.size 9 1 (Yz k6 (O.take O.length++[x]++O.drop O.length).length C) (O.take O.length++[x]++O.drop O.length).length ((O.take O.length++[x]++O.drop O.length).map Value.string)):=by rw[K];exact zK
      have zT:=Yw K;clear zK zH T L t S K zO zN zE b5 b6 H;go_wp2;refine⟨⟨k+1,k6,C,Yv,Yn,by rw[HE.o,zT.o],?_,HF.o⟩,Ys⟩;rw[HE.o];exact HN.o
  .have he:k=f.length:=Yv
   subst he;rw[List.take_length]at HO |-;go_wp2;go_ret;exact⟨_,_,rfl,HO.o,Z.o⟩
def Dg(ss tt:Zl):Bool:=decide (ss.length+tt.length<=4000)&&(ss++tt).all (fun s=>decide (s.size<=5000))
def DQ(ss:Zl):Bool:=ss.all (fun s=>decide (s.size<=5000))
theorem JY(a b:Zl):Dg a b=(decide (a.length+b.length<=4000)&&(DQ a&&DQ b)):=by simp[Dg,DQ]
theorem LY(a:Zl)(k:Nat)(s:Zi)(h:a[k]?=some s):DQ (a.take (k+1))=(DQ (a.take k)&&decide (s.size<=5000)):=by obtain⟨b,rfl⟩:=Zw h;unfold DQ;rw[Zu b,List.all_append,List.all_cons,List.all_nil,Bool.and_true]
theorem KB(a:Zl)(k:Nat)(s:Zi)(h:a[k]?=some s)(b:5000<s.size):DQ a=false:=by simp only[DQ,List.all_eq_false];exact⟨s,Zs h,Yt⟩
theorem DL(a b:Zk)(c d:Nat)(f g:Zl)(w:Zh)(B:Nat)(F:B<=w.heap.size)(A:Ab w B a f)(z:Ab w B b g)(H:f.length<=1048576)(E:g.length<=1048576)(u:∀s∈f,s.size<=1048576)(r:∀s∈g,s.size<=1048576):
 Calls prog 67 #[.agg #[.slice a f.length c,.slice b g.length d]] w fun e C=>e=.returned (.bool (Dg f g))/\Zz w C:=by
 have l:Below w.heap.size w (w.alloc (.cells #[.slice a f.length c,.slice b g.length d] 67)):=Zy;go_enter func67,ntmps67;go_wp2
 go_loop [3] (fun i=>∃k:Nat,k<=f.length/\i=Zg k/\DQ (f.take k)=true) (fun i=>f.length -(intOf i).toNat)
 case atStart=>exact⟨0,Nat.zero_le _,rfl,by simp[DQ]⟩
 case round=>
  obtain⟨k,G,rfl,q⟩:=hrel;by_cases hlt:k<f.length
  .obtain⟨p,off,t,y,m⟩:=A.at hlt;subst t;have v:=(l.cell (p:=⟨p,off+k,none⟩) Yt).trans (m k f[k] (Zv hlt));have n:Hid (DQ (f.take (k+1))=(DQ (f.take k)&&decide (f[k].size<=5000))):=LY f k _ (Zv hlt);have o:Hid (5000<f[k].size->DQ f=false):=KB f k _ (Zv hlt);have x:=u f[k] (List.getElem_mem hlt);clear m u r;generalize f[k]=s at *
   by_cases hbig:5000<s.size
   .go_wp2;go_ret;exact⟨by rw[JY,o.o hbig];simp,l⟩
   .go_wp2;refine⟨⟨k+1,Yv,Yn,?_⟩,Ys⟩;rw[n.o,q];simp;omega
  .rw[Zt Yv]at q;go_wp2
   go_loop [4] (fun i=>∃k:Nat,k<=g.length/\i=Zg k/\DQ (g.take k)=true) (fun i=>g.length -(intOf i).toNat)
   case atStart=>exact⟨0,Nat.zero_le _,rfl,by simp[DQ]⟩
   case round=>
    obtain⟨h,D,rfl,j⟩:=hrel;by_cases hlt2:h<g.length
    .obtain⟨p,off,t,y,m⟩:=z.at hlt2;subst t;have v:=(l.cell (p:=⟨p,off+h,none⟩) Yt).trans (m h g[h] (Zv hlt2));have n:Hid (DQ (g.take (h+1))=(DQ (g.take h)&&decide (g[h].size<=5000))):=LY g h _ (Zv hlt2);have o:Hid (5000<g[h].size->DQ g=false):=KB g h _ (Zv hlt2);have x:=r g[h] (List.getElem_mem hlt2);clear m u r;generalize g[h]=s at *
     by_cases hbig:5000<s.size
     .go_wp2;go_ret;exact⟨by rw[JY,o.o hbig];simp,l⟩
     .go_wp2;refine⟨⟨h+1,Yv,Yn,?_⟩,Ys⟩;rw[n.o,j];simp;omega
    .rw[Zt Yv]at j;go_wp2;go_ret;refine⟨?_,l⟩;rw[JY,q,j];simp;omega
def JZ(k:Nat):Bool:=k==2||k==4||k==7
def MR(k:Nat):Bool:=k==2||k==3
def He(k:Nat):Bool:=k==1
def FN(k:Nat):Int:=if k=1\/k=4\/k=6 then 100000 else if k=5 then 1000000000 else 0
def Eh(u:Bool)(s:Zi)(wd:Int):Bool:=if u then decide ((s.size:Int)=wd)else decide (s.size=0)
def EQ(u:Bool)(s:Zi):Bool:=if u then BV s else decide (s.size=0)
def Fo(m n:Int):Bool:=if m=0 then decide (n=0)else decide (1<=n/\n<=m)
def Ka(u:Bool)(t:Zi)(ss:Zl)(wd:Int):Bool:=if u then Az t ss wd else decide (t.size=0/\ss.length=0)
theorem GB:s.toList.isEmpty=decide (s.size=0):=by
 have:s.toList.length=s.size:=by rw[ByteArray.toList_eq];simp
 rw[<-this];cases s.toList<;>simp
def Ei(k:Nat)(sum name:Zi)(n:Int)(t:Zi)(ss:Zl)(wd:Int):Bool:=
 decide (1<=wd/\wd<=8)&&(Eh (JZ k) sum wd&&(EQ (MR k) name&&(Fo (FN k) n&&Ka (He k) t ss wd)))
abbrev Hv(k:Int)(sum name:Zi)(n:Int)(t:Zi)(ad:Zk)(len cap:Nat):Array Value:= #[Zg k,.string sum,.string name,Zg n,.string t,.slice ad len cap]
def IJ(k:Nat):Int:=if k=1\/k=4\/k=6 then 1 else if k=5 then 2 else 0
theorem Tb(k:Nat)(w:Zh)(a:1<=k)(b:k<=7):
 Calls prog 150 #[Zg k] w fun e c=>e=.returned (.tuple #[.bool (JZ k),.bool (MR k),Zg (IJ k),.bool (He k)])/\c=w:=by
 match k,a,b with
 |1,_,_|2,_,_|3,_,_|4,_,_|5,_,_|6,_,_|7,_,_=>
  go_enter func150,ntmps150;go_wp2;refine bodyPost_ret ?_ rfl ⟨rfl,rfl⟩;simp[results,results150,go_sem,JZ,MR,IJ,He]
theorem Tc(k:Nat)(n:Int)(w:Zh):
 Calls prog 151 #[Zg n,Zg (IJ k)] w fun e f=>e=.returned (.bool (Fo (FN k) n))/\f=w:=by
 have d:(IJ k=1/\FN k=100000)\/(IJ k=2/\FN k=1000000000)\/(IJ k=0/\FN k=0):=by
  unfold IJ FN;split
  .exact .inl ⟨rfl,rfl⟩
  .split
   .exact .inr (.inl ⟨rfl,rfl⟩)
   .exact .inr (.inr ⟨rfl,rfl⟩)
 rcases d with⟨a,b⟩|⟨a,b⟩|⟨a,b⟩<;>rw[a,b]
 .by_cases hn:1<=n
  .go_enter func151,ntmps151;go_wp2;go_ret;exact⟨AE (by unfold Fo;rw[if_neg Yq];simp[hn]),rfl⟩
  .have c:decide (1<=n)=false:=by simpa using hn
   go_enter func151,ntmps151;go_wp2;go_ret;exact⟨AE (by unfold Fo;rw[if_neg Yq,decide_eq_false Yv]),rfl⟩
 .by_cases hn:1<=n
  .go_enter func151,ntmps151;go_wp2;go_ret;exact⟨AE (by unfold Fo;rw[if_neg Yq];simp[hn]),rfl⟩
  .have c:decide (1<=n)=false:=by simpa using hn
   go_enter func151,ntmps151;go_wp2;go_ret;exact⟨AE (by unfold Fo;rw[if_neg Yq,decide_eq_false Yv]),rfl⟩
 .go_enter func151,ntmps151;go_wp2;go_ret;exact⟨AE (by unfold Fo;rw[if_pos rfl];rfl),rfl⟩
theorem Td(k:Int)(f b:Zi)(n:Int)(t:Zi)(g:Zk)(cap:Nat)(i:Zl)(a:Int)(w:Zh)(m:¬(1<=k/\k<=7)):
 Calls prog 121 #[.agg (Hv k f b n t g i.length cap),Zg a] w fun e j=>e=.returned (.bool false)/\Zz w j:=by
 by_cases hw:1<=a/\a<=8
 .obtain⟨c,d⟩:=hw;by_cases h1:k<1
  .have h:decide (k<1)=true:=by simpa using h1
   go_enter func121,ntmps121;go_wp2;go_ret;exact⟨rfl,Zy⟩
  .have h:decide (k<1)=false:=by simpa using h1
   have l:decide (7<k)=true:=Yt
   go_enter func121,ntmps121;go_wp2;go_ret;exact⟨rfl,Zy⟩
 .by_cases c:1<=a
  .have d:decide (a<=8)=false:=Yt
   go_enter func121,ntmps121;go_wp2;go_ret;exact⟨rfl,Zy⟩
  .go_enter func121,ntmps121;go_wp2;go_ret;exact⟨rfl,Zy⟩
theorem Ro(k:Nat)(d b:Zi)(n:Int)(t:Zi)(g:Zk)(cap:Nat)(f:Zl)(a:Int)(w:Zh)(h:¬(1<=a/\a<=8)):
 Calls prog 121 #[.agg (Hv k d b n t g f.length cap),Zg a] w fun e i=>e=.returned (.bool (Ei k d b n t f a))/\Zz w i:=by
 have c:Hid (decide (1<=a/\a<=8)=false):=by show _=_;simpa using h
 by_cases hw1:1<=a
 .have j:decide (a<=8)=false:=Yt
  go_enter func121,ntmps121;go_wp2;go_ret;exact⟨AE (by unfold Ei;rw[c.o];rfl),Zy⟩
 .go_enter func121,ntmps121;go_wp2;go_ret;exact⟨AE (by unfold Ei;rw[c.o];rfl),Zy⟩
theorem Hw{a:Zl}(b:t.size=0):((a.length:Int)==0)=(true&&(true&&(true&&Ka false t a c))):=by
 unfold Ka;rw[if_neg Yq];by_cases hs0:a.length=0
 .rw[decide_eq_true ⟨b,hs0⟩];simp[hs0]
 .rw[decide_eq_false (fun h=>hs0 h.2)];simp;intro h;exact hs0 (by rw[h];rfl)
theorem Hx{b:Zl}(a:¬t.size=0):false=(true&&(true&&(true&&Ka false t b c))):=by unfold Ka;rw[if_neg Yq,decide_eq_false (fun h=>a h.1)];rfl
theorem Pq(k:Nat)(d a:Zi)(n:Int)(t:Zi)(m:Zk)(cap:Nat)(j:Zl)(f:Int)(w:Zh)(D:1<=k)(E:k<=7)(B:1<=f)(C:f<=8)(h:Ab w w.heap.size m j)(r:j.length<=1048576)(s:t.size<=maxLen)(y:a.size<=maxLen):
 Calls prog 121 #[.agg (Hv k d a n t m j.length cap),Zg f] w fun e F=>e=.returned (.bool (Ei k d a n t j f))/\Zz w F:=by
 have b:Below w.heap.size w (w.alloc (.cells (Hv k d a n t m j.length cap) 118)):=Zy;have A:Hid (decide (1<=f/\f<=8)=true):=by show _=_;simp[B,C]
 have I:decide ((k:Int)<1)=false:=Yt
 have J:decide ((7:Int)<k)=false:=Yt
 have HU:=Tb k;have v:=Tc k n;unfold Ei;rw[A.o,Bool.true_and];generalize IJ k=kn at *
 generalize Fo (FN k) n=nu at *
 generalize hks:JZ k=us at *
 generalize hkn:MR k=un at *
 generalize hkt:He k=ut at *
 have z:=Yw HU;have u:=Yw v;clear HU v hks hkn hkt;go_enter func121,ntmps121;go_wp2_with (go_at_call 14;go_in);refine(z.o _ D E).mono ?_;rintro e K ⟨rfl,rfl⟩;cases us with
 |true=>
  by_cases hs:(d.size:Int)=f
  .have q:((d.size:Int) !=f)=false:=by simpa using hs
   have HS:Hid (Eh true d f=true):=by show _=_;simpa [Eh]using hs
   clear hs;go_wp2_with fail;refine(u.o _).mono ?_;rintro e G ⟨rfl,rfl⟩;cases nu with
   |false=>go_wp2;go_ret;exact⟨AE Yu,b⟩
   |true=>
    cases un with
    |true=>
     go_wp2_with fail;refine(Gx a _ y).mono ?_;rintro e H ⟨rfl,rfl⟩;cases hno:BV a with
     |false=>go_wp2;go_ret;exact⟨AE (by simp[EQ,hno]),b⟩
     |true=>
      have c:Hid (EQ true a=true):=hno;clear hno;cases ut with
      |true=>go_wp2_with fail;refine(Ci t m cap j f _ (h.L b) r s).mono ?_;rintro e x ⟨rfl,i⟩;go_wp2;go_ret;exact⟨AE (by rw[HS.o,c.o];rfl),b.trans (i.mono Yu)⟩
      |false=>
       by_cases h0:t.size=0
       .have o:t.toList.isEmpty=true:=by rw[GB];simpa using h0
        have g:=Yw h0;clear h0;go_wp2;go_ret;exact⟨AE (by rw[HS.o,c.o];exact Hw g.o),b⟩
       .have o:t.toList.isEmpty=false:=by rw[GB];simpa using h0
        have g:=Yw h0;clear h0;go_wp2;go_ret;exact⟨AE (by rw[HS.o,c.o];exact Hx g.o),b⟩
    |false=>
     by_cases hno:a.size=0
     .have l:a.toList.isEmpty=true:=by rw[GB];simpa using hno
      have c:Hid (EQ false a=true):=by show _=_;simpa [EQ]using hno
      clear hno;cases ut with
      |true=>go_wp2_with fail;refine(Ci t m cap j f _ (h.L b) r s).mono ?_;rintro e x ⟨rfl,i⟩;go_wp2;go_ret;exact⟨AE (by rw[HS.o,c.o];rfl),b.trans (i.mono Yu)⟩
      |false=>
       by_cases h0:t.size=0
       .have o:t.toList.isEmpty=true:=by rw[GB];simpa using h0
        have g:=Yw h0;clear h0;go_wp2;go_ret;exact⟨AE (by rw[HS.o,c.o];exact Hw g.o),b⟩
       .have o:t.toList.isEmpty=false:=by rw[GB];simpa using h0
        have g:=Yw h0;clear h0;go_wp2;go_ret;exact⟨AE (by rw[HS.o,c.o];exact Hx g.o),b⟩
     .have l:a.toList.isEmpty=false:=by rw[GB];simpa using hno
      have c:Hid (EQ false a=false):=by show _=_;simpa [EQ]using hno
      clear hno;go_wp2;go_ret;exact⟨AE (by rw[c.o];simp),b⟩
  .have q:((d.size:Int) !=f)=true:=by simpa using hs
   have HS:Hid (Eh true d f=false):=by show _=_;simpa [Eh]using hs
   clear hs;go_wp2;go_ret;exact⟨AE (by rw[HS.o];rfl),b⟩
 |false=>
  by_cases hs:d.size=0
  .have q:d.toList.isEmpty=true:=by rw[GB];simpa using hs
   have HS:Hid (Eh false d f=true):=by show _=_;simpa [Eh]using hs
   clear hs;go_wp2_with fail;refine(u.o _).mono ?_;rintro e G ⟨rfl,rfl⟩;cases nu with
   |false=>go_wp2;go_ret;exact⟨AE Yu,b⟩
   |true=>
    cases un with
    |true=>
     go_wp2_with fail;refine(Gx a _ y).mono ?_;rintro e H ⟨rfl,rfl⟩;cases hno:BV a with
     |false=>go_wp2;go_ret;exact⟨AE (by simp[EQ,hno]),b⟩
     |true=>
      have c:Hid (EQ true a=true):=hno;clear hno;cases ut with
      |true=>go_wp2_with fail;refine(Ci t m cap j f _ (h.L b) r s).mono ?_;rintro e x ⟨rfl,i⟩;go_wp2;go_ret;exact⟨AE (by rw[HS.o,c.o];rfl),b.trans (i.mono Yu)⟩
      |false=>
       by_cases h0:t.size=0
       .have o:t.toList.isEmpty=true:=by rw[GB];simpa using h0
        have g:=Yw h0;clear h0;go_wp2;go_ret;exact⟨AE (by rw[HS.o,c.o];exact Hw g.o),b⟩
       .have o:t.toList.isEmpty=false:=by rw[GB];simpa using h0
        have g:=Yw h0;clear h0;go_wp2;go_ret;exact⟨AE (by rw[HS.o,c.o];exact Hx g.o),b⟩
    |false=>
     by_cases hno:a.size=0
     .have l:a.toList.isEmpty=true:=by rw[GB];simpa using hno
      have c:Hid (EQ false a=true):=by show _=_;simpa [EQ]using hno
      clear hno;cases ut with
      |true=>go_wp2_with fail;refine(Ci t m cap j f _ (h.L b) r s).mono ?_;rintro e x ⟨rfl,i⟩;go_wp2;go_ret;exact⟨AE (by rw[HS.o,c.o];rfl),b.trans (i.mono Yu)⟩
      |false=>
       by_cases h0:t.size=0
       .have o:t.toList.isEmpty=true:=by rw[GB];simpa using h0
        have g:=Yw h0;clear h0;go_wp2;go_ret;exact⟨AE (by rw[HS.o,c.o];exact Hw g.o),b⟩
       .have o:t.toList.isEmpty=false:=by rw[GB];simpa using h0
        have g:=Yw h0;clear h0;go_wp2;go_ret;exact⟨AE (by rw[HS.o,c.o];exact Hx g.o),b⟩
     .have l:a.toList.isEmpty=false:=by rw[GB];simpa using hno
      have c:Hid (EQ false a=false):=by show _=_;simpa [EQ]using hno
      clear hno;go_wp2;go_ret;exact⟨AE (by rw[c.o];simp),b⟩
  .have q:d.toList.isEmpty=false:=by rw[GB];simpa using hs
   have HS:Hid (Eh false d f=false):=by show _=_;simpa [Eh]using hs
   clear hs;go_wp2;go_ret;exact⟨AE (by rw[HS.o];rfl),b⟩
def u8(x:Int):UInt8:=UInt8.ofNat x.toNat
theorem FX(x:Int)(a:0<=x)(h:x<256):Value.int .u8 x=.int .u8 ((u8 x).toNat:Int):=by
 have:(u8 x).toNat=x.toNat:=by simp[u8];omega
 rw[this];congr 1;omega
def CF(k n m:Int):List UInt8:=[u8 k,u8 (n/16777216),u8 (n/65536%256),u8 (n/256%256),u8 (n%256),u8 m]
def DG(k:Nat)(sum name:Zi)(n:Int)(t:Zi)(ss:Zl):List UInt8:=
 CF k n name.size++name.data.toList++sum.data.toList++(if k=1 then BP t ss else [])
theorem GC(w:Zh){l:Array Oper}{a:Act}{K:Act->Zh->Prop}{Q:Exit->Act->Zh->Prop}(z:o.guard=none)(q x:Operand)(t u:TypeId)(D:o.op=.call {callee:=.builtin .append,args:= #[q,x],argTypes:= #[t,u]})(b:Nat)(e:TypeId)(i:TypeInfo)(H:P.underlying t=some (.slice e))(I:P.underlying u=some .string)(C:P.info? e=some i)(M:i.zero=some (.int .u8 0))(f:i.size=1)(y:i.bytes=1)(v:Value)(n:Nat)(m:Zj)(G:a.eval q=v)(k:w.ownsRow b e 1 v n m)(s:Zi)(L:a.eval x=.string s)(r:n+s.size<=maxLen)(c:n+s.size<=140737488355328)(d:b<=w.heap.size)(h:∀j g,g.ownsRow b e 1 j (n+s.size) (m++Lib.strCells s)->w.grownBy g v.ownBlock->K (a.put o.dst j) g):
 if Region.wanted o (yielded l a.tmps)=true then Oper.wp P o a w K Q else E:=by
 have J:Region.wanted o (yielded l a.tmps)=true:=by simp[Region.wanted,z]
 rw[if_pos J];obtain⟨j,g,F,A,B,_⟩:=Lib.run_append_own_string (P:=P) w b t u o.type e i H I C M f y v n m k s r c d;unfold Oper.wp execOp;simp only[D,resolve,invoke,builtin,Sem.run_bind,Sem.run_pure,Result.andThen_ok,List.map_toArray,List.map_cons,List.map_nil,G,L,F];exact h j g A B
structure Us (k:Nat) (sum name:Zi) (n:Int) (t:Zi) (ss:Zl) (wd:Int):Prop where
 w1:1<=wd
 w2:wd<=8
 sum:sum.size<=8
 name:name.size<=40
 n0:0<=n
 n1:n<=1000000000
 du:k=1->Az t ss wd=true
theorem Fp{e a:Zi}{n:Int}{f:Zl}{g:Int}(h:Ei k e a n t f g=true):Us k e a n t f g:=by
 unfold Ei at h;simp only[Bool.and_eq_true,decide_eq_true_eq]at h;obtain⟨⟨i,j⟩,d,b,c,m⟩:=h;refine⟨i,j,?_,?_,?_,?_,?_⟩
 .unfold Eh at d;split at d<;>simp at d
  .omega
  .simp[d]
 .unfold EQ at b;split at b
  .unfold BV at b;simp at b;omega
  .simp at b;simp[b]
 .unfold Fo at c;split at c<;>simp at c<;>omega
 .have o:FN k<=1000000000:=by
   unfold FN;split
   .omega
   .split<;>omega
  unfold Fo at c;split at c<;>simp at c<;>omega
 .intro l;subst l;exact m
theorem Rp:(prog.info? 5).map (fun i=>(i.zero,i.size,i.bytes))=some (some (.int .u8 0),1,1):=Yr
theorem Rq(k n m:Int)(a:0<=k)(c:k<256)(e:0<=n)(f:n<=1000000000)(b:0<=m)(d:m<256):
 [Value.int .u8 k,.int .u8 (n/16777216),.int .u8 (n/65536%256),.int .u8 (n/256%256),.int .u8 (n%256),.int .u8 m]=Lib.byteCells (CF k n m):=by
 rw[FX k a c,FX (n/16777216) Yv Yv,FX (n/65536%256) Yv Yv,FX (n/256%256) Yv Yv,FX (n%256) Yv Yv,FX m b d];rfl
theorem Pr{a:Nat}(h:w.ownsRow a e 1 v n d)(f:b<a):some b≠v.ownBlock:=by intro c;have:=(h.lt b c.symm).1;omega
theorem Rr(k:Nat)(c b:Zi)(n:Int)(t:Zi)(A:Zk)(cap:Nat)(d:Zl)(T:Int)(w:Zh)(h1:1<=k)(h7:k<=7)(u:Ab w w.heap.size A d)(hl:d.length<=1048576)(ht:t.size<=maxLen)(G:Ei k c b n t d T=true):
 Calls prog 105 #[.agg (Hv k c b n t A d.length cap),Zg T] w fun e w'=>e=.returned (.string ⟨(DG k c b n t d).toArray⟩)/\Zz w w':=by
 have hp:=Fp G;obtain⟨zP,zR,zV,zE,zK,zM,H⟩:=hp;obtain⟨i0,hi,R,S,v⟩:=info_parts Rp;have N:Below w.heap.size w (w.alloc (.cells (Hv k c b n t A d.length cap) 118)):=Zy;go_enter func105,ntmps105;go_wp2_with fail;refine(Pq k c b n t A cap d T _ h1 h7 zP zR (u.L N) hl ht Yo).mono ?_;rintro e g ⟨rfl,i⟩;rw[G];have hz:=i.size;simp at hz;have f:w.heap.size<g.heap.size:=Yv
 have L:=N.trans (i.mono Yu);have U:g.cell? (Zd (w.heap.size) 0)=some (Zg k):=by rw[i.cell (p:=⟨w.heap.size,0,none⟩) Yu];simp
 have V:g.cell? (Zd (w.heap.size) 1)=some (.string c):=by rw[i.cell (p:=⟨w.heap.size,1,none⟩) Yu];simp
 have x2:g.cell? (Zd (w.heap.size) 2)=some (.string b):=by rw[i.cell (p:=⟨w.heap.size,2,none⟩) Yu];simp
 have x3:g.cell? (Zd (w.heap.size) 3)=some (Zg n):=by rw[i.cell (p:=⟨w.heap.size,3,none⟩) Yu];simp
 have X:g.cell? (Zd (w.heap.size) 4)=some (.string t):=by rw[i.cell (p:=⟨w.heap.size,4,none⟩) Yu];simp
 have Y:g.cell? (Zd (w.heap.size) 5)=some (.slice A d.length cap):=by rw[i.cell (p:=⟨w.heap.size,5,none⟩) Yu];simp
 have I:=u.below L;have zF:=Yw G;clear G H u i N;obtain⟨z,C⟩:=Af (g.alloc (.cells #[.int .u8 k,.int .u8 (n/16777216),.int .u8 (n/65536%256),.int .u8 (n/256%256),.int .u8 (n%256),.int .u8 b.size] 5));have D:z.ownsRow g.heap.size 5 1 (Yz g.heap.size 6 6) 6 (Lib.byteCells (CF k n b.size)):=by rw[C,<-Rq k n b.size Yv Yv zK zM Yv Yv];exact World.ownsRow_lit g _ 6 (Zx) (by simp[maxLen]) rfl
 have l:Below g.heap.size g z:=by rw[C];exact Zy
 have zC:=l.size;have HW:=Yw C;clear C;go_wp2;rw[<-HW.o];have U:z.cell? (Zd (w.heap.size) 0)=some (Zg k):=(l.cell (p:=⟨w.heap.size,0,none⟩) f).trans U;have V:z.cell? (Zd (w.heap.size) 1)=some (.string c):=(l.cell (p:=⟨w.heap.size,1,none⟩) f).trans V;have x2:z.cell? (Zd (w.heap.size) 2)=some (.string b):=(l.cell (p:=⟨w.heap.size,2,none⟩) f).trans x2
 have X:z.cell? (Zd (w.heap.size) 4)=some (.string t):=(l.cell (p:=⟨w.heap.size,4,none⟩) f).trans X;have Y:z.cell? (Zd (w.heap.size) 5)=some (.slice A d.length cap):=(l.cell (p:=⟨w.heap.size,5,none⟩) f).trans Y;have h:=Pr D f
 go_region_law (first
  |(refine GC _ rfl (.tmp 35) (.tmp 37) 22 9 rfl g.heap.size 5 i0 underlying22 underlying9 hi R S v _ 6 (Lib.byteCells (CF k n b.size)) rfl (by exact D) b rfl Yo Yv (by exact zC) ?_;intro v3 w3 E m;have y1:=m.cell (a:=⟨w.heap.size,1,none⟩) (by exact V) h)
  |(refine GC _ rfl (.tmp 38) (.tmp 40) 22 9 rfl g.heap.size 5 i0 underlying22 underlying9 hi R S v _ (6+b.size) (Lib.byteCells (CF k n b.size)++Lib.strCells b) rfl E c rfl Yo Yv (by have:=m.size;simp at this;omega) ?_;intro v4 w4 s r))
 all_goals
  have o:=Pr E f;have zS:=m.size;have yD:=r.size;simp at zS;have z0:=r.cell (a:=⟨w.heap.size,0,none⟩) (m.cell (a:=⟨w.heap.size,0,none⟩) (by exact U) h) o;have z4:=r.cell (a:=⟨w.heap.size,4,none⟩) (m.cell (a:=⟨w.heap.size,4,none⟩) (by exact X) h) o;have z5:=r.cell (a:=⟨w.heap.size,5,none⟩) (m.cell (a:=⟨w.heap.size,5,none⟩) (by exact Y) h) o
  have Z:Below g.heap.size g w4:=((l.drew).grown m (by exact zC) (fun k B=>(D.lt k B).1)).grown r Yv (fun k B=>(E.lt k B).1);obtain⟨g4,c4,zN,zY,zZ⟩:=s.form Yv;subst zN;have x:Lib.byteCells (CF k n b.size)++Lib.strCells b++Lib.strCells c=Lib.byteCells (CF k n b.size++b.data.toList++c.data.toList):=by rw[Lib.strCells_eq,Lib.strCells_eq,<-Lib.byteCells_append,<-Lib.byteCells_append]
  rw[x]at s;have M:=L.trans (Z.mono L.size);have J:=I.below (Z.mono Yv);clear x m r E U V x2 X Y y1 D l h o;by_cases hk1:k=1
  .subst hk1;have H:=(Fp zF.o).du rfl;have Q:=AV H;have zX:=Q.bn;have yC:=Q.F;have yB:=Q.B;go_wp2_with fail;refine(LM t A cap d T w4 (J.mono Yv) H).mono ?_;rintro e w5 ⟨rfl,q⟩;have O:=s.kept (row:=none) ⟨q.os,q.tape,q.output,q.size,fun k B _=>q.block k B⟩ (.inr (by simp[Value.ownBlock]));have yE:=q.size;have zI:(BP t d).length<=3000:=by have:=DN d;simp[BP,this];omega
   have zB:(ByteArray.mk (BP t d).toArray).size=(BP t d).length:=by simp[ByteArray.size]
   have K:=Yw zB;clear zB;obtain⟨F,hF⟩:=Af (ByteArray.mk (BP t d).toArray);rw[<-hF]at K |-;have zW:F.size<=3000:=by rw[K.o];exact zI
   have HF:=Yw hF;clear hF;go_wp2_with (at_builtin;refine Lib.wpList_append_own_string _ rfl _ _ 22 9 rfl g.heap.size 5 i0 underlying22 underlying9 hi R S v _ _ _ rfl O F rfl ?c3 ?c4 ?c5 ?_)
   case c3=>unfold maxLen;omega
   case c4=>omega
   case c5=>omega
   intro v6 w6 y zJ _;obtain⟨g6,c6,zO,zT,zU⟩:=y.form Yv;subst zO;have zG:=(q.mono M.size).grown zJ Yv (fun k B=>by have:=(O.lt k B).1;omega);have x:Lib.byteCells (CF 1 n b.size++(b.data.toList++c.data.toList))++Lib.strCells F=Lib.byteCells (DG 1 c b n t d):=by rw[Lib.strCells_eq,<-Lib.byteCells_append,HF.o];unfold DG;rw[if_pos rfl];simp[List.append_assoc]
   rw[x]at y;have hlen:6+b.size+c.size+F.size=(DG 1 c b n t d).length:=by rw[K.o];simp[DG,CF];omega
   rw[hlen]at y |-;have zH:=run_convert_bytes_back (P:=prog) w6 22 9 5 ⟨g6,0,none⟩ c6 (DG 1 c b n t d) underlying22 underlying5 underlying9 (fun j hj=>y.cells rfl j _ (by simp[Lib.byteCells,hj]));clear y O x;go_wp2;go_ret;exact⟨rfl,M.trans zG⟩
  .have yA:((k:Int)==1)=false:=beq_eq_false_iff_ne.2 Yv;have hlen:6+b.size+c.size=(DG k c b n t d).length:=by unfold DG;rw[if_neg hk1];simp[CF];omega
   have zA:CF k n b.size++b.data.toList++c.data.toList=DG k c b n t d:=by unfold DG;rw[if_neg hk1,List.append_nil]
   rw[zA,hlen]at s;rw[hlen];have zH:=run_convert_bytes_back (P:=prog) w4 22 9 5 ⟨g4,0,none⟩ c4 (DG k c b n t d) underlying22 underlying5 underlying9 (fun j hj=>s.cells rfl j _ (by simp[Lib.byteCells,hj]));clear s zA;go_wp2;go_ret;exact⟨rfl,M⟩
def Ca(k:Int)(sum name:Zi)(n:Int)(t:Zi)(ss:Zl)(wd:Int):Bool:=decide (1<=k/\k<=7)&&Ei k.toNat sum name n t ss wd
theorem Te(k:Int)(b a:Zi)(n:Int)(t:Zi)(f:Zk)(cap:Nat)(c:Zl)(d:Int)(w:Zh)(g:Ab w w.heap.size f c)(h:c.length<=1048576)(j:t.size<=maxLen)(i:a.size<=maxLen):
 Calls prog 121 #[.agg (Hv k b a n t f c.length cap),Zg d] w fun e l=>e=.returned (.bool (Ca k b a n t c d))/\Zz w l:=by
 unfold Ca;by_cases hk:1<=k/\k<=7
 .obtain⟨m,rfl⟩:∃m:Nat,k=m:=⟨k.toNat,Yv⟩;rw[decide_eq_true hk,Bool.true_and,Int.toNat_natCast];by_cases hw:1<=d/\d<=8
  .exact Pq m b a n t f cap c d w Yv Yv hw.1 hw.2 g h j i
  .exact Ro m b a n t f cap c d w hw
 .rw[decide_eq_false hk,Bool.false_and];exact Td k b a n t f cap c d w hk
def Cw(k:Int)(sum name:Zi)(n:Int)(t:Zi)(ss:Zl)(wd:Int):Zi:=if Ca k sum name n t ss wd=true then ⟨(DG k.toNat sum name n t ss).toArray⟩else ByteArray.empty
theorem Ng(k:Int)(b a:Zi)(n:Int)(t:Zi)(h:Zk)(cap:Nat)(c:Zl)(f:Int)(w:Zh)(g:Ab w w.heap.size h c)(j:c.length<=1048576)(l:t.size<=maxLen)(q:a.size<=maxLen):
 Calls prog 105 #[.agg (Hv k b a n t h c.length cap),Zg f] w fun e r=>e=.returned (.string (Cw k b a n t c f))/\Zz w r:=by
 cases hok:Ca k b a n t c f with
 |true=>rw[show Cw k b a n t c f=⟨(DG k.toNat b a n t c).toArray⟩from by unfold Cw;rw[if_pos hok]];unfold Ca at hok;simp only[Bool.and_eq_true,decide_eq_true_eq]at hok;obtain⟨m,rfl⟩:∃m:Nat,k=m:=⟨k.toNat,Yv⟩;rw[Int.toNat_natCast]at hok |-;exact Rr m b a n t h cap c f w Yv Yv g j l hok.2
 |false=>rw[show Cw k b a n t c f=ByteArray.empty from by unfold Cw;rw[if_neg (by rw[hok];decide)]];have i:Below w.heap.size w (w.alloc (.cells (Hv k b a n t h c.length cap) 118)):=Zy;have d:=Te k b a n t h cap c f _ (g.L i) j l q;rw[hok]at d;clear hok;go_enter func105,ntmps105;go_wp2_with fail;refine d.mono ?_;rintro e s ⟨rfl,o⟩;go_wp2;go_ret;exact⟨rfl,i.trans (o.mono Yu)⟩
theorem Cp(b:UInt8):wrap64 (b.toNat:Int)=(b.toNat:Int):=by have h:=b.toNat_lt;simp[wrap64];omega
theorem FO(x:Int)(h: -9223372036854775808<=x)(a:x<9223372036854775808):IntKind.i64.wrap x=x:=by rw[IntKind.wrap_i64];omega
theorem VL(b:1<=a)(c:k<n):0<=(k:Int) *a/\(k:Int) *a<=(n:Int) *a/\((k:Int)+1) *a=(k:Int) *a+a/\(k:Int) *a+a<=(n:Int) *a:=by refine⟨Int.mul_nonneg Yv Yv,Int.mul_le_mul_of_nonneg_right Yv Yv,by rw[Int.add_mul,Int.one_mul],?_⟩;have:((k:Int)+1) *a<=(n:Int) *a:=Int.mul_le_mul_of_nonneg_right Yv Yv;rw[Int.add_mul,Int.one_mul]at this;exact this
theorem Ps(e:n<256)(b:1<=a)(c:a<=8):0<=(n:Int) *a/\(n:Int) *a<=2040:=by refine⟨Int.mul_nonneg Yv Yv,?_⟩;have d:(n:Int) *a<=255 *a:=Int.mul_le_mul_of_nonneg_right Yv Yv;omega
def Ep(s:Zi)(wd:Int)(n:Nat):Zi:=(s.extract 1 s.size).extract ((n:Int) *wd).toNat (s.size -1)
def Ls(s:Zi)(wd:Int)(i:Nat):Zi:=(s.extract 1 s.size).extract ((i:Int) *wd).toNat ((i:Int) *wd+wd).toNat
def Ce(s:Zi)(wd:Int)(k:Nat):Zl:=(List.range k).map (Ls s wd)
theorem Dp(s:Zi)(a:Int)(k:Nat):(Ce s a k).length=k:=by simp[Ce]
theorem PW(s:Zi)(a:Int)(k:Nat):(Ce s a k).map Value.string++[Value.string (Ls s a k)]=(Ce s a (k+1)).map Value.string:=by simp[Ce,List.range_succ]
theorem LZ{b:Zh}{o:Obj}{x:Value}(e:(wr.alloc o).drew.grownBy b row)(a:wr.cell? p=some x)(d:some p.block≠row):b.cell? p=some x:=by refine e.cell ?_ d;have c:=World.block_lt_of_cell? wr p a;exact(World.cell?_alloc_lt wr o p c).trans a
theorem OJ{a:Zh}{o:Obj}(e:(wr.alloc o).drew.grownBy a row)(b:p.block<wr.heap.size)(c:some p.block≠row):a.frozen? p=wr.frozen? p:=by have d:=World.frozen?_of_block (e.block p.block Yt c);rw[d];exact World.frozen?_alloc_old wr o p (Nat.ne_of_lt b)
theorem VM{a:Nat}(h:w.ownsRow a e 1 v n d)(f:b<a):some b≠v.ownBlock:=by intro c;have:=(h.lt b c.symm).1;omega
theorem IK{ss:Zl}(h:w.ownsRow b 9 1 v ss.length (ss.map Value.string)):∃a cap,v=.slice a ss.length cap/\Ab w w.heap.size a ss:=by
 rcases h.2 with⟨c,d⟩|⟨g,cap,e,c,_⟩
 .exact⟨none,0,by rw[c,d],.inl (List.eq_nil_of_length_eq_zero d)⟩
 .subst c;exact⟨_,_,rfl,Ab.own h⟩
theorem Rt{d:Int}{a:Zh}{o:Obj}{g cap:Nat}{cn:Zi}{W:Zh}(m:w.heap.size+1<wr.heap.size)(f:wr.ownsRow (w.heap.size+2) 9 1 v k ((Ce s d k).map Value.string))(e:Below (w.heap.size+1) W wr)(c:a.ownsRow (w.heap.size+2) 9 1 (Yz g (k+1) cap) (k+1) ((Ce s d k).map Value.string++[.string (Ls s d k)]))(b:(wr.alloc o).drew.grownBy a v.ownBlock)(h:a.cell? (Zd (w.heap.size+1) 0)=some (.string cn))(i:a.cell? (Zd (w.heap.size+1) 1)=some v)(j:a.frozen? ⟨w.heap.size+1,1,none⟩=false):
 (a.setCell (Zd (w.heap.size+1) 1) (Yz g (k+1) cap)).cell? (Zd (w.heap.size+1) 0)=some (.string cn)/\
 (a.setCell (Zd (w.heap.size+1) 1) (Yz g (k+1) cap)).cell? (Zd (w.heap.size+1) 1)=some (Yz g (k+1) cap)/\
 (a.setCell (Zd (w.heap.size+1) 1) (Yz g (k+1) cap)).frozen? ⟨w.heap.size+1,1,none⟩=false/\
 (a.setCell (Zd (w.heap.size+1) 1) (Yz g (k+1) cap)).ownsRow (w.heap.size+2) 9 1 (Yz g (k+1) cap) (k+1) ((Ce s d (k+1)).map Value.string)/\
 Below (w.heap.size+1) W (a.setCell (Zd (w.heap.size+1) 1) (Yz g (k+1) cap)):=by
 refine⟨?_,?_,?_,?_,?_⟩
 .rw[<-h];exact World.cell?_setCell_other _ _ _ _ Yu
 .exact World.cell?_setCell_same' _ _ _ (by rw[i];rfl)
 .rw[World.frozen?_setCell];exact j
 .rw[<-PW];exact ownsRow_setCell_below c Yu _
 .exact(((e.alloc Yv o).drew).grown b Yt (fun k l=>by have:=(f.lt k l).1;omega)).setCell Yu _
def Jn(w:Zh)(e:Ending)(w':Zh):Prop:=e=.returned (.tuple #[.agg #[Zc,Zb],.bool false])/\Zz w w'
theorem VN(s:Zi)(a b:Nat)(d:b<=s.size -1)(c:0<s.size):(s.extract 1 s.size).extract a b=s.extract (1+a) (1+b):=by rw[ByteArray.extract_extract];congr 1;omega
theorem UN(b:0<s.size)(d:0<=(k:Int) *a)(c:1<=a)(e:(k:Int) *a+a<=s.size -1):s.extract (1+(k:Int) *a).toNat (1+(k:Int) *a+a).toNat=Ls s a k:=by unfold Ls;rw[VN s _ _ Yv b,show(1+(k:Int) *a).toNat=1+((k:Int) *a).toNat from by omega,show(1+(k:Int) *a+a).toNat=1+((k:Int) *a+a).toNat from by omega]
theorem UO(b:0<s.size)(c:0<=(n:Int) *a):s.extract (1+(n:Int) *a).toNat s.size=Ep s a n:=by unfold Ep;rw[VN s _ _ Yv b,show(1+(n:Int) *a).toNat=1+((n:Int) *a).toNat from by omega,show 1+(s.size -1)=s.size from by omega]
theorem Ru(s:Zi)(c:Int)(n:Nat)(w:Zh)(hs:s.size<=1048576)(N:1<=c)(h2:c<=8)(O:0<s.size)(M:s[0].toNat=n)(zC:(n:Int) *c<=s.size -1):
 Calls prog 120 #[.string s,Zg c] w fun e T=>
  (Az (Ep s c n) (Ce s c n) c=true->∃v,e=.returned (.tuple #[.agg #[.string (Ep s c n),v],.bool true])/\T.ownsRow w.heap.size 9 1 v n ((Ce s c n).map Value.string))/\
  (Az (Ep s c n) (Ce s c n) c=false->e=.returned (.tuple #[.agg #[Zc,Zb],.bool false]))/\Zz w T:=by
 obtain⟨i0,hi,Z,zA,zB⟩:=info_parts BO;have zF:(0:Int)<s.size:=Yv
 have zH:((s.size:Int)==0)=false:=beq_eq_false_iff_ne.2 Yv;have hn:n<256:=by rw[<-M];exact s[0].toNat_lt
 have I:=Ps hn N h2;have Y:=Cp s[0];rw[M]at Y;go_enter func120,ntmps120;go_wp2;obtain⟨cn,u⟩:=Af (Ep s c n);rw[UO O I.1,<-u];have z:=Yw u;clear u
 go_loopw [8] (fun i wr=>∃(k:Nat) (v:Value),k<=n/\i=Zg k/\wr.cell? (Zd (w.heap.size+1) 0)=some (.string cn)/\wr.cell? (Zd (w.heap.size+1) 1)=some v/\wr.frozen? ⟨w.heap.size+1,1,none⟩=false/\
  wr.ownsRow (w.heap.size+2) 9 1 v k ((Ce s c k).map Value.string)/\Below (w.heap.size+1) (w.alloc (Obj.cells #[Value.string ⟨#[]⟩,Value.slice none 0 0] 63)) wr) (fun i _=>n -(intOf i).toNat)
 case atStart=>exact⟨0,Zb,Nat.zero_le _,rfl,by simp[go_sem],by simp[go_sem],by simp[go_sem],World.ownsRow_nil _ _ _ _,Ad.alloc Yu _⟩
 case round=>
  obtain⟨k,v,Q,rfl,t,A,L,o,d⟩:=hrel;have W:=d.size;simp at W;by_cases hlt:k<n
  .obtain⟨m1,m2,m3,m4⟩:=VL N hlt;have zE:(k:Int)<n:=Yv
   have e1:=FO ((k:Int) *c) Yv Yv;have e2:=FO (1+(k:Int) *c) Yv Yv;have e3:=FO (1+(k:Int) *c+c) Yv Yv;have b1:(0:Int)<=1+(k:Int) *c:=Yv
   have b2:1+(k:Int) *c<=1+(k:Int) *c+c:=Yv
   have b3:1+(k:Int) *c+c<=(s.size:Int):=Yv
   have G:=Yw (UN O m1 N (by omega:(k:Int) *c+c<=s.size -1));have F:=VM o (b:=w.heap.size+1) Yv;have r:=World.block_lt_of_cell? wr _ t;clear m3;go_wp2
   go_region_law (refine step_append_lies _ rfl (.tmp 45) (.tmp 58) 29 rfl (w.heap.size+2) 9 i0 Zc 1 16 underlying29 hi Z zA zB rfl Yq v k ((Ce s c k).map Value.string) rfl (World.ownsRow.alloc o _) ⟨wr.heap.size,0,none⟩ 1 1 [.string (s.extract (1+(k:Int) *c).toNat (1+(k:Int) *c+c).toNat)] rfl rfl (cell_one_new wr (.string (s.extract (1+(k:Int) *c).toNat (1+(k:Int) *c+c).toNat)) 9) (by simp[Value.oneCell']) Yq Yo Yv Yt (wr.heap.size+1) Yu ?_;intro g cap w1 q f zI zG;have K:=LZ f t F;have U:=LZ f A F;have V:=(OJ (p:=⟨w.heap.size+1,1,none⟩) f Yt F).trans L)
   all_goals
    rw[G.o]at q;have R:=Rt r o d q f K U V;have E:=Yw R;clear R o d q f K t A L;go_wp2;refine⟨⟨_,_,_,_,_,_,_,_,_,_,_,_,_,_,_,_,_,_,_,_,_,_,_,⟨k+1,_,Yv,?_,E.o.1,E.o.2.1,E.o.2.2.1,E.o.2.2.2.1,E.o.2.2.2.2⟩,rfl⟩,?_⟩
    .go_num
    .simp[intOf];omega
  .obtain rfl:k=n:=Yv
   have r:=World.block_lt_of_cell? wr _ t;obtain⟨a,cap,S,H⟩:=IK (ss:=Ce s c k) (by rw[Dp];exact o);rw[Dp]at S;subst S;have B:(wr.cell? (Zd (w.heap.size) 0))=some Zc:=by rw[d.cell (p:=⟨w.heap.size,0,none⟩) Yu];simp
   have C:(wr.cell? (Zd (w.heap.size) 1))=some Zb:=by rw[d.cell (p:=⟨w.heap.size,1,none⟩) Yu];simp
   have x:wr.frozen? ⟨w.heap.size,0,none⟩=false:=by rw[d.frozen (p:=⟨w.heap.size,0,none⟩) Yu];simp
   have y:wr.frozen? ⟨w.heap.size,1,none⟩=false:=by rw[d.frozen (p:=⟨w.heap.size,1,none⟩) Yu];simp
   have X:cn.size<=maxLen:=by rw[z.o];simp[Ep,maxLen];omega
   have m:=Ci cn a cap (Ce s c k) c wr H (by rw[Dp];omega) X;rw[Dp]at m;have l:w.heap.size<wr.heap.size:=Yv
   go_wp2_with fail;refine m.mono ?_;rintro e w2 ⟨rfl,j⟩;have P:=(Zy).trans (d.mono Yv);have J:=P.trans (j.mono P.size);have D:=o.kept (row:=none) ⟨j.os,j.tape,j.output,j.size,fun k Q _=>j.block k Q⟩ (by cases a<;>simp[Value.ownBlock]);have t:=(j.cell (p:=⟨w.heap.size+1,0,none⟩) r).trans t;have A:=(j.cell (p:=⟨w.heap.size+1,1,none⟩) r).trans A
   have B:=(j.cell (p:=⟨w.heap.size,0,none⟩) l).trans B;have C:=(j.cell (p:=⟨w.heap.size,1,none⟩) l).trans C;have x:=(j.frozen (p:=⟨w.heap.size,0,none⟩) l).trans x;have y:=(j.frozen (p:=⟨w.heap.size,1,none⟩) l).trans y;cases hok:Az cn (Ce s c k) c with
   |true=>
    clear m;go_wp2;refine bodyPost_ret (v:=.tuple #[.agg #[.string cn,.slice a k cap],.bool true]) (by simp[results,results120,go_sem,B,C]) rfl ⟨fun _=>⟨.slice a k cap,?_,?_⟩,fun h=> ?_,?_⟩
    .rw[z.o]
    .exact(ownsRow_setCell_below (ownsRow_setCell_below D Yu _) Yu _).mono Yv
    .rw[<-z.o,hok]at h;cases h
    .exact(J.setCell Yu _).setCell Yu _
   |false=>
    clear m;go_wp2;refine bodyPost_ret (v:=.tuple #[.agg #[Zc,Zb],.bool false]) (by simp[results,results120,go_sem,B,C]) rfl ⟨fun h=> ?_,fun _=>rfl,?_⟩
    .rw[<-z.o,hok]at h;cases h
    .exact(J.setCell Yu _).setCell Yu _
theorem Rv(s:Zi)(a:Int)(w:Zh)(h:¬(1<=a/\a<=8)):
 Calls prog 120 #[.string s,Zg a] w (Jn w):=by
 by_cases h1:1<=a
 .have b:decide (a<=8)=false:=Yt
  go_enter func120,ntmps120;go_wp2;exact bodyPost_ret (v:=.tuple #[.agg #[Zc,Zb],.bool false]) (by simp[results,results120,go_sem]) rfl ⟨rfl,Zy⟩
 .go_enter func120,ntmps120;go_wp2;exact bodyPost_ret (v:=.tuple #[.agg #[Zc,Zb],.bool false]) (by simp[results,results120,go_sem]) rfl ⟨rfl,Zy⟩
theorem Rw(s:Zi)(a:Int)(w:Zh)(d:1<=a)(e:a<=8)(c:s.size=0):
 Calls prog 120 #[.string s,Zg a] w (Jn w):=by
 have b:=beq_iff_eq.2 Yv;go_enter func120,ntmps120;go_wp2;exact bodyPost_ret (v:=.tuple #[.agg #[Zc,Zb],.bool false]) (by simp[results,results120,go_sem]) rfl ⟨rfl,Zy⟩
theorem Rx(s:Zi)(a:Int)(n:Nat)(w:Zh)(l:s.size<=1048576)(h:1<=a)(i:a<=8)(k:0<s.size)(b:s[0].toNat=n)(d:(s.size:Int) -1<(n:Int) *a):
 Calls prog 120 #[.string s,Zg a] w (Jn w):=by
 have e:(0:Int)<s.size:=Yv
 have f:((s.size:Int)==0)=false:=beq_eq_false_iff_ne.2 Yv;have j:n<256:=by rw[<-b];exact s[0].toNat_lt
 have g:=Ps j h i;have c:=Cp s[0];rw[b]at c;go_enter func120,ntmps120;go_wp2;exact bodyPost_ret (v:=.tuple #[.agg #[Zc,Zb],.bool false]) (by simp[results,results120,go_sem]) rfl ⟨rfl,Zy⟩
def Ma(s:Zi)(wd:Int)(n:Nat):Zi×Zl×Bool:=
 if (n:Int) *wd<=s.size -1/\Az (Ep s wd n) (Ce s wd n) wd=true then (Ep s wd n,Ce s wd n,true)else (⟨#[]⟩,[],false)
def rd(s:Zi)(wd:Int):Zi×Zl×Bool:=
 if 1<=wd/\wd<=8 then
  match s.data.toList.head? with
  |none=>(⟨#[]⟩,[],false)
  |some b=>Ma s wd b.toNat
 else (⟨#[]⟩,[],false)
def Fb(s:Zi)(wd:Int)(w:Zh)(e:Ending)(w':Zh):Prop:=
 ∃v,e=.returned (.tuple #[.agg #[.string (rd s wd).1,v],.bool (rd s wd).2.2])/\w'.ownsRow w.heap.size 9 1 v (rd s wd).2.1.length ((rd s wd).2.1.map Value.string)/\Zz w w'
theorem UP(a:0<s.size):s.data.toList.head?=some s[0]:=by rw[List.head?_eq_getElem?,Zv (by simpa using a)];rfl
theorem Wy(s:Zi)(a:Int):(rd s a).2.1.length<=255:=by
 unfold rd;split
 .split
  .simp
  .rename_i b _
   unfold Ma;have:=b.toNat_lt;split
   .simp[Dp];omega
   .simp
 .simp
theorem Hz{b:Int}(h:rd s b=(⟨#[]⟩,[],false)):∀e a,Jn w e a->Fb s b w e a:=by rintro e a ⟨rfl,c⟩;unfold Fb;rw[h];exact⟨Zb,rfl,World.ownsRow_nil _ _ _ _,c⟩
theorem VO(j:rd s a=Ma s a n)(c:(n:Int) *a<=s.size -1):∀e b,
 ((Az (Ep s a n) (Ce s a n) a=true->∃v,e=.returned (.tuple #[.agg #[.string (Ep s a n),v],.bool true])/\b.ownsRow w.heap.size 9 1 v n ((Ce s a n).map Value.string))/\
   (Az (Ep s a n) (Ce s a n) a=false->e=.returned (.tuple #[.agg #[Zc,Zb],.bool false]))/\Zz w b)->Fb s a w e b:=by
 rintro e b ⟨f,g,d⟩;unfold Fb;rw[j];unfold Ma;cases hok:Az (Ep s a n) (Ce s a n) a with
 |true=>rw[if_pos ⟨c,rfl⟩];obtain⟨v,h,i⟩:=f hok;exact⟨v,h,by simpa [Dp]using i,d⟩
 |false=>rw[if_neg Yu];exact⟨Zb,g hok,World.ownsRow_nil _ _ _ _,d⟩
theorem Ry(s:Zi)(a:Int)(w:Zh)(c:s.size<=1048576):Calls prog 120 #[.string s,Zg a] w (Fb s a w):=by
 by_cases hw:1<=a/\a<=8
 .by_cases h0:0<s.size
  .have b:rd s a=Ma s a s[0].toNat:=by unfold rd;rw[if_pos hw,UP h0]
   by_cases hfit:(s[0].toNat:Int) *a<=s.size -1
   .exact(Ru s a _ w c hw.1 hw.2 h0 rfl hfit).mono (VO b hfit)
   .exact(Rx s a _ w c hw.1 hw.2 h0 rfl Yv).mono (Hz (by rw[b];unfold Ma;rw[if_neg (fun h=>hfit h.1)]))
  .refine(Rw s a w hw.1 hw.2 Yv).mono (Hz ?_);have d:s.data.toList=[]:=List.eq_nil_of_length_eq_zero (by have e:s.data.toList.length=s.size:=Array.length_toList;omega);unfold rd;rw[if_pos hw,d];rfl
 .exact(Rv s a w hw).mono (Hz (by unfold rd;rw[if_neg hw]))
abbrev AB(l:List UInt8):Zi:=⟨l.toArray⟩
theorem UQ(s:Zi):AB s.data.toList=s:=rfl
theorem Gi(l:List UInt8)(a b:Nat):(AB l).extract a b=AB ((l.drop a).take (b -a)):=by apply ByteArray.ext;rw[ByteArray.data_extract];apply Array.ext';simp[List.take_drop]
theorem BC(l:List UInt8):(AB l).size=l.length:=by simp[ByteArray.size]
def Ia(T:List UInt8)(wd i:Nat):Zi:=AB ((T.drop (i *wd)).take wd)
theorem Rz(T:List UInt8)(a:Nat):∀k,k *a<=T.length->flat ((List.range k).map (Ia T a))=T.take (k *a):=by
 intro k;induction k with
 |zero=>intro _;simp[flat]
 |succ k ih=>
  intro h;have b:k *a<=T.length:=by rw[Nat.succ_mul]at h;omega
  rw[List.range_succ,List.map_append];unfold flat at *
  rw[List.flatMap_append,ih b];simp only[List.map_cons,List.map_nil,List.flatMap_cons,List.flatMap_nil,List.append_nil,Ia];rw[Nat.succ_mul,List.take_add]
theorem RA(a:Zl)(t:List UInt8)(b:Nat)(h:∀s∈a,s.size=b):(List.range a.length).map (Ia (flat a++t) b)=a:=by
 induction a with
 |nil=>rfl
 |cons s r ih=>
  have c:s.data.toList.length=b:=h s (List.mem_cons_self ..);have e:=ih (fun x f=>h x (by simp[f]));have d:flat (s::r)++t=s.data.toList++(flat r++t):=by simp[flat]
  rw[List.length_cons,List.range_succ_eq_map,List.map_cons,List.map_map,d];congr 1
  .unfold Ia;rw[Nat.zero_mul,List.drop_zero,List.take_left' c]
  .refine Eq.trans ?_ e;apply List.map_congr_left;intro i _;simp only[Function.comp,Ia];congr 2;rw[show Nat.succ i *b=s.data.toList.length+i *b by rw[Nat.succ_mul,c];omega,<-List.drop_drop,List.drop_left]
theorem rd_mk(c:UInt8)(T:List UInt8)(a:Int)(e:1<=a)(f:a<=8):
 rd (AB (c::T)) a=if c.toNat *a.toNat<=T.length/\Az (AB (T.drop (c.toNat *a.toNat))) ((List.range c.toNat).map (Ia T a.toNat)) a=true then (AB (T.drop (c.toNat *a.toNat)),(List.range c.toNat).map (Ia T a.toNat),true)else (⟨#[]⟩,[],false):=by
 obtain⟨W,rfl⟩:∃W:Nat,a=W:=⟨a.toNat,Yv⟩;have b:(AB (c::T)).size=T.length+1:=by rw[BC];rfl
 have d:(AB (c::T)).extract 1 (AB (c::T)).size=AB T:=by rw[b,Gi];simp
 have j:Ep (AB (c::T)) W c.toNat=AB (T.drop (c.toNat *W)):=by unfold Ep;rw[d,Gi,b];congr 2;rw[show((c.toNat:Int) *(W:Int)).toNat=c.toNat *W by rw[<-Int.natCast_mul];rfl];exact Zt Yu
 have h:Ce (AB (c::T)) W c.toNat=(List.range c.toNat).map (Ia T W):=by unfold Ce;apply List.map_congr_left;intro i _;unfold Ls Ia;rw[d,Gi];congr 2;rw[show((i:Int) *(W:Int)).toNat=i *W by rw[<-Int.natCast_mul];rfl,show((i:Int) *(W:Int)+(W:Int)).toNat=i *W+W by rw[<-Int.natCast_mul];omega];congr 1;omega
 have g:((c.toNat:Int) *(W:Int)<=((AB (c::T)).size:Int) -1)↔c.toNat *W<=T.length:=by rw[b,<-Int.natCast_mul];omega
 unfold rd;rw[if_pos ⟨e,f⟩];simp only[List.head?_cons];unfold Ma;rw[j,h];simp only[g,Int.toNat_natCast]
theorem Tf{l:List UInt8}(h:(rd (AB l) a).2.2=true):Az (rd (AB l) a).1 (rd (AB l) a).2.1 a=true/\BP (rd (AB l) a).1 (rd (AB l) a).2.1=l:=by
 by_cases hw:1<=a/\a<=8
 .cases l with
  |nil=>unfold rd at h;rw[if_pos hw]at h;simp at h
  |cons c T=>
   rw[rd_mk c T a hw.1 hw.2]at h |-;split at h
   case isTrue hc=>
    rw[if_pos hc];refine⟨hc.2,?_⟩;simp only[BP,List.length_map,List.length_range];rw[Rz T a.toNat c.toNat hc.1];simp
   case isFalse hc=>simp at h
 .unfold rd at h;rw[if_neg hw]at h;simp at h
theorem OK{a:Zl}{b:Int}(h:Az t a b=true):rd (AB (BP t a)) b=(t,a,true):=by
 have p:=AV h;have d:∀s∈a,s.size=b.toNat:=fun s j=>by obtain⟨i,f⟩:=List.getElem?_of_mem j;have:=p.size f;omega
 have g:(UInt8.ofNat a.length).toNat=a.length:=by have:=p.B;simp;omega
 have c:(flat a).length=a.length *b.toNat:=by rw[DN,p.bk]
 unfold BP;rw[rd_mk _ _ b p.y p.hi,g,RA a t.data.toList b.toNat d];have e:(flat a++t.data.toList).drop (a.length *b.toNat)=t.data.toList:=by rw[<-c,List.drop_left]
 rw[e,UQ,if_pos ⟨by rw[List.length_append,c];omega,h⟩]
section
attribute [local go_sem] Oper.semAt_some
end
section
attribute [local go_sem] Oper.semAt_some
end
def BE(ss tt:Zl)(ah:Int):Zl:=if Dg ss tt then ss++tt.take (min (max ah 0) tt.length).toNat else []
theorem Fv{a:Zh}{L:Zl}(b:Zz w a)(c:a.ownsRow (w.heap.size+2) 9 1 v L.length (L.map Value.string)):
 ((a.setCell (Zd (w.heap.size+1) 0) v).setCell (Zd (w.heap.size+1) 1) Zb).ownsRow w.heap.size 9 1 v L.length (L.map Value.string)/\
   Zz w ((a.setCell (Zd (w.heap.size+1) 0) v).setCell (Zd (w.heap.size+1) 1) Zb):=
 ⟨(ownsRow_setCell_below (ownsRow_setCell_below c Yu _) Yu _).mono Yv,(b.setCell (p:=⟨w.heap.size+1,0,none⟩) Yu _).setCell (p:=⟨w.heap.size+1,1,none⟩) Yu _⟩
theorem FE{c:Array Oper}{rest:List Oper}{b:Oper}{a:Act}{Q:Exit->Act->Zh->Prop}(f:b.guard=none)(t:TypeId)(parts:Array (Nat×Operand))(g:b.op=.build t parts)(l:List (Nat×Value))(e:(parts.map fun(i,x)=>(i,a.eval x)).toList=l)(cells:Array Value)(d:P.built t l=some cells)(h:wpList P c Q rest (a.put b.dst (.agg cells)) w):wpList P c Q (b::rest) a w:=
 wpList_build f t parts g (by rw[e,d];rfl) (by rw[e,d];exact h)
theorem Hf{t:Zj}(h:t.length=17):∃i j k l m n o q r s a b c d e f g,t=[i,j,k,l,m,n,o,q,r,s,a,b,c,d,e,f,g]:=by
 match t,h with
 |[i,j,k,l,m,n,o,q,r,s,a,b,c,d,e,f,g],_=>exact⟨i,j,k,l,m,n,o,q,r,s,a,b,c,d,e,f,g,rfl⟩
theorem RC{a:Zj}(h:a.length=17)(s:Zi)(n:Int):prog.built 124 [(1,.agg a.toArray),(2,.string s),(3,Zg n)]=some (Zg 0::(a++[.string s,Zg n,Zc,Zc])).toArray:=by
 obtain⟨j,k,l,m,o,q,r,t,u,v,b,c,d,e,f,g,i,rfl⟩:=Hf h
 kernel_rfl
theorem PX{a:Zj}(h:a.length=17):prog.built 124 [(1,.agg a.toArray)]=some (Zg 0::(a++[Zc,Ze,Zc,Zc])).toArray:=by
 obtain⟨j,k,l,m,n,o,q,r,s,t,b,c,d,e,f,g,i,rfl⟩:=Hf h
 kernel_rfl
theorem De{α:Type}:(∀(l:List α) (i:Nat) (a:α),l.toArray.setIfInBounds i a=(l.set i a).toArray)/\(∀(a b:α) (l:List α),(b::l).set 0 a=a::l)/\∀(a b:α) (l:List α) (n:Nat),(b::l).set (n+1) a=b::l.set n a:=
 ⟨fun _ _ _=>Zq _ _ _,fun _ _ _=>rfl,fun _ _ _ _=>rfl⟩
structure JF (w V:Zh) (u v:Value):Prop where
 b0:V.cell? (Zd (w.heap.size) 0)=some u
 b1:V.cell? (Zd (w.heap.size) 1)=some v
 r0:V.cell? (Zd (w.heap.size+1) 0)=some Zb
 r1:V.cell? (Zd (w.heap.size+1) 1)=some Zb
 f:∀o,V.frozen? ⟨w.heap.size+1,o,none⟩=false
 bx:Below w.heap.size w V
 le:w.heap.size+2<=V.heap.size
theorem JF.alloc(h:JF w V u v)(o:Obj):JF w (V.alloc o) u v:=by
 have a:=(Below.refl V.heap.size V).alloc (Zx) o;have:=h.le;exact⟨(a.cell (p:=⟨w.heap.size,0,none⟩) Yt).trans h.b0,(a.cell (p:=⟨w.heap.size,1,none⟩) Yt).trans h.b1,(a.cell (p:=⟨w.heap.size+1,0,none⟩) Yt).trans h.r0,(a.cell (p:=⟨w.heap.size+1,1,none⟩) Yt).trans h.r1,
  fun o=>(a.frozen (p:=⟨w.heap.size+1,o,none⟩) Yt).trans (h.f o),h.bx.alloc h.bx.size o,Yt⟩
theorem JF.drew(h:JF w V u v):JF w V.drew u v:=⟨h.b0,h.b1,h.r0,h.r1,h.f,h.bx.drew,h.le⟩
theorem JF.grown{b:Zh}{q:Nat}(h:JF w V u v)(a:V.grownBy b (some q))(d:w.heap.size+2<=q):JF w b u v:=by
 have:=h.le;have:=a.size;exact⟨a.cell h.b0 Yt,a.cell h.b1 Yt,a.cell h.r0 Yt,a.cell h.r1 Yt,
  fun o=>(a.frozen_far ⟨w.heap.size+1,o,none⟩ Yt Yt).trans (h.f o),h.bx.grown a h.bx.size (fun k c=>by cases c;omega),Yv⟩
end Go.Proofs.YtcfjcdpkpiidkaaGreat
