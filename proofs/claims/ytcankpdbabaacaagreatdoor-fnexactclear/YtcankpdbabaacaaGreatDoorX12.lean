import Derived.Test.YtcankpdbabaacaaGreatDoorX11
set_option maxRecDepth 100000
set_option maxHeartbeats 16000000
namespace Go.Proofs.YtcankpdbabaacaaGreatDoor
open Go.ChangeShapes Go.WideShapes Go.ChangeAt Go.RowKit _root_.Go.Proofs.Tryz
variable{P:Program}{o:Oper}{a:Act}{E:Prop}
theorem KW(w:Zh){C:Array Oper}{K:Act->Zh->Prop}{Q:Exit->Act->Zh->Prop}(M:o.guard=none)(H x:Operand)(t:TypeId)(W:o.op=.call {callee:=.builtin .append,args:= #[H,x],argTypes:= #[t,t]})(b:Nat)(e:TypeId)(i:TypeInfo)(z:Value)(bytes:Nat)(Y:P.underlying t=some (.slice e))(U:P.info? e=some i)(hz:i.zero=some z)(r:i.size=1)(L:i.bytes=bytes)(N:z.cells.size=1)(q n G:Nat)(I:Zl)(y:a.eval H=Za q n G)(B:w.ownsRow b e 1 (Za q n G) n (I.map Value.string))(D:Addr)(m c:Nat)(A:Zl)(hx:a.eval x=.slice (some D) m c)(V:A.length=m)(p:∀j s,A[j]?=some s->w.cell? (D.add j)=some (.string s))(J:n+m<=maxLen)(d:(n+m) *bytes<=140737488355328)(k:b<=w.heap.size)(h:∀g cap f,f.ownsRow b e 1 (Za g (n+m) cap) (n+m) ((I++A).map Value.string)->w.grownBy f (some q)->(g=q\/g=w.heap.size)->g<f.heap.size->K (a.put o.dst (Za g (n+m) cap)) f):
 if Region.wanted o (yielded C a.tmps)=true then Oper.wp P o a w K Q else E:=by
 have Z:Region.wanted o (yielded C a.tmps)=true:=by simp[Region.wanted,M]
 rw[if_pos Z];obtain⟨v',f,X,F,R,S,v⟩:=run_append_own_at (P:=P) w b t o.type e i z 1 bytes Y U hz r L N Ys _ n _ B D m c (A.map Value.string) (by simp[V])
  (fun j u hu=>by
    rw[List.getElem?_map]at hu;cases y:A[j]? with
    |none=>rw[y]at hu;cases hu
    |some s=>rw[y]at hu;cases hu;exact p j s y)
  (fun u hu=>by obtain⟨s,_,rfl⟩:=List.mem_map.1 hu;rfl) J d k
 have l:∃g cap,v'=Za g (n+m) cap:=by
  rcases Joins.ownsRow_forms F with⟨O,_⟩|T
  .have:=(S.1 O).1;cases this
  .exact T
 obtain⟨g,cap,rfl⟩:=l;unfold Oper.wp execOp;simp only[W,resolve,invoke,builtin,Sem.run_bind,Sem.run_pure,Result.andThen_ok,List.map_toArray,List.map_cons,List.map_nil,y,hx,X];refine h g cap f (by rw[List.map_append];exact F) R ?_ (F.lt g rfl).2;rcases v with v|v
 .left;simpa [Value.ownBlock]using v
 .right;simpa [Value.ownBlock]using v
theorem BJ(w:Zh){D:Array Oper}{K:Act->Zh->Prop}{Q:Exit->Act->Zh->Prop}(C:o.guard=none)(F x:Operand)(t:TypeId)(J:o.op=.call {callee:=.builtin .append,args:= #[F,x],argTypes:= #[t,t]})(b:Nat)(e:TypeId)(i:TypeInfo)(z:Value)(bytes:Nat)(M:P.underlying t=some (.slice e))(H:P.info? e=some i)(W:i.zero=some z)(p:i.size=1)(R:i.bytes=bytes)(T:z.cells.size=1)(q n u:Nat)(G:Zl)(L:a.eval F=Za q n u)(d:w.ownsRow b e 1 (Za q n u) n (G.map Value.string))(r:Zk)(m c:Nat)(v:Zl)(N:a.eval x=.slice r m c)(I:v.length=m)(B:r=none->m=0/\c=0)(l:∀A,r=some A->∀j s,v[j]?=some s->w.cell? (A.add j)=some (.string s))(O:n+m<=maxLen)(f:(n+m) *bytes<=140737488355328)(k:b<=w.heap.size)(h:∀g cap y,y.ownsRow b e 1 (Za g (n+m) cap) (n+m) ((G++v).map Value.string)->w.grownBy y (some q)->(g=q\/g=w.heap.size)->g<y.heap.size->K (a.put o.dst (Za g (n+m) cap)) y):
 if Region.wanted o (yielded D a.tmps)=true then Oper.wp P o a w K Q else E:=by
 cases r with
 |some A=>exact KW w C F x t J b e i z bytes M H W p R T q n u G L d A m c v N I (l A rfl) O f k h
 |none=>
  obtain⟨rfl,rfl⟩:=B rfl;have S:=List.eq_nil_of_length_eq_zero I;subst S;have V:Region.wanted o (yielded D a.tmps)=true:=by simp[Region.wanted,C]
  rw[if_pos V];have U:=run_append_owned_none (P:=P) w b t o.type e i 1 M H _ n _ d;unfold Oper.wp execOp;simp only[J,resolve,invoke,builtin,Sem.run_bind,Sem.run_pure,Result.andThen_ok,List.map_toArray,List.map_cons,List.map_nil,L,N,U];exact h q u w (by simpa using d) ⟨rfl,rfl,rfl,Zx,fun _ _ _=>rfl⟩ (.inl rfl) (d.lt q rfl).2
theorem Ad.bj{w:Zh}{B:Nat}{a:Zk}{d:Zl}(h:Ad w B a d):∀A,a=some A->∀j s,d[j]?=some s->w.cell? (A.add j)=some (.string s):=by
 rintro A rfl j s c;rcases h with h|⟨b,g,e,_,f⟩
 .subst h;simp at c
 .cases e;have:=f j s c;rw[Go.WideShapes.add_plain];exact this
theorem Qh(t:Zi)(ra:Zk)(n:Nat)(b:Zl)(w:Zh)(hr:Ad w w.heap.size ra b)(y:ra=none->b.length=0/\n=0)(hl:b.length<=1048576):
 Calls prog 93 #[.agg #[.string t,.slice ra b.length n]] w fun e S=>∃g c,e=.returned (.agg #[.string t,Za g b.length c])/\
  S.ownsRow w.heap.size 9 1 (Za g b.length c) b.length (b.map Value.string)/\Zz w S:=by
 obtain⟨i0,hi,T,U,V⟩:=info_parts Dw;obtain⟨l,d⟩:∃l,l=w.alloc (.cells #[.string t,.slice ra b.length n] 64):=⟨_,rfl⟩;have o:=(AA d).1;have J:=(AA d).2.2;have z:=(AA d).2.1;obtain⟨W,u⟩:∃W,W=l.alloc (.cells #[Zd,Zc] 64):=⟨_,rfl⟩;have q:=(AA u).1;have s:=(AA u).2.2;have K:=J.below q;have i:Below w.heap.size w W:=o.trans (q.mono o.size);have A:l.heap.size<W.heap.size:=s.lt
 obtain⟨B,M⟩:∃B,B=l.heap.size:=⟨_,rfl⟩;have E:w.heap.size<B:=Yw
 rw[<-M]at s A;have k:w.heap.size<W.heap.size:=Yw
 have D:=Yx d;have H:=Yx u;have I:Hid (w.heap.size+1=B):=by show _=_;omega
 obtain⟨Q,R⟩:=Aa.c2 K 0 1;have h:Below W.heap.size W (W.alloc (.cells #[] 9)):=Zy;have O:(W.alloc (.cells #[] 9)).drew.ownsRow (B+1) 9 1 (Za W.heap.size 0 0) 0 (([]:Zl).map Value.string):=World.ownsRow_lit W #[] 0 Yw Yq rfl;have P:=(Ad.below hr (i.trans (h.drew.mono i.size))).bj
 have q0:(W.alloc (.cells #[] 9)).cell? (Ze (w.heap.size) 0)=some (.string t):=(h.cell (p:=⟨w.heap.size,0,none⟩) k).trans Q;have q1:(W.alloc (.cells #[] 9)).cell? (Ze (w.heap.size) 1)=some (.slice ra b.length n):=(h.cell (p:=⟨w.heap.size,1,none⟩) k).trans R;have HR:=Yx s;have C:=Yx i;clear d u M o q J s K i z;go_enter func93,ntmps93;go_upto_region 1 with fail;rw[<-D.o,<-H.o,I.o];clear D H I
 go_region_law (first
  |(refine BJ (W.alloc (.cells #[] 9)).drew rfl (.tmp 5) (.tmp 7) 22 rfl (B+1) 9 i0 Zd 16 underlying22 hi T U V rfl W.heap.size 0 0 [] rfl O ra b.length n b rfl rfl y P Yq Yw Yu ?_;intro N f G r F x X;simp only[Nat.zero_add,List.nil_append]at r;have m:Below W.heap.size W G:=h.drew.grown F Yv (fun j hj=>by cases hj;exact Zx);have L:=Aa.below HR.o m;obtain⟨y0,f0⟩:=L 0 _ rfl;obtain⟨y1,f1⟩:=L 1 _ rfl;have p0:=(m.cell (p:=⟨w.heap.size,0,none⟩) k).trans Q;have p1:=(m.cell (p:=⟨w.heap.size,1,none⟩) k).trans R))
 all_goals
  have Z:=Yx r;have Y:Hid (Zz w G):=C.o.trans (m.mono C.o.size);clear r F x m O P q0 q1;go_wp2;refine bodyPost_ret (v:=.agg #[.string t,Za N b.length f]) (by simp[results,results93,go_sem, *]) rfl ?_;refine⟨_,_,rfl,?_,?_⟩
  .exact(ownsRow_setCell_below (ownsRow_setCell_below Z.o (a:=⟨B,0,none⟩) (Nat.lt_succ_self B) _) (a:=⟨B,1,none⟩) (Nat.lt_succ_self B) _).mono Yw
  .exact(Y.o.setCell (p:=⟨B,0,none⟩) (Nat.le_of_lt E) _).setCell (p:=⟨B,1,none⟩) (Nat.le_of_lt E) _
end Go.Proofs.YtcankpdbabaacaaGreatDoor
