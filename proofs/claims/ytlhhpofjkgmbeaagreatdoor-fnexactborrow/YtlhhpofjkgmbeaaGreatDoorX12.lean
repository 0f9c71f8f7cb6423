import Derived.Test.YtlhhpofjkgmbeaaGreatDoorX11
set_option maxRecDepth 100000
set_option maxHeartbeats 16000000
namespace Go.Proofs.YtlhhpofjkgmbeaaGreatDoor
open Go.ChangeShapes Go.WideShapes Go.ChangeAt Go.RowKit _root_.Go.Proofs.Tryz
theorem Cn{P:Program}(w:Zh){D:Array Oper}{o:Oper}{a:Act}{K:Act->Zh->Prop}{Q:Exit->Act->Zh->Prop}{E:Prop}(N:o.guard=none)(I x:Operand)(t:TypeId)
 (X:o.op=.call {callee:=.builtin .append,args:= #[I,x],argTypes:= #[t,t]})
 (base:Nat) (e:TypeId) (i:TypeInfo) (z:Value) (bytes:Nat) (Z:P.underlying t=some (.slice e)) (V:P.info? e=some i) (hz:i.zero=some z)
 (v:i.size=1) (M:i.bytes=bytes) (O:z.cells.size=1)
 (q n H:Nat) (J:Zl) (A:a.eval I=Za q n H) (C:w.ownsRow base e 1 (Za q n H) n (J.map Value.string))
 (F:Addr) (m c:Nat) (B:Zl) (hx:a.eval x=.slice (some F) m c) (W:B.length=m) (r:∀j s,B[j]?=some s->w.cell? (F.add j)=some (.string s))
 (L:n+m<=maxLen) (d:(n+m) *bytes<=140737488355328) (l:base<=w.heap.size)
 (h:∀g b k,k.ownsRow base e 1 (Za g (n+m) b) (n+m) ((J++B).map Value.string)->w.grownBy k (some q)->(g=q∨g=w.heap.size)->g<k.heap.size->K (a.put o.dst (Za g (n+m) b)) k):
 if Region.wanted o (yielded D a.tmps)=true then Oper.wp P o a w K Q else E:=by
 have hw:Region.wanted o (yielded D a.tmps)=true:=by simp[Region.wanted,N]
 rw[if_pos hw];obtain⟨v',k,Y,G,S,T,y⟩:=run_append_own_at (P:=P) w base t o.type e i z 1 bytes Z V hz v M O (by decide) _ n _ C F m c (B.map Value.string) (by simp[W])
  (fun j u f=>by
    rw[List.getElem?_map]at f;cases A:B[j]? with
    |none=>rw[A]at f;cases f
    |some s=>rw[A]at f;cases f;exact r j s A)
  (fun u f=>by obtain⟨s,_,rfl⟩:=List.mem_map.1 f;rfl) L d l
 have p:∃g b,v'=Za g (n+m) b:=by
  rcases Joins.ownsRow_forms G with⟨R,_⟩|U
  ·have:=(T.1 R).1;cases this
  ·exact U
 obtain⟨g,b,rfl⟩:=p;unfold Oper.wp execOp;simp only[X,resolve,invoke,builtin,Sem.run_bind,Sem.run_pure,Result.andThen_ok,List.map_toArray,List.map_cons,List.map_nil,A,hx,Y];refine h g b k (by rw[List.map_append];exact G) S ?_ (G.lt g rfl).2;rcases y with y|y
 ·left;simpa [Value.ownBlock]using y
 ·right;simpa [Value.ownBlock]using y
theorem Fb{P:Program}(w:Zh){D:Array Oper}{o:Oper}{a:Act}{K:Act->Zh->Prop}{Q:Exit->Act->Zh->Prop}{E:Prop}(C:o.guard=none)(F x:Operand)(t:TypeId)
 (J:o.op=.call {callee:=.builtin .append,args:= #[F,x],argTypes:= #[t,t]})
 (base:Nat) (e:TypeId) (i:TypeInfo) (z:Value) (bytes:Nat) (M:P.underlying t=some (.slice e)) (H:P.info? e=some i) (W:i.zero=some z)
 (l:i.size=1) (R:i.bytes=bytes) (T:z.cells.size=1)
 (q n r:Nat) (G:Zl) (L:a.eval F=Za q n r) (b:w.ownsRow base e 1 (Za q n r) n (G.map Value.string))
 (p:Zk) (m c:Nat) (u:Zl) (N:a.eval x=.slice p m c) (I:u.length=m) (y:p=none->m=0/\c=0) (k:∀A,p=some A->∀j s,u[j]?=some s->w.cell? (A.add j)=some (.string s))
 (O:n+m<=maxLen) (d:(n+m) *bytes<=140737488355328) (f:base<=w.heap.size)
 (h:∀g B v,v.ownsRow base e 1 (Za g (n+m) B) (n+m) ((G++u).map Value.string)->w.grownBy v (some q)->(g=q∨g=w.heap.size)->g<v.heap.size->K (a.put o.dst (Za g (n+m) B)) v):
 if Region.wanted o (yielded D a.tmps)=true then Oper.wp P o a w K Q else E:=by
 cases p with
 |some A=>exact Cn w C F x t J base e i z bytes M H W l R T q n r G L b A m c u N I (k A rfl) O d f h
 |none=>
  obtain⟨rfl,rfl⟩:=y rfl;have S:=List.eq_nil_of_length_eq_zero I;subst S;have V:Region.wanted o (yielded D a.tmps)=true:=by simp[Region.wanted,C]
  rw[if_pos V];have U:=run_append_owned_none (P:=P) w base t o.type e i 1 M H _ n _ b;unfold Oper.wp execOp;simp only[J,resolve,invoke,builtin,Sem.run_bind,Sem.run_pure,Result.andThen_ok,List.map_toArray,List.map_cons,List.map_nil,L,N,U];exact h q r w (by simpa using b) ⟨rfl,rfl,rfl,Zx,fun _ _ _=>rfl⟩ (.inl rfl) (b.lt q rfl).2
theorem Ad.fb{w:Zh}{B:Nat}{a:Zk}{d:Zl}(h:Ad w B a d):∀A,a=some A->∀j s,d[j]?=some s->w.cell? (A.add j)=some (.string s):=by
 rintro A rfl j s c;rcases h with h|⟨b,g,e,_,f⟩
 ·subst h;simp at c
 ·cases e;have:=f j s c;rw[Go.WideShapes.add_plain];exact this
theorem Pf(t:Zi)(l:Zk)(o:Nat)(b:Zl)(w:Zh)(hr:Ad w w.heap.size l b)(z:l=none->b.length=0/\o=0)(hl:b.length<=1048576):
 Calls prog 83 #[.agg #[.string t,.slice l b.length o]] w fun e T=>∃g c,e=.returned (.agg #[.string t,Za g b.length c])/\
  T.ownsRow w.heap.size 9 1 (Za g b.length c) b.length (b.map Value.string)/\Zz w T:=by
 obtain⟨i0,hi,U,V,X⟩:=info_parts CK;obtain⟨m,d⟩:∃m,m=w.alloc (.cells #[.string t,.slice l b.length o] 58):=⟨_,rfl⟩;have q:=(AG d).1;have K:=(AG d).2.2;have A:=(AG d).2.1;obtain⟨W,x⟩:∃W,W=m.alloc (.cells #[Zd,Zc] 58):=⟨_,rfl⟩;have r:=(AG x).1;have u:=(AG x).2.2;have L:=K.below r;have i:Below w.heap.size w W:=q.trans (r.mono q.size);have C:m.heap.size<W.heap.size:=u.lt
 obtain⟨B,N⟩:∃B,B=m.heap.size:=⟨_,rfl⟩;have F:w.heap.size<B:=by omega
 rw[←N]at u C;have k:w.heap.size<W.heap.size:=by omega
 have E:=Yx d;have I:=Yx x;have J:Hid (w.heap.size+1=B):=by show _=_;omega
 obtain⟨R,S⟩:=Aa.c2 L 0 1;have h:Below W.heap.size W (W.alloc (.cells #[] 9)):=Zy;have P:(W.alloc (.cells #[] 9)).drew.ownsRow (B+1) 9 1 (Za W.heap.size 0 0) 0 (([]:Zl).map Value.string):=World.ownsRow_lit W #[] 0 (by omega) (by unfold maxLen;omega) rfl;have Q:=(Ad.below hr (i.trans (h.drew.mono i.size))).fb
 have q0:(W.alloc (.cells #[] 9)).cell? (Ze (w.heap.size) 0)=some (.string t):=(h.cell (p:=⟨w.heap.size,0,none⟩) k).trans R;have q1:(W.alloc (.cells #[] 9)).cell? (Ze (w.heap.size) 1)=some (.slice l b.length o):=(h.cell (p:=⟨w.heap.size,1,none⟩) k).trans S;have HR:=Yx u;have D:=Yx i;clear d x N q r K u L i A;go_enter func83,ntmps83;go_upto_region 1 with fail;rw[←E.o,←I.o,J.o];clear E I J
 go_region_law (first
  |(refine Fb (W.alloc (.cells #[] 9)).drew rfl (.tmp 5) (.tmp 7) 22 rfl (B+1) 9 i0 Zd 16 underlying22 hi U V X rfl W.heap.size 0 0 [] rfl P l b.length o b rfl rfl z Q (by unfold maxLen;omega) (by omega) (by simp;omega) ?_;intro O f H s G y Y;simp only[Nat.zero_add,List.nil_append]at s;have n:Below W.heap.size W H:=h.drew.grown G (by simp) (fun j hj=>by cases hj;exact Zx);have M:=Aa.below HR.o n;obtain⟨y0,f0⟩:=M 0 _ rfl;obtain⟨y1,f1⟩:=M 1 _ rfl;have p0:=(n.cell (p:=⟨w.heap.size,0,none⟩) k).trans R;have p1:=(n.cell (p:=⟨w.heap.size,1,none⟩) k).trans S))
 all_goals
  have HO:=Yx s;have Z:Hid (Zz w H):=D.o.trans (n.mono D.o.size);clear s G y n P Q q0 q1;go_wp2;refine bodyPost_ret (v:=.agg #[.string t,Za O b.length f]) (by simp[results,results83,go_sem, *]) rfl ?_;refine⟨_,_,rfl,?_,?_⟩
  ·exact(ownsRow_setCell_below (ownsRow_setCell_below HO.o (a:=⟨B,0,none⟩) (Nat.lt_succ_self B) _) (a:=⟨B,1,none⟩) (Nat.lt_succ_self B) _).mono (by omega)
  ·exact(Z.o.setCell (p:=⟨B,0,none⟩) (Nat.le_of_lt F) _).setCell (p:=⟨B,1,none⟩) (Nat.le_of_lt F) _
end Go.Proofs.YtlhhpofjkgmbeaaGreatDoor
