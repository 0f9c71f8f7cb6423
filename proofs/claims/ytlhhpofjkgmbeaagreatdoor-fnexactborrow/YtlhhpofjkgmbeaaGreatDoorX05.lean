import Derived.Test.YtlhhpofjkgmbeaaGreatDoorX04
import Derived.WalkLawsBesides
import Derived.Defers
import Derived.Recover
set_option maxRecDepth 100000
set_option maxHeartbeats 16000000
namespace Go.Proofs.YtlhhpofjkgmbeaaGreatDoor
open Go.ChangeShapes Go.WideShapes Go.ChangeAt Go.RowKit _root_.Go.Proofs.Tryz
section
attribute [local go_sem↓] Go.wp_at_zero Go.wp_at_succ
theorem BQ.holds{w:Zh}{base:Nat}{V:List Nat}{wd:Int}{ks:List Kd}{f:Lit->Option Value}(h:BQ w base V wd ks f):Holds w w.heap.size wd ks f:=by
 intro s g;rcases h s g with h|⟨u,i,j,a,b,c,e⟩
 ·exact .inl h
 ·exact .inr ⟨u,i,j,a,b,c,e.row⟩
theorem Dr.look{w:Zh}{base d m:Nat}{O P L:Value}{wd now given ae:Int}{ks:List Kd}{ps:List Pd}{ls:List Ld}(h:Dr w base d m O P L wd now given ae ks ps ls)(i:(ks.map (·.sum)).Nodup)(o:∀k∈ks,(k.sum.size:Int)=wd){k:Kd}(b:k∈ks):
 ∃a c,Ad w w.heap.size a k.refs/\∀X,Zz w X->(Instr.lookup 152 (.map (some m)) (Cm k.sum) false).run prog X=.ok (Ee k a c) X:=by
 obtain⟨n,f,t,e,q⟩:=h.map;rcases q _ (o k b)with⟨_,j⟩|⟨u,a,c,s,p,g,l⟩
 ·exact absurd ⟨_,b,rfl⟩ j
 ·obtain rfl:=GJ i s b p;refine⟨a,c,l.row,fun X r=> ?_⟩;have:=(e.aj r e.lt).look keyed underlying152 (Kf _) (EC u.sum);rw[g]at this;exact this
theorem Uo(base d m l n:Nat)(O P L:Value)(wd now given ae:Int)(ks:List Kd)(ps:List Pd)(ls:List Ld)(s:Zi)(k:Kd)(w:Zh)(E:Dr w base d m O P L wd now given ae ks ps ls)(I:(ks.map (·.sum)).Nodup)(K:∀k∈ks,(k.sum.size:Int)=wd)(N:k∈ks)(Q:k.refs.length<=1000)(j:k.refs.Pairwise (fun a b=>less a b=true))
 (r:w.cell? (Ze l 0)=some (Yz d)) (u:w.cell? (Ze n 0)=some (.string s)):
 Calls prog 245 #[Cm k.sum,Yz l,Yz n] w fun e w'=>∃ok,e=.returned (.bool ok)/\(ok=true↔s∈k.refs)/\Zz w w':=by
 obtain⟨c,f,g,fq⟩:=E.look I K N;have H:=World.block_lt_of_cell? w _ r;have J:=World.block_lt_of_cell? w _ u;obtain⟨W,o⟩:∃W,W=w.alloc (.cells (Yw (kB k.sum)) 190):=⟨_,rfl⟩;have h:=(AG o).1;have y:Aa W w.heap.size (Am k.sum):=by rw[o];exact Aa.new w (Am k.sum) 190
 have M:w.heap.size<W.heap.size:=Aa.lt (v:=.int .u8 (kB k.sum 0)) y;unfold Cm CO Ee at fq
 have x:Hid (∀X,Zz W X->X.cell? (Ze l 0)=some (Yz d)/\X.cell? (Ze n 0)=some (.string s)/\X.cell? (Ze d 1)=some (.map (some m))/\(X.cell? (Ze (w.heap.size) 0)=some (.int .u8 (kB k.sum 0))/\X.cell? (Ze (w.heap.size) 1)=some (.int .u8 (kB k.sum 1))/\X.cell? (Ze (w.heap.size) 2)=some (.int .u8 (kB k.sum 2))/\X.cell? (Ze (w.heap.size) 3)=some (.int .u8 (kB k.sum 3))/\X.cell? (Ze (w.heap.size) 4)=some (.int .u8 (kB k.sum 4))/\X.cell? (Ze (w.heap.size) 5)=some (.int .u8 (kB k.sum 5))/\X.cell? (Ze (w.heap.size) 6)=some (.int .u8 (kB k.sum 6))/\X.cell? (Ze (w.heap.size) 7)=some (.int .u8 (kB k.sum 7)))/\(Instr.lookup 152 (.map (some m)) (.agg (Yw (kB k.sum))) false).run prog X=.ok (.agg #[.string k.sum,Zg k.born,.string k.text,.slice c k.refs.length f]) X):=
  fun X D=>by have q:=h.trans (D.mono h.size);exact⟨(q.cell (p:=⟨l,0,none⟩) H).trans r,(q.cell (p:=⟨n,0,none⟩) J).trans u,(Aa.below E.box q 1 _ rfl).1,ZX (D.block _ M) y,fq X q⟩
 have B:=Yx (OT c f k.refs s W.drew (Ad.mono (Ad.below g h.drew) h.size) Q j);have A:Below W.heap.size W W.drew:=(Below.refl _ _).drew;have S:∀X:Zh,(Instr.field 131 (.agg #[.string k.sum,Zg k.born,.string k.text,.slice c k.refs.length f]) 2).run prog X=.ok (.agg #[.string k.text,.slice c k.refs.length f]) X:=fun _=>by kernel_rfl
 have T:∀X:Zh,(Instr.field 58 (.agg #[.string k.text,.slice c k.refs.length f]) 1).run prog X=.ok (.slice c k.refs.length f) X:=fun _=>by kernel_rfl
 have C:=Yx o;clear o y fq g;unfold Cm CO;go_enter func245,ntmps245;go_upto_region 1 with fail;rw[←C.o];clear C
 go_region_held3 (fun X=>X.cell? (Ze l 0)=some (Yz d)/\X.cell? (Ze n 0)=some (.string s)/\X.cell? (Ze d 1)=some (.map (some m))/\(X.cell? (Ze (w.heap.size) 0)=some (.int .u8 (kB k.sum 0))/\X.cell? (Ze (w.heap.size) 1)=some (.int .u8 (kB k.sum 1))/\X.cell? (Ze (w.heap.size) 2)=some (.int .u8 (kB k.sum 2))/\X.cell? (Ze (w.heap.size) 3)=some (.int .u8 (kB k.sum 3))/\X.cell? (Ze (w.heap.size) 4)=some (.int .u8 (kB k.sum 4))/\X.cell? (Ze (w.heap.size) 5)=some (.int .u8 (kB k.sum 5))/\X.cell? (Ze (w.heap.size) 6)=some (.int .u8 (kB k.sum 6))/\X.cell? (Ze (w.heap.size) 7)=some (.int .u8 (kB k.sum 7)))/\(Instr.lookup 152 (.map (some m)) (.agg (Yw (kB k.sum))) false).run prog X=.ok (.agg #[.string k.sum,Zg k.born,.string k.text,.slice c k.refs.length f]) X)
  (first|with_reducible exact x.o _ A|with_reducible exact x.o _ z)
  (first|(go_at_call 246;refine Calls.mono B.o ?_;rintro e R ⟨i,ok,rfl,t,G⟩;have F:=Yx t;clear t;have z:Below W.heap.size W R:=Dv G))
 all_goals
  clear x B A;go_wp2;go_ret;exact⟨ok,rfl,F.o,h.trans (z.mono h.size)⟩
def IY(ks:List Kd):Prop:=∀k∈ks,k.refs.length<=1000/\k.refs.Pairwise (fun a b=>less a b=true)
theorem NI(base d m n q:Nat)(M:Zk)(E:Nat)(P L:Value)(wd now given ae:Int)(ks:List Kd)(ps:List Pd)(ls:List Ld)(s:Zi)(w:Zh)(I:Dr w base d m (.slice M ks.length E) P L wd now given ae ks ps ls)(Z:(ks.map (·.sum)).Nodup)(zB:∀k∈ks,(k.sum.size:Int)=wd)(K:IY ks)(hl:ks.length<=600)
 (A:w.cell? (Ze n 0)=some (Yz d)) (D:w.cell? (Ze q 0)=some (.string s)):
 Calls prog 251 #[.slice M ks.length E,.func (.func 245) #[] #[Yz n,Yz q]] w fun e w'=>∃r:Int,e=.returned (Zg r)/\(0<=r↔∃k∈ks,s∈k.refs)/\Zz w w':=by
 have X:=World.block_lt_of_cell? w _ A;have zA:=World.block_lt_of_cell? w _ D;have HD:=Yx I;clear I;go_enter func251,ntmps251;go_wp2
 go_loopw [8] (fun i wr=>∃k:Nat,k<=ks.length/\i=Zg k/\Hid (∀j x,j<k->ks[j]?=some x->¬s∈x.refs)/\Zz w wr) (fun i _=>ks.length -(intOf i).toNat)
 case atStart=>exact⟨0,Nat.zero_le _,rfl,(fun j x h=>by omega),Below.refl _ _⟩
 case round=>
  obtain⟨k,hk,rfl,g,b⟩:=hrel;have zC:=b.size;by_cases hlt:k<ks.length
  ·have l:=Dr.below HD.o b;have f:=l.ord;obtain⟨og,oc,Y,_,zE⟩:=Cf f (fun e=>by injection e with _ h2 _;omega);cases Y;have J:=Yx (Zv hlt);have c:=List.getElem_mem hlt;have B:(ks.map (·.sum))[k]?=some ks[k].sum:=by simp[hlt]
   have a:∀j,j<8->wr.cell? (Ze og (k *8+j))=some (.int .u8 (kB ks[k].sum j)):=fun j o=>(f.cellAt _ (by omega)).trans (ED B o);have z:=a 0 (by omega);have Q:=a 1 (by omega);have R:=a 2 (by omega);have S:=a 3 (by omega);have T:=a 4 (by omega);have U:=a 5 (by omega);have V:=a 6 (by omega);have W:=a 7 (by omega);rw[Nat.add_zero]at z
   have F:=Uo base d m n q _ P L wd now given ae ks ps ls s ks[k] wr l Z zB c (K _ c).1 (K _ c).2 ((b.cell (p:=⟨n,0,none⟩) X).trans A) ((b.cell (p:=⟨q,0,none⟩) zA).trans D);unfold Cm CO at F;have t:=Yx F;clear a B f l c F;generalize ks[k]=x at *
   go_wp2_with fail;refine Calls.mono t.o ?_;rintro e w1 ⟨ok,rfl,C,N⟩;have v:=b.trans (N.mono zC);have u:=Yx C;clear C z Q R S T U V W t;cases ok
   ·have HA:Hid (∀j y,j<k+1->ks[j]?=some y->¬s∈y.refs):=by
     intro j y o G;rcases Nat.lt_or_ge j k with H|H
     ·exact g.o j y H G
     ·obtain rfl:j=k:=by omega
      rw[J.o]at G;cases G;exact fun h=>by have:=u.o.2 h;simp at this
    go_wp2;exact⟨⟨k+1,by omega,by go_num,HA,v⟩,by simp[intOf];omega⟩
   ·go_wp2;go_ret;exact⟨_,rfl,⟨(fun _=>⟨x,Zs J.o,u.o.1 (by trivial)⟩),(fun _=>by omega)⟩,v⟩
  ·go_wp2;go_ret;refine⟨_,rfl,⟨(fun h=>by omega),(fun⟨p,hp,h⟩=> ?_)⟩,b⟩;obtain⟨j,o,rfl⟩:=List.getElem_of_mem hp;exact absurd h (g.o j _ (by omega) (Zv o))
theorem KE(base d m g j:Nat)(i:Zk)(a:Nat)(P L:Value)(wd now given ae:Int)(ks:List Kd)(ps:List Pd)(ls:List Ld)(s:Zi)(w:Zh)(b:Dr w base d m (.slice i ks.length a) P L wd now given ae ks ps ls)(p:(ks.map (·.sum)).Nodup)(t:∀k∈ks,(k.sum.size:Int)=wd)(v:IY ks)(u:ks.length<=600)
 (o:w.cell? (Ze g 0)=some (Yz d)) (q:w.cell? (Ze j 0)=some (.string s)):
 Calls prog 244 #[.slice i ks.length a,.func (.func 245) #[] #[Yz g,Yz j]] w fun e w'=>∃ok,e=.returned (.bool ok)/\(ok=true↔∃k∈ks,s∈k.refs)/\Zz w w':=by
 have l:=Yx (NI base d m g j i a P L wd now given ae ks ps ls s w b p t v u o q);clear b;go_enter func244,ntmps244;go_wp2_with fail;refine Calls.mono l.o ?_;rintro e x ⟨r,rfl,f,c⟩;have n:=Yx f;clear f l;by_cases h:0<=r
 ·have b:decide ((0:Int)<=r)=true:=by simpa using h
  go_wp2;go_ret;exact⟨true,rfl,⟨(fun _=>n.o.1 h),(fun _=>rfl)⟩,c⟩
 ·have b:decide ((0:Int)<=r)=false:=by simpa using h
  go_wp2;go_ret;exact⟨false,rfl,⟨(fun e=>by cases e),(fun e=>absurd (n.o.2 e) (by omega))⟩,c⟩
theorem Sq(base d m:Nat)(O P L:Value)(wd now given ae:Int)(ks:List Kd)(ps:List Pd)(ls:List Ld)(s:Zi)(w:Zh)(g:Dr w base d m O P L wd now given ae ks ps ls)(o:(ks.map (·.sum)).Nodup)(p:∀k∈ks,(k.sum.size:Int)=wd)(v:IY ks)(u:ks.length<=600):
 Calls prog 232 #[Yz d,.string s] w fun e w'=>∃ok,e=.returned (.bool ok)/\(ok=true↔∃k∈ks,s∈k.refs)/\Zz w w':=by
 have y:∀(fn:Fn) (first cap:Array Value) (w:Zh),(Instr.makeFunc fn first cap).run prog w=.ok (.func fn first cap) w:=fun _ _ _ _=>rfl;obtain⟨x,q,rfl⟩:=As g.ord;obtain⟨W,a⟩:∃W,W=(w.alloc (.cells #[Yz d] 141)).alloc (.cells #[.string s] 9):=⟨_,rfl⟩;have f:=(AW a).1;have t:W.cell? (Ze (w.heap.size) 0)=some (Yz d):=by rw[a];simp[go_sem]
 have j:W.cell? (Ze (w.heap.size+1) 0)=some (.string s):=by rw[a];simp[go_sem]
 have b:=g.below f;have h:=Yx (KE base d m w.heap.size (w.heap.size+1) x q P L wd now given ae ks ps ls s W b o p v u t j);obtain⟨z,_⟩:=b.box 5 _ rfl;have i:=Yx a;clear a b g j;go_enter func232,ntmps232;go_upto_region 1 with fail;rw[←i.o];clear i;go_wp2_with fail;refine Calls.mono h.o ?_;rintro e A ⟨ok,rfl,c,l⟩;have r:=Yx c;have n:=f.trans (l.mono f.size);clear c h;go_wp2;go_ret
 exact⟨ok,rfl,r.o,n⟩
theorem JM(base d m:Nat)(O P L:Value)(wd now given ae:Int)(ks:List Kd)(ps:List Pd)(ls:List Ld)(s:Zi)(w:Zh)(i:Dr w base d m O P L wd now given ae ks ps ls)(n:(ks.map (·.sum)).Nodup)(o:∀k∈ks,(k.sum.size:Int)=wd)(x:IY ks)(t:ks.length<=600)(v:ps.length<=100)(u:ls.length<=200):
 Calls prog 213 #[Yz d,.string s] w fun e w'=>∃ok,e=.returned (.bool ok)/\(ok=true↔((∃p∈ps,p.sum=s)∨∃l∈ls,l.sum=s)∨∃k∈ks,s∈k.refs)/\Zz w w':=by
 have f:=Yx i;clear i;go_enter func213,ntmps213;go_wp2_with fail;refine(QG base d m O P L wd now given ae ks ps ls s w f.o v u).mono ?_;rintro e y ⟨q,rfl,g,a⟩;have b:=Yx g;clear g;cases q
 ·go_wp2_with fail;refine(Sq base d m O P L wd now given ae ks ps ls s y (Dr.below f.o a) n o x t).mono ?_;rintro e z ⟨r,rfl,h,j⟩;have c:=Yx h;clear h;go_wp2;go_ret;exact⟨r,rfl,⟨(fun e=> .inr (c.o.1 e)),(fun e=>e.elim (fun e=>by have:=b.o.2 e;simp at this) c.o.2)⟩,a.trans (j.mono a.size)⟩
 ·go_wp2;go_ret;exact⟨true,rfl,⟨(fun _=> .inl (b.o.1 (by trivial))),(fun _=>rfl)⟩,a⟩
theorem Em(base d m:Nat)(O P L:Value)(wd now given ae:Int)(ks:List Kd)(ps:List Pd)(ls:List Ld)(s:Zi)(w:Zh)(c:Dr w base d m O P L wd now given ae ks ps ls)(l:∀k∈ks,(k.sum.size:Int)=wd)(o:Ax ks s):
 Calls prog 201 #[Yz d,.string s] w fun e w'=>e=.returned (.tuple #[])/\Zz w w':=by
 obtain⟨n,f,r,i,h⟩:=c.map;obtain⟨ok,b,a⟩:=IV wd m n f ks w w.heap.size s w i h.holds l;obtain rfl:=b.2 o;obtain⟨p,q⟩:=Aa.c2 c.box 0 1;have g:=Yx (a w (Below.refl _ _));clear a b c i h;go_enter func201,ntmps201;go_wp2_with fail;refine Calls.mono g.o ?_;rintro e t ⟨rfl,j⟩;clear g;go_wp2
 go_end0
 exact⟨rfl,j⟩
end
structure Tn (V:List Nat) (w w':Zh):Prop where
 os:w'.os=w.os
 tape:w'.tape=w.tape
 output:w'.output=w.output
 size:w.heap.size<=w'.heap.size
 block:∀b,b<w.heap.size->b∉V->w'.heap[b]?=w.heap[b]?
theorem Tn.of{V:List Nat}{w w':Zh}(h:Zz w w'):Tn V w w':=⟨h.os,h.tape,h.output,h.size,fun b a _=>h.block b a⟩
theorem Tn.grown{V:List Nat}{w w':Zh}{g:Nat}(h:w.grownBy w' (some g))(c:g∈V):Tn V w w':=⟨h.os,h.tape,h.output,h.size,fun b a f=>h.block b a (fun e=>f (Option.some.inj e▸c))⟩
theorem Tn.set{V:List Nat}(w:Zh)(g j:Nat)(v:Value)(a:g∈V):Tn V w (w.setCell (Ze g j) v):=Tn.grown (Ay w g j v) a
theorem Tn.trans{V:List Nat}{a b c:Zh}(h:Tn V a b)(k:Tn V b c):Tn V a c:=
 ⟨k.os.trans h.os,k.tape.trans h.tape,k.output.trans h.output,Zm h.size k.size,fun q e f=>(k.block q (Zr e h.size) f).trans (h.block q e f)⟩
theorem Tn.below{V:List Nat}{w w':Zh}(h:Tn V w w'){B:Nat}(e:B<=w.heap.size)(a:∀b∈V,B<=b):Below B w w':=⟨h.os,h.tape,h.output,h.size,fun b f=>h.block b (by omega) (fun c=>by have:=a b c;omega)⟩
theorem Tn.mono{V V':List Nat}{w w':Zh}(h:Tn V w w')(a:∀b∈V,b∈V'):Tn V' w w':=⟨h.os,h.tape,h.output,h.size,fun b c f=>h.block b c (fun e=>f (a b e))⟩
theorem AV.same{w w':Zh}{K:TypeId}{b n:Nat}{f:Lit->Option Value}(h:AV w K b n f)(i:w'.heap[b]?=w.heap[b]?):AV w' K b n f:=by obtain⟨D,⟨a,clock,c,e⟩,g⟩:=h;exact⟨D,⟨a,clock,i.trans c,e⟩,g⟩
theorem De.an{w w':Zh}{base:Nat}{V:List Nat}{a:Zk}{j:Zl}(h:De w base V a j)(f:Tn V w w'):De w' base V a j:=by
 rcases h with h|⟨b,c,k,e,g,o,l⟩
 ·exact .inl h
 ·exact .inr ⟨b,c,k,Zr e f.size,g,(by rw[f.block b e g];exact o),fun i s n=>(World.cell?_of_block (a:=⟨b,c+i,none⟩) (f.block b e g)).trans (l i s n)⟩
theorem KF{P:Program}{w:Zh}{b:Array Oper}{o:Oper}{a:Act}{K:Act->Zh->Prop}{Q:Exit->Act->Zh->Prop}{E:Prop}(e:o.guard=none)(s x:Operand)(t u:TypeId)
 (f:o.op=.call {callee:=.builtin .delete,args:= #[s,x],argTypes:= #[t,u]}) {v c:Value} {w':Zh} (i:a.eval s=v) (k:a.eval x=c)
 (g:(Builtin.delete_ #[t,u] o.type #[v,c]).run P w=.ok (.tuple #[]) w') (h:K (a.put o.dst (.tuple #[])) w'):
 if Region.wanted o (yielded b a.tmps)=true then Oper.wp P o a w K Q else E:=by
 have j:Region.wanted o (yielded b a.tmps)=true:=by simp[Region.wanted,e]
 rw[if_pos j];unfold Oper.wp execOp;simp only[f,resolve,invoke,builtin,Sem.run_bind,Sem.run_pure,Result.andThen_ok,List.map_toArray,List.map_cons,List.map_nil,i,k,g];exact h
def EE(ks:List Kd)(s:Zi):List Kd:=ks.filter (fun k=> !decide (k.sum=s))
theorem OU{ks:List Kd}(a:(ks.map (·.sum)).Nodup){i:Nat}{k:Kd}(b:ks[i]?=some k):EE ks k.sum=ks.eraseIdx i:=by
 induction ks generalizing i with
 |nil=>simp at b
 |cons x xs ih=>
  simp only[List.map_cons,List.nodup_cons,List.mem_map,not_exists,not_and]at a;cases i with
  |zero=>simp at b;subst b;unfold EE;simp only[List.filter_cons,decide_true,Bool.not_true,Bool.false_eq_true,if_false,List.eraseIdx_zero,List.tail_cons];exact List.filter_eq_self.2 (fun y h=>by simpa using a.1 y h)
  |succ i=>
   have c:xs[i]?=some k:=by simpa using b
   have g:=Zs c;have f:¬x.sum=k.sum:=fun e=>a.1 k g e.symm;have:=ih a.2 c;unfold EE at *
   simp[f,this]
theorem Sr{g:Zl}{s:Zi}{i:Nat}(h:Fi g s i)(q:s∈g)(c:g.Pairwise (fun a b=>less a b=true)):g[i]?=some s:=by
 obtain⟨j,f⟩:=List.getElem?_of_mem q;have p:=(Zw f).1;rcases Nat.lt_or_ge j i with l|l
 ·have:=h.lo j s l f;rw[Ch]at this;cases this
 ·rcases Nat.lt_or_ge i j with k|k
  ·have n:=List.pairwise_iff_getElem.1 c i j (by omega) p k;have o:=h.hi i _ (Zx) (Zv (by omega));obtain⟨_,e⟩:=Zw f;rw[e]at n;rw[n]at o;cases o
  ·obtain rfl:j=i:=by omega
   exact f
structure Fa (wd:Int) (ks:List Kd):Prop where
 nd:(ks.map (·.sum)).Nodup
 dg:(ks.map (·.sum)).Pairwise (fun a b=>less a b=true)
 sz:∀k∈ks,(k.sum.size:Int)=wd
 refs:IY ks
 len:ks.length<=600
 w8:wd<=8
theorem BQ.drop{w w':Zh}{base:Nat}{V:List Nat}{wd:Int}{ks:List Kd}{f:Lit->Option Value}(h:BQ w base V wd ks f)(o:Tn V w w'){s:Zi}(v:(s.size:Int)=wd)(r:wd<=8):BQ w' base V wd (EE ks s) (ers f (keyL s)):=by
 intro t g;by_cases hts:t=s
 ·subst hts;exact .inl ⟨by simp[ers],fun⟨u,b,a⟩=>by simp[EE,a]at b⟩
 ·have c:keyL t≠keyL s:=fun e=>hts (key_inj e (by omega) (by omega));have k:ers f (keyL s) (keyL t)=f (keyL t):=by simp[ers,c]
  rw[k];rcases h t g with⟨i,j⟩|⟨u,p,q,b,a,l,n⟩
  ·exact .inl ⟨i,fun⟨u,b,a⟩=>j ⟨u,(List.mem_filter.1 b).1,a⟩⟩
  ·exact .inr ⟨u,p,q,List.mem_filter.2 ⟨b,by simp[a,hts]⟩,a,l,n.an o⟩
theorem Dr.apart{w w':Zh}{base d m:Nat}{O P L:Value}{wd now given ae:Int}{ks:List Kd}{ps:List Pd}{ls:List Ld}(h:Dr w base d m O P L wd now given ae ks ps ls){R:Nat}(t:Tn [R] w w')(Q:base<=R)(F:R∉vB d m O P L)(r:∀l B,w.heap[R]?≠some (.cells l 9 B)):Dr w' base d m O P L wd now given ae ks ps ls:=by
 obtain⟨n,f,D,y,E⟩:=h.map;have j:∀b,b<w.heap.size->b∈vB d m O P L->w'.heap[b]?=w.heap[b]?:=fun b o v=>t.block b o (fun e=>F (by simp at e;exact e▸v))
 refine⟨Aa.same h.box (j d h.box.lt (by simp[vB])),⟨n,f,D,AV.same y (j m y.lt (by simp[vB])),?_⟩,Ai h.ord (fun g c=>j g (Ac h.ord c).2 (by simp[vB,c])),Ai h.ci (fun g c=>j g (Ac h.ci c).2 (by simp[vB,c])),Ai h.ck (fun g c=>j g (Ac h.ck c).2 (by simp[vB,c])),h.bd,h.bm,h.ap⟩;intro s A;rcases E s A with C|⟨u,M,N,I,J,K,x⟩
 ·exact .inl C
 ·refine .inr ⟨u,M,N,I,J,K,?_⟩;rcases x with x|⟨b,q,G,o,v,k,H⟩
  ·exact .inl x
  ·have z:b≠R:=by
    rcases k with k|⟨_,l,k⟩
    ·omega
    ·exact fun e=>r l _ (e▸k)
   have p:=t.block b o (by simpa using z);exact .inr ⟨b,q,G,Zr o t.size,v,(by rw[p];exact k),fun i s r=>(World.cell?_of_block (a:=⟨b,q+i,none⟩) p).trans (H i s r)⟩
theorem Up(base d m:Nat)(O P L:Value)(wd now given ae:Int)(ks:List Kd)(ps:List Pd)(ls:List Ld)(s:Zi)(w:Zh)(hd:Dr w base d m O P L wd now given ae ks ps ls)(h:Fa wd ks)(hp:ps.length<=100)(hl:ls.length<=200)(V:Ax ks s)(H:¬(((∃p∈ps,p.sum=s)∨∃l∈ls,l.sum=s)∨∃k∈ks,s∈k.refs)):
 Calls prog 179 #[Yz d,.string s] w fun e w'=>e=.returned (.tuple #[])/\∃O',Dr w' base d m O' P L wd now given ae (EE ks s) ps ls/\O'.ownBlock=O.ownBlock/\Tn (vB d m O P L) w w':=by
 obtain⟨k0,G,S⟩:=V;have V:Ax ks s:=⟨k0,G,S⟩;have zV:=S▸h.sz k0 G;have hlen:=List.length_pos_of_mem G;obtain⟨g,u,rfl,zX,zY⟩:=Cf hd.ord (fun e=>by have:=As hd.ord;obtain⟨a,c,e'⟩:=this;rw[e']at e;injection e with _ h2 _;omega);have HD:=Yx hd;clear hd;go_enter func179,ntmps179;go_wp2_with fail;refine(Em base d m _ P L wd now given ae ks ps ls s w HD.o h.sz V).mono ?_;rintro e w1 ⟨rfl,y⟩
 have K:=Yx (Dr.below HD.o y);go_wp2_with fail;refine(JM base d m _ P L wd now given ae ks ps ls s w1 K.o h.nd h.sz h.refs h.len hp hl).mono ?_;rintro e w2 ⟨ok,rfl,B,A⟩;obtain rfl:ok=false:=by
  cases ok with
  |false=>rfl
  |true=>exact absurd (B.1 rfl) H
 have zB:=Yx (Dr.below K.o A);clear B K;go_wp2_with fail;refine(Lt s w2).mono ?_;rintro e t ⟨rfl,F⟩;obtain⟨D,E⟩:∃W,W=t.alloc (.cells (Yw (kB s)) 190):=⟨_,rfl⟩;have zG:=(AG E).1;have k4:Aa D t.heap.size (Am s):=by rw[E];exact Aa.new t (Am s) 190
 have B4:=((y.trans (A.mono y.size)).trans (F.mono (Zm y.size A.size))).trans (zG.mono (Zm (Zm y.size A.size) F.size));have j:=Yx (Dr.below (Dr.below zB.o F) zG);have zE:=Yx E;clear E zB;go_upto_region 4 with fail;rw[←zE.o];clear zE;obtain⟨n,f,hn,hM,hH⟩:=j.o.map;obtain⟨w5,U,zH,zJ⟩:=(hM.aj (Below.refl D.heap.size D).drew hM.lt).del keyed underlying152 (EC s) 0;have zW:=j.o.box.lt;have o:=j.o.ap
 have zI:d≠m:=by intro e;unfold vB at o;simp[e]at o
 have N:d≠g/\m≠g:=by unfold vB at o;simp[Value.ownBlock]at o;omega
 have yA:=(HD.o.map.choose_spec.choose_spec.2.1).lt;have yB:=Zm (Zm y.size A.size) F.size;have q:=CY zJ;have k5:=Aa.cw (v:=.int .u8 (kB s 0)) k4 q (by omega);have x5:=Aa.cw j.o.box q (fun e=>zI e.symm);have P4:D.drew.cell? (Ze d 1)=some (.map (some m))/\_:=⟨(j.o.box 1 _ rfl).1,GM (w:=D.drew) k4⟩;have P5:w5.cell? (Ze d 1)=some (.map (some m))/\_:=⟨(x5 1 _ rfl).1,GM k5⟩;unfold Cm CO at U
 go_region_held3 (fun X=>X.cell? (Ze d 1)=some (.map (some m))/\(X.cell? (Ze (t.heap.size) 0)=some (.int .u8 (kB s 0))/\X.cell? (Ze (t.heap.size) 1)=some (.int .u8 (kB s 1))/\X.cell? (Ze (t.heap.size) 2)=some (.int .u8 (kB s 2))/\X.cell? (Ze (t.heap.size) 3)=some (.int .u8 (kB s 3))/\X.cell? (Ze (t.heap.size) 4)=some (.int .u8 (kB s 4))/\X.cell? (Ze (t.heap.size) 5)=some (.int .u8 (kB s 5))/\X.cell? (Ze (t.heap.size) 6)=some (.int .u8 (kB s 6))/\X.cell? (Ze (t.heap.size) 7)=some (.int .u8 (kB s 7))))
  (first|with_reducible exact P4|with_reducible exact P5)
  (first|(refine KF (by rfl) (.tmp 21) (.tmp 22) 152 190 (by rfl) (by rfl) (by rfl) U ?_))
 have T:=World.ownsRow.kept j.o.ord q (.inr (fun e=>N.2 (Option.some.inj e).symm));have HP:=Sp base d m g u P L wd now given ae ks s w5 x5 T h.len (by have:=h.w8;omega) (fun x hx=>by have:=h.sz x hx;omega) h.dg;obtain⟨q0,q1,q2,q3,q4,q5,q6,q7⟩:=GM k5;have HQ:=Yx HP;unfold Cm CO at HQ;have zF:=Yx (Zn x5 T);have I:=Yx (Zn zH (Zn q hH));clear HP P4 P5 U zH zJ q x5 T k4 k5 hM;go_wp2_with fail
 refine Calls.mono HQ.o ?_;rintro e w6 ⟨i,rfl,zR,M⟩;have R:=Sr zR (List.mem_map.2 ⟨k0,G,S⟩) h.dg;have zZ:=h.len;have zK:i<ks.length:=by have:=(Zw R).1;simpa using this
 have x6:=Aa.below zF.o.1 M;obtain⟨y5,f5⟩:=x6 5 _ rfl;have zO:w6.ownsRow base 190 8 (Za g (ks.map (·.sum)).length u) (ks.map (·.sum)).length (AA (ks.map (·.sum))):=by rw[List.length_map];exact Ae zF.o.2 M
 have z:=MD g u i (ks.map (·.sum)) w6 base zO (by rw[List.length_map];exact h.len) (by rw[List.length_map];exact zK);rw[List.length_map]at z;have zC:=Yx z;have J:=Yx (Zn R (Zn x6 M));clear zR R x6 z zO HQ q0 q1 q2 q3 q4 q5 q6 q7;go_wp2_with fail;refine Calls.mono zC.o ?_;rintro e w7 ⟨rfl,zP,Q⟩;have x7:=Aa.cw J.o.2.1 Q (fun e=>N.1 e.symm);obtain⟨y7,f7⟩:=x7 5 _ rfl;have Y:=Yx (Zn x7 (Zn zP Q))
 clear x7 zP Q y5 f5 zC;go_wp2
 go_end0
 have Z:Tn [d,m,g] D (w7.setCell (Ze d 5) (Za g (ks.length -1) u)):=
  (((Tn.grown I.o.2.1 (by simp)).trans (Tn.of J.o.2.2)).trans (Tn.grown Y.o.2.2 (by simp))).trans (Tn.set w7 d 5 _ (by simp))
 have C:∀b∈[d,m,g],b∈vB d m (Za g ks.length u) P L:=by intro b r;simp at r;unfold vB;rcases r with rfl|rfl|rfl<;>simp[Value.ownBlock]
 have zN:∀v:Value,(v=P∨v=L)->∀b,v.ownBlock=some b->b∉[d,m,g]:=by
  intro v hv b r zM;unfold vB at o;rcases hv with rfl|rfl
  ·simp only[List.nodup_cons,List.mem_cons,List.mem_append,Option.mem_toList,r]at o;simp[Value.ownBlock]at o zM
   grind
  ·simp only[List.nodup_cons,List.mem_cons,List.mem_append,Option.mem_toList,r]at o;simp[Value.ownBlock]at o zM
   grind
 have zT:∃k,ks[i]?=some k/\k.sum=s:=by
  have:=J.o.1;rw[List.getElem?_map]at this;cases hk:ks[i]? with
  |none=>rw[hk]at this;cases this
  |some k=>rw[hk]at this;exact⟨k,rfl,by simpa using this⟩
 obtain⟨ki,zU,zA⟩:=zT;have zS:=zA▸OU h.nd zU;refine⟨rfl,Za g (ks.length -1) u,⟨Aa.set Y.o.1 5 _,⟨n,ers f (keyL s),hn,?_,?_⟩,?_,?_,?_,j.o.bd,j.o.bm,o⟩,rfl,(Tn.of B4).trans (Z.mono C)⟩
 ·refine AV.same (AV.same (I.o.1.aj J.o.2.2 I.o.1.lt) (Y.o.2.2.block m (Zr I.o.1.lt J.o.2.2.size) (fun e=>N.2 (Option.some.inj e)))) ?_;exact Below.heap_setCell _ _ _ _ (fun e=>zI e.symm)
 ·exact BQ.drop I.o.2.2 (Z.mono C) zV h.w8
 ·rw[zS];have h1:(ks.eraseIdx i).length=ks.length -1:=by rw[List.length_eraseIdx,if_pos zK]
  rw[h1];have h2:(ks.eraseIdx i).map (·.sum)=(ks.map (·.sum)).eraseIdx i:=by simp[List.eraseIdx_eq_take_drop_succ]
  rw[h2];exact Bk Y.o.2.1 (fun b r=>by simp[Value.ownBlock]at r;omega) 5 _
 ·exact Ai j.o.ci (fun b r=>Z.block b (Ac j.o.ci r).2 (zN P (.inl rfl) b r))
 ·exact Ai j.o.ck (fun b r=>Z.block b (Ac j.o.ck r).2 (zN L (.inr rfl) b r))
theorem Dr.cg{w:Zh}{base d m:Nat}{O P L:Value}{wd now given ae:Int}{ks:List Kd}{ps:List Pd}{ls:List Ld}(c:Dr w base d m O P L wd now given ae ks ps ls):∀b∈vB d m O P L,b<w.heap.size:=by
 intro b a;unfold vB at a;simp only[List.mem_cons,List.mem_append,Option.mem_toList]at a;rcases a with rfl|rfl|a|a|a
 ·exact c.box.lt
 ·exact(c.map.choose_spec.choose_spec.2.1).lt
 ·exact(Ac c.ord a).2
 ·exact(Ac c.ci a).2
 ·exact(Ac c.ck a).2
def ay(c:Int)(a b:Zi):Value:=.iface 202 (.agg #[Zg c,.string a,.string b])
theorem Ss(base d m:Nat)(O P L:Value)(wd now given ae:Int)(ks:List Kd)(ps:List Pd)(ls:List Ld)(s:Zi)(w:Zh)(i:Dr w base d m O P L wd now given ae ks ps ls)(a:Fa wd ks)(q:ps.length<=100)(o:ls.length<=200)(n:Ax ks s)(f:((∃p∈ps,p.sum=s)∨∃l∈ls,l.sum=s)∨∃k∈ks,s∈k.refs):
 Calls prog 179 #[Yz d,.string s] w fun e w'=>e=.panicked [{v:=ay 6 ⟨#[]⟩ ⟨#[]⟩,recovered:=false}]/\Zz w w':=by
 have h:=Yx i;clear i;go_enter func179,ntmps179;go_wp2_with fail;refine(Em base d m O P L wd now given ae ks ps ls s w h.o a.sz n).mono ?_;rintro e r ⟨rfl,c⟩;have g:=Yx (Dr.below h.o c);go_wp2_with fail;refine(JM base d m O P L wd now given ae ks ps ls s r g.o a.nd a.sz a.refs a.len q o).mono ?_;rintro e t ⟨ok,rfl,b,j⟩;obtain rfl:=b.2 f;clear b g;go_wp2;exact⟨rfl,rfl,c.trans (j.mono c.size)⟩
def z12:Zj:=[Zf,Zf,Zf,Zf,Zf,Zc,Zc,Zc,Zd,Zf,Zd,Zd]
theorem AT{w:Zh}{b:Nat}(h:Aa w b z12):(w.cell? (Ze b 0)=some Zf/\w.frozen? ⟨b,0,none⟩=false)/\(w.cell? (Ze b 1)=some Zf/\w.frozen? ⟨b,1,none⟩=false)/\(w.cell? (Ze b 2)=some Zf/\w.frozen? ⟨b,2,none⟩=false)/\(w.cell? (Ze b 3)=some Zf/\w.frozen? ⟨b,3,none⟩=false)/\(w.cell? (Ze b 4)=some Zf/\w.frozen? ⟨b,4,none⟩=false)/\(w.cell? (Ze b 5)=some Zc/\w.frozen? ⟨b,5,none⟩=false)/\(w.cell? (Ze b 6)=some Zc/\w.frozen? ⟨b,6,none⟩=false)/\(w.cell? (Ze b 7)=some Zc/\w.frozen? ⟨b,7,none⟩=false)/\(w.cell? (Ze b 8)=some Zd/\w.frozen? ⟨b,8,none⟩=false)/\(w.cell? (Ze b 9)=some Zf/\w.frozen? ⟨b,9,none⟩=false)/\(w.cell? (Ze b 10)=some Zd/\w.frozen? ⟨b,10,none⟩=false)/\(w.cell? (Ze b 11)=some Zd/\w.frozen? ⟨b,11,none⟩=false):=
 ⟨h 0 _ rfl,h 1 _ rfl,h 2 _ rfl,h 3 _ rfl,h 4 _ rfl,h 5 _ rfl,h 6 _ rfl,h 7 _ rfl,h 8 _ rfl,h 9 _ rfl,h 10 _ rfl,h 11 _ rfl⟩
theorem Bh(w:Zh)(R:Nat)(c e f g i k l n o p a b:Value):Tn [R] w ((((((((((((w.setCell (Ze R 0) c).setCell (Ze R 1) e).setCell (Ze R 2) f).setCell (Ze R 3) g).setCell (Ze R 4) i).setCell (Ze R 5) k).setCell (Ze R 6) l).setCell (Ze R 7) n).setCell (Ze R 8) o).setCell (Ze R 9) p).setCell (Ze R 10) a).setCell (Ze R 11) b):=
 have h:∀(x:Zh) (j:Nat) (v:Value),Tn [R] x (x.setCell (Ze R j) v):=fun x j v=>Tn.set x R j v (by simp)
 (((((((((((h w 0 c).trans (h _ 1 e)).trans (h _ 2 f)).trans (h _ 3 g)).trans (h _ 4 i)).trans (h _ 5 k)).trans (h _ 6 l)).trans (h _ 7 n)).trans (h _ 8 o)).trans (h _ 9 p)).trans (h _ 10 a)).trans (h _ 11 b)
theorem Tn.fresh{V:List Nat}{w f w':Zh}{R:Nat}(a:Tn V w f)(c:Tn [R] f w')(h:w.heap.size<=R):Tn V w w':=
 ⟨c.os.trans a.os,c.tape.trans a.tape,c.output.trans a.output,Zm a.size c.size,fun b e g=>(c.block b (Zr e a.size) (by simp;omega)).trans (a.block b e g)⟩
theorem QH(p:Addr)(w:Zh):
 CallsD prog 144 #[.pointer (some p)] .returning w fun e b w'=>e=.returned (.tuple #[])/\b=.returning/\w'=w:=by
 have a:∀w:Zh,(binOp BinOp.eql 20 .nilIface .nilIface).run prog w=.ok (.bool true) w:=fun _=>by kernel_rfl
 refine callsD_of_wpS func144 rfl fun c₀ cs hu=> ?_;apply wpS_seq;apply wpS_region;simp[wpOpsS,go_sem,recoverD,hu,ntmps144,Exit.thenS];refine wpS_of_wp ?_;change Code.wp prog _ _ {tmps:= #[Value.pointer (some p),undef,undef,undef,Value.nilIface,undef,undef,undef,undef,undef,undef,undef,undef,undef,undef,undef,undef],defers:=[]} w;go_wp2;cases c₀;simp_all [bodyPostS,results,results144]
theorem VE{w:Zh}{b:Nat}(h:Aa w b z12)(e f g i j k l n o p a c:Value):Aa ((((((((((((w.setCell (Ze b 0) e).setCell (Ze b 1) f).setCell (Ze b 2) g).setCell (Ze b 3) i).setCell (Ze b 4) j).setCell (Ze b 5) k).setCell (Ze b 6) l).setCell (Ze b 7) n).setCell (Ze b 8) o).setCell (Ze b 9) p).setCell (Ze b 10) a).setCell (Ze b 11) c) b [e,f,g,i,j,k,l,n,o,p,a,c]:=
 ((((((((((((h.set 0 e).set 1 f).set 2 g).set 3 i).set 4 j).set 5 k).set 6 l).set 7 n).set 8 o).set 9 p).set 10 a).set 11 c)
def BW(c:Int)(a b:Zi):Zj:=[Zg c,Zf,Zf,Zf,Zf,Zc,Zc,Zc,Zd,Zf,.string a,.string b]
theorem OV(R:Nat)(c:Int)(a b:Zi)(w:Zh)(f:Aa w R z12):
 CallsD prog 144 #[Yz R] (.panicking [{v:=ay c a b,recovered:=false}]) w fun e i w'=>e=.returned (.tuple #[])/\i=.panicking [{v:=ay c a b,recovered:=true}]/\Aa w' R (BW c a b)/\Tn [R] w w':=by
 have h:∀w:Zh,(binOp BinOp.eql 20 (.iface 202 (.agg #[Zg c,.string a,.string b])) .nilIface).run prog w=.ok (.bool false) w:=fun _=>by first|rfl|kernel_rfl
 have l:∀w:Zh,(Instr.typeAssert (.iface 202 (.agg #[Zg c,.string a,.string b])) 20 202 true).run prog w=.ok (.tuple #[.agg #[Zg c,.string a,.string b],.bool true]) w:=fun _=>by first|rfl|kernel_rfl
 obtain⟨⟨D,r⟩,⟨E,s⟩,⟨F,t⟩,⟨G,u⟩,⟨H,x⟩,⟨I,y⟩,⟨J,z⟩,⟨K,A⟩,⟨M,B⟩,⟨N,C⟩,⟨p,n⟩,q,o⟩:=AT f;have j:=Aa.lt (v:=Zf) f;have k:¬w.heap.size=R:=by omega
 have g:¬R=w.heap.size:=by omega
 unfold ay;refine callsD_of_wpS func144 rfl fun c₀ cs hu=> ?_;apply wpS_seq;apply wpS_region;simp[wpOpsS,go_sem,recoverD,hu,ntmps144,Exit.thenS];refine wpS_of_wp ?_;change Code.wp prog _ _ {tmps:= #[Yz R,undef,undef,undef,.iface 202 (.agg #[Zg c,.string a,.string b]),undef,undef,undef,undef,undef,undef,undef,undef,undef,undef,undef,undef],defers:=[]} w;go_wp2;simp[bodyPostS,results,results144]
 exact⟨Aa.below (v:=Zg c) (VE f _ _ _ _ _ _ _ _ _ _ _ _) (Zy),(Bh w R _ _ _ _ _ _ _ _ _ _ _ _).trans (Tn.of (Zy))⟩
theorem Holds.low{W w:Zh}{B:Nat}{wd:Int}{ks:List Kd}{f:Lit->Option Value}(h:Holds W B wd ks f)(g:Below B W w):Holds w B wd ks f:=by
 intro s i;rcases h s i with h|⟨u,j,k,a,b,c,e⟩
 ·exact .inl h
 ·exact .inr ⟨u,j,k,a,b,c,Ad.below e g⟩
def HU(w:Zh)(base m:Nat)(wd:Int)(ks:List Kd):Prop:=∃n f,n<=1000000/\AV w 190 m n f/\Holds w base wd ks f/\m<base+4
theorem HU.an{w w':Zh}{base m:Nat}{wd:Int}{ks:List Kd}{V:List Nat}(h:HU w base m wd ks)(c:Tn V w w')(k:base<=w.heap.size)(j:∀b∈V,base<=b)(l:m∉V):HU w' base m wd ks:=by obtain⟨n,f,e,a,g,i⟩:=h;exact⟨n,f,e,AV.same a (c.block m a.lt l),g.low (c.below k j),i⟩
theorem En(w:Zh)(R j:Nat)(v:Value):Tn [R] w (w.setCell (Ze R j) v):=Tn.set w R j v (by simp)
theorem Ct{w w':Zh}{b:Option Nat}(a:w.grownBy w' b):Tn b.toList w w':=⟨a.os,a.tape,a.output,a.size,fun k c f=>a.block k c (fun e=>f (by simp[←e]))⟩
def HN(w:Zh)(m N:Nat):Prop:=∃n f,n<=N/\AV w 190 m n f
theorem IZ(wd now given ae:Int)(a p l:Zk)(V S R:Nat)(ks:List Kd)(ps:List Pd)(ls:List Ld)(w:Zh)(D:Bv w w.heap.size a p l ks ps ls)(hk:ks.length<=600)(hp:ps.length<=100)(hl:ls.length<=200)(yM:∀k∈ks,(k.sum.size:Int)=wd)(h8:wd<=8):
 Calls prog 108 #[.agg (Ys wd now given ae a ks.length V p ps.length S l ls.length R)] w fun e w'=>∃d m O P L,e=.returned (Yz d)/\Dr w' (w.heap.size+1) d m O P L wd now given ae ks ps ls/\HU w' (w.heap.size+1) m wd ks/\(HN w' m 600/\m<=w.heap.size+3)/\Zz w w':=by
 have hx:=Bg.new w wd now given ae (.slice a ks.length V) (.slice p ps.length S) (.slice l ls.length R) 40;obtain⟨j,I⟩:∃W,W=w.alloc (.cells (Ys wd now given ae a ks.length V p ps.length S l ls.length R) 40):=⟨_,rfl⟩;have n:=(AG I).1;have zZ:=(AG I).2.1;rw[←I]at hx;have C:=Yx D;have HX:=Yx hx;have zO:=Yx I;have S0:=Sk hx
 have zW:j.drew.cell? (Ze (w.heap.size) 0)=some (Zg wd)/\j.drew.cell? (Ze (w.heap.size) 1)=some (Zg now)/\j.drew.cell? (Ze (w.heap.size) 2)=some (Zg given)/\j.drew.cell? (Ze (w.heap.size) 3)=some (Zg ae)/\j.drew.cell? (Ze (w.heap.size) 4)=some (.slice a ks.length V)/\j.drew.cell? (Ze (w.heap.size) 5)=some (.slice p ps.length S)/\j.drew.cell? (Ze (w.heap.size) 6)=some (.slice l ls.length R):=S0
 have K0:BH j.drew j.drew.heap.size a ks:=BH.mono (BH.below D.k n.drew) n.size;have yH:ks.length<=1048576:=by omega
 have yL:ps.length<=1048576:=by omega
 have yI:ls.length<=1048576:=by omega
 clear D hx I;go_enter func108,ntmps108;go_upto_region 1 with fail;rw[←zO.o];clear zO
 go_region_held3 (fun w'=>w'.cell? (Ze (w.heap.size) 0)=some (Zg wd)/\w'.cell? (Ze (w.heap.size) 1)=some (Zg now)/\w'.cell? (Ze (w.heap.size) 2)=some (Zg given)/\w'.cell? (Ze (w.heap.size) 3)=some (Zg ae)/\w'.cell? (Ze (w.heap.size) 4)=some (.slice a ks.length V)/\w'.cell? (Ze (w.heap.size) 5)=some (.slice p ps.length S)/\w'.cell? (Ze (w.heap.size) 6)=some (.slice l ls.length R))
  (first|exact S3|exact S2|exact S1|exact zW|exact Sk (Bg.below X3.o (Zy)))
  (first
  |(go_at_call 153;refine(OR wd now given ae a V (.slice p ps.length S) (.slice l ls.length R) ks j.drew K0 yH yM h8).mono ?_;rintro e y ⟨m,f,rfl,hm,hM,hH,zF⟩;have N:Below j.heap.size j y:=(Below.refl j.heap.size j).drew.trans zF;have S1:=Sk (Bg.below HX.o N))
  |(go_at_call 132;refine(IU p S ps y (AS.mono (AS.below C.o.p (n.trans (N.mono n.size))) (n.trans (N.mono n.size)).size) yL).mono ?_;rintro e H ⟨G,t,rfl,zH,M⟩;have U:Below j.heap.size j H:=N.trans (M.mono N.size);have S2:=Sk (Bg.below HX.o U))
  |(go_at_call 133;refine(Ik l R ls H (AU.mono (AU.below C.o.l (n.trans (U.mono n.size))) (n.trans (U.mono n.size)).size) yI).mono ?_;rintro e h ⟨F,s,rfl,zI,z⟩;have B3:Below j.heap.size j h:=U.trans (z.mono U.size);have X3:=Yx (Bg.below HX.o B3);have S3:=Sk X3.o))
 obtain⟨E,J⟩:∃W,W=h.alloc (.cells #[Zg wd,.map (some m),Zg now,Zg given,Zg ae,Zc,.slice G ps.length t,.slice F ls.length s] 157):=⟨_,rfl⟩;have yT:=(AG J).2.1;have A:=(AG J).1;have Z4:=(AG J).2.2;have yN:w.heap.size+1<=y.heap.size:=by have:=N.size;omega
 have zJ:=M.size;have yO:=z.size;have yK:m<y.heap.size:=hM.lt;have B4:Below w.heap.size w E:=(n.trans (B3.mono n.size)).trans (A.mono (by omega));have zK:Hid (Below j.drew.heap.size j.drew E):=((zF.trans (M.mono (by simp;omega))).trans (z.mono (by simp;omega))).trans (A.mono (by simp;omega));have zR:=Yx (Bg.below X3.o A)
 have Y:Hid (AV E 190 m ks.length f):=hM.aj (B:=y.heap.size) ((M.trans (z.mono zJ)).trans (A.mono (by omega))) yK;have yC:Hid (E.ownsRow y.heap.size 137 2 (.slice G ps.length t) ps.length (Ab pC ps)):=Ae (Ae zH z) A;have yA:Hid (E.ownsRow H.heap.size 139 3 (.slice F ls.length s) ls.length (Ab lC ls)):=Ae zI A
 have Z:Hid (∀g,(Value.slice G ps.length t).ownBlock=some g->y.heap.size<=g/\g<H.heap.size):=fun g r=>Ac zH r;have X:Hid (∀g,(Value.slice F ls.length s).ownBlock=some g->H.heap.size<=g/\g<h.heap.size):=fun g r=>Ac zI r;have HH:=Yx hH;have zS:=Yx Z4;have yJ:w.heap.size+1<=m/\m<=w.heap.size+3:=by have:=hm;simp at this;omega
 rw[←J];clear J S0 zW S1 S2 S3 X3 HX N U B3 zF M z hM zH zI hH Z4 K0 hm;obtain⟨x0,x1,x2,x3,x4,x5,x6,x7⟩:=zR.o;go_wp2
 go_loopw [25] (fun i wr=>∃(k:Nat) (O:Value),k<=ks.length/\i=Zg k/\Hid (Aa wr h.heap.size [Zg wd,.map (some m),Zg now,Zg given,Zg ae,O,.slice G ps.length t,.slice F ls.length s])/\Hid (wr.ownsRow (h.heap.size+1) 190 8 O ((ks.take k).map (·.sum)).length (AA ((ks.take k).map (·.sum))))/\Below h.heap.size E wr) (fun i _=>ks.length -(intOf i).toNat)
 case atStart=>exact⟨0,_,Nat.zero_le _,rfl,zS,⟨rfl,.inl ⟨rfl,rfl⟩⟩,Below.refl _ _⟩
 case round=>
  clear x0 x1 x2 x3 x4 x5 x6 x7 zS;obtain⟨k,O,yQ,rfl,HZ,Q,c⟩:=hrel;obtain⟨x0,x1,x2,x3,x4,x5,x6,x7⟩:=Bg.aj zR.o c (by omega);have yV:h.heap.size+1<=wr.heap.size:=by have:=c.size;omega
  by_cases hlt:k<ks.length
  ·obtain⟨b,yW,ha,hb,hc⟩:=(BH.below C.o.k (B4.trans (c.mono (by omega)))).at hlt;subst ha;have HG:Hid (ks[k]?=some ks[k]):=Zv hlt;obtain⟨c0,c1,c2,ra,rc,c3,_⟩:=hc k _ HG.o;have yP:b<wr.heap.size:=by omega
   have HN:Hid ((ks.take (k+1)).map (·.sum)=(ks.take k).map (·.sum)++[ks[k].sum]):=by show _=_;rw[Zu hlt,List.map_append];rfl
   have yR:((ks.take k).map (·.sum)).length<=600:=by simp;omega
   clear hc;generalize ks[k]=x at *
   generalize (ks.take k).map (·.sum)=Os at *
   obtain⟨u,K⟩:∃W,W=wr.alloc (.cells #[.string x.sum,Zg x.born,.string x.text,.slice ra x.refs.length rc] 131):=⟨_,rfl⟩;have yU:=(AG K).2.1;have b5:=(AG K).1;have Z5:=(AG K).2.2;have yB:=Yx Q.o;have zN:=Yx (Ae Q.o b5);have zB:=Yx (Aa.below HZ.o b5);have zM:Hid (Below h.heap.size E u):=c.trans (b5.mono (by omega))
   have P5:u.drew.cell? (Ze (h.heap.size) 5)=some O/\u.drew.cell? (Ze (wr.heap.size) 0)=some (.string x.sum):=⟨(zB.o 5 _ rfl).1,(Z5 0 _ rfl).1⟩;have D5:Below u.heap.size u u.drew:=(Below.refl _ _).drew;have zP:=Yx K;clear K Z5 Q HZ;go_upto_region 5 with fail;rw[←zP.o];clear zP x0 x1 x2 x3 x4 x5 x6 x7 c0 c1 c2 c3;obtain⟨zC,zE⟩:=P5
   have zG:∀g,O.ownBlock=some g->h.heap.size+1<=g/\g<wr.heap.size:=fun g r=>Ac yB.o r;have yS:wr.heap.size≠h.heap.size:=by omega
   go_region_law (first
    |(go_simp;go_at_call 154;refine(Lt x.sum u.drew).mono ?_;rintro e T ⟨rfl,zX⟩;have v:Below u.heap.size u T:=D5.trans zX;have yD:T.cell? (Ze (h.heap.size) 5)=some O:=(v.cell (p:=⟨h.heap.size,5,none⟩) (by simp;omega)).trans zC;have zT:T.cell? (Ze (wr.heap.size) 0)=some (.string x.sum):=(v.cell (p:=⟨wr.heap.size,0,none⟩) (by simp;omega)).trans zE;have b7:Below u.heap.size u (T.alloc (GI x.sum)):=v.alloc v.size _;have zU:(T.alloc (GI x.sum)).cell? (Ze (h.heap.size) 5)=some O:=(b7.cell (p:=⟨h.heap.size,5,none⟩) (by simp;omega)).trans zC;have zV:(T.alloc (GI x.sum)).cell? (Ze (wr.heap.size) 0)=some (.string x.sum):=(b7.cell (p:=⟨wr.heap.size,0,none⟩) (by simp;omega)).trans zE;have z6:=v.size;obtain⟨g8,c8,w8,hr8,ho8,hg8,ha8⟩:=ZA T (h.heap.size+1) O Os (Ae zN.o v) x.sum (by omega) (by omega) 155;have Z6:=Aa.below zB.o v;unfold GI at hr8 zU zV;go_wp2_with fail)
    |(refine BD (by rfl) (.tmp 33) (.tmp 37) 155 155 (by rfl) (by rfl) (by rfl) hr8 ?_;have yF:w8.cell? (Ze (wr.heap.size) 0)=some (.string x.sum):=hg8.cell zT (fun e=>by have:=(zG _ e.symm).2;simp at this);have Z8:Aa w8 h.heap.size _:=(Aa.same Z6 (hg8.block h.heap.size (by omega) (fun e=>by have:=(zG _ e.symm).1;omega)));have yE:=(Z8 5 _ rfl).1;have F8:=(Z8 5 _ rfl).2))
   all_goals
    have zY:Below h.heap.size E w8:=(zM.o.trans (v.mono (by omega))).grown hg8 (by omega) (fun g r=>by have:=(zG g r).1;omega);have zA:=Yx (Zn Z8 (Zn zY ho8));clear Z8 zY ho8 hg8 hr8 Z6 v b7 zX zN zB zM zC zE yD zT zU zV yE yF F8 ha8 D5 b5;go_wp2;refine⟨⟨k+1,Za g8 (Os.length+1) c8,by omega,by go_num,?_,?_,?_⟩,by simp[intOf];omega⟩
    ·exact Aa.set zA.o.1 5 _
    ·rw[HN.o];exact ownsRow_setCell_below zA.o.2.2 (by simp<;>omega) _
    ·exact zA.o.2.1.setCell (by simp) _
  ·obtain rfl:k=ks.length:=by omega
   rw[Zt (Zx)]at Q;go_wp2;have yG:(vB h.heap.size m O (.slice G ps.length t) (.slice F ls.length s)).Nodup:=by
    have hO:∀g,O.ownBlock=some g->h.heap.size+1<=g:=fun g r=>(Ac Q.o r).1;have hP:∀g,(Value.slice G ps.length t).ownBlock=some g->y.heap.size<=g/\g<H.heap.size:=Z.o;have hL:∀g,(Value.slice F ls.length s).ownBlock=some g->H.heap.size<=g/\g<h.heap.size:=X.o;unfold vB;generalize (Value.slice G ps.length t).ownBlock=bp at *
    generalize (Value.slice F ls.length s).ownBlock=bl at *
    generalize O.ownBlock=bo at *
    cases bo<;>cases bp<;>cases bl<;>simp_all<;>omega
   have hV:∀q∈vB h.heap.size m O (.slice G ps.length t) (.slice F ls.length s),w.heap.size+1<=q:=by
    intro q o;unfold vB at o;simp only[List.mem_cons,List.mem_append,Option.mem_toList]at o;rcases o with rfl|rfl|o|o|o
    ·omega
    ·omega
    ·have:=(Ac Q.o o).1;omega
    ·have:=(Z.o _ o).1;omega
    ·have:=(X.o _ o).1;omega
   go_ret;refine⟨_,rfl,m,⟨O,_,_,⟨HZ.o,⟨ks.length,f,by omega,Y.o.aj c (by omega),?_⟩,?_,?_,?_,by omega,by omega,yG⟩⟩,⟨ks.length,f,by omega,Y.o.aj c (by omega),?hu,by omega⟩,⟨⟨ks.length,f,hk,Y.o.aj c (by omega)⟩,yJ.2⟩,B4.trans (c.mono (by omega))⟩
   ·have o:j.drew.heap.size=w.heap.size+1:=zZ;rw[←o];exact BQ.of HH.o (zK.o.trans (c.mono (by simp;omega))) (fun q o=>by have:=hV q o;simp;omega) ⟨m,rfl,by rw[o];omega⟩
   ·have:=Q.o;rw[List.length_map]at this;exact this.mono (by omega)
   ·refine World.ownsRow.mono ?_ (show w.heap.size+1<=y.heap.size by omega);exact NC yC.o c (fun g r=>by have:=(Z.o g r).2;omega)
   ·refine World.ownsRow.mono ?_ (show w.heap.size+1<=H.heap.size by omega);exact NC yA.o c (fun g r=>by have:=(X.o g r).2;omega)
   case hu=>
    have o:j.drew.heap.size=w.heap.size+1:=zZ;rw[←o];exact Holds.low HH.o (zK.o.trans (c.mono (by simp;omega)))
section
def NS(w:Zh)(b:Nat):Prop:=∀cur fz,w.heap[b]?≠some (.cells cur 9 fz)
theorem De.move{w w':Zh}{base:Nat}{U V j:List Nat}{a:Zk}{o:Zl}(h:De w base V a o)(l:Tn U w w')(t:∀b∈U,b∈V∨(base<=b/\NS w b))(u:∀b∈j,b∈V∨w.heap.size<=b)(y:j[1]?=V[1]?:=by rfl):De w' base j a o:=by
 rcases h with h|⟨b,g,v,k,n,c,x⟩
 ·exact .inl h
 ·have q:b∉U:=fun e=>by
   rcases t b e with e|⟨A,r⟩
   ·exact n e
   ·rcases c with c|⟨_,p,c⟩
    ·omega
    ·exact r p _ c
  have f:=l.block b k q;refine .inr ⟨b,g,v,Zr k l.size,fun e=> ?_,(by rw[f];unfold QD;rw[y];exact c),fun i s z=>(World.cell?_of_block (a:=⟨b,g+i,none⟩) f).trans (x i s z)⟩;rcases u b e with e|e
  ·exact n e
  ·omega
theorem De.low{w:Zh}{base:Nat}{V:List Nat}{a:Zk}{c:Zl}(h:Ad w base a c)(i:∀b∈V,base<=b)(n:base<=w.heap.size)(l:QD base V):De w base V a c:=by
 rcases h with h|⟨b,g,j,f,k⟩
 ·exact .inl h
 ·exact .inr ⟨b,g,j,by omega,fun e=>by have:=i b e;omega,.inl ⟨f,l⟩,k⟩
theorem BQ.move{w w':Zh}{base:Nat}{U V a:List Nat}{wd:Int}{ks:List Kd}{f:Lit->Option Value}(h:BQ w base V wd ks f)(o:Tn U w w')(j:∀b∈U,b∈V∨(base<=b/\NS w b))(k:∀b∈a,b∈V∨w.heap.size<=b)(l:a[1]?=V[1]?:=by rfl):BQ w' base a wd ks f:=by
 intro s n;rcases h s n with h|⟨u,p,q,c,e,g,i⟩
 ·exact .inl h
 ·exact .inr ⟨u,p,q,c,e,g,i.move o j k l⟩
structure DU (w:Zh) (base d m:Nat) (O P L:Value) (wd now given ae:Int) (ks:List Kd) (ps:List Pd) (ls:List Ld):Prop where
 dr:Dr w base d m O P L wd now given ae ks ps ls
variable {w w':Zh} {base d m:Nat} {O P L:Value} {wd now given ae:Int} {ks:List Kd} {ps:List Pd} {ls:List Ld}
theorem DU.lo(h:DU w base d m O P L wd now given ae ks ps ls):base<=w.heap.size:=by have:=h.dr.bd;have:=h.dr.box.lt;omega
theorem DU.an{V:List Nat}(h:DU w base d m O P L wd now given ae ks ps ls)(k:Tn V w w')(j:∀b∈V,base<=b/\b∉vB d m O P L/\NS w b):DU w' base d m O P L wd now given ae ks ps ls:=by
 have l:=h.dr.cg;have i:∀b∈vB d m O P L,w'.heap[b]?=w.heap[b]?:=fun b a=>k.block b (l b a) (fun e=>(j b e).2.1 a);obtain⟨n,f,o,p,q⟩:=h.dr.map;have h:=h.dr
 exact⟨⟨Aa.same h.box (i d (by simp[vB])),⟨n,f,o,AV.same p (i m (by simp[vB])),q.move k (fun b a=> .inr ⟨(j b a).1,(j b a).2.2⟩) (fun b a=> .inl a)⟩,Ai h.ord (fun g c=>i g (by simp[vB,c])),Ai h.ci (fun g c=>i g (by simp[vB,c])),Ai h.ck (fun g c=>i g (by simp[vB,c])),h.bd,h.bm,h.ap⟩⟩
theorem DU.below(h:DU w base d m O P L wd now given ae ks ps ls)(a:Zz w w'):DU w' base d m O P L wd now given ae ks ps ls:=
 h.an (V:=[]) (Tn.of a) (by simp)
theorem We{d m n:Nat}{O P L a:Option Nat}(h:(d::m::(O.toList++(P.toList++L.toList))).Nodup)(e:∀b∈d::m::(O.toList++(P.toList++L.toList)),b<n)(c:a=L∨∃g,a=some g/\n<=g):(d::m::(O.toList++(P.toList++a.toList))).Nodup:=by
 rcases c with rfl|⟨g,rfl,f⟩
 ·exact h
 ·cases O<;>cases P<;>cases L<;>simp_all<;>grind
theorem Wf{d m n:Nat}{O P L a:Option Nat}(h:(d::m::(O.toList++(P.toList++L.toList))).Nodup)(e:∀b∈d::m::(O.toList++(P.toList++L.toList)),b<n)(c:a=P∨∃g,a=some g/\n<=g):(d::m::(O.toList++(a.toList++L.toList))).Nodup:=by
 rcases c with rfl|⟨g,rfl,f⟩
 ·exact h
 ·cases O<;>cases P<;>cases L<;>simp_all<;>grind
theorem CZ{d m:Nat}{O P L:Option Nat}(h:(d::m::(O.toList++(P.toList++L.toList))).Nodup):d≠m/\(∀g,O=some g->g≠d/\g≠m/\P≠some g/\L≠some g)/\(∀g,P=some g->g≠d/\g≠m/\L≠some g)/\(∀g,L=some g->g≠d/\g≠m):=by cases O<;>cases P<;>cases L<;>simp_all<;>grind
theorem DU.gm(h:DU w base d m O P L wd now given ae ks ps ls)(p:Tn (d::L.ownBlock.toList) w w'){k:Value}{o:List Ld}{j a:Int}(q:Aa w' d [Zg wd,.map (some m),Zg j,Zg a,Zg ae,O,P,k])(z:w'.ownsRow base 139 3 k o.length (Ab lC o))(c:k.ownBlock=L.ownBlock∨∃g,k.ownBlock=some g/\w.heap.size<=g):DU w' base d m O P k wd j a ae ks ps o:=by
 obtain⟨u,r,s,v⟩:=CZ h.dr.ap;obtain⟨n,f,A,t,B⟩:=h.dr.map;have x:∀b∈d::L.ownBlock.toList,b∈vB d m O P L:=by
  intro b c;unfold vB;rcases List.mem_cons.1 c with rfl|c
  ·simp
  ·simp only[List.mem_cons,List.mem_append];exact .inr (.inr (.inr (.inr c)))
 have y:∀b∈vB d m O P k,b∈vB d m O P L∨w.heap.size<=b:=by
  intro b l;unfold vB at l ⊢;simp only[List.mem_cons,List.mem_append]at l ⊢;rcases l with e|e|e|e|e
  ·exact .inl (.inl e)
  ·exact .inl (.inr (.inl e))
  ·exact .inl (.inr (.inr (.inl e)))
  ·exact .inl (.inr (.inr (.inr (.inl e))))
  ·rcases c with c|⟨g,i,C⟩
   ·rw[c]at e;exact .inl (.inr (.inr (.inr (.inr e))))
   ·rw[i]at e;simp at e;exact .inr (by omega)
 refine⟨⟨q,⟨n,f,A,AV.same t (p.block m t.lt (fun e=> ?_)),B.move p (fun b c=> .inl (x b c)) y⟩,Ai h.dr.ord (fun g i=>p.block g (Ac h.dr.ord i).2 (fun e=> ?_)),Ai h.dr.ci (fun g i=>p.block g (Ac h.dr.ci i).2 (fun e=> ?_)),z,h.dr.bd,h.dr.bm,We h.dr.ap h.dr.cg c⟩⟩
 ·rcases List.mem_cons.1 e with e|e
  ·exact u e.symm
  ·exact(v m (by simpa using e)).2 rfl
 ·rcases List.mem_cons.1 e with e|e
  ·exact(r g i).1 e
  ·exact(r g i).2.2.2 (by simpa using e)
 ·rcases List.mem_cons.1 e with e|e
  ·exact(s g i).1 e
  ·exact(s g i).2.2 (by simpa using e)
theorem DU.gn(h:DU w base d m O P L wd now given ae ks ps ls)(l:Tn (d::P.ownBlock.toList) w w'){i:Value}{k:List Pd}(o:Aa w' d [Zg wd,.map (some m),Zg now,Zg given,Zg ae,O,i,L])(x:w'.ownsRow base 137 2 i k.length (Ab pC k))(a:i.ownBlock=P.ownBlock∨∃g,i.ownBlock=some g/\w.heap.size<=g):DU w' base d m O i L wd now given ae ks k ls:=by
 obtain⟨s,p,q,t⟩:=CZ h.dr.ap;obtain⟨n,f,y,r,z⟩:=h.dr.map;have u:∀b∈d::P.ownBlock.toList,b∈vB d m O P L:=by
  intro b a;unfold vB;rcases List.mem_cons.1 a with rfl|a
  ·simp
  ·simp only[List.mem_cons,List.mem_append];exact .inr (.inr (.inr (.inl a)))
 have v:∀b∈vB d m O i L,b∈vB d m O P L∨w.heap.size<=b:=by
  intro b j;unfold vB at j ⊢;simp only[List.mem_cons,List.mem_append]at j ⊢;rcases j with e|e|e|e|e
  ·exact .inl (.inl e)
  ·exact .inl (.inr (.inl e))
  ·exact .inl (.inr (.inr (.inl e)))
  ·rcases a with a|⟨g,c,A⟩
   ·rw[a]at e;exact .inl (.inr (.inr (.inr (.inl e))))
   ·rw[c]at e;simp at e;exact .inr (by omega)
  ·exact .inl (.inr (.inr (.inr (.inr e))))
 refine⟨⟨o,⟨n,f,y,AV.same r (l.block m r.lt (fun e=> ?_)),z.move l (fun b a=> .inl (u b a)) v⟩,Ai h.dr.ord (fun g c=>l.block g (Ac h.dr.ord c).2 (fun e=> ?_)),x,Ai h.dr.ck (fun g c=>l.block g (Ac h.dr.ck c).2 (fun e=> ?_)),h.dr.bd,h.dr.bm,Wf h.dr.ap h.dr.cg a⟩⟩
 ·rcases List.mem_cons.1 e with e|e
  ·exact s e.symm
  ·exact(q m (by simpa using e)).2.1 rfl
 ·rcases List.mem_cons.1 e with e|e
  ·exact(p g c).1 e
  ·exact(p g c).2.2.1 (by simpa using e)
 ·rcases List.mem_cons.1 e with e|e
  ·exact(t g c).1 e
  ·exact(q g (by simpa using e)).2.2 c
theorem Hz{A:Type}(c:A->Zj)(a b:List A):Ab c (a++b)=Ab c a++Ab c b:=by unfold Ab;simp
theorem GO{a b:Int}(f:0<=a)(c:a<=1000000000)(g:0<=b)(e:b<=1000000000):IntKind.i64.wrap (a+b)=a+b:=by simp[IntKind.wrap,IntKind.bits,IntKind.signed];omega
theorem Nj(w:Zh)(base:Nat)(v:Value)(ls:List Ld)(t:w.ownsRow base 139 3 v ls.length (Ab lC ls))(x:Ld)(s:ls.length<=1000000)(h:base<=w.heap.size)(i:TypeId):
 ∃g a w',(Builtin.append_ #[38,38] i #[v,Za w.heap.size 1 1]).run prog (w.alloc (.cells #[Zg x.num,.string x.sum,Zg x.bf] 139))=.ok (Za g (ls.length+1) a) w'/\w'.ownsRow base 139 3 (Za g (ls.length+1) a) (ls++[x]).length (Ab lC (ls++[x]))/\w.grownBy w' v.ownBlock/\(v.ownBlock=some g∨g=w.heap.size+1):=by
 obtain⟨z,r,l,n,o⟩:=info_parts Gc;have k:=Ae t ((Below.refl _ _).alloc (Zx) (.cells #[Zg x.num,.string x.sum,Zg x.bf] 139));have q:∀j u,(Ab lC [x])[j]?=some u->(w.alloc (.cells #[Zg x.num,.string x.sum,Zg x.bf] 139)).cell? ((⟨w.heap.size,0,none⟩:Addr).add j)=some u:=by intro j u c;rw[Go.WideShapes.add_plain,Nat.zero_add];exact(Aa.new w [Zg x.num,.string x.sum,Zg x.bf] 139 j u (by simpa [Ab,lC]using c)).1
 obtain⟨A,w',y,f,p,_,b⟩:=run_append_own_at (P:=prog) (w.alloc (.cells #[Zg x.num,.string x.sum,Zg x.bf] 139)) base 38 i 139 z _ 3 32 underlying38 r l n o rfl (by decide) v ls.length (Ab lC ls) k ⟨w.heap.size,0,none⟩ 1 1 (Ab lC [x]) (by simp[Ab,lC]) q (by intro u c;simp[Ab,lC]at c;rcases c with rfl|rfl|rfl<;>rfl) (by unfold maxLen;omega) (by omega) (by simp;omega)
 obtain⟨g,a,rfl,_,_⟩:=Cf f (fun e=>by subst e;rcases f.2 with⟨_,s⟩|⟨_,_,_,e,_⟩<;>first|omega|cases e);refine⟨g,a,w',y,?_,(World.grownBy_alloc w _ _).trans p,?_⟩
 ·rw[Hz,List.length_append];exact f
 ·rcases b with b|b
  ·exact .inl b.symm
  ·right;simpa [Value.ownBlock]using b
theorem NJ(base d m:Nat)(O P L:Value)(wd now given ae:Int)(ks:List Kd)(ps:List Pd)(ls:List Ld)(s:Zi)(a:Int)(w:Zh)(h:DU w base d m O P L wd now given ae ks ps ls)(J:∀k∈ks,(k.sum.size:Int)=wd)(K:Ax ks s)(hl:ls.length<200)(zH:0<=given)(zI:given<1000000000)(zC:0<=now)(zE:now<=1000000000)(zF:0<=a)(zG:a<=1000000000):
 Calls prog 174 #[Yz d,.string s,Zg a] w fun e w'=>e=.returned (Zg (given+1))/\∃M,DU w' base d m O P M wd now (given+1) ae ks ps (ls++[⟨given+1,s,now+a⟩])/\Tn (d::L.ownBlock.toList) w w':=by
 have HN:=Yx (Em base d m O P L wd now given ae ks ps ls s w h.dr J K);have Q:Hid (DU w base d m O P L wd now given ae ks ps ls):=h;have zK:((ls.length:Int)==200)=false:=by simp;omega
 have zJ:(given==1000000000)=false:=by simp;omega
 clear h J K;go_enter func174,ntmps174;go_wp2_with fail;refine Calls.mono HN.o ?_;rintro e q ⟨rfl,y⟩;have j:=Q.o.below y;obtain⟨l,i,Z⟩:=As j.dr.ck;subst Z;obtain⟨c2,_⟩:=j.dr.box 2 _ rfl;obtain⟨c3,f3⟩:=j.dr.box 3 _ rfl;obtain⟨c7,_⟩:=j.dr.box 7 _ rfl;obtain⟨X,A⟩:∃X,X=q.setCell (Ze d 3) (Zg (given+1)):=⟨_,rfl⟩;have r:Tn [d] q X:=by rw[A];exact En _ _ _ _
 have o:Aa X d [Zg wd,.map (some m),Zg now,Zg (given+1),Zg ae,O,P,.slice l ls.length i]:=by rw[A];exact j.dr.box.set 3 _
 have x:∀g,(Value.slice l ls.length i).ownBlock=some g->g≠d:=fun g t=>((CZ j.dr.ap).2.2.2 g t).1;have H:X.ownsRow base 139 3 (.slice l ls.length i) ls.length (Ab lC ls):=Ai j.dr.ck (fun g t=>r.block g (Ac j.dr.ck t).2 (by simp;exact x g t));have F:d<X.heap.size:=o.lt;have B:base<=X.heap.size:=Zm j.lo r.size
 obtain⟨f,c,n,p,I,z,G⟩:=Nj X.drew base _ ls (Ae H ((Below.refl _ _).drew)) ⟨given+1,s,now+a⟩ (by omega) B 38;dsimp only at p;replace p:(Builtin.append_ #[38,38] 38 #[.slice l ls.length i,Za X.heap.size 1 1]).run prog (X.alloc (.cells #[Zg (given+1),.string s,Zg (now+a)] 139)).drew=.ok (Za f (ls.length+1) c) n:=p;have zM:IntKind.i64.wrap (now+a)=now+a:=GO zC zE zF zG
 have E:Below X.heap.size X (X.drew.alloc (.cells #[Zg (given+1),.string s,Zg (now+a)] 139)):=(Below.refl _ _).drew.alloc (Zx) _;have D:=o.below E;have R:=Yx A;have H1:Hid (DU q base d m O P (.slice l ls.length i) wd now given ae ks ps ls):=j;have V:Hid (Zz w q):=y
 have v:Aa n d [Zg wd,.map (some m),Zg now,Zg (given+1),Zg ae,O,P,.slice l ls.length i]:=Aa.same o (z.block d (by simpa using F) (fun e=>x d e.symm rfl))
 have u:Hid (n.ownsRow base 139 3 (Za f (ls.length+1) c) (ls++[(⟨given+1,s,now+a⟩:Ld)]).length (Ab lC (ls++[(⟨given+1,s,now+a⟩:Ld)]))/\X.drew.grownBy n (Value.slice l ls.length i).ownBlock/\((Value.slice l ls.length i).ownBlock=some f∨f=X.drew.heap.size+1)):=⟨I,z,G⟩;have U:Hid (Aa n d [Zg wd,.map (some m),Zg now,Zg (given+1),Zg ae,O,P,.slice l ls.length i]):=v;have C:Hid (Tn [d] q X):=r
 have Y:Hid (d<X.heap.size):=F;clear A j y HN Q r H I z G;go_upto_region 5 with fail;rw[←R.o];clear R c2 c3 c7 f3;obtain⟨c2,c3,c7⟩:=Aa.c3 o 2 3 7;obtain⟨a2,a3,a7⟩:=Aa.c3 D 2 3 7;obtain⟨e7,f7⟩:=v 7 _ rfl;clear o D v E
 go_region_law (first
  |(refine BD (by rfl) (.tmp 36) (.tmp 49) 38 38 (by rfl) (by rfl) (by rfl) p ?_))
 all_goals
  clear p c2 c3 c7 a2 a3 a7;have N:=U.o.set 7 (Za f (ls.length+1) c);have z3:=(N 3 _ rfl).1;have z7:X.heap.size<=n.heap.size:=by have:=u.o.2.1.size;simpa using this
  have W:Hid (Aa (n.setCell (Ze d 7) (Za f (ls.length+1) c)) d [Zg wd,.map (some m),Zg now,Zg (given+1),Zg ae,O,P,Za f (ls.length+1) c]):=N;clear N;have S:∃M,DU (n.setCell (Ze d 7) (Za f (ls.length+1) c)) base d m O P M wd now (given+1) ae ks ps (ls++[(⟨given+1,s,now+a⟩:Ld)])/\Tn (d::(Value.slice l ls.length i).ownBlock.toList) w (n.setCell (Ze d 7) (Za f (ls.length+1) c)):=by
   have T:Tn (d::(Value.slice l ls.length i).ownBlock.toList) q (n.setCell (Ze d 7) (Za f (ls.length+1) c)):=
    ((C.o.mono (by simp)).trans ((Tn.of ((Below.refl _ _).drew)).trans ((Ct u.o.2.1).mono (fun b hb=>List.mem_cons_of_mem _ hb)))).trans ((En n d 7 _).mono (by simp))
   have zB:∀g,(Za f (ls.length+1) c).ownBlock=some g->g≠d:=fun g t=>by
    obtain rfl:f=g:=by simpa [Value.ownBlock]using t
    rcases u.o.2.2 with e|e
    ·exact x f e
    ·have h1:f=X.heap.size+1:=e;have h2:=Y.o;omega
   have zA:(Za f (ls.length+1) c).ownBlock=(Value.slice l ls.length i).ownBlock∨∃g,(Za f (ls.length+1) c).ownBlock=some g/\q.heap.size<=g:=by
    rcases u.o.2.2 with e|e
    ·exact .inl e.symm
    ·exact .inr ⟨f,rfl,by have h1:f=X.heap.size+1:=e;have:=C.o.size;omega⟩
   exact⟨_,H1.o.gm T W.o (Bk u.o.1 zB 7 _) zA,(Tn.of V.o).trans T⟩
  have HK:=Yx S;clear S;go_wp2;go_ret;exact⟨rfl,HK.o⟩
end
theorem Kh{A:Type}{c:A->Zj}{n:Nat}{e:TypeId}(j:∀x,(c x).length=n){w:Zh}{base g b:Nat}{a:List A}(h:w.ownsRow base e n (Za g a.length b) a.length (Ab c a))(i:Nat)(f:i<=a.length):w.ownsRow base e n (Za g i b) i (Ab c (a.take i)):=by
 refine⟨by rw[Bu j,List.length_take];congr 1;omega,?_⟩;rcases h.2 with⟨e,_⟩|⟨t,l,k,e,r,s,u,o,p,q⟩
 ·cases e
 ·cases e;refine .inr ⟨g,b,k,rfl,r,s,by omega,o,p,?_⟩;rw[←FC j a i f,←q,List.take_take];congr 1;exact(Nat.min_eq_left (Nat.mul_le_mul_right n f)).symm
theorem Wg(w:Zh):(zeroValue 137).run prog w=.ok (.agg #[Zd,Zd]) w:=by kernel_rfl
theorem ME(w:Zh)(k:TypeId)(b o c:Nat)(h:∀j,j<2->(w.cell? (Ze b (o+j))).isSome=true)(i:∀j,j<2->w.frozen? ⟨b,o+j,none⟩=false):
 (Builtin.clear_ #[37] k #[.slice (some ⟨b,o,none⟩) 1 c]).run prog w=.ok (.tuple #[]) (w.setCells b o [Zd,Zd]):=by
 have f:(Builtin.zeroCells (Value.agg #[Zd,Zd]).cells 1).toList=[Zd,Zd]:=by kernel_rfl
 have a:=run_storeCells_cells (P:=prog) b o [Zd,Zd] 0 w (by simpa using h) (by simpa using i) (by intro v e;simp at e;rcases e with rfl|rfl<;>rfl);simp only[Nat.add_zero]at a;have g:=Wg;simp[Builtin.clear_,run_underlying underlying37,g,f,a]
theorem MF(g b i:Nat)(a:List Pd)(w:Zh)(base:Nat)(t:w.ownsRow base 137 2 (Za g a.length b) a.length (Ab pC a))(hl:a.length<=600)(hi:i<a.length):
 Calls prog 206 #[Za g a.length b,Zg i,Zg ((i:Int)+1)] w fun e w'=>e=.returned (Za g (a.length -1) b)/\w'.ownsRow base 137 2 (Za g (a.length -1) b) (a.length -1) (Ab pC (a.eraseIdx i))/\w.grownBy w' (some g):=by
 obtain⟨N,q,W,G,X⟩:=info_parts Gy;have p:a.length<=b/\b<=maxLen:=by
  rcases t.2 with⟨e,_⟩|⟨I,o,D,e,M,B,y,z,J,K⟩
  ·cases e
  ·cases e;exact⟨y,z⟩
 obtain⟨Q,E⟩:=p;unfold maxLen at E;have hcut:=Kh BI t i (by omega);obtain⟨A,hA,f⟩:∃A,(if b=i+1 then some (⟨g,0,none⟩:Addr)else some ⟨g,(i+1) *2,none⟩)=some A/\∀j u,(Ab pC (a.drop (i+1)))[j]?=some u->w.drew.cell? (A.add j)=some u:=by
  by_cases h:b=i+1
  ·refine⟨⟨g,0,none⟩,by rw[if_pos h],fun j u l=> ?_⟩;rw[List.drop_of_length_le (by omega)]at l;simp[Ab]at l
  ·refine⟨⟨g,(i+1) *2,none⟩,by rw[if_neg h],fun j u l=> ?_⟩;rw[Go.WideShapes.add_plain];rw[←EY BI a (i+1) (by omega),List.getElem?_drop]at l;have F:=(Zw l).1;rw[Bu BI]at F;exact(t.cellAt _ (by omega)).trans l
 obtain⟨v,C,c,k⟩:=run_append_fits (P:=prog) w.drew base 37 37 137 N 2 underlying37 q G g i b (Ab pC (a.take i)) hcut A (a.length -(i+1)) (b -(i+1)) (Ab pC (a.drop (i+1))) (by rw[Bu BI,List.length_drop]) f (IT _) (by omega);rw[←Bi,show i+(a.length -(i+1))=a.length -1 by omega]at c;rw[show i+(a.length -(i+1))=a.length -1 by omega]at C;have r:=(List.eraseIdx_eq_take_drop_succ a i).symm;rw[r]at c
 have x:=Yx (Zn c k);clear f c hcut r;go_enter func206,ntmps206;have R:¬((i:Int)==(i:Int)+1)=true:=by simp;omega
 have S:i<=b:=by omega
 have T:(0:Int)<=(i:Int)+1:=by omega
 have U:(i:Int)+1<=(a.length:Int):=by omega
 have V:((i:Int)+1).toNat=i+1:=by omega
 go_upto_region 5 with fail
 go_region_law (first
  |(refine BD (by rfl) (.tmp 22) (.tmp 25) 37 37 (by rfl) (by rfl) (by simp[Act.eval,Act.put]) C ?_))
 all_goals
  have s:∀j,j<2->(v.cell? (Ze g ((a.length -1) *2+j))).isSome=true/\v.frozen? ⟨g,(a.length -1) *2+j,none⟩=false:=fun j n=>by
   obtain⟨c,k⟩:=x.o;rcases c.2 with⟨e,_⟩|⟨I,o,D,e,M,B,y,z,J,K⟩
   ·cases e
   ·cases e;constructor
    ·simp only[World.cell?,B];rw[Array.getElem?_eq_getElem (by omega)];rfl
    ·exact c.frozenAt _
  have H:=ME v 0 g ((a.length -1) *2) (b -(a.length -1)) (fun j n=>(s j n).1) (fun j n=>(s j n).2);have Y:a.length -(a.length -1)=1:=by omega
  have Z:¬b=a.length -1:=by omega
  have e3:a.length -1<=a.length:=by omega
  go_wp2;go_ret;obtain⟨c,k⟩:=x.o;exact⟨rfl,GN _ _ _ c (Zx),Av (CY k) (Cb g _ _ _)⟩
theorem Mc(w:Zh):(zeroValue 139).run prog w=.ok (.agg #[Zf,Zd,Zf]) w:=by kernel_rfl
theorem KG(w:Zh)(k:TypeId)(b o c:Nat)(h:∀j,j<3->(w.cell? (Ze b (o+j))).isSome=true)(i:∀j,j<3->w.frozen? ⟨b,o+j,none⟩=false):
 (Builtin.clear_ #[38] k #[.slice (some ⟨b,o,none⟩) 1 c]).run prog w=.ok (.tuple #[]) (w.setCells b o [Zf,Zd,Zf]):=by
 have f:(Builtin.zeroCells (Value.agg #[Zf,Zd,Zf]).cells 1).toList=[Zf,Zd,Zf]:=by kernel_rfl
 have a:=run_storeCells_cells (P:=prog) b o [Zf,Zd,Zf] 0 w (by simpa using h) (by simpa using i) (by intro v e;simp at e;rcases e with rfl|rfl|rfl<;>rfl);simp only[Nat.add_zero]at a;have g:=Mc;simp[Builtin.clear_,run_underlying underlying38,g,f,a]
theorem KH(g b i:Nat)(a:List Ld)(w:Zh)(base:Nat)(t:w.ownsRow base 139 3 (Za g a.length b) a.length (Ab lC a))(hl:a.length<=600)(hi:i<a.length):
 Calls prog 210 #[Za g a.length b,Zg i,Zg ((i:Int)+1)] w fun e w'=>e=.returned (Za g (a.length -1) b)/\w'.ownsRow base 139 3 (Za g (a.length -1) b) (a.length -1) (Ab lC (a.eraseIdx i))/\w.grownBy w' (some g):=by
 obtain⟨N,q,W,G,X⟩:=info_parts Gc;have p:a.length<=b/\b<=maxLen:=by
  rcases t.2 with⟨e,_⟩|⟨I,o,D,e,M,B,y,z,J,K⟩
  ·cases e
  ·cases e;exact⟨y,z⟩
 obtain⟨Q,E⟩:=p;unfold maxLen at E;have hcut:=Kh Co t i (by omega);obtain⟨A,hA,f⟩:∃A,(if b=i+1 then some (⟨g,0,none⟩:Addr)else some ⟨g,(i+1) *3,none⟩)=some A/\∀j u,(Ab lC (a.drop (i+1)))[j]?=some u->w.drew.cell? (A.add j)=some u:=by
  by_cases h:b=i+1
  ·refine⟨⟨g,0,none⟩,by rw[if_pos h],fun j u l=> ?_⟩;rw[List.drop_of_length_le (by omega)]at l;simp[Ab]at l
  ·refine⟨⟨g,(i+1) *3,none⟩,by rw[if_neg h],fun j u l=> ?_⟩;rw[Go.WideShapes.add_plain];rw[←EY Co a (i+1) (by omega),List.getElem?_drop]at l;have F:=(Zw l).1;rw[Bu Co]at F;exact(t.cellAt _ (by omega)).trans l
 obtain⟨v,C,c,k⟩:=run_append_fits (P:=prog) w.drew base 38 38 139 N 3 underlying38 q G g i b (Ab lC (a.take i)) hcut A (a.length -(i+1)) (b -(i+1)) (Ab lC (a.drop (i+1))) (by rw[Bu Co,List.length_drop]) f (Uk _) (by omega);rw[←Bi,show i+(a.length -(i+1))=a.length -1 by omega]at c;rw[show i+(a.length -(i+1))=a.length -1 by omega]at C;have r:=(List.eraseIdx_eq_take_drop_succ a i).symm;rw[r]at c
 have x:=Yx (Zn c k);clear f c hcut r;go_enter func210,ntmps210;have R:¬((i:Int)==(i:Int)+1)=true:=by simp;omega
 have S:i<=b:=by omega
 have T:(0:Int)<=(i:Int)+1:=by omega
 have U:(i:Int)+1<=(a.length:Int):=by omega
 have V:((i:Int)+1).toNat=i+1:=by omega
 go_upto_region 5 with fail
 go_region_law (first
  |(refine BD (by rfl) (.tmp 22) (.tmp 25) 38 38 (by rfl) (by rfl) (by simp[Act.eval,Act.put]) C ?_))
 all_goals
  have s:∀j,j<3->(v.cell? (Ze g ((a.length -1) *3+j))).isSome=true/\v.frozen? ⟨g,(a.length -1) *3+j,none⟩=false:=fun j n=>by
   obtain⟨c,k⟩:=x.o;rcases c.2 with⟨e,_⟩|⟨I,o,D,e,M,B,y,z,J,K⟩
   ·cases e
   ·cases e;constructor
    ·simp only[World.cell?,B];rw[Array.getElem?_eq_getElem (by omega)];rfl
    ·exact c.frozenAt _
  have H:=KG v 0 g ((a.length -1) *3) (b -(a.length -1)) (fun j n=>(s j n).1) (fun j n=>(s j n).2);have Y:a.length -(a.length -1)=1:=by omega
  have Z:¬b=a.length -1:=by omega
  have e3:a.length -1<=a.length:=by omega
  go_wp2;go_ret;obtain⟨c,k⟩:=x.o;exact⟨rfl,GN _ _ _ c (Zx),Av (CY k) (Cb g _ _ _)⟩
end Go.Proofs.YtlhhpofjkgmbeaaGreatDoor
