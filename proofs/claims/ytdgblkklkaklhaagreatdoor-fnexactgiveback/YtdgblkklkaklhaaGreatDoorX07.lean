import Derived.Test.YtdgblkklkaklhaaGreatDoorX06
import Derived.WalkLawsBesides
import Derived.Defers
import Derived.Recover
set_option maxRecDepth 100000
set_option maxHeartbeats 16000000
namespace Go.Proofs.YtdgblkklkaklhaaGreatDoor
open Go.ChangeShapes Go.WideShapes Go.ChangeAt Go.RowKit _root_.Go.Proofs.Tryz
section
attribute [local go_sem↓] Go.wp_at_zero Go.wp_at_succ
theorem BQ.holds{w:Zh}{base:Nat}{V:List Nat}{b:Int}{a:List Kd}{f:Lit->Option Value}(h:BQ w base V b a f):Holds w w.heap.size b a f:=by
 intro s i;rcases h s i with h|⟨u,j,k,c,d,e,g⟩
 ·exact .inl h
 ·exact .inr ⟨u,j,k,c,d,e,g.row⟩
theorem Dr.look{w:Zh}{base d m:Nat}{O P L:Value}{i s given ae:Int}{a:List Kd}{z:List Pd}{y:List Ld}(h:Dr w base d m O P L i s given ae a z y)(l:(a.map (·.sum)).Nodup)(q:∀k∈a,(k.sum.size:Int)=i){k:Kd}(c:k∈a):
 ∃b e,Ad w w.heap.size b k.refs/\∀X,Zz w X->(Instr.lookup 152 (.map (some m)) (Cm k.sum) false).run prog X=.ok (Ee k b e) X:=by
 obtain⟨n,f,A,g,t⟩:=h.map;rcases t _ (q k c)with⟨_,o⟩|⟨u,b,e,x,r,j,p⟩
 ·exact absurd ⟨_,c,rfl⟩ o
 ·obtain rfl:=GJ l x c r;refine⟨b,e,p.row,fun X v=> ?_⟩;have:=(g.aj v g.lt).look keyed underlying152 (Kf _) (EC u.sum);rw[j]at this;exact this
theorem Uo(base d m l n:Nat)(O P L:Value)(G R given ae:Int)(r:List Kd)(V:List Pd)(U:List Ld)(s:Zi)(k:Kd)(w:Zh)(F:Dr w base d m O P L G R given ae r V U)(K:(r.map (·.sum)).Nodup)(N:∀k∈r,(k.sum.size:Int)=G)(S:k∈r)(T:k.refs.length<=1000)(j:k.refs.Pairwise (fun a b=>less a b=true))
 (t:w.cell? (Ze l 0)=some (Yz d)) (x:w.cell? (Ze n 0)=some (.string s)):
 Calls prog 245 #[Cm k.sum,Yz l,Yz n] w fun e Y=>∃ok,e=.returned (.bool ok)/\(ok=true↔s∈k.refs)/\Zz w Y:=by
 obtain⟨c,f,g,fq⟩:=F.look K N S;have J:=World.block_lt_of_cell? w _ t;have M:=World.block_lt_of_cell? w _ x;obtain⟨W,o⟩:∃W,W=w.alloc (.cells (Yw (kB k.sum)) 190):=⟨_,rfl⟩;have h:=(AG o).1;have z:Aa W w.heap.size (Am k.sum):=by rw[o];exact Aa.new w (Am k.sum) 190
 have Q:w.heap.size<W.heap.size:=Aa.lt (v:=.int .u8 (kB k.sum 0)) z;unfold Cm CO Ee at fq
 have y:Hid (∀X,Zz W X->X.cell? (Ze l 0)=some (Yz d)/\X.cell? (Ze n 0)=some (.string s)/\X.cell? (Ze d 1)=some (.map (some m))/\(X.cell? (Ze (w.heap.size) 0)=some (.int .u8 (kB k.sum 0))/\X.cell? (Ze (w.heap.size) 1)=some (.int .u8 (kB k.sum 1))/\X.cell? (Ze (w.heap.size) 2)=some (.int .u8 (kB k.sum 2))/\X.cell? (Ze (w.heap.size) 3)=some (.int .u8 (kB k.sum 3))/\X.cell? (Ze (w.heap.size) 4)=some (.int .u8 (kB k.sum 4))/\X.cell? (Ze (w.heap.size) 5)=some (.int .u8 (kB k.sum 5))/\X.cell? (Ze (w.heap.size) 6)=some (.int .u8 (kB k.sum 6))/\X.cell? (Ze (w.heap.size) 7)=some (.int .u8 (kB k.sum 7)))/\(Instr.lookup 152 (.map (some m)) (.agg (Yw (kB k.sum))) false).run prog X=.ok (.agg #[.string k.sum,Zg k.born,.string k.text,.slice c k.refs.length f]) X):=
  fun X E=>by have q:=h.trans (E.mono h.size);exact⟨(q.cell (p:=⟨l,0,none⟩) J).trans t,(q.cell (p:=⟨n,0,none⟩) M).trans x,(Aa.below F.box q 1 _ rfl).1,ZX (E.block _ Q) z,fq X q⟩
 have C:=Yx (OT c f k.refs s W.drew (Ad.mono (Ad.below g h.drew) h.size) T j);have B:Below W.heap.size W W.drew:=(Below.refl _ _).drew;have zA:∀X:Zh,(Instr.field 131 (.agg #[.string k.sum,Zg k.born,.string k.text,.slice c k.refs.length f]) 2).run prog X=.ok (.agg #[.string k.text,.slice c k.refs.length f]) X:=fun _=>by kernel_rfl
 have zB:∀X:Zh,(Instr.field 58 (.agg #[.string k.text,.slice c k.refs.length f]) 1).run prog X=.ok (.slice c k.refs.length f) X:=fun _=>by kernel_rfl
 have D:=Yx o;clear o z fq g;unfold Cm CO;go_enter func245,ntmps245;go_upto_region 1 with fail;rw[←D.o];clear D
 go_region_held3 (fun X=>X.cell? (Ze l 0)=some (Yz d)/\X.cell? (Ze n 0)=some (.string s)/\X.cell? (Ze d 1)=some (.map (some m))/\(X.cell? (Ze (w.heap.size) 0)=some (.int .u8 (kB k.sum 0))/\X.cell? (Ze (w.heap.size) 1)=some (.int .u8 (kB k.sum 1))/\X.cell? (Ze (w.heap.size) 2)=some (.int .u8 (kB k.sum 2))/\X.cell? (Ze (w.heap.size) 3)=some (.int .u8 (kB k.sum 3))/\X.cell? (Ze (w.heap.size) 4)=some (.int .u8 (kB k.sum 4))/\X.cell? (Ze (w.heap.size) 5)=some (.int .u8 (kB k.sum 5))/\X.cell? (Ze (w.heap.size) 6)=some (.int .u8 (kB k.sum 6))/\X.cell? (Ze (w.heap.size) 7)=some (.int .u8 (kB k.sum 7)))/\(Instr.lookup 152 (.map (some m)) (.agg (Yw (kB k.sum))) false).run prog X=.ok (.agg #[.string k.sum,Zg k.born,.string k.text,.slice c k.refs.length f]) X)
  (first|with_reducible exact y.o _ B|with_reducible exact y.o _ A)
  (first|(go_at_call 246;refine Calls.mono C.o ?_;rintro e Z ⟨i,ok,rfl,u,I⟩;have H:=Yx u;clear u;have A:Below W.heap.size W Z:=Dv I))
 all_goals
  clear y C B;go_wp2;go_ret;exact⟨ok,rfl,H.o,h.trans (A.mono h.size)⟩
def IY(ks:List Kd):Prop:=∀k∈ks,k.refs.length<=1000/\k.refs.Pairwise (fun a b=>less a b=true)
theorem NI(base d m o t:Nat)(R:Zk)(G:Nat)(P L:Value)(J F given ae:Int)(b:List Kd)(S:List Pd)(Q:List Ld)(s:Zi)(w:Zh)(M:Dr w base d m (.slice R b.length G) P L J F given ae b S Q)(zE:(b.map (·.sum)).Nodup)(zG:∀k∈b,(k.sum.size:Int)=J)(O:IY b)(hl:b.length<=600)
 (B:w.cell? (Ze o 0)=some (Yz d)) (E:w.cell? (Ze t 0)=some (.string s)):
 Calls prog 251 #[.slice R b.length G,.func (.func 245) #[] #[Yz o,Yz t]] w fun e w'=>∃r:Int,e=.returned (Zg r)/\(0<=r↔∃k∈b,s∈k.refs)/\Zz w w':=by
 have zB:=World.block_lt_of_cell? w _ B;have zF:=World.block_lt_of_cell? w _ E;have HD:=Yx M;clear M;go_enter func251,ntmps251;go_wp2
 go_loopw [8] (fun i wr=>∃k:Nat,k<=b.length/\i=Zg k/\Hid (∀j x,j<k->b[j]?=some x->¬s∈x.refs)/\Zz w wr) (fun i _=>b.length -(intOf i).toNat)
 case atStart=>exact⟨0,Nat.zero_le _,rfl,(fun j x h=>by omega),Below.refl _ _⟩
 case round=>
  obtain⟨k,hk,rfl,l,c⟩:=hrel;have zH:=c.size;by_cases hlt:k<b.length
  ·have n:=Dr.below HD.o c;have g:=n.ord;obtain⟨og,oc,zC,_,zI⟩:=Cf g (fun e=>by injection e with _ h2 _;omega);cases zC;have N:=Yx (Zv hlt);have f:=List.getElem_mem hlt;have C:(b.map (·.sum))[k]?=some b[k].sum:=by simp[hlt]
   have a:∀j,j<8->wr.cell? (Ze og (k *8+j))=some (.int .u8 (kB b[k].sum j)):=fun j q=>(g.cellAt _ (by omega)).trans (ED C q);have A:=a 0 (by omega);have U:=a 1 (by omega);have V:=a 2 (by omega);have W:=a 3 (by omega);have X:=a 4 (by omega);have Y:=a 5 (by omega);have Z:=a 6 (by omega);have zA:=a 7 (by omega);rw[Nat.add_zero]at A
   have H:=Uo base d m o t _ P L J F given ae b S Q s b[k] wr n zE zG f (O _ f).1 (O _ f).2 ((c.cell (p:=⟨o,0,none⟩) zB).trans B) ((c.cell (p:=⟨t,0,none⟩) zF).trans E);unfold Cm CO at H;have u:=Yx H;clear a C g n f H;generalize b[k]=x at *
   go_wp2_with fail;refine Calls.mono u.o ?_;rintro e w1 ⟨ok,rfl,D,T⟩;have z:=c.trans (T.mono zH);have v:=Yx D;clear D A U V W X Y Z zA u;cases ok
   ·have HA:Hid (∀j y,j<k+1->b[j]?=some y->¬s∈y.refs):=by
     intro j y q I;rcases Nat.lt_or_ge j k with K|K
     ·exact l.o j y K I
     ·obtain rfl:j=k:=by omega
      rw[N.o]at I;cases I;exact fun h=>by have:=v.o.2 h;simp at this
    go_wp2;exact⟨⟨k+1,by omega,by go_num,HA,z⟩,by simp[intOf];omega⟩
   ·go_wp2;go_ret;exact⟨_,rfl,⟨(fun _=>⟨x,Zs N.o,v.o.1 (by trivial)⟩),(fun _=>by omega)⟩,z⟩
  ·go_wp2;go_ret;refine⟨_,rfl,⟨(fun h=>by omega),(fun⟨p,hp,h⟩=> ?_)⟩,c⟩;obtain⟨j,q,rfl⟩:=List.getElem_of_mem hp;exact absurd h (l.o j _ (by omega) (Zv q))
theorem KE(base d m j n:Nat)(l:Zk)(b:Nat)(P L:Value)(o i given ae:Int)(a:List Kd)(u:List Pd)(t:List Ld)(s:Zi)(w:Zh)(c:Dr w base d m (.slice l a.length b) P L o i given ae a u t)(x:(a.map (·.sum)).Nodup)(z:∀k∈a,(k.sum.size:Int)=o)(B:IY a)(A:a.length<=600)
 (v:w.cell? (Ze j 0)=some (Yz d)) (y:w.cell? (Ze n 0)=some (.string s)):
 Calls prog 244 #[.slice l a.length b,.func (.func 245) #[] #[Yz j,Yz n]] w fun e C=>∃ok,e=.returned (.bool ok)/\(ok=true↔∃k∈a,s∈k.refs)/\Zz w C:=by
 have p:=Yx (NI base d m j n l b P L o i given ae a u t s w c x z B A v y);clear c;go_enter func244,ntmps244;go_wp2_with fail;refine Calls.mono p.o ?_;rintro e D ⟨r,rfl,g,f⟩;have q:=Yx g;clear g p;by_cases h:0<=r
 ·have c:decide ((0:Int)<=r)=true:=by simpa using h
  go_wp2;go_ret;exact⟨true,rfl,⟨(fun _=>q.o.1 h),(fun _=>rfl)⟩,f⟩
 ·have c:decide ((0:Int)<=r)=false:=by simpa using h
  go_wp2;go_ret;exact⟨false,rfl,⟨(fun e=>by cases e),(fun e=>absurd (q.o.2 e) (by omega))⟩,f⟩
theorem Sq(base d m:Nat)(O P L:Value)(j g given ae:Int)(a:List Kd)(q:List Pd)(p:List Ld)(s:Zi)(w:Zh)(i:Dr w base d m O P L j g given ae a q p)(u:(a.map (·.sum)).Nodup)(v:∀k∈a,(k.sum.size:Int)=j)(B:IY a)(A:a.length<=600):
 Calls prog 232 #[Yz d,.string s] w fun e D=>∃ok,e=.returned (.bool ok)/\(ok=true↔∃k∈a,s∈k.refs)/\Zz w D:=by
 have E:∀(fn:Fn) (first cap:Array Value) (w:Zh),(Instr.makeFunc fn first cap).run prog w=.ok (.func fn first cap) w:=fun _ _ _ _=>rfl;obtain⟨C,x,rfl⟩:=As i.ord;obtain⟨W,b⟩:∃W,W=(w.alloc (.cells #[Yz d] 141)).alloc (.cells #[.string s] 9):=⟨_,rfl⟩;have h:=(AW b).1;have z:W.cell? (Ze (w.heap.size) 0)=some (Yz d):=by rw[b];simp[go_sem]
 have o:W.cell? (Ze (w.heap.size+1) 0)=some (.string s):=by rw[b];simp[go_sem]
 have c:=i.below h;have l:=Yx (KE base d m w.heap.size (w.heap.size+1) C x P L j g given ae a q p s W c u v B A z o);obtain⟨F,_⟩:=c.box 5 _ rfl;have n:=Yx b;clear b c i o;go_enter func232,ntmps232;go_upto_region 1 with fail;rw[←n.o];clear n;go_wp2_with fail;refine Calls.mono l.o ?_;rintro e G ⟨ok,rfl,f,r⟩;have y:=Yx f;have t:=h.trans (r.mono h.size);clear f l;go_wp2;go_ret;exact⟨ok,rfl,y.o,t⟩
theorem JM(base d m:Nat)(O P L:Value)(h g given ae:Int)(a:List Kd)(f:List Pd)(c:List Ld)(s:Zi)(w:Zh)(r:Dr w base d m O P L h g given ae a f c)(u:(a.map (·.sum)).Nodup)(v:∀k∈a,(k.sum.size:Int)=h)(C:IY a)(z:a.length<=600)(B:f.length<=100)(A:c.length<=200):
 Calls prog 213 #[Yz d,.string s] w fun e D=>∃ok,e=.returned (.bool ok)/\(ok=true↔((∃p∈f,p.sum=s)∨∃l∈c,l.sum=s)∨∃k∈a,s∈k.refs)/\Zz w D:=by
 have n:=Yx r;clear r;go_enter func213,ntmps213;go_wp2_with fail;refine(QG base d m O P L h g given ae a f c s w n.o B A).mono ?_;rintro e E ⟨x,rfl,o,b⟩;have i:=Yx o;clear o;cases x
 ·go_wp2_with fail;refine(Sq base d m O P L h g given ae a f c s E (Dr.below n.o b) u v C z).mono ?_;rintro e F ⟨y,rfl,q,t⟩;have j:=Yx q;clear q;go_wp2;go_ret;exact⟨y,rfl,⟨(fun e=> .inr (j.o.1 e)),(fun e=>e.elim (fun e=>by have:=i.o.2 e;simp at this) j.o.2)⟩,b.trans (t.mono b.size)⟩
 ·go_wp2;go_ret;exact⟨true,rfl,⟨(fun _=> .inl (i.o.1 (by trivial))),(fun _=>rfl)⟩,b⟩
theorem Em(base d m:Nat)(O P L:Value)(h r given ae:Int)(a:List Kd)(u:List Pd)(t:List Ld)(s:Zi)(w:Zh)(g:Dr w base d m O P L h r given ae a u t)(p:∀k∈a,(k.sum.size:Int)=h)(q:Ax a s):
 Calls prog 201 #[Yz d,.string s] w fun e v=>e=.returned (.tuple #[])/\Zz w v:=by
 obtain⟨n,f,z,l,j⟩:=g.map;obtain⟨ok,c,b⟩:=IV h m n f a w w.heap.size s w l j.holds p;obtain rfl:=c.2 q;obtain⟨x,y⟩:=Aa.c2 g.box 0 1;have i:=Yx (b w (Below.refl _ _));clear b c g l j;go_enter func201,ntmps201;go_wp2_with fail;refine Calls.mono i.o ?_;rintro e A ⟨rfl,o⟩;clear i;go_wp2
 go_end0
 exact⟨rfl,o⟩
end
structure Tn (V:List Nat) (w w':Zh):Prop where
 os:w'.os=w.os
 tape:w'.tape=w.tape
 output:w'.output=w.output
 size:w.heap.size<=w'.heap.size
 block:∀b,b<w.heap.size->b∉V->w'.heap[b]?=w.heap[b]?
theorem Tn.of{V:List Nat}{w a:Zh}(h:Zz w a):Tn V w a:=⟨h.os,h.tape,h.output,h.size,fun b c _=>h.block b c⟩
theorem Tn.grown{V:List Nat}{w a:Zh}{g:Nat}(h:w.grownBy a (some g))(d:g∈V):Tn V w a:=⟨h.os,h.tape,h.output,h.size,fun b c f=>h.block b c (fun e=>f (Option.some.inj e▸d))⟩
theorem Tn.set{V:List Nat}(w:Zh)(g j:Nat)(v:Value)(a:g∈V):Tn V w (w.setCell (Ze g j) v):=Tn.grown (Ay w g j v) a
theorem Tn.trans{V:List Nat}{a b c:Zh}(h:Tn V a b)(k:Tn V b c):Tn V a c:=
 ⟨k.os.trans h.os,k.tape.trans h.tape,k.output.trans h.output,Zm h.size k.size,fun q d e=>(k.block q (Zr d h.size) e).trans (h.block q d e)⟩
theorem Tn.below{V:List Nat}{w a:Zh}(h:Tn V w a){B:Nat}(e:B<=w.heap.size)(c:∀b∈V,B<=b):Below B w a:=⟨h.os,h.tape,h.output,h.size,fun b f=>h.block b (by omega) (fun d=>by have:=c b d;omega)⟩
theorem Tn.mono{V V':List Nat}{w a:Zh}(h:Tn V w a)(c:∀b∈V,b∈V'):Tn V' w a:=⟨h.os,h.tape,h.output,h.size,fun b d f=>h.block b d (fun e=>f (c b e))⟩
theorem AV.same{w a:Zh}{K:TypeId}{b n:Nat}{f:Lit->Option Value}(h:AV w K b n f)(i:a.heap[b]?=w.heap[b]?):AV a K b n f:=by obtain⟨D,⟨c,clock,d,e⟩,g⟩:=h;exact⟨D,⟨c,clock,i.trans d,e⟩,g⟩
theorem De.an{w j:Zh}{base:Nat}{V:List Nat}{a:Zk}{g:Zl}(h:De w base V a g)(e:Tn V w j):De j base V a g:=by
 rcases h with h|⟨b,c,k,d,f,n,l⟩
 ·exact .inl h
 ·exact .inr ⟨b,c,k,Zr d e.size,f,(by rw[e.block b d f];exact n),fun i s m=>(World.cell?_of_block (a:=⟨b,c+i,none⟩) (e.block b d f)).trans (l i s m)⟩
theorem KF{P:Program}{w:Zh}{b:Array Oper}{o:Oper}{a:Act}{K:Act->Zh->Prop}{Q:Exit->Act->Zh->Prop}{E:Prop}(e:o.guard=none)(s x:Operand)(t u:TypeId)
 (f:o.op=.call {callee:=.builtin .delete,args:= #[s,x],argTypes:= #[t,u]}) {v d:Value} {c:Zh} (i:a.eval s=v) (k:a.eval x=d)
 (g:(Builtin.delete_ #[t,u] o.type #[v,d]).run P w=.ok (.tuple #[]) c) (h:K (a.put o.dst (.tuple #[])) c):
 if Region.wanted o (yielded b a.tmps)=true then Oper.wp P o a w K Q else E:=by
 have j:Region.wanted o (yielded b a.tmps)=true:=by simp[Region.wanted,e]
 rw[if_pos j];unfold Oper.wp execOp;simp only[f,resolve,invoke,builtin,Sem.run_bind,Sem.run_pure,Result.andThen_ok,List.map_toArray,List.map_cons,List.map_nil,i,k,g];exact h
def EE(ks:List Kd)(s:Zi):List Kd:=ks.filter (fun k=> !decide (k.sum=s))
theorem OU{b:List Kd}(a:(b.map (·.sum)).Nodup){i:Nat}{k:Kd}(c:b[i]?=some k):EE b k.sum=b.eraseIdx i:=by
 induction b generalizing i with
 |nil=>simp at c
 |cons x xs ih=>
  simp only[List.map_cons,List.nodup_cons,List.mem_map,not_exists,not_and]at a;cases i with
  |zero=>simp at c;subst c;unfold EE;simp only[List.filter_cons,decide_true,Bool.not_true,Bool.false_eq_true,if_false,List.eraseIdx_zero,List.tail_cons];exact List.filter_eq_self.2 (fun y h=>by simpa using a.1 y h)
  |succ i=>
   have d:xs[i]?=some k:=by simpa using c
   have g:=Zs d;have f:¬x.sum=k.sum:=fun e=>a.1 k g e.symm;have:=ih a.2 d;unfold EE at *
   simp[f,this]
theorem Sr{f:Zl}{s:Zi}{i:Nat}(h:Fi f s i)(o:s∈f)(c:f.Pairwise (fun a b=>less a b=true)):f[i]?=some s:=by
 obtain⟨j,d⟩:=List.getElem?_of_mem o;have n:=(Zw d).1;rcases Nat.lt_or_ge j i with k|k
 ·have:=h.lo j s k d;rw[Ch]at this;cases this
 ·rcases Nat.lt_or_ge i j with g|g
  ·have l:=List.pairwise_iff_getElem.1 c i j (by omega) n g;have m:=h.hi i _ (Zx) (Zv (by omega));obtain⟨_,e⟩:=Zw d;rw[e]at l;rw[l]at m;cases m
  ·obtain rfl:j=i:=by omega
   exact d
structure Fa (wd:Int) (ks:List Kd):Prop where
 nd:(ks.map (·.sum)).Nodup
 dg:(ks.map (·.sum)).Pairwise (fun a b=>less a b=true)
 sz:∀k∈ks,(k.sum.size:Int)=wd
 refs:IY ks
 len:ks.length<=600
 w8:wd<=8
theorem BQ.drop{w g:Zh}{base:Nat}{V:List Nat}{c:Int}{d:List Kd}{f:Lit->Option Value}(h:BQ w base V c d f)(p:Tn V w g){s:Zi}(x:(s.size:Int)=c)(v:c<=8):BQ g base V c (EE d s) (ers f (keyL s)):=by
 intro t j;by_cases hts:t=s
 ·subst hts;exact .inl ⟨by simp[ers],fun⟨u,b,a⟩=>by simp[EE,a]at b⟩
 ·have i:keyL t≠keyL s:=fun e=>hts (key_inj e (by omega) (by omega));have m:ers f (keyL s) (keyL t)=f (keyL t):=by simp[ers,i]
  rw[m];rcases h t j with⟨k,l⟩|⟨u,q,r,b,a,n,o⟩
  ·exact .inl ⟨k,fun⟨u,b,a⟩=>l ⟨u,(List.mem_filter.1 b).1,a⟩⟩
  ·exact .inr ⟨u,q,r,List.mem_filter.2 ⟨b,by simp[a,hts]⟩,a,n,o.an p⟩
theorem Dr.apart{w z:Zh}{base d m:Nat}{O P L:Value}{E q given ae:Int}{B:List Kd}{D:List Pd}{C:List Ld}(h:Dr w base d m O P L E q given ae B D C){R:Nat}(v:Tn [R] w z)(X:base<=R)(M:R∉vB d m O P L)(t:∀l H,w.heap[R]?≠some (.cells l 9 H)):Dr z base d m O P L E q given ae B D C:=by
 obtain⟨n,f,J,A,K⟩:=h.map;have j:∀b,b<w.heap.size->b∈vB d m O P L->z.heap[b]?=w.heap[b]?:=fun b o x=>v.block b o (fun e=>M (by simp at e;exact e▸x))
 refine⟨Aa.same h.box (j d h.box.lt (by simp[vB])),⟨n,f,J,AV.same A (j m A.lt (by simp[vB])),?_⟩,Ai h.ord (fun g c=>j g (Ac h.ord c).2 (by simp[vB,c])),Ai h.ci (fun g c=>j g (Ac h.ci c).2 (by simp[vB,c])),Ai h.ck (fun g c=>j g (Ac h.ck c).2 (by simp[vB,c])),h.bd,h.bm,h.ap⟩;intro s G;rcases K s G with I|⟨u,V,W,S,T,U,y⟩
 ·exact .inl I
 ·refine .inr ⟨u,V,W,S,T,U,?_⟩;rcases y with y|⟨b,r,N,o,x,k,Q⟩
  ·exact .inl y
  ·have F:b≠R:=by
    rcases k with k|⟨_,l,k⟩
    ·omega
    ·exact fun e=>t l _ (e▸k)
   have p:=v.block b o (by simpa using F);exact .inr ⟨b,r,N,Zr o v.size,x,(by rw[p];exact k),fun i s t=>(World.cell?_of_block (a:=⟨b,r+i,none⟩) p).trans (Q i s t)⟩
theorem Up(base d m:Nat)(O P L:Value)(M C given ae:Int)(h:List Kd)(K:List Pd)(J:List Ld)(s:Zi)(w:Zh)(hd:Dr w base d m O P L M C given ae h K J)(j:Fa M h)(hp:K.length<=100)(hl:J.length<=200)(zC:Ax h s)(N:¬(((∃p∈K,p.sum=s)∨∃l∈J,l.sum=s)∨∃k∈h,s∈k.refs)):
 Calls prog 179 #[Yz d,.string s] w fun e w'=>e=.returned (.tuple #[])/\∃O',Dr w' base d m O' P L M C given ae (EE h s) K J/\O'.ownBlock=O.ownBlock/\Tn (vB d m O P L) w w':=by
 obtain⟨k0,I,Z⟩:=zC;have zC:Ax h s:=⟨k0,I,Z⟩;have zY:=Z▸j.sz k0 I;have hlen:=List.length_pos_of_mem I;obtain⟨g,y,rfl,yA,yB⟩:=Cf hd.ord (fun e=>by have:=As hd.ord;obtain⟨a,c,e'⟩:=this;rw[e']at e;injection e with _ h2 _;omega);have HD:=Yx hd;clear hd;go_enter func179,ntmps179;go_wp2_with fail;refine(Em base d m _ P L M C given ae h K J s w HD.o j.sz zC).mono ?_;rintro e w1 ⟨rfl,z⟩
 have S:=Yx (Dr.below HD.o z);go_wp2_with fail;refine(JM base d m _ P L M C given ae h K J s w1 S.o j.nd j.sz j.refs j.len hp hl).mono ?_;rintro e w2 ⟨ok,rfl,D,B⟩;obtain rfl:ok=false:=by
  cases ok with
  |false=>rfl
  |true=>exact absurd (D.1 rfl) N
 have zF:=Yx (Dr.below S.o B);clear D S;go_wp2_with fail;refine(Lt s w2).mono ?_;rintro e u ⟨rfl,H⟩;obtain⟨F,G⟩:∃W,W=u.alloc (.cells (Yw (kB s)) 190):=⟨_,rfl⟩;have zJ:=(AG G).1;have k4:Aa F u.heap.size (Am s):=by rw[G];exact Aa.new u (Am s) 190
 have B4:=((z.trans (B.mono z.size)).trans (H.mono (Zm z.size B.size))).trans (zJ.mono (Zm (Zm z.size B.size) H.size));have o:=Yx (Dr.below (Dr.below zF.o H) zJ);have zH:=Yx G;clear G zF;go_upto_region 4 with fail;rw[←zH.o];clear zH;obtain⟨n,f,hn,hM,hH⟩:=o.o.map;obtain⟨w5,zB,zK,zN⟩:=(hM.aj (Below.refl F.heap.size F).drew hM.lt).del keyed underlying152 (EC s) 0;have zZ:=o.o.box.lt;have q:=o.o.ap
 have zM:d≠m:=by intro e;unfold vB at q;simp[e]at q
 have U:d≠g/\m≠g:=by unfold vB at q;simp[Value.ownBlock]at q;omega
 have yD:=(HD.o.map.choose_spec.choose_spec.2.1).lt;have yE:=Zm (Zm z.size B.size) H.size;have r:=CY zN;have k5:=Aa.cw (v:=.int .u8 (kB s 0)) k4 r (by omega);have x5:=Aa.cw o.o.box r (fun e=>zM e.symm);have P4:F.drew.cell? (Ze d 1)=some (.map (some m))/\_:=⟨(o.o.box 1 _ rfl).1,GM (w:=F.drew) k4⟩;have P5:w5.cell? (Ze d 1)=some (.map (some m))/\_:=⟨(x5 1 _ rfl).1,GM k5⟩;unfold Cm CO at zB
 go_region_held3 (fun X=>X.cell? (Ze d 1)=some (.map (some m))/\(X.cell? (Ze (u.heap.size) 0)=some (.int .u8 (kB s 0))/\X.cell? (Ze (u.heap.size) 1)=some (.int .u8 (kB s 1))/\X.cell? (Ze (u.heap.size) 2)=some (.int .u8 (kB s 2))/\X.cell? (Ze (u.heap.size) 3)=some (.int .u8 (kB s 3))/\X.cell? (Ze (u.heap.size) 4)=some (.int .u8 (kB s 4))/\X.cell? (Ze (u.heap.size) 5)=some (.int .u8 (kB s 5))/\X.cell? (Ze (u.heap.size) 6)=some (.int .u8 (kB s 6))/\X.cell? (Ze (u.heap.size) 7)=some (.int .u8 (kB s 7))))
  (first|with_reducible exact P4|with_reducible exact P5)
  (first|(refine KF (by rfl) (.tmp 21) (.tmp 22) 152 190 (by rfl) (by rfl) (by rfl) zB ?_))
 have zA:=World.ownsRow.kept o.o.ord r (.inr (fun e=>U.2 (Option.some.inj e).symm));have HP:=Sp base d m g y P L M C given ae h s w5 x5 zA j.len (by have:=j.w8;omega) (fun x hx=>by have:=j.sz x hx;omega) j.dg;obtain⟨q0,q1,q2,q3,q4,q5,q6,q7⟩:=GM k5;have HQ:=Yx HP;unfold Cm CO at HQ;have zI:=Yx (Zn x5 zA);have Q:=Yx (Zn zK (Zn r hH));clear HP P4 P5 zB zK zN r x5 zA k4 k5 hM;go_wp2_with fail
 refine Calls.mono HQ.o ?_;rintro e w6 ⟨i,rfl,zU,T⟩;have Y:=Sr zU (List.mem_map.2 ⟨k0,I,Z⟩) j.dg;have yC:=j.len;have zO:i<h.length:=by have:=(Zw Y).1;simpa using this
 have x6:=Aa.below zI.o.1 T;obtain⟨y5,f5⟩:=x6 5 _ rfl;have zS:w6.ownsRow base 190 8 (Za g (h.map (·.sum)).length y) (h.map (·.sum)).length (AA (h.map (·.sum))):=by rw[List.length_map];exact Ae zI.o.2 T
 have A:=MD g y i (h.map (·.sum)) w6 base zS (by rw[List.length_map];exact j.len) (by rw[List.length_map];exact zO);rw[List.length_map]at A;have zG:=Yx A;have R:=Yx (Zn Y (Zn x6 T));clear zU Y x6 A zS HQ q0 q1 q2 q3 q4 q5 q6 q7;go_wp2_with fail;refine Calls.mono zG.o ?_;rintro e w7 ⟨rfl,zT,V⟩;have x7:=Aa.cw R.o.2.1 V (fun e=>U.1 e.symm);obtain⟨y7,f7⟩:=x7 5 _ rfl;have H7:=Yx (Zn x7 (Zn zT V))
 clear x7 zT V y5 f5 zG;go_wp2
 go_end0
 have T3:Tn [d,m,g] F (w7.setCell (Ze d 5) (Za g (h.length -1) y)):=
  (((Tn.grown Q.o.2.1 (by simp)).trans (Tn.of R.o.2.2)).trans (Tn.grown H7.o.2.2 (by simp))).trans (Tn.set w7 d 5 _ (by simp))
 have E:∀b∈[d,m,g],b∈vB d m (Za g h.length y) P L:=by intro b t;simp at t;unfold vB;rcases t with rfl|rfl|rfl<;>simp[Value.ownBlock]
 have zR:∀v:Value,(v=P∨v=L)->∀b,v.ownBlock=some b->b∉[d,m,g]:=by
  intro v hv b t zP;unfold vB at q;rcases hv with rfl|rfl
  ·simp only[List.nodup_cons,List.mem_cons,List.mem_append,Option.mem_toList,t]at q;simp[Value.ownBlock]at q zP
   grind
  ·simp only[List.nodup_cons,List.mem_cons,List.mem_append,Option.mem_toList,t]at q;simp[Value.ownBlock]at q zP
   grind
 have zW:∃k,h[i]?=some k/\k.sum=s:=by
  have:=R.o.1;rw[List.getElem?_map]at this;cases hk:h[i]? with
  |none=>rw[hk]at this;cases this
  |some k=>rw[hk]at this;exact⟨k,rfl,by simpa using this⟩
 obtain⟨ki,zX,zE⟩:=zW;have zV:=zE▸OU j.nd zX;refine⟨rfl,Za g (h.length -1) y,⟨Aa.set H7.o.1 5 _,⟨n,ers f (keyL s),hn,?_,?_⟩,?_,?_,?_,o.o.bd,o.o.bm,q⟩,rfl,(Tn.of B4).trans (T3.mono E)⟩
 ·refine AV.same (AV.same (Q.o.1.aj R.o.2.2 Q.o.1.lt) (H7.o.2.2.block m (Zr Q.o.1.lt R.o.2.2.size) (fun e=>U.2 (Option.some.inj e)))) ?_;exact Below.heap_setCell _ _ _ _ (fun e=>zM e.symm)
 ·exact BQ.drop Q.o.2.2 (T3.mono E) zY j.w8
 ·rw[zV];have h1:(h.eraseIdx i).length=h.length -1:=by rw[List.length_eraseIdx,if_pos zO]
  rw[h1];have h2:(h.eraseIdx i).map (·.sum)=(h.map (·.sum)).eraseIdx i:=by simp[List.eraseIdx_eq_take_drop_succ]
  rw[h2];exact Bk H7.o.2.1 (fun b t=>by simp[Value.ownBlock]at t;omega) 5 _
 ·exact Ai o.o.ci (fun b t=>T3.block b (Ac o.o.ci t).2 (zR P (.inl rfl) b t))
 ·exact Ai o.o.ck (fun b t=>T3.block b (Ac o.o.ck t).2 (zR L (.inr rfl) b t))
theorem Dr.cg{w:Zh}{base d m:Nat}{O P L:Value}{i e given ae:Int}{f:List Kd}{h:List Pd}{g:List Ld}(c:Dr w base d m O P L i e given ae f h g):∀b∈vB d m O P L,b<w.heap.size:=by
 intro b a;unfold vB at a;simp only[List.mem_cons,List.mem_append,Option.mem_toList]at a;rcases a with rfl|rfl|a|a|a
 ·exact c.box.lt
 ·exact(c.map.choose_spec.choose_spec.2.1).lt
 ·exact(Ac c.ord a).2
 ·exact(Ac c.ci a).2
 ·exact(Ac c.ck a).2
def ay(c:Int)(a b:Zi):Value:=.iface 202 (.agg #[Zg c,.string a,.string b])
theorem Ss(base d m:Nat)(O P L:Value)(j i given ae:Int)(c:List Kd)(g:List Pd)(f:List Ld)(s:Zi)(w:Zh)(r:Dr w base d m O P L j i given ae c g f)(a:Fa j c)(y:g.length<=100)(x:f.length<=200)(u:Ax c s)(n:((∃p∈g,p.sum=s)∨∃l∈f,l.sum=s)∨∃k∈c,s∈k.refs):
 Calls prog 179 #[Yz d,.string s] w fun e z=>e=.panicked [{v:=ay 6 ⟨#[]⟩ ⟨#[]⟩,recovered:=false}]/\Zz w z:=by
 have q:=Yx r;clear r;go_enter func179,ntmps179;go_wp2_with fail;refine(Em base d m O P L j i given ae c g f s w q.o a.sz u).mono ?_;rintro e A ⟨rfl,h⟩;have o:=Yx (Dr.below q.o h);go_wp2_with fail;refine(JM base d m O P L j i given ae c g f s A o.o a.nd a.sz a.refs a.len y x).mono ?_;rintro e B ⟨ok,rfl,b,t⟩;obtain rfl:=b.2 n;clear b o;go_wp2;exact⟨rfl,rfl,h.trans (t.mono h.size)⟩
def z12:Zj:=[Zf,Zf,Zf,Zf,Zf,Zc,Zc,Zc,Zd,Zf,Zd,Zd]
theorem AT{w:Zh}{b:Nat}(h:Aa w b z12):(w.cell? (Ze b 0)=some Zf/\w.frozen? ⟨b,0,none⟩=false)/\(w.cell? (Ze b 1)=some Zf/\w.frozen? ⟨b,1,none⟩=false)/\(w.cell? (Ze b 2)=some Zf/\w.frozen? ⟨b,2,none⟩=false)/\(w.cell? (Ze b 3)=some Zf/\w.frozen? ⟨b,3,none⟩=false)/\(w.cell? (Ze b 4)=some Zf/\w.frozen? ⟨b,4,none⟩=false)/\(w.cell? (Ze b 5)=some Zc/\w.frozen? ⟨b,5,none⟩=false)/\(w.cell? (Ze b 6)=some Zc/\w.frozen? ⟨b,6,none⟩=false)/\(w.cell? (Ze b 7)=some Zc/\w.frozen? ⟨b,7,none⟩=false)/\(w.cell? (Ze b 8)=some Zd/\w.frozen? ⟨b,8,none⟩=false)/\(w.cell? (Ze b 9)=some Zf/\w.frozen? ⟨b,9,none⟩=false)/\(w.cell? (Ze b 10)=some Zd/\w.frozen? ⟨b,10,none⟩=false)/\(w.cell? (Ze b 11)=some Zd/\w.frozen? ⟨b,11,none⟩=false):=
 ⟨h 0 _ rfl,h 1 _ rfl,h 2 _ rfl,h 3 _ rfl,h 4 _ rfl,h 5 _ rfl,h 6 _ rfl,h 7 _ rfl,h 8 _ rfl,h 9 _ rfl,h 10 _ rfl,h 11 _ rfl⟩
theorem Bh(w:Zh)(R:Nat)(c d e f g i k l m n a b:Value):Tn [R] w ((((((((((((w.setCell (Ze R 0) c).setCell (Ze R 1) d).setCell (Ze R 2) e).setCell (Ze R 3) f).setCell (Ze R 4) g).setCell (Ze R 5) i).setCell (Ze R 6) k).setCell (Ze R 7) l).setCell (Ze R 8) m).setCell (Ze R 9) n).setCell (Ze R 10) a).setCell (Ze R 11) b):=
 have h:∀(x:Zh) (j:Nat) (v:Value),Tn [R] x (x.setCell (Ze R j) v):=fun x j v=>Tn.set x R j v (by simp)
 (((((((((((h w 0 c).trans (h _ 1 d)).trans (h _ 2 e)).trans (h _ 3 f)).trans (h _ 4 g)).trans (h _ 5 i)).trans (h _ 6 k)).trans (h _ 7 l)).trans (h _ 8 m)).trans (h _ 9 n)).trans (h _ 10 a)).trans (h _ 11 b)
theorem Tn.fresh{V:List Nat}{w f e:Zh}{R:Nat}(a:Tn V w f)(c:Tn [R] f e)(h:w.heap.size<=R):Tn V w e:=
 ⟨c.os.trans a.os,c.tape.trans a.tape,c.output.trans a.output,Zm a.size c.size,fun b d g=>(c.block b (Zr d a.size) (by simp;omega)).trans (a.block b d g)⟩
theorem QH(p:Addr)(w:Zh):
 CallsD prog 144 #[.pointer (some p)] .returning w fun e b c=>e=.returned (.tuple #[])/\b=.returning/\c=w:=by
 have a:∀w:Zh,(binOp BinOp.eql 20 .nilIface .nilIface).run prog w=.ok (.bool true) w:=fun _=>by kernel_rfl
 refine callsD_of_wpS func144 rfl fun c₀ cs hu=> ?_;apply wpS_seq;apply wpS_region;simp[wpOpsS,go_sem,recoverD,hu,ntmps144,Exit.thenS];refine wpS_of_wp ?_;change Code.wp prog _ _ {tmps:= #[Value.pointer (some p),undef,undef,undef,Value.nilIface,undef,undef,undef,undef,undef,undef,undef,undef,undef,undef,undef,undef],defers:=[]} w;go_wp2;cases c₀;simp_all [bodyPostS,results,results144]
theorem VE{w:Zh}{b:Nat}(h:Aa w b z12)(d e f g i j k l m n a c:Value):Aa ((((((((((((w.setCell (Ze b 0) d).setCell (Ze b 1) e).setCell (Ze b 2) f).setCell (Ze b 3) g).setCell (Ze b 4) i).setCell (Ze b 5) j).setCell (Ze b 6) k).setCell (Ze b 7) l).setCell (Ze b 8) m).setCell (Ze b 9) n).setCell (Ze b 10) a).setCell (Ze b 11) c) b [d,e,f,g,i,j,k,l,m,n,a,c]:=
 ((((((((((((h.set 0 d).set 1 e).set 2 f).set 3 g).set 4 i).set 5 j).set 6 k).set 7 l).set 8 m).set 9 n).set 10 a).set 11 c)
def BW(c:Int)(a b:Zi):Zj:=[Zg c,Zf,Zf,Zf,Zf,Zc,Zc,Zc,Zd,Zf,.string a,.string b]
theorem OV(R:Nat)(c:Int)(a b:Zi)(w:Zh)(d:Aa w R z12):
 CallsD prog 144 #[Yz R] (.panicking [{v:=ay c a b,recovered:=false}]) w fun e i f=>e=.returned (.tuple #[])/\i=.panicking [{v:=ay c a b,recovered:=true}]/\Aa f R (BW c a b)/\Tn [R] w f:=by
 have h:∀w:Zh,(binOp BinOp.eql 20 (.iface 202 (.agg #[Zg c,.string a,.string b])) .nilIface).run prog w=.ok (.bool false) w:=fun _=>by first|rfl|kernel_rfl
 have l:∀w:Zh,(Instr.typeAssert (.iface 202 (.agg #[Zg c,.string a,.string b])) 20 202 true).run prog w=.ok (.tuple #[.agg #[Zg c,.string a,.string b],.bool true]) w:=fun _=>by first|rfl|kernel_rfl
 obtain⟨⟨C,q⟩,⟨D,r⟩,⟨E,s⟩,⟨F,t⟩,⟨G,u⟩,⟨H,x⟩,⟨I,y⟩,⟨J,z⟩,⟨K,A⟩,⟨L,B⟩,⟨o,m⟩,p,n⟩:=AT d;have j:=Aa.lt (v:=Zf) d;have k:¬w.heap.size=R:=by omega
 have g:¬R=w.heap.size:=by omega
 unfold ay;refine callsD_of_wpS func144 rfl fun c₀ cs hu=> ?_;apply wpS_seq;apply wpS_region;simp[wpOpsS,go_sem,recoverD,hu,ntmps144,Exit.thenS];refine wpS_of_wp ?_;change Code.wp prog _ _ {tmps:= #[Yz R,undef,undef,undef,.iface 202 (.agg #[Zg c,.string a,.string b]),undef,undef,undef,undef,undef,undef,undef,undef,undef,undef,undef,undef],defers:=[]} w;go_wp2;simp[bodyPostS,results,results144]
 exact⟨Aa.below (v:=Zg c) (VE d _ _ _ _ _ _ _ _ _ _ _ _) (Zy),(Bh w R _ _ _ _ _ _ _ _ _ _ _ _).trans (Tn.of (Zy))⟩
theorem Holds.low{W w:Zh}{B:Nat}{b:Int}{a:List Kd}{f:Lit->Option Value}(h:Holds W B b a f)(i:Below B W w):Holds w B b a f:=by
 intro s j;rcases h s j with h|⟨u,k,l,c,d,e,g⟩
 ·exact .inl h
 ·exact .inr ⟨u,k,l,c,d,e,Ad.below g i⟩
def HU(w:Zh)(base m:Nat)(wd:Int)(ks:List Kd):Prop:=∃n f,n<=1000000/\AV w 190 m n f/\Holds w base wd ks f/\m<base+4
theorem HU.an{w e:Zh}{base m:Nat}{g:Int}{d:List Kd}{V:List Nat}(h:HU w base m g d)(c:Tn V w e)(o:base<=w.heap.size)(l:∀b∈V,base<=b)(p:m∉V):HU e base m g d:=by obtain⟨n,f,i,a,j,k⟩:=h;exact⟨n,f,i,AV.same a (c.block m a.lt p),j.low (c.below o l),k⟩
theorem En(w:Zh)(R j:Nat)(v:Value):Tn [R] w (w.setCell (Ze R j) v):=Tn.set w R j v (by simp)
theorem Ct{w c:Zh}{b:Option Nat}(a:w.grownBy c b):Tn b.toList w c:=⟨a.os,a.tape,a.output,a.size,fun k d f=>a.block k d (fun e=>f (by simp[←e]))⟩
def HN(w:Zh)(m N:Nat):Prop:=∃n f,n<=N/\AV w 190 m n f
theorem IZ(z v given ae:Int)(a p l:Zk)(ac Z Y:Nat)(c:List Kd)(r:List Pd)(o:List Ld)(w:Zh)(J:Bv w w.heap.size a p l c r o)(hk:c.length<=600)(hp:r.length<=100)(hl:o.length<=200)(yP:∀k∈c,(k.sum.size:Int)=z)(h8:z<=8):
 Calls prog 108 #[.agg (Ys z v given ae a c.length ac p r.length Z l o.length Y)] w fun e y=>∃d m O P L,e=.returned (Yz d)/\Dr y (w.heap.size+1) d m O P L z v given ae c r o/\HU y (w.heap.size+1) m z c/\(HN y m 600/\m<=w.heap.size+3)/\Zz w y:=by
 have hx:=Bg.new w z v given ae (.slice a c.length ac) (.slice p r.length Z) (.slice l o.length Y) 40;obtain⟨n,R⟩:∃W,W=w.alloc (.cells (Ys z v given ae a c.length ac p r.length Z l o.length Y) 40):=⟨_,rfl⟩;have s:=(AG R).1;have yC:=(AG R).2.1;rw[←R]at hx;have I:=Yx J;have HX:=Yx hx;have zS:=Yx R;have S0:=Sk hx
 have zZ:n.drew.cell? (Ze (w.heap.size) 0)=some (Zg z)/\n.drew.cell? (Ze (w.heap.size) 1)=some (Zg v)/\n.drew.cell? (Ze (w.heap.size) 2)=some (Zg given)/\n.drew.cell? (Ze (w.heap.size) 3)=some (Zg ae)/\n.drew.cell? (Ze (w.heap.size) 4)=some (.slice a c.length ac)/\n.drew.cell? (Ze (w.heap.size) 5)=some (.slice p r.length Z)/\n.drew.cell? (Ze (w.heap.size) 6)=some (.slice l o.length Y):=S0
 have K0:BH n.drew n.drew.heap.size a c:=BH.mono (BH.below J.k s.drew) s.size;have yK:c.length<=1048576:=by omega
 have yO:r.length<=1048576:=by omega
 have yL:o.length<=1048576:=by omega
 clear J hx R;go_enter func108,ntmps108;go_upto_region 1 with fail;rw[←zS.o];clear zS
 go_region_held3 (fun y=>y.cell? (Ze (w.heap.size) 0)=some (Zg z)/\y.cell? (Ze (w.heap.size) 1)=some (Zg v)/\y.cell? (Ze (w.heap.size) 2)=some (Zg given)/\y.cell? (Ze (w.heap.size) 3)=some (Zg ae)/\y.cell? (Ze (w.heap.size) 4)=some (.slice a c.length ac)/\y.cell? (Ze (w.heap.size) 5)=some (.slice p r.length Z)/\y.cell? (Ze (w.heap.size) 6)=some (.slice l o.length Y))
  (first|exact S3|exact S2|exact S1|exact zZ|exact Sk (Bg.below X3.o (Zy)))
  (first
  |(go_at_call 153;refine(OR z v given ae a ac (.slice p r.length Z) (.slice l o.length Y) c n.drew K0 yK yP h8).mono ?_;rintro e F ⟨m,f,rfl,hm,hM,hH,zI⟩;have V:Below n.heap.size n F:=(Below.refl n.heap.size n).drew.trans zI;have S1:=Sk (Bg.below HX.o V))
  |(go_at_call 132;refine(IU p Z r F (AS.mono (AS.below I.o.p (s.trans (V.mono s.size))) (s.trans (V.mono s.size)).size) yO).mono ?_;rintro e Q ⟨N,C,rfl,zK,U⟩;have B2:Below n.heap.size n Q:=V.trans (U.mono V.size);have S2:=Sk (Bg.below HX.o B2))
  |(go_at_call 133;refine(Ik l Y o Q (AU.mono (AU.below I.o.l (s.trans (B2.mono s.size))) (s.trans (B2.mono s.size)).size) yL).mono ?_;rintro e j ⟨M,A,rfl,zM,G⟩;have B3:Below n.heap.size n j:=B2.trans (G.mono B2.size);have X3:=Yx (Bg.below HX.o B3);have S3:=Sk X3.o))
 obtain⟨K,S⟩:∃W,W=j.alloc (.cells #[Zg z,.map (some m),Zg v,Zg given,Zg ae,Zc,.slice N r.length C,.slice M o.length A] 157):=⟨_,rfl⟩;have yW:=(AG S).2.1;have H:=(AG S).1;have Z4:=(AG S).2.2;have yQ:w.heap.size+1<=F.heap.size:=by have:=V.size;omega
 have zN:=U.size;have yR:=G.size;have yN:m<F.heap.size:=hM.lt;have B4:Below w.heap.size w K:=(s.trans (B3.mono s.size)).trans (H.mono (by omega));have zO:Hid (Below n.drew.heap.size n.drew K):=((zI.trans (U.mono (by simp;omega))).trans (G.mono (by simp;omega))).trans (H.mono (by simp;omega));have zU:=Yx (Bg.below X3.o H)
 have zB:Hid (AV K 190 m c.length f):=hM.aj (B:=F.heap.size) ((U.trans (G.mono zN)).trans (H.mono (by omega))) yN;have yF:Hid (K.ownsRow F.heap.size 137 2 (.slice N r.length C) r.length (Ab pC r)):=Ae (Ae zK G) H;have yD:Hid (K.ownsRow Q.heap.size 139 3 (.slice M o.length A) o.length (Ab lC o)):=Ae zM H
 have zC:Hid (∀g,(Value.slice N r.length C).ownBlock=some g->F.heap.size<=g/\g<Q.heap.size):=fun g u=>Ac zK u;have zA:Hid (∀g,(Value.slice M o.length A).ownBlock=some g->Q.heap.size<=g/\g<j.heap.size):=fun g u=>Ac zM u;have HH:=Yx hH;have zV:=Yx Z4;have yM:w.heap.size+1<=m/\m<=w.heap.size+3:=by have:=hm;simp at this;omega
 rw[←S];clear S S0 zZ S1 S2 S3 X3 HX V B2 B3 zI U G hM zK zM hH Z4 K0 hm;obtain⟨x0,x1,x2,x3,x4,x5,x6,x7⟩:=zU.o;go_wp2
 go_loopw [25] (fun i wr=>∃(k:Nat) (O:Value),k<=c.length/\i=Zg k/\Hid (Aa wr j.heap.size [Zg z,.map (some m),Zg v,Zg given,Zg ae,O,.slice N r.length C,.slice M o.length A])/\Hid (wr.ownsRow (j.heap.size+1) 190 8 O ((c.take k).map (·.sum)).length (AA ((c.take k).map (·.sum))))/\Below j.heap.size K wr) (fun i _=>c.length -(intOf i).toNat)
 case atStart=>exact⟨0,_,Nat.zero_le _,rfl,zV,⟨rfl,.inl ⟨rfl,rfl⟩⟩,Below.refl _ _⟩
 case round=>
  clear x0 x1 x2 x3 x4 x5 x6 x7 zV;obtain⟨k,O,yT,rfl,HZ,X,h⟩:=hrel;obtain⟨x0,x1,x2,x3,x4,x5,x6,x7⟩:=Bg.aj zU.o h (by omega);have yY:j.heap.size+1<=wr.heap.size:=by have:=h.size;omega
  by_cases hlt:k<c.length
  ·obtain⟨b,yZ,ha,hb,hc⟩:=(BH.below I.o.k (B4.trans (h.mono (by omega)))).at hlt;subst ha;have HG:Hid (c[k]?=some c[k]):=Zv hlt;obtain⟨c0,c1,c2,ra,rc,c3,_⟩:=hc k _ HG.o;have yS:b<wr.heap.size:=by omega
   have HN:Hid ((c.take (k+1)).map (·.sum)=(c.take k).map (·.sum)++[c[k].sum]):=by show _=_;rw[Zu hlt,List.map_append];rfl
   have yU:((c.take k).map (·.sum)).length<=600:=by simp;omega
   clear hc;generalize c[k]=x at *
   generalize (c.take k).map (·.sum)=Os at *
   obtain⟨D,T⟩:∃W,W=wr.alloc (.cells #[.string x.sum,Zg x.born,.string x.text,.slice ra x.refs.length rc] 131):=⟨_,rfl⟩;have yX:=(AG T).2.1;have b5:=(AG T).1;have Z5:=(AG T).2.2;have yE:=Yx X.o;have zR:=Yx (Ae X.o b5);have zF:=Yx (Aa.below HZ.o b5);have zP:Hid (Below j.heap.size K D):=h.trans (b5.mono (by omega))
   have P5:D.drew.cell? (Ze (j.heap.size) 5)=some O/\D.drew.cell? (Ze (wr.heap.size) 0)=some (.string x.sum):=⟨(zF.o 5 _ rfl).1,(Z5 0 _ rfl).1⟩;have D5:Below D.heap.size D D.drew:=(Below.refl _ _).drew;have zT:=Yx T;clear T Z5 X HZ;go_upto_region 5 with fail;rw[←zT.o];clear zT x0 x1 x2 x3 x4 x5 x6 x7 c0 c1 c2 c3;obtain⟨zG,zH⟩:=P5
   have zJ:∀g,O.ownBlock=some g->j.heap.size+1<=g/\g<wr.heap.size:=fun g u=>Ac yE.o u;have yV:wr.heap.size≠j.heap.size:=by omega
   go_region_law (first
    |(go_simp;go_at_call 154;refine(Lt x.sum D.drew).mono ?_;rintro e w6 ⟨rfl,yA⟩;have E:Below D.heap.size D w6:=D5.trans yA;have yG:w6.cell? (Ze (j.heap.size) 5)=some O:=(E.cell (p:=⟨j.heap.size,5,none⟩) (by simp;omega)).trans zG;have zW:w6.cell? (Ze (wr.heap.size) 0)=some (.string x.sum):=(E.cell (p:=⟨wr.heap.size,0,none⟩) (by simp;omega)).trans zH;have b7:Below D.heap.size D (w6.alloc (GI x.sum)):=E.alloc E.size _;have zX:(w6.alloc (GI x.sum)).cell? (Ze (j.heap.size) 5)=some O:=(b7.cell (p:=⟨j.heap.size,5,none⟩) (by simp;omega)).trans zG;have zY:(w6.alloc (GI x.sum)).cell? (Ze (wr.heap.size) 0)=some (.string x.sum):=(b7.cell (p:=⟨wr.heap.size,0,none⟩) (by simp;omega)).trans zH;have z6:=E.size;obtain⟨g8,c8,w8,hr8,ho8,hg8,ha8⟩:=ZA w6 (j.heap.size+1) O Os (Ae zR.o E) x.sum (by omega) (by omega) 155;have Z6:=Aa.below zF.o E;unfold GI at hr8 zX zY;go_wp2_with fail)
    |(refine BD (by rfl) (.tmp 33) (.tmp 37) 155 155 (by rfl) (by rfl) (by rfl) hr8 ?_;have yI:w8.cell? (Ze (wr.heap.size) 0)=some (.string x.sum):=hg8.cell zW (fun e=>by have:=(zJ _ e.symm).2;simp at this);have Z8:Aa w8 j.heap.size _:=(Aa.same Z6 (hg8.block j.heap.size (by omega) (fun e=>by have:=(zJ _ e.symm).1;omega)));have yH:=(Z8 5 _ rfl).1;have F8:=(Z8 5 _ rfl).2))
   all_goals
    have yB:Below j.heap.size K w8:=(zP.o.trans (E.mono (by omega))).grown hg8 (by omega) (fun g u=>by have:=(zJ g u).1;omega);have zE:=Yx (Zn Z8 (Zn yB ho8));clear Z8 yB ho8 hg8 hr8 Z6 E b7 yA zR zF zP zG zH yG zW zX zY yH yI F8 ha8 D5 b5;go_wp2;refine⟨⟨k+1,Za g8 (Os.length+1) c8,by omega,by go_num,?_,?_,?_⟩,by simp[intOf];omega⟩
    ·exact Aa.set zE.o.1 5 _
    ·rw[HN.o];exact ownsRow_setCell_below zE.o.2.2 (by simp<;>omega) _
    ·exact zE.o.2.1.setCell (by simp) _
  ·obtain rfl:k=c.length:=by omega
   rw[Zt (Zx)]at X;go_wp2;have yJ:(vB j.heap.size m O (.slice N r.length C) (.slice M o.length A)).Nodup:=by
    have hO:∀g,O.ownBlock=some g->j.heap.size+1<=g:=fun g u=>(Ac X.o u).1;have hP:∀g,(Value.slice N r.length C).ownBlock=some g->F.heap.size<=g/\g<Q.heap.size:=zC.o;have hL:∀g,(Value.slice M o.length A).ownBlock=some g->Q.heap.size<=g/\g<j.heap.size:=zA.o;unfold vB;generalize (Value.slice N r.length C).ownBlock=bp at *
    generalize (Value.slice M o.length A).ownBlock=bl at *
    generalize O.ownBlock=bo at *
    cases bo<;>cases bp<;>cases bl<;>simp_all<;>omega
   have hV:∀q∈vB j.heap.size m O (.slice N r.length C) (.slice M o.length A),w.heap.size+1<=q:=by
    intro q t;unfold vB at t;simp only[List.mem_cons,List.mem_append,Option.mem_toList]at t;rcases t with rfl|rfl|t|t|t
    ·omega
    ·omega
    ·have:=(Ac X.o t).1;omega
    ·have:=(zC.o _ t).1;omega
    ·have:=(zA.o _ t).1;omega
   go_ret;refine⟨_,rfl,m,⟨O,_,_,⟨HZ.o,⟨c.length,f,by omega,zB.o.aj h (by omega),?_⟩,?_,?_,?_,by omega,by omega,yJ⟩⟩,⟨c.length,f,by omega,zB.o.aj h (by omega),?hu,by omega⟩,⟨⟨c.length,f,hk,zB.o.aj h (by omega)⟩,yM.2⟩,B4.trans (h.mono (by omega))⟩
   ·have t:n.drew.heap.size=w.heap.size+1:=yC;rw[←t];exact BQ.of HH.o (zO.o.trans (h.mono (by simp;omega))) (fun q t=>by have:=hV q t;simp;omega) ⟨m,rfl,by rw[t];omega⟩
   ·have:=X.o;rw[List.length_map]at this;exact this.mono (by omega)
   ·refine World.ownsRow.mono ?_ (show w.heap.size+1<=F.heap.size by omega);exact NC yF.o h (fun g u=>by have:=(zC.o g u).2;omega)
   ·refine World.ownsRow.mono ?_ (show w.heap.size+1<=Q.heap.size by omega);exact NC yD.o h (fun g u=>by have:=(zA.o g u).2;omega)
   case hu=>
    have t:n.drew.heap.size=w.heap.size+1:=yC;rw[←t];exact Holds.low HH.o (zO.o.trans (h.mono (by simp;omega)))
end Go.Proofs.YtdgblkklkaklhaaGreatDoor
