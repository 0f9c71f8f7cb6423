import Derived.Test.YtcfjcdpkpiidkaaGreatX07
import Derived.WalkLawsBesides
import Derived.Defers
import Derived.Recover
set_option maxRecDepth 100000
set_option maxHeartbeats 16000000
namespace Go.Proofs.YtcfjcdpkpiidkaaGreat
open ChangeShapes WideShapes ChangeAt RowKit _root_.Go.Proofs.Tryz
variable{w w':Zh}{base d m g b B i R off:Nat}{V:List Nat}{wd now given births:Int}{ks:List Kd}{O P L T:Value}{ps:List Pd}{ls:List Ld}{k:Kd}{s:Zi}
section
attribute [local go_sem↓] Go.wp_at_zero Go.wp_at_succ
theorem CE.holds{f:Lit->Option Value}(h:CE w base V wd ks f):Holds w w.heap.size wd ks f:=by
 intro s g;rcases h s g with h|⟨u,i,j,a,b,c,e⟩
 .exact .inl h
 .exact .inr ⟨u,i,j,a,b,c,e.row⟩
theorem Dr.look(h:Dr w base d m O P L wd now given births ks ps ls)(i:(ks.map (·.sum)).Nodup)(o:∀k∈ks,(k.sum.size:Int)=wd)(b:k∈ks):
 ∃a c,Ab w w.heap.size a k.B/\∀X,Zz w X->(Instr.lookup 84 (.map (some m)) (BX k.sum) false).run prog X=.ok (CN k a c) X:=by
 obtain⟨n,f,v,e,r⟩:=h.map;rcases r _ (o k b)with⟨_,j⟩|⟨u,a,c,t,q,g,l⟩
 .exact absurd ⟨_,b,rfl⟩ j
 .obtain rfl:=CX i t b q;refine⟨a,c,l.row,fun X s=> ?_⟩;have:=(e.ah s e.lt).look keyed underlying84 (JW _) (Ct u.sum);rw[g]at this;exact this
theorem Tr(base d m l n:Nat)(O P L:Value)(wd now given births:Int)(ks:List Kd)(ps:List Pd)(ls:List Ld)(s:Zi)(k:Kd)(w:Zh)(E:Dr w base d m O P L wd now given births ks ps ls)(I:(ks.map (·.sum)).Nodup)(K:∀k∈ks,(k.sum.size:Int)=wd)(N:k∈ks)(Q:k.B.length<=1000)(j:k.B.Pairwise (fun a b=>less a b=true))(t:w.cell? (Zd l 0)=some (Yy d))(x:w.cell? (Zd n 0)=some (.string s)):
 Calls prog 177 #[BX k.sum,Yy l,Yy n] w fun e w'=>∃ok,e=.returned (.bool ok)/\(ok=true↔s∈k.B)/\Zz w w':=by
 obtain⟨c,f,g,o⟩:=E.look I K N;have H:=World.block_lt_of_cell? w _ t;have J:=World.block_lt_of_cell? w _ x;obtain⟨W,q⟩:=Af (w.alloc (.cells (Yk (kB k.sum)) 94));have h:=(AL q).1;have y:Aa W w.heap.size (Bj k.sum):=by rw[q];exact Aa.new w (Bj k.sum) 94
 have M:w.heap.size<W.heap.size:=Aa.lt (v:=.int .u8 (kB k.sum 0)) y;unfold BX Cu CN at o
 have HS:Hid (∀X,Zz W X->X.cell? (Zd l 0)=some (Yy d)/\X.cell? (Zd n 0)=some (.string s)/\X.cell? (Zd d 1)=some (.map (some m))/\(X.cell? (Zd (w.heap.size) 0)=some (.int .u8 (kB k.sum 0))/\X.cell? (Zd (w.heap.size) 1)=some (.int .u8 (kB k.sum 1))/\X.cell? (Zd (w.heap.size) 2)=some (.int .u8 (kB k.sum 2))/\X.cell? (Zd (w.heap.size) 3)=some (.int .u8 (kB k.sum 3))/\X.cell? (Zd (w.heap.size) 4)=some (.int .u8 (kB k.sum 4))/\X.cell? (Zd (w.heap.size) 5)=some (.int .u8 (kB k.sum 5))/\X.cell? (Zd (w.heap.size) 6)=some (.int .u8 (kB k.sum 6))/\X.cell? (Zd (w.heap.size) 7)=some (.int .u8 (kB k.sum 7)))/\(Instr.lookup 84 (.map (some m)) (.agg (Yk (kB k.sum))) false).run prog X=.ok (.agg #[.string k.sum,Zg k.born,.string k.F,.slice c k.B.length f]) X):=
  fun X D=>by have r:=h.trans (D.mono h.size);exact⟨(r.cell (p:=⟨l,0,none⟩) H).trans t,(r.cell (p:=⟨n,0,none⟩) J).trans x,(Aa.below E.box r 1 _ rfl).1,VJ (D.block _ M) y,o X r⟩
 have B:=Yw (ON c f k.B s W.drew (Ab.mono (Ab.below g h.drew) h.size) Q j);have A:Below W.heap.size W W.drew:=Ad.drew;have S:∀X:Zh,(Instr.field 65 (.agg #[.string k.sum,Zg k.born,.string k.F,.slice c k.B.length f]) 2).run prog X=.ok (.agg #[.string k.F,.slice c k.B.length f]) X:=fun _=>by kernel_rfl
 have T:∀X:Zh,(Instr.field 63 (.agg #[.string k.F,.slice c k.B.length f]) 1).run prog X=.ok (.slice c k.B.length f) X:=fun _=>by kernel_rfl
 have C:=Yw q;clear q y o g;unfold BX Cu;go_enter func177,ntmps177;go_upto_region 1 with fail;rw[<-C.o];clear C
 go_region_held3 (fun X=>X.cell? (Zd l 0)=some (Yy d)/\X.cell? (Zd n 0)=some (.string s)/\X.cell? (Zd d 1)=some (.map (some m))/\(X.cell? (Zd (w.heap.size) 0)=some (.int .u8 (kB k.sum 0))/\X.cell? (Zd (w.heap.size) 1)=some (.int .u8 (kB k.sum 1))/\X.cell? (Zd (w.heap.size) 2)=some (.int .u8 (kB k.sum 2))/\X.cell? (Zd (w.heap.size) 3)=some (.int .u8 (kB k.sum 3))/\X.cell? (Zd (w.heap.size) 4)=some (.int .u8 (kB k.sum 4))/\X.cell? (Zd (w.heap.size) 5)=some (.int .u8 (kB k.sum 5))/\X.cell? (Zd (w.heap.size) 6)=some (.int .u8 (kB k.sum 6))/\X.cell? (Zd (w.heap.size) 7)=some (.int .u8 (kB k.sum 7)))/\(Instr.lookup 84 (.map (some m)) (.agg (Yk (kB k.sum))) false).run prog X=.ok (.agg #[.string k.sum,Zg k.born,.string k.F,.slice c k.B.length f]) X)
  (first|with_reducible exact HS.o _ A|with_reducible exact HS.o _ z)
  (first|(go_at_call 178;refine B.Am ?_;rintro e R ⟨i,ok,rfl,u,G⟩;have F:=Yw u;clear u;have z:Below W.heap.size W R:=CG G))
 all_goals
  clear HS B A;go_wp2;go_ret;exact⟨ok,rfl,F.o,h.trans (z.mono h.size)⟩
def IU(ks:List Kd):Prop:=∀k∈ks,k.B.length<=1000/\k.B.Pairwise (fun a b=>less a b=true)
theorem Ny(base d m n q:Nat)(M:Zk)(E:Nat)(P L:Value)(wd now given births:Int)(ks:List Kd)(ps:List Pd)(ls:List Ld)(s:Zi)(w:Zh)(I:Dr w base d m (.slice M ks.length E) P L wd now given births ks ps ls)(Z:(ks.map (·.sum)).Nodup)(zB:∀k∈ks,(k.sum.size:Int)=wd)(K:IU ks)(hl:ks.length<=600)(A:w.cell? (Zd n 0)=some (Yy d))(D:w.cell? (Zd q 0)=some (.string s)):
 Calls prog 183 #[.slice M ks.length E,.func (.func 177) #[] #[Yy n,Yy q]] w fun e w'=>∃r:Int,e=.returned (Zg r)/\(0<=r↔∃k∈ks,s∈k.B)/\Zz w w':=by
 have X:=World.block_lt_of_cell? w _ A;have zA:=World.block_lt_of_cell? w _ D;have HD:=Yw I;clear I;go_enter func183,ntmps183;go_wp2
 go_loopw [8] (fun i wr=>∃k:Nat,k<=ks.length/\i=Zg k/\Hid (∀j x,j<k->ks[j]?=some x->¬s∈x.B)/\Zz w wr) (fun i _=>ks.length -(intOf i).toNat)
 case atStart=>exact⟨0,Nat.zero_le _,rfl,(fun j x h=>by omega),Ad⟩
 case round=>
  obtain⟨k,hk,rfl,g,b⟩:=hrel;have zC:=b.size;by_cases hlt:k<ks.length
  .have l:=Dr.below HD.o b;have f:=l.ord;obtain⟨og,oc,Y,_,zE⟩:=Bq f (fun e=>by injection e with _ h2 _;omega);cases Y;have J:=Yw (Zv hlt);have c:=List.getElem_mem hlt;have B:(ks.map (·.sum))[k]?=some ks[k].sum:=by simp[hlt]
   have a:∀j,j<8->wr.cell? (Zd og (k *8+j))=some (.int .u8 (kB ks[k].sum j)):=fun j o=>(f.cellAt _ Yv).trans (EO B o);have z:=a 0 Yv;have Q:=a 1 Yv;have R:=a 2 Yv;have S:=a 3 Yv;have T:=a 4 Yv;have U:=a 5 Yv;have V:=a 6 Yv;have W:=a 7 Yv;rw[Nat.add_zero]at z
   have F:=Tr base d m n q _ P L wd now given births ks ps ls s ks[k] wr l Z zB c (K _ c).1 (K _ c).2 ((b.cell (p:=⟨n,0,none⟩) X).trans A) ((b.cell (p:=⟨q,0,none⟩) zA).trans D);unfold BX Cu at F;have t:=Yw F;clear a B f l c F;generalize ks[k]=x at *
   go_wp2_with fail;refine t.Am ?_;rintro e w1 ⟨ok,rfl,C,N⟩;have v:=b.trans (N.mono zC);have u:=Yw C;clear C z Q R S T U V W t;cases ok
   .have HA:Hid (∀j y,j<k+1->ks[j]?=some y->¬s∈y.B):=by
     intro j y o G;rcases Nat.lt_or_ge j k with H|H
     .exact g.o j y H G
     .obtain rfl:j=k:=Yv
      rw[J.o]at G;cases G;exact fun h=>by have:=u.o.2 h;simp at this
    go_wp2;exact⟨⟨k+1,Yv,Yn,HA,v⟩,Ys⟩
   .go_wp2;go_ret;exact⟨_,rfl,⟨(fun _=>⟨x,Zs J.o,u.o.1 (by trivial)⟩),(fun _=>by omega)⟩,v⟩
  .go_wp2;go_ret;refine⟨_,rfl,⟨(fun h=>by omega),(fun⟨p,hp,h⟩=> ?_)⟩,b⟩;obtain⟨j,o,rfl⟩:=List.getElem_of_mem hp;exact absurd h (g.o j _ Yv (Zv o))
theorem KK(base d m g j:Nat)(i:Zk)(a:Nat)(P L:Value)(wd now given births:Int)(ks:List Kd)(ps:List Pd)(ls:List Ld)(s:Zi)(w:Zh)(b:Dr w base d m (.slice i ks.length a) P L wd now given births ks ps ls)(q:(ks.map (·.sum)).Nodup)(u:∀k∈ks,(k.sum.size:Int)=wd)(x:IU ks)(v:ks.length<=600)(o:w.cell? (Zd g 0)=some (Yy d))(t:w.cell? (Zd j 0)=some (.string s)):
 Calls prog 176 #[.slice i ks.length a,.func (.func 177) #[] #[Yy g,Yy j]] w fun e w'=>∃ok,e=.returned (.bool ok)/\(ok=true↔∃k∈ks,s∈k.B)/\Zz w w':=by
 have l:=Yw (Ny base d m g j i a P L wd now given births ks ps ls s w b q u x v o t);clear b;go_enter func176,ntmps176;go_wp2_with fail;refine l.Am ?_;rintro e y ⟨r,rfl,f,c⟩;have n:=Yw f;clear f l;by_cases h:0<=r
 .have b:decide ((0:Int)<=r)=true:=by simpa using h
  go_wp2;go_ret;exact⟨true,rfl,⟨(fun _=>n.o.1 h),(fun _=>rfl)⟩,c⟩
 .have b:decide ((0:Int)<=r)=false:=by simpa using h
  go_wp2;go_ret;exact⟨false,rfl,⟨(fun e=>by cases e),(fun e=>absurd (n.o.2 e) Yv)⟩,c⟩
theorem RQ(base d m:Nat)(O P L:Value)(wd now given births:Int)(ks:List Kd)(ps:List Pd)(ls:List Ld)(s:Zi)(w:Zh)(g:Dr w base d m O P L wd now given births ks ps ls)(o:(ks.map (·.sum)).Nodup)(q:∀k∈ks,(k.sum.size:Int)=wd)(x:IU ks)(v:ks.length<=600):
 Calls prog 164 #[Yy d,.string s] w fun e w'=>∃ok,e=.returned (.bool ok)/\(ok=true↔∃k∈ks,s∈k.B)/\Zz w w':=by
 have z:∀(fn:Fn) (first cap:Array Value) (w:Zh),(Instr.makeFunc fn first cap).run prog w=.ok (.func fn first cap) w:=fun _ _ _ _=>rfl;obtain⟨y,r,rfl⟩:=As g.ord;obtain⟨W,a⟩:=Af ((w.alloc (.cells #[Yy d] 54)).alloc (.cells #[.string s] 9));have f:=(Bf a).1;have u:W.cell? (Zd (w.heap.size) 0)=some (Yy d):=by rw[a];simp[go_sem]
 have j:W.cell? (Zd (w.heap.size+1) 0)=some (.string s):=by rw[a];simp[go_sem]
 have b:=g.below f;have h:=Yw (KK base d m w.heap.size (w.heap.size+1) y r P L wd now given births ks ps ls s W b o q x v u j);obtain⟨A,_⟩:=b.box 5 _ rfl;have i:=Yw a;clear a b g j;go_enter func164,ntmps164;go_upto_region 1 with fail;rw[<-i.o];clear i;go_wp2_with fail;refine h.Am ?_;rintro e B ⟨ok,rfl,c,l⟩;have t:=Yw c;have n:=f.trans (l.mono f.size);clear c h;go_wp2;go_ret
 exact⟨ok,rfl,t.o,n⟩
theorem JH(base d m:Nat)(O P L:Value)(wd now given births:Int)(ks:List Kd)(ps:List Pd)(ls:List Ld)(s:Zi)(w:Zh)(i:Dr w base d m O P L wd now given births ks ps ls)(n:(ks.map (·.sum)).Nodup)(o:∀k∈ks,(k.sum.size:Int)=wd)(x:IU ks)(t:ks.length<=600)(v:ps.length<=100)(u:ls.length<=200):
 Calls prog 147 #[Yy d,.string s] w fun e w'=>∃ok,e=.returned (.bool ok)/\(ok=true↔((∃p∈ps,p.sum=s)\/∃l∈ls,l.sum=s)\/∃k∈ks,s∈k.B)/\Zz w w':=by
 have f:=Yw i;clear i;go_enter func147,ntmps147;go_wp2_with fail;refine(Qd base d m O P L wd now given births ks ps ls s w f.o v u).mono ?_;rintro e y ⟨q,rfl,g,a⟩;have b:=Yw g;clear g;cases q
 .go_wp2_with fail;refine(RQ base d m O P L wd now given births ks ps ls s y (Dr.below f.o a) n o x t).mono ?_;rintro e z ⟨r,rfl,h,j⟩;have c:=Yw h;clear h;go_wp2;go_ret;exact⟨r,rfl,⟨(fun e=> .inr (c.o.1 e)),(fun e=>e.elim (fun e=>by have:=b.o.2 e;simp at this) c.o.2)⟩,a.trans (j.mono a.size)⟩
 .go_wp2;go_ret;exact⟨true,rfl,⟨(fun _=> .inl (b.o.1 (by trivial))),(fun _=>rfl)⟩,a⟩
theorem Nz(base d m:Nat)(O P L:Value)(wd now given births:Int)(ks:List Kd)(ps:List Pd)(ls:List Ld)(s:Zi)(w:Zh)(c:Dr w base d m O P L wd now given births ks ps ls)(l:∀k∈ks,(k.sum.size:Int)=wd)(o:Ay ks s):
 Calls prog 136 #[Yy d,.string s] w fun e w'=>e=.returned (.tuple #[])/\Zz w w':=by
 obtain⟨n,f,t,i,h⟩:=c.map;obtain⟨ok,b,a⟩:=II wd m n f ks w w.heap.size s w i h.holds l;obtain rfl:=b.2 o;obtain⟨q,r⟩:=Aa.c2 c.box 0 1;have g:=Yw (a w Ad);clear a b c i h;go_enter func136,ntmps136;go_wp2_with fail;refine g.Am ?_;rintro e u ⟨rfl,j⟩;clear g;go_wp2
 go_end0
 exact⟨rfl,j⟩
end
structure Tn (V:List Nat) (w w':Zh):Prop where
 os:w'.os=w.os
 tape:w'.tape=w.tape
 output:w'.output=w.output
 size:w.heap.size<=w'.heap.size
 block:∀b,b<w.heap.size->b∉V->w'.heap[b]?=w.heap[b]?
theorem Tn.of(h:Zz w w'):Tn V w w':=⟨h.os,h.tape,h.output,h.size,fun b a _=>h.block b a⟩
theorem Tn.grown(h:w.grownBy w' (some g))(c:g∈V):Tn V w w':=⟨h.os,h.tape,h.output,h.size,fun b a f=>h.block b a (fun e=>f (Option.some.inj e▸c))⟩
theorem Tn.set(w:Zh)(g j:Nat)(v:Value)(a:g∈V):Tn V w (w.setCell (Zd g j) v):=Tn.grown (AY w g j v) a
theorem Tn.trans{a b c:Zh}(h:Tn V a b)(k:Tn V b c):Tn V a c:=
 ⟨k.os.trans h.os,k.tape.trans h.tape,k.output.trans h.output,Zm h.size k.size,fun q e f=>(k.block q (Zr e h.size) f).trans (h.block q e f)⟩
theorem Tn.below(h:Tn V w w')(e:B<=w.heap.size)(a:∀b∈V,B<=b):Below B w w':=⟨h.os,h.tape,h.output,h.size,fun b f=>h.block b Yv (fun c=>by have:=a b c;omega)⟩
theorem Tn.mono{V':List Nat}(h:Tn V w w')(a:∀b∈V,b∈V'):Tn V' w w':=⟨h.os,h.tape,h.output,h.size,fun b c f=>h.block b c (fun e=>f (a b e))⟩
theorem Bh.same{K:TypeId}{n:Nat}{f:Lit->Option Value}(h:Bh w K b n f)(i:w'.heap[b]?=w.heap[b]?):Bh w' K b n f:=by obtain⟨D,⟨a,clock,c,e⟩,g⟩:=h;exact⟨D,⟨a,clock,i.trans c,e⟩,g⟩
theorem Lq.J{a:Zk}{g:Zl}(h:Lq w base V a g)(e:Tn V w w'):Lq w' base V a g:=by
 rcases h with h|⟨b,off,j,c,f,n,k⟩
 .exact .inl h
 .exact .inr ⟨b,off,j,Zr c e.size,f,(by rw[e.block b c f];exact n),fun i s l=>(World.cell?_of_block (a:=⟨b,off+i,none⟩) (e.block b c f)).trans (k i s l)⟩
theorem KL{P:Program}{b:Array Oper}{o:Oper}{a:Act}{K:Act->Zh->Prop}{Q:Exit->Act->Zh->Prop}{E:Prop}(e:o.guard=none)(s x:Operand)(t u:TypeId)(f:o.op=.call {callee:=.builtin .delete,args:= #[s,x],argTypes:= #[t,u]}){v c:Value}(i:a.eval s=v)(k:a.eval x=c)(g:(Builtin.delete_ #[t,u] o.type #[v,c]).run P w=.ok (.tuple #[]) w')(h:K (a.put o.dst (.tuple #[])) w'):
 if Region.wanted o (yielded b a.tmps)=true then Oper.wp P o a w K Q else E:=by
 have j:Region.wanted o (yielded b a.tmps)=true:=by simp[Region.wanted,e]
 rw[if_pos j];unfold Oper.wp execOp;simp only[f,resolve,invoke,builtin,Sem.run_bind,Sem.run_pure,Result.andThen_ok,List.map_toArray,List.map_cons,List.map_nil,i,k,g];exact h
def Bt(ks:List Kd)(s:Zi):List Kd:=ks.filter (fun k=> !decide (k.sum=s))
theorem JI(a:(ks.map (·.sum)).Nodup)(b:ks[i]?=some k):Bt ks k.sum=ks.eraseIdx i:=by
 induction ks generalizing i with
 |nil=>simp at b
 |cons x xs ih=>
  simp only[List.map_cons,List.nodup_cons,List.mem_map,not_exists,not_and]at a;cases i with
  |zero=>simp at b;subst b;unfold Bt;simp only[List.filter_cons,decide_true,Bool.not_true,Bool.false_eq_true,if_false,List.eraseIdx_zero,List.tail_cons];exact List.filter_eq_self.2 (fun y h=>by simpa using a.1 y h)
  |succ i=>
   have c:xs[i]?=some k:=by simpa using b
   have g:=Zs c;have f:¬x.sum=k.sum:=fun e=>a.1 k g e.symm;have:=ih a.2 c;unfold Bt at *
   simp[f,this]
theorem RS{g:Zl}(h:Jp g s i)(r:s∈g)(c:g.Pairwise (fun a b=>less a b=true)):g[i]?=some s:=by
 obtain⟨j,f⟩:=List.getElem?_of_mem r;have q:=(Zw f).1;rcases Nat.lt_or_ge j i with l|l
 .have:=h.y j s l f;rw[BA]at this;cases this
 .rcases Nat.lt_or_ge i j with k|k
  .have n:=List.pairwise_iff_getElem.1 c i j Yv q k;have o:=h.hi i _ (Zx) (Zv Yv);obtain⟨_,e⟩:=Zw f;rw[e]at n;rw[n]at o;cases o
  .obtain rfl:j=i:=Yv
   exact f
structure DR (wd:Int) (ks:List Kd):Prop where
 nd:(ks.map (·.sum)).Nodup
 ct:(ks.map (·.sum)).Pairwise (fun a b=>less a b=true)
 sz:∀k∈ks,(k.sum.size:Int)=wd
 B:IU ks
 len:ks.length<=600
 w8:wd<=8
theorem CE.drop{f:Lit->Option Value}(h:CE w base V wd ks f)(o:Tn V w w')(x:(s.size:Int)=wd)(v:wd<=8):CE w' base V wd (Bt ks s) (ff f (keyL s)):=by
 intro t g;by_cases hts:t=s
 .subst hts;exact .inl ⟨by simp[ff],fun⟨u,b,a⟩=>by simp[Bt,a]at b⟩
 .have c:keyL t≠keyL s:=fun e=>hts (key_inj e Yv Yv);have k:ff f (keyL s) (keyL t)=f (keyL t):=by simp[ff,c]
  rw[k];rcases h t g with⟨i,j⟩|⟨u,q,r,b,a,l,n⟩
  .exact .inl ⟨i,fun⟨u,b,a⟩=>j ⟨u,(List.mem_filter.1 b).1,a⟩⟩
  .exact .inr ⟨u,q,r,List.mem_filter.2 ⟨b,by simp[a,hts]⟩,a,l,n.J o⟩
theorem Dr.apart(h:Dr w base d m O P L wd now given births ks ps ls)(t:Tn [R] w w')(N:base<=R)(E:R∉vB d m O P L)(r:∀l fz,w.heap[R]?≠some (.cells l 9 fz)):Dr w' base d m O P L wd now given births ks ps ls:=by
 obtain⟨n,f,C,y,D⟩:=h.map;have j:∀b,b<w.heap.size->b∈vB d m O P L->w'.heap[b]?=w.heap[b]?:=fun b o v=>t.block b o (fun e=>E (by simp at e;exact e▸v))
 refine⟨Aa.same h.box (j d h.box.lt (by simp[vB])),⟨n,f,C,Bh.same y (j m y.lt (by simp[vB])),?_⟩,Aw h.ord (fun g c=>j g (Ac h.ord c).2 (by simp[vB,c])),Aw h.cv (fun g c=>j g (Ac h.cv c).2 (by simp[vB,c])),Aw h.dz (fun g c=>j g (Ac h.dz c).2 (by simp[vB,c])),h.bd,h.bm,h.ap⟩;intro s A;rcases D s A with B|⟨u,K,M,H,I,J,x⟩
 .exact .inl B
 .refine .inr ⟨u,K,M,H,I,J,?_⟩;rcases x with x|⟨b,off,F,o,v,k,G⟩
  .exact .inl x
  .have z:b≠R:=by
    rcases k with k|⟨_,l,k⟩
    .omega
    .exact fun e=>r l _ (e▸k)
   have q:=t.block b o (by simpa using z);exact .inr ⟨b,off,F,Zr o t.size,v,(by rw[q];exact k),fun i s r=>(World.cell?_of_block (a:=⟨b,off+i,none⟩) q).trans (G i s r)⟩
def Ql(B:Nat)(wd:Int)(f:Lit->Option Value):Prop:=∀s:Zi,(s.size:Int)=wd->∀u ra rc,f (keyL s)=some (CN u ra rc)->∀p,ra=some p->u.B.length≠0->p.block<B
def DB(w:Zh)(base B d m:Nat)(O P L:Value)(wd births:Int)(ks:List Kd):Prop:=(∀g∈vB d m O P L,g<B)/\∃n f,n<=1000000+births.toNat/\Bh w 94 m n f/\CE w base (vB d m O P L) wd ks f/\Ql B wd f
theorem DB.J{U:List Nat}(h:DB w base B d m O P L wd births ks)(k:Tn U w w')(r:∀g∈U,B<=g):DB w' base B d m O P L wd births ks:=by
 obtain⟨x,n,f,E,o,F,q⟩:=h;refine⟨x,n,f,E,Bh.same o (k.block m o.lt (fun e=>by have:=r m e;have:=x m (by simp[vB]);omega)),fun s c=> ?_,q⟩;rcases F s c with D|⟨u,z,A,I,J,y,l⟩
 .exact .inl D
 .refine .inr ⟨u,z,A,I,J,y,?_⟩;rcases l with l|⟨b,off,t,v,C,H,G⟩
  .exact .inl l
  .by_cases hr:u.B.length=0
   .exact .inl (List.eq_nil_of_length_eq_zero hr)
   .have K:b<B:=q s c u z A y ⟨b,off,none⟩ t hr;have j:=k.block b v (fun e=>by have:=r b e;omega);exact .inr ⟨b,off,t,Zr v k.size,C,(by rw[j];exact H),fun i s c=>(World.cell?_of_block (a:=⟨b,off+i,none⟩) j).trans (G i s c)⟩
def VV(w w':Zh)(base d m:Nat)(O O' P L:Value)(wd births:Int)(ks:List Kd)(s:Zi):Prop:=∀B,B<=w.heap.size->DB w base B d m O P L wd births ks->DB w' base B d m O' P L wd births (Bt ks s)
theorem Ql.ff{f:Lit->Option Value}(h:Ql B wd f)(k:Lit):Ql B wd (ff f k):=by
 intro s a u b c e;refine h s a u b c ?_;unfold Proofs.YtcfjcdpkpiidkaaGreat.ff at e;split at e
 .cases e
 .exact e
theorem Ts(base d m:Nat)(O P L:Value)(wd now given births:Int)(ks:List Kd)(ps:List Pd)(ls:List Ld)(s:Zi)(w:Zh)(hd:Dr w base d m O P L wd now given births ks ps ls)(j:DR wd ks)(hp:ps.length<=100)(hl:ls.length<=200)(zC:Ay ks s)(Q:¬(((∃p∈ps,p.sum=s)\/∃l∈ls,l.sum=s)\/∃k∈ks,s∈k.B)):
 Calls prog 119 #[Yy d,.string s] w fun e w'=>e=.returned (.tuple #[])/\∃O',Dr w' base d m O' P L wd now given births (Bt ks s) ps ls/\O'.ownBlock=O.ownBlock/\Tn (vB d m O P L) w w'/\VV w w' base d m O O' P L wd births ks s:=by
 obtain⟨k0,M,zA⟩:=zC;have zC:Ay ks s:=⟨k0,M,zA⟩;have zX:=zA▸j.sz k0 M;have hlen:=List.length_pos_of_mem M;obtain⟨g,cap,rfl,yE,yF⟩:=Bq hd.ord (fun e=>by have:=As hd.ord;obtain⟨a,c,e'⟩:=this;rw[e']at e;injection e with _ h2 _;omega);have HD:=Yw hd;clear hd;go_enter func119,ntmps119;go_wp2_with fail;refine(Nz base d m _ P L wd now given births ks ps ls s w HD.o j.sz zC).mono ?_;rintro e w1 ⟨rfl,C⟩
 have T:=Yw (Dr.below HD.o C);go_wp2_with fail;refine(JH base d m _ P L wd now given births ks ps ls s w1 T.o j.nd j.sz j.B j.len hp hl).mono ?_;rintro e w2 ⟨ok,rfl,H,F⟩;obtain rfl:ok=false:=by
  cases ok with
  |false=>rfl
  |true=>exact absurd (H.1 rfl) Q
 have zG:=Yw (Dr.below T.o F);clear H T;go_wp2_with fail;refine(Po s w2).mono ?_;rintro e y ⟨rfl,K⟩;obtain⟨z,J⟩:=Af (y.alloc (.cells (Yk (kB s)) 94));have zK:=(AL J).1;have k4:Aa z y.heap.size (Bj s):=by rw[J];exact Aa.new y (Bj s) 94
 have B4:=((C.trans (F.mono C.size)).trans (K.mono (Zm C.size F.size))).trans (zK.mono (Zm (Zm C.size F.size) K.size));have o:=Yw (Dr.below (Dr.below zG.o K) zK);have zI:=Yw J;clear J zG;go_upto_region 4 with fail;rw[<-zI.o];clear zI;obtain⟨n,f,hn,hM,hH⟩:=o.o.map;obtain⟨w5,N,zZ,zO⟩:=(hM.ah (Below.refl z.heap.size z).drew hM.lt).del keyed underlying84 (Ct s) 0
 have G:∀u A,Bh z 94 m u A->Bh w5 94 m u (ff A (keyL s)):=fun u A zM=>by obtain⟨yJ,I,zE,_⟩:=(zM.ah (Below.refl z.heap.size z).drew zM.lt).del keyed underlying84 (Ct s) 0;rw[N]at I;cases I;exact zE
 have zY:=Yw hM;have yD:=o.o.box.lt;have q:=o.o.ap;have zN:d≠m:=by intro e;unfold vB at q;simp[e]at q
 have V:d≠g/\m≠g:=by unfold vB at q;simp[Value.ownBlock]at q;omega
 have yH:=(HD.o.map.choose_spec.choose_spec.2.1).lt;have yI:=Zm (Zm C.size F.size) K.size;have r:=IL zO;have k5:=Aa.au (v:=.int .u8 (kB s 0)) k4 r Yv;have x5:=Aa.au o.o.box r (fun e=>zN e.symm);have P4:z.drew.cell? (Zd d 1)=some (.map (some m))/\_:=⟨(o.o.box 1 _ rfl).1,Lu (w:=z.drew) k4⟩;have P5:w5.cell? (Zd d 1)=some (.map (some m))/\_:=⟨(x5 1 _ rfl).1,Lu k5⟩;unfold BX Cu at N
 go_region_held3 (fun X=>X.cell? (Zd d 1)=some (.map (some m))/\(X.cell? (Zd (y.heap.size) 0)=some (.int .u8 (kB s 0))/\X.cell? (Zd (y.heap.size) 1)=some (.int .u8 (kB s 1))/\X.cell? (Zd (y.heap.size) 2)=some (.int .u8 (kB s 2))/\X.cell? (Zd (y.heap.size) 3)=some (.int .u8 (kB s 3))/\X.cell? (Zd (y.heap.size) 4)=some (.int .u8 (kB s 4))/\X.cell? (Zd (y.heap.size) 5)=some (.int .u8 (kB s 5))/\X.cell? (Zd (y.heap.size) 6)=some (.int .u8 (kB s 6))/\X.cell? (Zd (y.heap.size) 7)=some (.int .u8 (kB s 7))))
  (first|with_reducible exact P4|with_reducible exact P5)
  (first|(refine KL Yp (.tmp 21) (.tmp 22) 84 94 Yp Yp Yp N ?_))
 have zB:=World.ownsRow.kept o.o.ord r (.inr (fun e=>V.2 (Option.some.inj e).symm));have HP:=RM base d m g cap P L wd now given births ks s w5 x5 zB j.len (by have:=j.w8;omega) (fun x hx=>by have:=j.sz x hx;omega) j.ct;obtain⟨q0,q1,q2,q3,q4,q5,q6,q7⟩:=Lu k5;have HQ:=Yw HP;unfold BX Cu at HQ;have zJ:=Yw (Zn x5 zB);have H5:=Yw (Zn G (Zn r hH));clear HP P4 P5 N zZ zO r x5 zB k4 k5 hM G
 go_wp2_with fail;refine HQ.Am ?_;rintro e w6 ⟨i,rfl,zW,U⟩;have Z:=RS zW (List.mem_map.2 ⟨k0,M,zA⟩) j.ct;have yG:=j.len;have zP:i<ks.length:=by have:=(Zw Z).1;simpa using this
 have x6:=Aa.below zJ.o.1 U;obtain⟨y5,f5⟩:=x6 5 _ rfl;have zU:w6.ownsRow base 94 8 (Yz g (ks.map (·.sum)).length cap) (ks.map (·.sum)).length (Bk (ks.map (·.sum))):=by rw[List.length_map];exact Al zJ.o.2 U
 have D:=MF g cap i (ks.map (·.sum)) w6 base zU (by rw[List.length_map];exact j.len) (by rw[List.length_map];exact zP);rw[List.length_map]at D;have zH:=Yw D;have R:=Yw (Zn Z (Zn x6 U));clear zW Z x6 D zU HQ q0 q1 q2 q3 q4 q5 q6 q7;go_wp2_with fail;refine zH.Am ?_;rintro e w7 ⟨rfl,zV,Y⟩;have x7:=Aa.au R.o.2.1 Y (fun e=>V.1 e.symm);obtain⟨y7,f7⟩:=x7 5 _ rfl;have H7:=Yw (Zn x7 (Zn zV Y))
 clear x7 zV Y y5 f5 zH;go_wp2
 go_end0
 have S:Tn [d,m,g] z (w7.setCell (Zd d 5) (Yz g (ks.length -1) cap)):=
  (((Tn.grown H5.o.2.1 Yu).trans (Tn.of R.o.2.2)).trans (Tn.grown H7.o.2.2 Yu)).trans (Tn.set w7 d 5 _ Yu)
 have E:∀b∈[d,m,g],b∈vB d m (Yz g ks.length cap) P L:=by intro b t;simp at t;unfold vB;rcases t with rfl|rfl|rfl<;>simp[Value.ownBlock]
 have zT:∀v:Value,(v=P\/v=L)->∀b,v.ownBlock=some b->b∉[d,m,g]:=by
  intro v hv b t zR;unfold vB at q;rcases hv with rfl|rfl
  .simp only[List.nodup_cons,List.mem_cons,List.mem_append,Option.mem_toList,t]at q;simp[Value.ownBlock]at q zR
   grind
  .simp only[List.nodup_cons,List.mem_cons,List.mem_append,Option.mem_toList,t]at q;simp[Value.ownBlock]at q zR
   grind
 have yB:∃k,ks[i]?=some k/\k.sum=s:=by
  have:=R.o.1;rw[List.getElem?_map]at this;cases hk:ks[i]? with
  |none=>rw[hk]at this;cases this
  |some k=>rw[hk]at this;exact⟨k,rfl,by simpa using this⟩
 obtain⟨ki,yC,zF⟩:=yB;have yA:=zF▸JI j.nd yC;have zS:∀u A,Bh z 94 m u A->Bh (w7.setCell (Zd d 5) (Yz g (ks.length -1) cap)) 94 m u (ff A (keyL s)):=fun u A h=>by have h5:=H5.o.1 u A h;refine Bh.same (Bh.same (h5.ah R.o.2.2 h5.lt) (H7.o.2.2.block m (Zr h5.lt R.o.2.2.size) (fun e=>V.2 (Option.some.inj e)))) ?_;exact Below.heap_setCell _ _ _ _ (fun e=>zN e.symm)
 refine⟨rfl,Yz g (ks.length -1) cap,⟨Aa.set H7.o.1 5 _,⟨n,ff f (keyL s),hn,zS n f zY.o,?_⟩,?_,?_,?_,o.o.bd,o.o.bm,q⟩,rfl,(Tn.of B4).trans (S.mono E),fun B _ ⟨hv,u,A,h0,h1,h2,h3⟩=>⟨hv,u,_,h0,zS u A (h1.ah B4 h1.lt),CE.drop (h2.below B4) (S.mono E) zX j.w8,h3.ff _⟩⟩
 .exact CE.drop H5.o.2.2 (S.mono E) zX j.w8
 .rw[yA];have h1:(ks.eraseIdx i).length=ks.length -1:=by rw[List.length_eraseIdx,if_pos zP]
  rw[h1];have h2:(ks.eraseIdx i).map (·.sum)=(ks.map (·.sum)).eraseIdx i:=by simp[List.eraseIdx_eq_take_drop_succ]
  rw[h2];exact BW H7.o.2.1 (fun b t=>by simp[Value.ownBlock]at t;omega) 5 _
 .exact Aw o.o.cv (fun b t=>S.block b (Ac o.o.cv t).2 (zT P (.inl rfl) b t))
 .exact Aw o.o.dz (fun b t=>S.block b (Ac o.o.dz t).2 (zT L (.inr rfl) b t))
theorem Dr.co(c:Dr w base d m O P L wd now given births ks ps ls):∀b∈vB d m O P L,b<w.heap.size:=by
 intro b a;unfold vB at a;simp only[List.mem_cons,List.mem_append,Option.mem_toList]at a;rcases a with rfl|rfl|a|a|a
 .exact c.box.lt
 .exact(c.map.choose_spec.choose_spec.2.1).lt
 .exact(Ac c.ord a).2
 .exact(Ac c.cv a).2
 .exact(Ac c.dz a).2
def NA(c:Int)(a b:Zi):Value:=.iface 143 (.agg #[Zg c,.string a,.string b])
theorem RT(base d m:Nat)(O P L:Value)(wd now given births:Int)(ks:List Kd)(ps:List Pd)(ls:List Ld)(s:Zi)(w:Zh)(i:Dr w base d m O P L wd now given births ks ps ls)(a:DR wd ks)(q:ps.length<=100)(o:ls.length<=200)(n:Ay ks s)(f:((∃p∈ps,p.sum=s)\/∃l∈ls,l.sum=s)\/∃k∈ks,s∈k.B):
 Calls prog 119 #[Yy d,.string s] w fun e w'=>e=.panicked [{v:=NA 6 ⟨#[]⟩ ⟨#[]⟩,recovered:=false}]/\Zz w w':=by
 have h:=Yw i;clear i;go_enter func119,ntmps119;go_wp2_with fail;refine(Nz base d m O P L wd now given births ks ps ls s w h.o a.sz n).mono ?_;rintro e r ⟨rfl,c⟩;have g:=Yw (Dr.below h.o c);go_wp2_with fail;refine(JH base d m O P L wd now given births ks ps ls s r g.o a.nd a.sz a.B a.len q o).mono ?_;rintro e t ⟨ok,rfl,b,j⟩;obtain rfl:=b.2 f;clear b g;go_wp2;exact⟨rfl,rfl,c.trans (j.mono c.size)⟩
def z12:Zj:=[Ze,Ze,Ze,Ze,Ze,Zb,Zb,Zb,Zc,Ze,Zc,Zc]
theorem Bw(h:Aa w b z12):(w.cell? (Zd b 0)=some Ze/\w.frozen? ⟨b,0,none⟩=false)/\(w.cell? (Zd b 1)=some Ze/\w.frozen? ⟨b,1,none⟩=false)/\(w.cell? (Zd b 2)=some Ze/\w.frozen? ⟨b,2,none⟩=false)/\(w.cell? (Zd b 3)=some Ze/\w.frozen? ⟨b,3,none⟩=false)/\(w.cell? (Zd b 4)=some Ze/\w.frozen? ⟨b,4,none⟩=false)/\(w.cell? (Zd b 5)=some Zb/\w.frozen? ⟨b,5,none⟩=false)/\(w.cell? (Zd b 6)=some Zb/\w.frozen? ⟨b,6,none⟩=false)/\(w.cell? (Zd b 7)=some Zb/\w.frozen? ⟨b,7,none⟩=false)/\(w.cell? (Zd b 8)=some Zc/\w.frozen? ⟨b,8,none⟩=false)/\(w.cell? (Zd b 9)=some Ze/\w.frozen? ⟨b,9,none⟩=false)/\(w.cell? (Zd b 10)=some Zc/\w.frozen? ⟨b,10,none⟩=false)/\(w.cell? (Zd b 11)=some Zc/\w.frozen? ⟨b,11,none⟩=false):=
 ⟨h 0 _ rfl,h 1 _ rfl,h 2 _ rfl,h 3 _ rfl,h 4 _ rfl,h 5 _ rfl,h 6 _ rfl,h 7 _ rfl,h 8 _ rfl,h 9 _ rfl,h 10 _ rfl,h 11 _ rfl⟩
theorem Bv(w:Zh)(R:Nat)(c e f g i k l n o q a b:Value):Tn [R] w ((((((((((((w.setCell (Zd R 0) c).setCell (Zd R 1) e).setCell (Zd R 2) f).setCell (Zd R 3) g).setCell (Zd R 4) i).setCell (Zd R 5) k).setCell (Zd R 6) l).setCell (Zd R 7) n).setCell (Zd R 8) o).setCell (Zd R 9) q).setCell (Zd R 10) a).setCell (Zd R 11) b):=
 have h:∀(x:Zh) (j:Nat) (v:Value),Tn [R] x (x.setCell (Zd R j) v):=fun x j v=>Tn.set x R j v Yu
 (((((((((((h w 0 c).trans (h _ 1 e)).trans (h _ 2 f)).trans (h _ 3 g)).trans (h _ 4 i)).trans (h _ 5 k)).trans (h _ 6 l)).trans (h _ 7 n)).trans (h _ 8 o)).trans (h _ 9 q)).trans (h _ 10 a)).trans (h _ 11 b)
theorem Tn.fresh{f:Zh}(a:Tn V w f)(c:Tn [R] f w')(h:w.heap.size<=R):Tn V w w':=
 ⟨c.os.trans a.os,c.tape.trans a.tape,c.output.trans a.output,Zm a.size c.size,fun b e g=>(c.block b (Zr e a.size) Yt).trans (a.block b e g)⟩
def GJ(s:Zi):Array Value:= #[Zg 7,.string s,Zc,Ze,Zc,Zb]
theorem LA(base d m:Nat)(O P L:Value)(wd now given births:Int)(ks:List Kd)(ps:List Pd)(ls:List Ld)(s:Zi)(w:Zh)(f:Dr w base d m O P L wd now given births ks ps ls)(R:DR wd ks)(hp:ps.length<=100)(hl:ls.length<=200)(S:Ay ks s)(o:¬(((∃p∈ps,p.sum=s)\/∃l∈ls,l.sum=s)\/∃k∈ks,s∈k.B)):
 Calls prog 96 #[Yy d,.agg (GJ s)] w fun e w'=>e=.returned (.agg z12.toArray)/\∃j,Dr w' base d m j P L wd now given births (Bt ks s) ps ls/\j.ownBlock=O.ownBlock/\Tn (vB d m O P L) w w'/\VV w w' base d m O j P L wd births ks s:=by
 obtain⟨W,a⟩:=Af (((w.alloc (.cells #[Zg 7,.string s,Zc,Ze,Zc,Zb] 118)).alloc (.cells Yc 115)).alloc (.cells Yc 115));have t:=(Cv a).1;have A:=(Cv a).2.1;have Y:W.cell? (Zd (w.heap.size) 0)=some (Zg 7):=by rw[a];simp[go_sem]
 have Z:W.cell? (Zd (w.heap.size) 1)=some (.string s):=by rw[a];simp[go_sem]
 have K:Aa W (w.heap.size+1) z12:=by have g:=Aa.new (w.alloc (.cells #[Zg 7,.string s,Zc,Ze,Zc,Zb] 118)) z12 115;rw[World.size_alloc]at g;rw[a];exact Aa.below (v:=Ze) g (Zy)
 have J:Aa W (w.heap.size+2) z12:=by have g:=Aa.new ((w.alloc (.cells #[Zg 7,.string s,Zc,Ze,Zc,Zb] 118)).alloc (.cells z12.toArray 115)) z12 115;rw[World.size_alloc,World.size_alloc]at g;rw[a];exact g
 have F:=Yw (f.below t);have r:Hid (∀b∈vB d m O P L,b<w.heap.size):=by
  intro b c;unfold vB at c;simp only[List.mem_cons,List.mem_append,Option.mem_toList]at c;rcases c with rfl|rfl|c|c|c
  .exact f.box.lt
  .exact(f.map.choose_spec.choose_spec.2.1).lt
  .exact(Ac f.ord c).2
  .exact(Ac f.cv c).2
  .exact(Ac f.dz c).2
 have X:Hid (W.heap[w.heap.size+1]?=some (.cells Yc 115)):=by show _=_;rw[a,Below.heap_alloc _ _ _ Yu];have:=heap_alloc_new (w.alloc (.cells #[Zg 7,.string s,Zc,Ze,Zc,Zb] 118)) (.cells Yc 115);rw[World.size_alloc]at this;exact this
 have E:base<=w.heap.size:=by have:=f.bd;have:=f.box.lt;omega
 have G:=Yw a;have H:=Yw (Zn K J);have q:=Yw A;clear a f K J A;unfold GJ;go_enter func96,ntmps96;go_upto_region 2 with fail;rw[<-G.o];clear G;go_wp2_with fail;refine(Ts base d m O P L wd now given births ks ps ls s W F.o R hp hl S o).mono ?_;rintro e u ⟨rfl,j,y,I,n,z⟩;have D:=Aa.same H.o.1 (n.block _ (by have:=q.o;omega) (fun h=>by have:=r.o _ h;omega))
 have C:=Aa.same H.o.2 (n.block _ (by have:=q.o;omega) (fun h=>by have:=r.o _ h;omega));obtain⟨⟨y0,q0⟩,⟨y1,q1⟩,⟨y2,q2⟩,⟨y3,q3⟩,⟨y4,q4⟩,⟨y5,q5⟩,⟨y6,q6⟩,⟨y7,q7⟩,⟨y8,q8⟩,⟨y9,q9⟩,⟨T,zA⟩,V,zB⟩:=Bw D;obtain⟨⟨v0,_⟩,⟨v1,_⟩,⟨v2,_⟩,⟨v3,_⟩,⟨v4,_⟩,⟨v5,_⟩,⟨v6,_⟩,⟨v7,_⟩,⟨v8,_⟩,⟨v9,_⟩,⟨zC,_⟩,zE,_⟩:=Bw C;have i:=Yw (Zn y (Zn I (Zn n z)));clear y I n z D C Y Z F;go_wp2;have Q:w.heap.size+1∉vB d m j P L:=fun h=>by
  have:w.heap.size+1∈vB d m O P L:=by unfold vB at h |-;rw[i.o.2.1]at h;exact h
  have:=r.o _ this;omega
 have N:∀x fz,u.heap[w.heap.size+1]?≠some (.cells x 9 fz):=fun x fz e=>by have g:=i.o.2.2.1.block (w.heap.size+1) (by have:=q.o;omega) (fun h=>by have:=r.o _ h;omega);rw[e,X.o]at g;simp at g
 refine bodyPost_ret (v:=.agg z12.toArray) (by simp[results,results96,go_sem,y0,y1,y2,y3,y4,y5,y6,y7,y8,y9,T,V,z12]) rfl ⟨rfl,j,Dr.apart i.o.1 (Bv u _ _ _ _ _ _ _ _ _ _ _ _ _) Yv Q N,i.o.2.1,Tn.fresh ((Tn.of t).trans i.o.2.2.1) (Bv u _ _ _ _ _ _ _ _ _ _ _ _ _) Yv,fun B M hD=>(i.o.2.2.2 B (Zm M t.size) (hD.J (U:=[]) (Tn.of t) Yu)).J (Bv u _ _ _ _ _ _ _ _ _ _ _ _ _) Yt⟩
theorem KM(base d m:Nat)(O P L:Value)(wd now given births:Int)(ks:List Kd)(ps:List Pd)(ls:List Ld)(s:Zi)(w:Zh)(g:Dr w base d m O P L wd now given births ks ps ls)(i:DR wd ks)(q:ps.length<=100)(o:ls.length<=200)(j:Ay ks s)(b:((∃p∈ps,p.sum=s)\/∃l∈ls,l.sum=s)\/∃k∈ks,s∈k.B):
 Calls prog 96 #[Yy d,.agg (GJ s)] w fun e w'=>e=.panicked [{v:=NA 6 ⟨#[]⟩ ⟨#[]⟩,recovered:=false}]/\Zz w w':=by
 obtain⟨W,a⟩:=Af (((w.alloc (.cells #[Zg 7,.string s,Zc,Ze,Zc,Zb] 118)).alloc (.cells Yc 115)).alloc (.cells Yc 115));have c:=(Cv a).1;have r:W.cell? (Zd (w.heap.size) 0)=some (Zg 7):=by rw[a];simp[go_sem]
 have t:W.cell? (Zd (w.heap.size) 1)=some (.string s):=by rw[a];simp[go_sem]
 have n:=Yw (g.below c);have f:=Yw a;clear a g;unfold GJ;go_enter func96,ntmps96;go_upto_region 2 with fail;rw[<-f.o];clear f;go_wp2_with fail;refine(RT base d m O P L wd now given births ks ps ls s W n.o i q o j b).mono ?_;rintro e u ⟨rfl,h⟩;exact⟨rfl,rfl,c.trans (h.mono c.size)⟩
theorem Qm(p:Addr)(w:Zh):
 CallsD prog 95 #[.pointer (some p)] .returning w fun e b w'=>e=.returned (.tuple #[])/\b=.returning/\w'=w:=by
 have a:∀w:Zh,(binOp BinOp.eql 20 .nilIface .nilIface).run prog w=.ok (.bool true) w:=fun _=>by kernel_rfl
 refine callsD_of_wpS func95 rfl fun c₀ cs hu=> ?_;apply wpS_seq;apply wpS_region;simp[wpOpsS,go_sem,recoverD,hu,ntmps95,Exit.thenS];refine wpS_of_wp ?_;change Code.wp prog _ _ {tmps:= #[Value.pointer (some p),undef,undef,undef,Value.nilIface,undef,undef,undef,undef,undef,undef,undef,undef,undef,undef,undef,undef],defers:=[]} w;go_wp2;cases c₀;simp_all [bodyPostS,results,results95]
theorem Uw(h:Aa w b z12)(e f g i j k l n o q a c:Value):Aa ((((((((((((w.setCell (Zd b 0) e).setCell (Zd b 1) f).setCell (Zd b 2) g).setCell (Zd b 3) i).setCell (Zd b 4) j).setCell (Zd b 5) k).setCell (Zd b 6) l).setCell (Zd b 7) n).setCell (Zd b 8) o).setCell (Zd b 9) q).setCell (Zd b 10) a).setCell (Zd b 11) c) b [e,f,g,i,j,k,l,n,o,q,a,c]:=
 ((((((((((((h.set 0 e).set 1 f).set 2 g).set 3 i).set 4 j).set 5 k).set 6 l).set 7 n).set 8 o).set 9 q).set 10 a).set 11 c)
def BY(c:Int)(a b:Zi):Zj:=[Zg c,Ze,Ze,Ze,Ze,Zb,Zb,Zb,Zc,Ze,.string a,.string b]
theorem OO(R:Nat)(c:Int)(a b:Zi)(w:Zh)(f:Aa w R z12):
 CallsD prog 95 #[Yy R] (.panicking [{v:=NA c a b,recovered:=false}]) w fun e i w'=>e=.returned (.tuple #[])/\i=.panicking [{v:=NA c a b,recovered:=true}]/\Aa w' R (BY c a b)/\Tn [R] w w':=by
 have h:∀w:Zh,(binOp BinOp.eql 20 (.iface 143 (.agg #[Zg c,.string a,.string b])) .nilIface).run prog w=.ok (.bool false) w:=fun _=>by first|rfl|kernel_rfl
 have l:∀w:Zh,(Instr.typeAssert (.iface 143 (.agg #[Zg c,.string a,.string b])) 20 143 true).run prog w=.ok (.tuple #[.agg #[Zg c,.string a,.string b],.bool true]) w:=fun _=>by first|rfl|kernel_rfl
 obtain⟨⟨E,s⟩,⟨F,t⟩,⟨G,u⟩,⟨H,x⟩,⟨I,y⟩,⟨J,z⟩,⟨K,A⟩,⟨M,B⟩,⟨N,C⟩,⟨Q,D⟩,⟨q,n⟩,r,o⟩:=Bw f;have j:=Aa.lt (v:=Ze) f;have k:¬w.heap.size=R:=Yv
 have g:¬R=w.heap.size:=Yv
 unfold NA;refine callsD_of_wpS func95 rfl fun c₀ cs hu=> ?_;apply wpS_seq;apply wpS_region;simp[wpOpsS,go_sem,recoverD,hu,ntmps95,Exit.thenS];refine wpS_of_wp ?_;change Code.wp prog _ _ {tmps:= #[Yy R,undef,undef,undef,.iface 143 (.agg #[Zg c,.string a,.string b]),undef,undef,undef,undef,undef,undef,undef,undef,undef,undef,undef,undef],defers:=[]} w;go_wp2;simp[bodyPostS,results,results95]
 exact⟨Aa.below (v:=Zg c) (Uw f _ _ _ _ _ _ _ _ _ _ _ _) (Zy),(Bv w R _ _ _ _ _ _ _ _ _ _ _ _).trans (Tn.of (Zy))⟩
theorem KN(base d m:Nat)(O P L:Value)(wd now given births:Int)(ks:List Kd)(ps:List Pd)(ls:List Ld)(s:Zi)(w:Zh)(j:Dr w base d m O P L wd now given births ks ps ls)(J:DR wd ks)(hp:ps.length<=100)(hl:ls.length<=200)(K:Ay ks s)(g:¬(((∃p∈ps,p.sum=s)\/∃l∈ls,l.sum=s)\/∃k∈ks,s∈k.B)):
 Calls prog 66 #[Yy d,.agg (GJ s)] w fun e w'=>e=.returned (.agg z12.toArray)/\∃c,Dr w' base d m c P L wd now given births (Bt ks s) ps ls/\c.ownBlock=O.ownBlock/\Tn (vB d m O P L) w w'/\VV w w' base d m O c P L wd births ks s:=by
 have zA:∀(fn:Fn) (first cap:Array Value) (w:Zh),(Instr.makeFunc fn first cap).run prog w=.ok (.func fn first cap) w:=fun _ _ _ _=>rfl;obtain⟨W,a⟩:=Af ((w.alloc (.cells #[Zg 7,.string s,Zc,Ze,Zc,Zb] 118)).alloc (.cells Yc 115));have o:=(Bf a).1;have x:=(Bf a).2.1;have S:W.cell? (Zd (w.heap.size) 0)=some (Zg 7):=by rw[a];simp[go_sem]
 have T:W.cell? (Zd (w.heap.size) 1)=some (.string s):=by rw[a];simp[go_sem]
 have V:W.cell? (Zd (w.heap.size) 2)=some Zc:=by rw[a];simp[go_sem]
 have X:W.cell? (Zd (w.heap.size) 3)=some Ze:=by rw[a];simp[go_sem]
 have Y:W.cell? (Zd (w.heap.size) 4)=some Zc:=by rw[a];simp[go_sem]
 have Z:W.cell? (Zd (w.heap.size) 5)=some Zb:=by rw[a];simp[go_sem]
 have Q:Hid (W.heap[w.heap.size+1]?=some (.cells Yc 115)):=by show _=_;have:=heap_alloc_new (w.alloc (.cells #[Zg 7,.string s,Zc,Ze,Zc,Zb] 118)) (.cells Yc 115);rw[World.size_alloc]at this;rw[a];exact this
 have F:Aa W (w.heap.size+1) z12:=by have i:=Aa.new (w.alloc (.cells #[Zg 7,.string s,Zc,Ze,Zc,Zb] 118)) z12 115;rw[World.size_alloc]at i;rw[a];exact i
 have C:=Yw (j.below o);have z:=Yw j.co;have A:base<=w.heap.size:=by have:=j.bd;have:=j.box.lt;omega
 have D:=Yw a;have R:=Yw F;have r:=Yw x;clear a j F x;unfold GJ
 go_enter_defers func66,ntmps66
 go_upto_region 1 with fail;rw[<-D.o];clear D;go_wp2_with fail;refine(LA base d m O P L wd now given births ks ps ls s W C.o J hp hl K g).mono ?_;rintro e q ⟨rfl,c,u,E,n,v⟩;have y:=Aa.same R.o (n.block _ (by have:=r.o;omega) (fun h=>by have:=z.o _ h;omega));obtain⟨⟨y0,q0⟩,⟨y1,q1⟩,⟨y2,q2⟩,⟨y3,q3⟩,⟨y4,q4⟩,⟨y5,q5⟩,⟨y6,q6⟩,⟨y7,q7⟩,⟨y8,q8⟩,⟨y9,q9⟩,⟨M,zB⟩,N,zC⟩:=Bw y;have b:=Yw (Zn u (Zn E (Zn n v)))
 clear u E n v y S T V X Y Z C;unfold z12;go_wp2;refine leaves_cons (f:=95) (args:= #[Yy (w.heap.size+1)]) Yu (by simp[go_sem]) ?_;refine(Qm ⟨w.heap.size+1,0,none⟩ _).mono ?_;rintro e u' zE ⟨rfl,rfl,rfl⟩;have I:w.heap.size+1∉vB d m c P L:=fun h=>by
  have:w.heap.size+1∈vB d m O P L:=by unfold vB at h |-;rw[b.o.2.1]at h;exact h
  have:=z.o _ this;omega
 have H:∀t fz,q.heap[w.heap.size+1]?≠some (.cells t 9 fz):=fun t fz e=>by have i:=b.o.2.2.1.block (w.heap.size+1) (by have:=r.o;omega) (fun h=>by have:=z.o _ h;omega);rw[e,Q.o]at i;simp at i
 simp[Leaves,settle,results,results66,go_sem,y0,y1,y2,y3,y4,y5,y6,y7,y8,y9,M,N];exact⟨rfl,c,Dr.apart b.o.1 (Bv q _ _ _ _ _ _ _ _ _ _ _ _ _) Yv I H,b.o.2.1,Tn.fresh ((Tn.of o).trans b.o.2.2.1) (Bv q _ _ _ _ _ _ _ _ _ _ _ _ _) Yv,fun B G hD=>(b.o.2.2.2 B (Zm G o.size) (hD.J (U:=[]) (Tn.of o) Yu)).J (Bv q _ _ _ _ _ _ _ _ _ _ _ _ _) Yt⟩
theorem Kk(base d m:Nat)(O P L:Value)(wd now given births:Int)(ks:List Kd)(ps:List Pd)(ls:List Ld)(s:Zi)(w:Zh)(q:Dr w base d m O P L wd now given births ks ps ls)(u:DR wd ks)(J:ps.length<=100)(I:ls.length<=200)(x:Ay ks s)(g:((∃p∈ps,p.sum=s)\/∃l∈ls,l.sum=s)\/∃k∈ks,s∈k.B):
 Calls prog 66 #[Yy d,.agg (GJ s)] w fun e w'=>e=.returned (.agg (BY 6 ⟨#[]⟩ ⟨#[]⟩).toArray)/\Zz w w':=by
 have zA:∀(fn:Fn) (first cap:Array Value) (w:Zh),(Instr.makeFunc fn first cap).run prog w=.ok (.func fn first cap) w:=fun _ _ _ _=>rfl;obtain⟨W,b⟩:=Af ((w.alloc (.cells #[Zg 7,.string s,Zc,Ze,Zc,Zb] 118)).alloc (.cells Yc 115));have i:=(Bf b).1;have h:=(Bf b).2.1;have C:W.cell? (Zd (w.heap.size) 0)=some (Zg 7):=by rw[b];simp[go_sem]
 have D:W.cell? (Zd (w.heap.size) 1)=some (.string s):=by rw[b];simp[go_sem]
 have E:W.cell? (Zd (w.heap.size) 2)=some Zc:=by rw[b];simp[go_sem]
 have F:W.cell? (Zd (w.heap.size) 3)=some Ze:=by rw[b];simp[go_sem]
 have G:W.cell? (Zd (w.heap.size) 4)=some Zc:=by rw[b];simp[go_sem]
 have H:W.cell? (Zd (w.heap.size) 5)=some Zb:=by rw[b];simp[go_sem]
 have r:Aa W (w.heap.size+1) z12:=by have o:=Aa.new (w.alloc (.cells #[Zg 7,.string s,Zc,Ze,Zc,Zb] 118)) z12 115;rw[World.size_alloc]at o;rw[b];exact o
 have j:=Yw (q.below i);have n:=Yw b;have B:=Yw r;have t:=Yw h;clear b q r h;unfold GJ
 go_enter_defers func66,ntmps66
 go_upto_region 1 with fail;rw[<-n.o];clear n;go_wp2_with fail;refine(KM base d m O P L wd now given births ks ps ls s W j.o u J I x g).mono ?_;rintro e M ⟨rfl,c⟩;have A:=Aa.below (v:=Ze) B.o c;clear C D E F G H j;refine leaves_cons (f:=95) (args:= #[Yy (w.heap.size+1)]) Yu (by simp[go_sem]) ?_;refine(OO (w.heap.size+1) 6 ⟨#[]⟩ ⟨#[]⟩ M A).mono ?_;rintro e u' zB ⟨rfl,rfl,a,K⟩
 have N:=(a 0 _ rfl).1;have Q:=(a 1 _ rfl).1;have R:=(a 2 _ rfl).1;have S:=(a 3 _ rfl).1;have T:=(a 4 _ rfl).1;have U:=(a 5 _ rfl).1;have V:=(a 6 _ rfl).1;have X:=(a 7 _ rfl).1;have Y:=(a 8 _ rfl).1;have Z:=(a 9 _ rfl).1;have y:=(a 10 _ rfl).1;have z:=(a 11 _ rfl).1;simp[Leaves,settle,results,results66,go_sem,N,Q,R,S,T,U,V,X,Y,Z,y,z]
 exact⟨rfl,(i.trans (c.mono i.size)).trans (Tn.below K (by have:=c.size;have:=t.o;omega) Yu)⟩
theorem Holds.low{W:Zh}{f:Lit->Option Value}(h:Holds W B wd ks f)(g:Below B W w):Holds w B wd ks f:=by
 intro s i;rcases h s i with h|⟨u,j,k,a,b,c,e⟩
 .exact .inl h
 .exact .inr ⟨u,j,k,a,b,c,Ab.below e g⟩
def HU(w:Zh)(base m:Nat)(wd:Int)(ks:List Kd):Prop:=∃n f,n<=1000000/\Bh w 94 m n f/\Holds w base wd ks f/\m<base+4
theorem HU.J(h:HU w base m wd ks)(c:Tn V w w')(k:base<=w.heap.size)(j:∀b∈V,base<=b)(l:m∉V):HU w' base m wd ks:=by obtain⟨n,f,e,a,g,i⟩:=h;exact⟨n,f,e,Bh.same a (c.block m a.lt l),g.low (c.below k j),i⟩
theorem Dr.dt(h:Dr w base d m O P L wd now given births ks ps ls)(E:HU w base m wd ks)(o:Tn V w w')(l:∀b∈V,base<=b/\b∉vB d m O P L):Dr w' base d m O P L wd now given births ks ps ls:=by
 have r:=h.co;have i:base<=w.heap.size:=by have:=h.bd;have:=h.box.lt;omega
 have k:∀b∈vB d m O P L,w'.heap[b]?=w.heap[b]?:=fun b c=>o.block b (r b c) (fun e=>(l b e).2 c);have C:d∈vB d m O P L:=by simp[vB]
 have D:m∈vB d m O P L:=by simp[vB]
 obtain⟨n,f,v,x,y,z⟩:=E.J o i (fun b c=>(l b c).1) (fun e=>(l m e).2 D);refine⟨Aa.same h.box (k d C),⟨n,f,Zm v (Nat.le_add_right _ _),x,fun s t=> ?_⟩,Aw h.ord (fun g j=>k g (by simp[vB,j])),Aw h.cv (fun g j=>k g (by simp[vB,j])),Aw h.dz (fun g j=>k g (by simp[vB,j])),h.bd,h.bm,h.ap⟩;rcases y s t with h|⟨u,I,J,F,G,H,q⟩
 .exact .inl h
 .refine .inr ⟨u,I,J,F,G,H,?_⟩;rcases q with q|⟨b,off,A,c,B⟩
  .exact .inl q
  .refine .inr ⟨b,off,A,by have:=o.size;omega,fun a=> ?_,.inl ⟨c,m,rfl,z⟩,B⟩;have:base<=b:=by
    unfold vB at a;simp only[List.mem_cons,List.mem_append,Option.mem_toList]at a;rcases a with rfl|rfl|a|a|a
    .exact h.bd
    .exact h.bm
    .exact(Ac h.ord a).1
    .exact(Ac h.cv a).1
    .exact(Ac h.dz a).1
   omega
theorem AS(w:Zh)(R j:Nat)(v:Value):Tn [R] w (w.setCell (Zd R j) v):=Tn.set w R j v Yu
theorem EC{b:Option Nat}(a:w.grownBy w' b):Tn b.toList w w':=⟨a.os,a.tape,a.output,a.size,fun k c f=>a.block k c (fun e=>f (by simp[<-e]))⟩
def HN(w:Zh)(m N:Nat):Prop:=∃n f,n<=N/\Bh w 94 m n f
theorem NB(wd now given births:Int)(a p l:Zk)(V S R:Nat)(ks:List Kd)(ps:List Pd)(ls:List Ld)(w:Zh)(D:AW w w.heap.size a p l ks ps ls)(hk:ks.length<=600)(hp:ps.length<=100)(hl:ls.length<=200)(yM:∀k∈ks,(k.sum.size:Int)=wd)(h8:wd<=8):
 Calls prog 21 #[.agg (Yg wd now given births a ks.length V p ps.length S l ls.length R)] w fun e w'=>∃d m O P L,e=.returned (Yy d)/\Dr w' (w.heap.size+1) d m O P L wd now given births ks ps ls/\HU w' (w.heap.size+1) m wd ks/\(HN w' m 600/\m<=w.heap.size+3)/\Zz w w':=by
 have hx:=Aq.new w wd now given births (.slice a ks.length V) (.slice p ps.length S) (.slice l ls.length R) 27;obtain⟨j,I⟩:=Af (w.alloc (.cells (Yg wd now given births a ks.length V p ps.length S l ls.length R) 27));have n:=(AL I).1;have zZ:=(AL I).2.1;rw[<-I]at hx;have C:=Yw D;have HX:=Yw hx;have zO:=Yw I;have S0:=EP hx
 have zW:j.drew.cell? (Zd (w.heap.size) 0)=some (Zg wd)/\j.drew.cell? (Zd (w.heap.size) 1)=some (Zg now)/\j.drew.cell? (Zd (w.heap.size) 2)=some (Zg given)/\j.drew.cell? (Zd (w.heap.size) 3)=some (Zg births)/\j.drew.cell? (Zd (w.heap.size) 4)=some (.slice a ks.length V)/\j.drew.cell? (Zd (w.heap.size) 5)=some (.slice p ps.length S)/\j.drew.cell? (Zd (w.heap.size) 6)=some (.slice l ls.length R):=S0
 have K0:AQ j.drew j.drew.heap.size a ks:=AQ.mono (AQ.below D.k n.drew) n.size;have yH:ks.length<=1048576:=Yv
 have yL:ps.length<=1048576:=Yv
 have yI:ls.length<=1048576:=Yv
 clear D hx I;go_enter func21,ntmps21;go_upto_region 1 with fail;rw[<-zO.o];clear zO
 go_region_held3 (fun w'=>w'.cell? (Zd (w.heap.size) 0)=some (Zg wd)/\w'.cell? (Zd (w.heap.size) 1)=some (Zg now)/\w'.cell? (Zd (w.heap.size) 2)=some (Zg given)/\w'.cell? (Zd (w.heap.size) 3)=some (Zg births)/\w'.cell? (Zd (w.heap.size) 4)=some (.slice a ks.length V)/\w'.cell? (Zd (w.heap.size) 5)=some (.slice p ps.length S)/\w'.cell? (Zd (w.heap.size) 6)=some (.slice l ls.length R))
  (first|exact S3|exact S2|exact S1|exact zW|exact EP (Aq.below X3.o (Zy)))
  (first
  |(go_at_call 39;refine(JD wd now given births a V (.slice p ps.length S) (.slice l ls.length R) ks j.drew K0 yH yM h8).mono ?_;rintro e y ⟨m,f,rfl,hm,hM,hH,zF⟩;have N:Below j.heap.size j y:=(Below.refl j.heap.size j).drew.trans zF;have S1:=EP (Aq.below HX.o N))
  |(go_at_call 40;refine(IH p S ps y (AM.mono (AM.below C.o.p (n.trans (N.mono n.size))) (n.trans (N.mono n.size)).size) yL).mono ?_;rintro e H ⟨G,t,rfl,zH,M⟩;have U:Below j.heap.size j H:=N.trans (M.mono N.size);have S2:=EP (Aq.below HX.o U))
  |(go_at_call 41;refine(Hc l R ls H (AN.mono (AN.below C.o.l (n.trans (U.mono n.size))) (n.trans (U.mono n.size)).size) yI).mono ?_;rintro e h ⟨F,s,rfl,zI,z⟩;have B3:Below j.heap.size j h:=U.trans (z.mono U.size);have X3:=Yw (Aq.below HX.o B3);have S3:=EP X3.o))
 obtain⟨E,J⟩:=Af (h.alloc (.cells #[Zg wd,.map (some m),Zg now,Zg given,Zg births,Zb,.slice G ps.length t,.slice F ls.length s] 92));have yT:=(AL J).2.1;have A:=(AL J).1;have Z4:=(AL J).2.2;have yN:w.heap.size+1<=y.heap.size:=by have:=N.size;omega
 have zJ:=M.size;have yO:=z.size;have yK:m<y.heap.size:=hM.lt;have B4:Below w.heap.size w E:=(n.trans (B3.mono n.size)).trans (A.mono Yv);have zK:Hid (Below j.drew.heap.size j.drew E):=((zF.trans (M.mono Yt)).trans (z.mono Yt)).trans (A.mono Yt);have zR:=Yw (Aq.below X3.o A)
 have Y:Hid (Bh E 94 m ks.length f):=hM.ah (B:=y.heap.size) ((M.trans (z.mono zJ)).trans (A.mono Yv)) yK;have yC:Hid (E.ownsRow y.heap.size 48 2 (.slice G ps.length t) ps.length (Ag pC ps)):=Al (Al zH z) A;have yA:Hid (E.ownsRow H.heap.size 50 3 (.slice F ls.length s) ls.length (Ag lC ls)):=Al zI A
 have Z:Hid (∀g,(Value.slice G ps.length t).ownBlock=some g->y.heap.size<=g/\g<H.heap.size):=fun g r=>Ac zH r;have X:Hid (∀g,(Value.slice F ls.length s).ownBlock=some g->H.heap.size<=g/\g<h.heap.size):=fun g r=>Ac zI r;have HH:=Yw hH;have zS:=Yw Z4;have yJ:w.heap.size+1<=m/\m<=w.heap.size+3:=by have:=hm;simp at this;omega
 rw[<-J];clear J S0 zW S1 S2 S3 X3 HX N U B3 zF M z hM zH zI hH Z4 K0 hm;obtain⟨x0,x1,x2,x3,x4,x5,x6,x7⟩:=zR.o;go_wp2
 go_loopw [25] (fun i wr=>∃(k:Nat) (O:Value),k<=ks.length/\i=Zg k/\Hid (Aa wr h.heap.size [Zg wd,.map (some m),Zg now,Zg given,Zg births,O,.slice G ps.length t,.slice F ls.length s])/\Hid (wr.ownsRow (h.heap.size+1) 94 8 O ((ks.take k).map (·.sum)).length (Bk ((ks.take k).map (·.sum))))/\Below h.heap.size E wr) (fun i _=>ks.length -(intOf i).toNat)
 case atStart=>exact⟨0,_,Nat.zero_le _,rfl,zS,⟨rfl,.inl ⟨rfl,rfl⟩⟩,Ad⟩
 case round=>
  clear x0 x1 x2 x3 x4 x5 x6 x7 zS;obtain⟨k,O,yQ,rfl,HZ,Q,c⟩:=hrel;obtain⟨x0,x1,x2,x3,x4,x5,x6,x7⟩:=Aq.ah zR.o c Yv;have yV:h.heap.size+1<=wr.heap.size:=by have:=c.size;omega
  by_cases hlt:k<ks.length
  .obtain⟨b,off,ha,hb,hc⟩:=(AQ.below C.o.k (B4.trans (c.mono Yv))).at hlt;subst ha;have HG:Hid (ks[k]?=some ks[k]):=Zv hlt;obtain⟨c0,c1,c2,ra,rc,c3,_⟩:=hc k _ HG.o;have yP:b<wr.heap.size:=Yv
   have HN:Hid ((ks.take (k+1)).map (·.sum)=(ks.take k).map (·.sum)++[ks[k].sum]):=by show _=_;rw[Zu hlt,List.map_append];rfl
   have yR:((ks.take k).map (·.sum)).length<=600:=Yt
   clear hc;generalize ks[k]=x at *
   generalize (ks.take k).map (·.sum)=Os at *
   obtain⟨u,K⟩:=Af (wr.alloc (.cells #[.string x.sum,Zg x.born,.string x.F,.slice ra x.B.length rc] 65));have yU:=(AL K).2.1;have b5:=(AL K).1;have Z5:=(AL K).2.2;have yB:=Yw Q.o;have zN:=Yw (Al Q.o b5);have zB:=Yw (Aa.below HZ.o b5);have zM:Hid (Below h.heap.size E u):=c.trans (b5.mono Yv)
   have P5:u.drew.cell? (Zd (h.heap.size) 5)=some O/\u.drew.cell? (Zd (wr.heap.size) 0)=some (.string x.sum):=⟨(zB.o 5 _ rfl).1,(Z5 0 _ rfl).1⟩;have D5:Below u.heap.size u u.drew:=Ad.drew;have zP:=Yw K;clear K Z5 Q HZ;go_upto_region 5 with fail;rw[<-zP.o];clear zP x0 x1 x2 x3 x4 x5 x6 x7 c0 c1 c2 c3;obtain⟨zC,zE⟩:=P5
   have zG:∀g,O.ownBlock=some g->h.heap.size+1<=g/\g<wr.heap.size:=fun g r=>Ac yB.o r;have yS:wr.heap.size≠h.heap.size:=Yv
   go_region_law (first
    |(go_simp;go_at_call 42;refine(Po x.sum u.drew).mono ?_;rintro e T ⟨rfl,zX⟩;have v:Below u.heap.size u T:=D5.trans zX;have yD:T.cell? (Zd (h.heap.size) 5)=some O:=(v.cell (p:=⟨h.heap.size,5,none⟩) Yt).trans zC;have zT:T.cell? (Zd (wr.heap.size) 0)=some (.string x.sum):=(v.cell (p:=⟨wr.heap.size,0,none⟩) Yt).trans zE;have b7:Below u.heap.size u (T.alloc (Gh x.sum)):=v.alloc v.size _;have zU:(T.alloc (Gh x.sum)).cell? (Zd (h.heap.size) 5)=some O:=(b7.cell (p:=⟨h.heap.size,5,none⟩) Yt).trans zC;have zV:(T.alloc (Gh x.sum)).cell? (Zd (wr.heap.size) 0)=some (.string x.sum):=(b7.cell (p:=⟨wr.heap.size,0,none⟩) Yt).trans zE;have z6:=v.size;obtain⟨g8,c8,w8,hr8,ho8,hg8,ha8⟩:=Wx T (h.heap.size+1) O Os (Al zN.o v) x.sum Yv Yv 90;have Z6:=Aa.below zB.o v;unfold Gh at hr8 zU zV;go_wp2_with fail)
    |(refine BH Yp (.tmp 33) (.tmp 37) 90 90 Yp Yp Yp hr8 ?_;have yF:w8.cell? (Zd (wr.heap.size) 0)=some (.string x.sum):=hg8.cell zT (fun e=>by have:=(zG _ e.symm).2;simp at this);have Z8:Aa w8 h.heap.size _:=(Aa.same Z6 (hg8.block h.heap.size Yv (fun e=>by have:=(zG _ e.symm).1;omega)));have yE:=(Z8 5 _ rfl).1;have F8:=(Z8 5 _ rfl).2))
   all_goals
    have zY:Below h.heap.size E w8:=(zM.o.trans (v.mono Yv)).grown hg8 Yv (fun g r=>by have:=(zG g r).1;omega);have zA:=Yw (Zn Z8 (Zn zY ho8));clear Z8 zY ho8 hg8 hr8 Z6 v b7 zX zN zB zM zC zE yD zT zU zV yE yF F8 ha8 D5 b5;go_wp2;refine⟨⟨k+1,Yz g8 (Os.length+1) c8,Yv,Yn,?_,?_,?_⟩,Ys⟩
    .exact Aa.set zA.o.1 5 _
    .rw[HN.o];exact ownsRow_setCell_below zA.o.2.2 Ym _
    .exact zA.o.2.1.setCell Yu _
  .obtain rfl:k=ks.length:=Yv
   rw[Zt (Zx)]at Q;go_wp2;have yG:(vB h.heap.size m O (.slice G ps.length t) (.slice F ls.length s)).Nodup:=by
    have hO:∀g,O.ownBlock=some g->h.heap.size+1<=g:=fun g r=>(Ac Q.o r).1;have hP:∀g,(Value.slice G ps.length t).ownBlock=some g->y.heap.size<=g/\g<H.heap.size:=Z.o;have hL:∀g,(Value.slice F ls.length s).ownBlock=some g->H.heap.size<=g/\g<h.heap.size:=X.o;unfold vB;generalize (Value.slice G ps.length t).ownBlock=bp at *
    generalize (Value.slice F ls.length s).ownBlock=bl at *
    generalize O.ownBlock=bo at *
    cases bo<;>cases bp<;>cases bl<;>simp_all<;>omega
   have hV:∀q∈vB h.heap.size m O (.slice G ps.length t) (.slice F ls.length s),w.heap.size+1<=q:=by
    intro q o;unfold vB at o;simp only[List.mem_cons,List.mem_append,Option.mem_toList]at o;rcases o with rfl|rfl|o|o|o
    .omega
    .omega
    .have:=(Ac Q.o o).1;omega
    .have:=(Z.o _ o).1;omega
    .have:=(X.o _ o).1;omega
   go_ret;refine⟨_,rfl,m,⟨O,_,_,⟨HZ.o,⟨ks.length,f,Yv,Y.o.ah c Yv,?_⟩,?_,?_,?_,Yv,Yv,yG⟩⟩,⟨ks.length,f,Yv,Y.o.ah c Yv,?hu,Yv⟩,⟨⟨ks.length,f,hk,Y.o.ah c Yv⟩,yJ.2⟩,B4.trans (c.mono Yv)⟩
   .have o:j.drew.heap.size=w.heap.size+1:=zZ;rw[<-o];exact CE.of HH.o (zK.o.trans (c.mono Yt)) (fun q o=>by have:=hV q o;simp;omega) ⟨m,rfl,by rw[o];omega⟩
   .have:=Q.o;rw[List.length_map]at this;exact this.mono Yv
   .refine World.ownsRow.mono ?_ (show w.heap.size+1<=y.heap.size by omega);exact Nd yC.o c (fun g r=>by have:=(Z.o g r).2;omega)
   .refine World.ownsRow.mono ?_ (show w.heap.size+1<=H.heap.size by omega);exact Nd yA.o c (fun g r=>by have:=(X.o g r).2;omega)
   case hu=>
    have o:j.drew.heap.size=w.heap.size+1:=zZ;rw[<-o];exact Holds.low HH.o (zK.o.trans (c.mono Yt))
theorem NC(wd now given births:Int)(a p l:Zk)(c g f:Nat)(ks:List Kd)(ps:List Pd)(ls:List Ld)(w:Zh)(b:AW w w.heap.size a p l ks ps ls)(q:ks.length<=600)(s:ps.length<=100)(r:ls.length<=200)(h:∀k∈ks,(k.sum.size:Int)=wd)(o:wd<=8):
 Calls prog 21 #[.agg (Yg wd now given births a ks.length c p ps.length g l ls.length f)] w fun e w'=>∃d m O P L,e=.returned (Yy d)/\Dr w' (w.heap.size+1) d m O P L wd now given births ks ps ls/\HU w' (w.heap.size+1) m wd ks/\Zz w w':=by
 refine(NB wd now given births a p l c g f ks ps ls w b q s r h o).mono ?_;rintro e w' ⟨d,m,O,P,L,rfl,i,j,_,n⟩;exact⟨d,m,O,P,L,rfl,i,j,n⟩
section
def NS(w:Zh)(b:Nat):Prop:=∀cur fz,w.heap[b]?≠some (.cells cur 9 fz)
structure DU (w:Zh) (base d m:Nat) (O P L:Value) (wd now given births:Int) (ks:List Kd) (ps:List Pd) (ls:List Ld):Prop where
 dr:Dr w base d m O P L wd now given births ks ps ls
variable {w w':Zh} {base d m:Nat} {O P L:Value} {wd now given births:Int} {ks:List Kd} {ps:List Pd} {ls:List Ld}
theorem Es{A:Type}(c:A->Zj)(a b:List A):Ag c (a++b)=Ag c a++Ag c b:=by unfold Ag;simp
theorem ND{a b:Int}(f:0<=a)(c:a<=1000000000)(g:0<=b)(e:b<=1000000000):IntKind.i64.wrap (a+b)=a+b:=by simp[IntKind.wrap,IntKind.bits,IntKind.signed];omega
theorem Qn(w:Zh)(base:Nat)(v:Value)(ls:List Ld)(t:w.ownsRow base 50 3 v ls.length (Ag lC ls))(x:Ld)(s:ls.length<=1000000)(f:base<=w.heap.size)(h:TypeId):
 ∃g cap w',(Builtin.append_ #[25,25] h #[v,Yz w.heap.size 1 1]).run prog (w.alloc (.cells #[Zg x.I,.string x.sum,Zg x.Y] 50))=.ok (Yz g (ls.length+1) cap) w'/\w'.ownsRow base 50 3 (Yz g (ls.length+1) cap) (ls++[x]).length (Ag lC (ls++[x]))/\w.grownBy w' v.ownBlock/\(v.ownBlock=some g\/g=w.heap.size+1):=by
 obtain⟨z,r,k,l,n⟩:=info_parts Gz;have i:=Al t (Ad.alloc (Zx) (.cells #[Zg x.I,.string x.sum,Zg x.Y] 50));have q:∀j u,(Ag lC [x])[j]?=some u->(w.alloc (.cells #[Zg x.I,.string x.sum,Zg x.Y] 50)).cell? ((⟨w.heap.size,0,none⟩:Addr).add j)=some u:=by intro j u b;rw[Go.WideShapes.add_plain,Nat.zero_add];exact(Aa.new w [Zg x.I,.string x.sum,Zg x.Y] 50 j u (by simpa [Ag,lC]using b)).1
 obtain⟨A,w',y,c,o,_,a⟩:=run_append_own_at (P:=prog) (w.alloc (.cells #[Zg x.I,.string x.sum,Zg x.Y] 50)) base 25 h 50 z _ 3 32 underlying25 r k l n rfl Yq v ls.length (Ag lC ls) i ⟨w.heap.size,0,none⟩ 1 1 (Ag lC [x]) (by simp[Ag,lC]) q (by intro u b;simp[Ag,lC]at b;rcases b with rfl|rfl|rfl<;>rfl) Yo Yv Yt
 obtain⟨g,cap,rfl,_,_⟩:=Bq c (fun e=>by subst e;rcases c.2 with⟨_,s⟩|⟨_,_,_,e,_⟩<;>first|omega|cases e);refine⟨g,cap,w',y,?_,(World.grownBy_alloc w _ _).trans o,?_⟩
 .rw[Es,List.length_append];exact c
 .rcases a with a|a
  .exact .inl a.symm
  .right;simpa [Value.ownBlock]using a
end
def Bx(ls:List Ld)(n:Int):List Ld:=ls.filter (fun x=> !decide (x.I=n))
def Bm(ps:List Pd)(n:Zi):List Pd:=ps.filter (fun x=> !decide (x.name=n))
def Cf(ls:List Ld)(n:Int):List Ld:=ls.filter (fun x=> !decide (x.Y<=n))
theorem Qo(x:Kd)(a:List Kd):Fm (x::a)=x.B.length+Fm a:=by simp[Fm]
def Bg(w:Zh)(b off:Nat)(zs:List (Kd×Value)):Prop:=
 ∀i z,zs[i]?=some z->(w.cell? (Zd b (off+i *4))=some (.string z.1.sum)/\w.cell? (Zd b (off+i *4+1))=some (Zg z.1.born)/\w.cell? (Zd b (off+i *4+2))=some (.string z.1.F)/\w.cell? (Zd b (off+i *4+3))=some z.2)/\∃ad rc,z.2=.slice (some ad) z.1.B.length rc/\Ab w w.heap.size (some ad) z.1.B
theorem Bg.below{e:List (Kd×Value)}(h:Bg w b off e)(a:Zz w w')(c:b<w.heap.size):Bg w' b off e:=by intro i z q;obtain⟨⟨g,j,k,l⟩,f,r,n,o⟩:=h i z q;exact⟨⟨(a.cell (p:=⟨b,off+i *4,none⟩) c).trans g,(a.cell (p:=⟨b,off+i *4+1,none⟩) c).trans j,(a.cell (p:=⟨b,off+i *4+2,none⟩) c).trans k,(a.cell (p:=⟨b,off+i *4+3,none⟩) c).trans l⟩,f,r,n,Ab.mono (Ab.below o a) a.size⟩
theorem Bg.cu{c:List (Kd×Value)}(h:Bg w b off c)(q:b<w.heap.size):AQ w w.heap.size (some ⟨b,off,none⟩) (c.map (·.1)):=by
 refine .inr ⟨b,off,rfl,q,fun i k a=> ?_⟩;rw[List.getElem?_map]at a;cases hz:c[i]? with
 |none=>rw[hz]at a;cases a
 |some z=>rw[hz]at a;cases a;obtain⟨⟨f,g,j,l⟩,e,r,n,o⟩:=h i z hz;exact⟨f,g,j,some e,r,by rw[l,n],o⟩
theorem Bg.own{cap:Nat}{a:List (Kd×Value)}(h:w.ownsRow base 65 4 (Yz g a.length cap) a.length (Ag kC a))(k:∀z∈a,∃e l,z.2=.slice (some e) z.1.B.length l/\Ab w w.heap.size (some e) z.1.B):Bg w g 0 a:=by
 intro i z c;have n:=(Zw c).1;have b:∀j,j<4->w.cell? (Zd g (i *4+j))=(kC z)[j]?:=fun j f=>(h.cellAt (i *4+j) Yv).trans (BZ Cb c f);refine⟨⟨?_,?_,?_,?_⟩,k z (Zs c)⟩
 .rw[Nat.zero_add];simpa [kC]using b 0 Yq
 .rw[Nat.zero_add];simpa [kC]using b 1 Yq
 .rw[Nat.zero_add];simpa [kC]using b 2 Yq
 .rw[Nat.zero_add];simpa [kC]using b 3 Yq
def By(zs:List (Kd×Value))(s:Zi):List (Kd×Value):=zs.filter (fun z=> !decide (z.1.sum=s))
theorem IV(a:List (Kd×Value))(s:Zi):(By a s).map (·.1)=Bt (a.map (·.1)) s:=by unfold By Bt;rw[List.filter_map];rfl
theorem Qp{a:List (Kd×Value)}{k:Nat}{z:Kd×Value}(s:Zi)(c:a[k]?=some z):By (a.take (k+1)) s=By (a.take k) s++(if z.1.sum=s then []else [z]):=by obtain⟨b,rfl⟩:=Zw c;unfold By;rw[Zu b,List.filter_append];by_cases h:a[k].1.sum=s<;>simp[h]
theorem AP(h:Aa w b [Zg wd,Zg now,Zg given,Zg births,T,P,L]):Aq w b wd now given births T P L:=
 ⟨(h 0 _ rfl).1,(h 1 _ rfl).1,(h 2 _ rfl).1,(h 3 _ rfl).1,(h 4 _ rfl).1,(h 5 _ rfl).1,(h 6 _ rfl).1,h.lt⟩
def Cz(ps:List Pd)(ls:List Ld)(ks:List Kd)(s:Zi):Prop:=((∃p∈ps,p.sum=s)\/∃l∈ls,l.sum=s)\/∃k∈ks,s∈k.B
def Py(w w':Zh)(e:Ending)(wd now given births:Int)(P L:Value)(zs:List (Kd×Value))(ps:List Pd)(ls:List Ld)(s:Zi):Prop:=
 Below w.heap.size w w'/\((Cz ps ls (zs.map (·.1)) s/\e=.returned (.agg #[Zg 6,Ze,Ze,Ze,Ze,Zb,Zb,Zb,Zc,Ze,Zc,Zc]))\/
  (¬Cz ps ls (zs.map (·.1)) s/\∃g c,e=.returned (.agg #[Ze,Zg wd,Zg now,Zg given,Zg births,.slice (some ⟨g,0,none⟩) (By zs s).length c,P,L,Zc,Ze,Zc,Zc])/\Bg w' g 0 (By zs s)/\w.heap.size<=g/\g<w'.heap.size))
theorem KO(wd now given births:Int)(b off E t r:Nat)(p l:Zk)(a:List (Kd×Value))(ps:List Pd)(ls:List Ld)(s:Zi)(w:Zh)(B:Bg w b off a)(zW:b<w.heap.size)(hp:AM w w.heap.size p ps)(hl:AN w w.heap.size l ls)(xA:a.length<=600)(yX:ps.length<=100)(yW:ls.length<=200)(hr:∀z∈a,z.1.B.length<=1000)(yB:Ay (a.map (·.1)) s):
 Calls prog 128 #[.agg (Yg wd now given births (some ⟨b,off,none⟩) a.length E p ps.length t l ls.length r),.string s] w fun e w'=>Py w w' e wd now given births (.slice p ps.length t) (.slice l ls.length r) a ps ls s:=by
 obtain⟨W,N⟩:=Af ((w.alloc (.cells (Yg wd now given births (some ⟨b,off,none⟩) a.length E p ps.length t l ls.length r) 27)).alloc (.cells Yc 115));have hB:=(Bf N).1;have yZ:=(Bf N).2.1;have xW:Aq W w.heap.size wd now given births (.slice (some ⟨b,off,none⟩) a.length E) (.slice p ps.length t) (.slice l ls.length r):=by rw[N];exact Aq.ah (Aq.new w wd now given births _ _ _ 27) (Zy) Yu
 have zR:Aa W (w.heap.size+1) z12:=by have h1:=Aa.new (w.alloc (.cells (Yg wd now given births (some ⟨b,off,none⟩) a.length E p ps.length t l ls.length r) 27)) z12 115;rw[World.size_alloc]at h1;rw[N];exact h1
 have HF:=Ck wd now given births (some ⟨b,off,none⟩) E (.slice p ps.length t) (.slice l ls.length r) (a.map (·.1)) s W w.heap.size (AQ.below (B.cu zW) hB) hB.size (by rw[List.length_map];omega);rw[List.length_map]at HF;have yV:0<=BQ (a.map (·.1)) s:=by
  rcases BM (a.map (·.1)) s with⟨_,hn⟩|⟨i,k,e,_⟩
  .exact absurd yB hn
  .omega
 have zI:=Yw HF;have yJ:=Yw zR;have yF:Hid (Aa W _ _):=(Bf N).2.2.1;have yE:w.heap.size+1<W.heap.size:=Yv
 have HZ:=Yw B;have zM:=Yw (Zn hp hl);have HW:=Yw N;have zP:=Yw xW;clear N B hp hl zR HF yB;obtain⟨x0,x1,x2,x3,x4,x5,x6,x7⟩:=xW;go_enter func128,ntmps128;go_upto_region 1 with fail;rw[<-HW.o];clear HW;go_wp2_with fail;refine zI.Am ?_;rintro e w1 ⟨rfl,I⟩;have yT:¬BQ (a.map (·.1)) s<0:=Yv
 have zE:=Yw (Aq.below zP.o I);obtain⟨Q,R,S,U,X,Y,Z,y7⟩:=zE.o;have D:Below w.heap.size w w1:=hB.trans (I.mono hB.size);clear x0 x1 x2 x3 x4 x5 x6 zI;generalize BQ (a.map (·.1)) s=fi at *
 go_wp2_with fail;refine(Qe wd now given births (.slice (some ⟨b,off,none⟩) a.length E) p l t r ps ls s w1 (AM.mono (AM.below zM.o.1 D) D.size) (AN.mono (AN.below zM.o.2 D) D.size) Yv Yv).mono ?_;rintro e C ⟨ok,rfl,zZ,J⟩;have zA:Below w.heap.size w C:=D.trans (J.mono D.size);have zO:=Yw (Aq.below zE.o J);have z2:Aa C (w.heap.size+1) z12:=Aa.below (v:=Ze) (Aa.below (v:=Ze) yJ.o I) J
 have zF:=Yw z2;have zK:=Yw zZ;clear zZ Q R S U X Y Z z2;cases ok
 .obtain⟨v0,v1,v2,v3,v4,v5,v6,v7⟩:=zO.o;have yN:w.heap.size+2<=C.heap.size:=by have:=I.size;have:=J.size;omega
  have bA:Below C.heap.size C (C.alloc (.cells #[] 65)):=Zy;go_wp2
  go_loopw [5,6] (fun v i wr=>∃(k g c:Nat),k<=a.length/\i=Zg k/\v=Yz g (By (a.take k) s).length c/\Hid (wr.ownsRow (w.heap.size+2) 65 4 (Yz g (By (a.take k) s).length c) (By (a.take k) s).length (Ag kC (By (a.take k) s))/\(∀z∈a.take k,¬s∈z.1.B)/\Aa wr w.heap.size (Yh wd now given births (some ⟨b,off,none⟩) a.length E p ps.length t l ls.length r)/\Aa wr (w.heap.size+1) z12/\Zz w wr)) (fun _ i _=>a.length -(intOf i).toNat)
  case atStart=>
   refine⟨0,C.heap.size,0,Nat.zero_le _,rfl,by simp[By],⟨?_,(fun z B=>by simp at B),Aa.below (Aa.below (Aa.below yF.o I) J) bA,Aa.below (v:=Ze) zF.o bA,zA.trans (bA.mono zA.size)⟩⟩;have:=World.ownsRow_lit (base:=w.heap.size+2) (e:=65) (size:=4) C #[] 0 yN Yo rfl;simpa [By,Ag]using this
  case round=>
   clear zE zP zF zO v0 v1 v2 v3 v4 v5 v6 v7 bA;obtain⟨k,g,c,hk,rfl,rfl,n⟩:=hrel;obtain⟨v0,v1,v2,v3,v4,v5,v6,v7⟩:=AP n.o.2.2.1;have f:=n.o.2.2.2.2;have xB:=f.size;by_cases hlt:k<a.length
   .have HG:Hid (a[k]?=some a[k]):=Zv hlt;obtain⟨⟨c0,c1,c2,c3⟩,F,G,h4,h5⟩:=(Bg.below HZ.o f zW) k _ HG.o;have yY:=hr _ (List.getElem_mem hlt);have zN:=Yw (Qp s HG.o);have yS:b<wr.heap.size:=Yv
    have yH:=Yw h5;have yI:Hid (a.take (k+1)=a.take k++[a[k]]):=Zu hlt;rw[h4]at c3;have H4:=Yw h4;clear h5 h4;generalize a[k]=z at *
    have yU:(By (a.take k) s).length<=600:=by have:=List.length_filter_le (fun z:Kd×Value=> !decide (z.1.sum=s)) (a.take k);unfold By;rw[List.length_take]at this;omega
    go_wp2_with fail;refine(Dq (some F) G z.1.B s wr wr.heap.size yH.o Yv).mono ?_;rintro e w3 ⟨rfl,rfl⟩;by_cases hin:s∈z.1.B
    .have hd:z.1.B.any (fun x=>decide (x=s))=true:=by simpa using hin
     rw[hd];obtain⟨⟨Q,q0⟩,⟨R,q1⟩,⟨S,q2⟩,⟨U,q3⟩,⟨X,q4⟩,⟨Y,q5⟩,⟨Z,q6⟩,⟨y7,q7⟩,⟨y8,q8⟩,⟨y9,q9⟩,⟨K,yC⟩,M,yD⟩:=Bw n.o.2.2.2.1;have yK:=Yw hin;clear hin hd c0 c1 c2 c3 v0 v1 v2 v3 v4 v5 v6;go_wp2
     refine bodyPost_ret (v:=.agg (Yb 6)) (by simp[results,results128,go_sem,Q,R,S,U,X,Y,Z,y7,y8,y9,K,M]) rfl ⟨f.trans (Tn.below (Bv _ (w.heap.size+1) _ _ _ _ _ _ _ _ _ _ _ _) f.size Yu),.inl ⟨.inr ⟨z.1,List.mem_map.2 ⟨z,Zs HG.o,rfl⟩,yK.o⟩,rfl⟩⟩
    .have hd:z.1.B.any (fun x=>decide (x=s))=false:=by rw[List.any_eq_false];intro x hx e;exact hin (of_decide_eq_true e▸hx)
     rw[hd];have zJ:Hid (∀y∈a.take (k+1),¬s∈y.1.B):=by
      rw[yI.o];intro y hy;rcases List.mem_append.1 hy with hy|hy
      .exact n.o.2.1 y hy
      .simp at hy;rw[hy];exact hin
     clear hin hd;by_cases hzs:z.1.sum=s
     .have hq:(z.1.sum.toList !=s.toList)=false:=by rw[hzs];simp
      have yA:(z.1.sum.toList==s.toList)=true:=by rw[hzs];simp
      have A:=zN.o;rw[if_pos hzs,List.append_nil]at A;have H:=Yw A;clear A hzs;go_wp2;exact⟨⟨k+1,g,c,Yv,Yn,by rw[H.o],⟨by rw[H.o];exact n.o.1,zJ.o,n.o.2.2⟩⟩,Ys⟩
     .have yA:(z.1.sum.toList==s.toList)=false:=Bu hzs;have hq:(z.1.sum.toList !=s.toList)=true:=by simp[bne,yA]
      have A:=zN.o;rw[if_neg hzs]at A;have H:=Yw A;clear A hzs;obtain⟨i0,hi,yO,yP,zC⟩:=info_parts Gd;have zY:=Ac n.o.1 (g:=g) rfl;go_wp2_with (first
       |(at_builtin;refine wpList_append_own_at _ rfl _ _ 23 rfl (w.heap.size+2) 65 i0 _ 4 64 underlying23 hi yO yP zC rfl Yq _ (By (a.take k) s).length (Ag kC (By (a.take k) s)) rfl ?d0 ⟨w3.heap.size,0,none⟩ 1 1 (kC (z.1,.slice (some F) z.1.B.length G)) rfl rfl ?d2 ?d3 ?d4 ?d5 ?d6 ?_)
       |go_in)
      case d0=>exact Al n.o.1 (Zy)
      case d2=>
       intro j u hu;rw[Go.WideShapes.add_plain,Nat.zero_add];exact((Aa.new w3 (kC (z.1,.slice (some F) z.1.B.length G)) 65) j u hu).1
      case d3=>
       intro u hu;simp[kC]at hu;rcases hu with rfl|rfl|rfl|rfl<;>rfl
      case d4=>unfold maxLen;omega
      case d5=>omega
      case d6=>simp;omega
      intro v4 w4 zB zX yM yL;obtain⟨g4,c4,rfl,yQ,yR⟩:=Bq zB (fun e=>by subst e;rcases zB.2 with⟨_,hn⟩|⟨_,_,_,e,_⟩<;>first|omega|cases e);have b4:Below w3.heap.size w3 (w3.alloc (.cells #[.string z.1.sum,Zg z.1.born,.string z.1.F,.slice (some F) z.1.B.length G] 65)):=Zy;have o:w3.grownBy w4 (some g):=Ap (Ak _ b4) zX;have zC:z.2=.slice (some F) z.1.B.length G:=H4.o
      have zH:(By (a.take (k+1)) s).length=(By (a.take k) s).length+1:=by rw[H.o];simp
      have zU:Ag kC (By (a.take (k+1)) s)=Ag kC (By (a.take k) s)++kC (z.1,.slice (some F) z.1.B.length G):=by rw[H.o,CS,<-zC];simp[Ag]
      have HF:Hid (w4.ownsRow (w.heap.size+2) 65 4 (Yz g4 (By (a.take (k+1)) s).length c4) (By (a.take (k+1)) s).length (Ag kC (By (a.take (k+1)) s))/\(∀y∈a.take (k+1),¬s∈y.1.B)/\Aa w4 w.heap.size (Yh wd now given births (some ⟨b,off,none⟩) a.length E p ps.length t l ls.length r)/\Aa w4 (w.heap.size+1) z12/\Zz w w4):=by
       refine⟨by rw[zH,zU];exact zB,zJ.o,?_,?_,f.grown o Yv (fun q hq=>by cases hq;omega)⟩
       .exact Aa.au n.o.2.2.1 o Yv
       .exact Aa.au (v:=Ze) n.o.2.2.2.1 o Yv
      clear zB zX o yM yL b4 zU zC c0 c1 c2 c3 v0 v1 v2 v3 v4 v5 v6;have yG:=Yw zH;clear zH;go_wp2;exact⟨⟨k+1,g4,c4,Yv,Yn,by rw[yG.o],HF⟩,Ys⟩
   .obtain rfl:k=a.length:=Yv
    have zV:=n.o;rw[Zt (Zx)]at zV;obtain⟨h1,h2,h3,h4,h5⟩:=zV;have zY:=Ac h1 (g:=g) rfl;have HE:=Yw (Zn h1 (Zn h2 h5));obtain⟨⟨Q,q0⟩,⟨R,q1⟩,⟨S,q2⟩,⟨U,q3⟩,⟨X,q4⟩,⟨Y,q5⟩,⟨Z,q6⟩,⟨y7,q7⟩,⟨y8,q8⟩,⟨y9,q9⟩,⟨K,yC⟩,M,yD⟩:=Bw h4;have f4:=(h3 4 _ rfl).2;have H3:=Yw h3;clear h1 h2 h3 h4 h5;rw[Zt (Zx)];go_wp2
    have T:∀a0 a1 a2 a3 a4 a5 a6 a7 a8 a9 zS zT c4,Tn [w.heap.size,w.heap.size+1] wr _:=fun a0 a1 a2 a3 a4 a5 a6 a7 a8 a9 zS zT c4=>(Tn.set (V:=[w.heap.size,w.heap.size+1]) wr w.heap.size 4 c4 Yu).trans (Tn.mono (Bv (wr.setCell (Zd (w.heap.size) 4) c4) (w.heap.size+1) a0 a1 a2 a3 a4 a5 a6 a7 a8 a9 zS zT) Yu)
    refine bodyPost_ret (v:=.agg #[Ze,Zg wd,Zg now,Zg given,Zg births,Yz g (By a s).length c,.slice p ps.length t,.slice l ls.length r,Zc,Ze,Zc,Zc]) (by simp[results,results128,go_sem,Q,R,S,U,X,Y,Z,y7,y8,y9,K,M]) rfl ?_;have T':=T Ze (Zg wd) (Zg now) (Zg given) (Zg births) (Yz g (By a s).length c) (.slice p ps.length t) (.slice l ls.length r) Zc Ze Zc Zc (Yz g (By a s).length c)
    have zG:=HE.o.2.2.trans (Tn.below T' HE.o.2.2.size Yu);refine⟨zG,.inr ⟨?_,g,c,rfl,Bg.own (Aw HE.o.1 (fun q hq=>T'.block q (Ac HE.o.1 hq).2 (by have:=(Ac HE.o.1 hq).1;simp;omega))) (fun z B=> ?_),Yv,Zr zY.2 T'.size⟩⟩
    .rintro(h|⟨x,hx,hs⟩)
     .have:=zK.o.2 h;simp at this
     .obtain⟨z,B,rfl⟩:=List.mem_map.1 hx;exact HE.o.2.1 z B hs
    .obtain⟨i,hi⟩:=List.getElem?_of_mem (List.mem_filter.1 B).1;obtain⟨_,F,G,e,hs⟩:=HZ.o i z hi;exact⟨F,G,e,Ab.mono (Ab.below hs zG) zG.size⟩
 .obtain⟨⟨Q,q0⟩,⟨R,q1⟩,⟨S,q2⟩,⟨U,q3⟩,⟨X,q4⟩,⟨Y,q5⟩,⟨Z,q6⟩,⟨y7,q7⟩,⟨y8,q8⟩,⟨y9,q9⟩,⟨K,yC⟩,M,yD⟩:=Bw zF.o;go_wp2;refine bodyPost_ret (v:=.agg (Yb 6)) (by simp[results,results128,go_sem,Q,R,S,U,X,Y,Z,y7,y8,y9,K,M]) rfl ⟨zA.trans (Tn.below (Bv C (w.heap.size+1) _ _ _ _ _ _ _ _ _ _ _ _) zA.size Yu),.inl ⟨.inl (zK.o.1 trivial),rfl⟩⟩
section
open Go.ChangeShapes Go.WideShapes Go.ChangeAt Go.RowKit Go.Lib
end
theorem Bb.below{rs:Zj}(h:Bb w base T P L rs ks ps ls)(a:Zz w w'):Bb w' base T P L rs ks ps ls:=
 ⟨h.len,Al h.aj a,fun i k r b c=>Al (h.B i k r b c) a,Al h.pins a,Al h.aq a,h.nd⟩
end Go.Proofs.YtcfjcdpkpiidkaaGreat
