import Derived.Test.YtoglnpagihdhpaaGreatDoorX06
import Derived.Test.YtoglnpagihdhpaaGreatDoorX04
import Derived.WalkLawsBesides
import Derived.Defers
import Derived.Recover
set_option maxRecDepth 100000
set_option maxHeartbeats 16000000
namespace Go.Proofs.YtoglnpagihdhpaaGreatDoor
open ChangeShapes WideShapes ChangeAt RowKit _root_.Go.Proofs.Tryz
variable{w w':Zh}{base d m g b B n i R:Nat}{V U:List Nat}{wd now given births:Int}{ks:List Kd}{O P L:Value}{ps:List Pd}{ls:List Ld}{k:Kd}{a:Zk}{s:Zi}{A:Type}
section
attribute [local go_sem↓] Go.wp_at_zero Go.wp_at_succ
theorem BL.holds{f:Lit->Option Value}(h:BL w base V wd ks f):Holds w w.heap.size wd ks f:=by
 intro s g;rcases h s g with h|⟨u,i,j,a,b,c,e⟩
 .exact .inl h
 .exact .inr ⟨u,i,j,a,b,c,e.row⟩
theorem Dr.look(h:Dr w base d m O P L wd now given births ks ps ls)(i:(ks.map (·.sum)).Nodup)(o:∀k∈ks,(k.sum.size:Int)=wd)(b:k∈ks):
 ∃a c,Ad w w.heap.size a k.B/\∀X,Zz w X->(Instr.lookup 102 (.map (some m)) (Cn k.sum) false).run prog X=.ok (DX k a c) X:=by
 obtain⟨n,f,v,e,r⟩:=h.map;rcases r _ (o k b)with⟨_,j⟩|⟨u,a,c,t,q,g,l⟩
 .exact absurd ⟨_,b,rfl⟩ j
 .obtain rfl:=FZ i t b q;refine⟨a,c,l.row,fun X s=> ?_⟩;have:=(e.ag s e.lt).look keyed underlying102 (KV _) (EL u.sum);rw[g]at this;exact this
theorem Vp(base d m l n:Nat)(O P L:Value)(wd now given births:Int)(ks:List Kd)(ps:List Pd)(ls:List Ld)(s:Zi)(k:Kd)(w:Zh)(F:Dr w base d m O P L wd now given births ks ps ls)(J:(ks.map (·.sum)).Nodup)(M:∀k∈ks,(k.sum.size:Int)=wd)(Q:k∈ks)(R:k.B.length<=1000)(j:k.B.Pairwise (fun a b=>less a b=true))(t:w.cell? (Zd l 0)=some (Yy d))(x:w.cell? (Zd n 0)=some (.string s)):
 Calls prog 175 #[Cn k.sum,Yy l,Yy n] w fun e w'=>∃ok,e=.returned (.bool ok)/\(ok=true↔s∈k.B)/\Zz w w':=by
 obtain⟨c,f,g,o⟩:=F.look J M Q;have I:=World.block_lt_of_cell? w _ t;have K:=World.block_lt_of_cell? w _ x;obtain⟨W,q⟩:=Af (w.alloc (.cells (Yk (kB k.sum)) 111));have h:=(AB q).1;have z:Aa W w.heap.size (Am k.sum):=by rw[q];exact Aa.new w (Am k.sum) 111
 have N:w.heap.size<W.heap.size:=Aa.lt (v:=.int .u8 (kB k.sum 0)) z;unfold Cn CR DX at o
 have y:Hid (∀X,Zz W X->X.cell? (Zd l 0)=some (Yy d)/\X.cell? (Zd n 0)=some (.string s)/\X.cell? (Zd d 1)=some (.map (some m))/\(X.cell? (Zd (w.heap.size) 0)=some (.int .u8 (kB k.sum 0))/\X.cell? (Zd (w.heap.size) 1)=some (.int .u8 (kB k.sum 1))/\X.cell? (Zd (w.heap.size) 2)=some (.int .u8 (kB k.sum 2))/\X.cell? (Zd (w.heap.size) 3)=some (.int .u8 (kB k.sum 3))/\X.cell? (Zd (w.heap.size) 4)=some (.int .u8 (kB k.sum 4))/\X.cell? (Zd (w.heap.size) 5)=some (.int .u8 (kB k.sum 5))/\X.cell? (Zd (w.heap.size) 6)=some (.int .u8 (kB k.sum 6))/\X.cell? (Zd (w.heap.size) 7)=some (.int .u8 (kB k.sum 7)))/\(Instr.lookup 102 (.map (some m)) (.agg (Yk (kB k.sum))) false).run prog X=.ok (.agg #[.string k.sum,Zg k.born,.string k.J,.slice c k.B.length f]) X):=
  fun X E=>by have r:=h.trans (E.mono h.size);exact⟨(r.cell (p:=⟨l,0,none⟩) I).trans t,(r.cell (p:=⟨n,0,none⟩) K).trans x,(Aa.below F.box r 1 _ rfl).1,sk8 (E.block _ N) z,o X r⟩
 have C:=Yw (Qc c f k.B s W.drew (Ad.mono (Ad.below g h.drew) h.size) R j);have B:Below W.heap.size W W.drew:=Ae.drew;have T:∀X:Zh,(Instr.field 66 (.agg #[.string k.sum,Zg k.born,.string k.J,.slice c k.B.length f]) 2).run prog X=.ok (.agg #[.string k.J,.slice c k.B.length f]) X:=fun _=>by kernel_rfl
 have U:∀X:Zh,(Instr.field 36 (.agg #[.string k.J,.slice c k.B.length f]) 1).run prog X=.ok (.slice c k.B.length f) X:=fun _=>by kernel_rfl
 have D:=Yw q;clear q z o g;unfold Cn CR;go_enter func175,ntmps175;go_upto_region 1 with fail;rw[<-D.o];clear D
 go_region_held3 (fun X=>X.cell? (Zd l 0)=some (Yy d)/\X.cell? (Zd n 0)=some (.string s)/\X.cell? (Zd d 1)=some (.map (some m))/\(X.cell? (Zd (w.heap.size) 0)=some (.int .u8 (kB k.sum 0))/\X.cell? (Zd (w.heap.size) 1)=some (.int .u8 (kB k.sum 1))/\X.cell? (Zd (w.heap.size) 2)=some (.int .u8 (kB k.sum 2))/\X.cell? (Zd (w.heap.size) 3)=some (.int .u8 (kB k.sum 3))/\X.cell? (Zd (w.heap.size) 4)=some (.int .u8 (kB k.sum 4))/\X.cell? (Zd (w.heap.size) 5)=some (.int .u8 (kB k.sum 5))/\X.cell? (Zd (w.heap.size) 6)=some (.int .u8 (kB k.sum 6))/\X.cell? (Zd (w.heap.size) 7)=some (.int .u8 (kB k.sum 7)))/\(Instr.lookup 102 (.map (some m)) (.agg (Yk (kB k.sum))) false).run prog X=.ok (.agg #[.string k.sum,Zg k.born,.string k.J,.slice c k.B.length f]) X)
  (first|with_reducible exact y.o _ B|with_reducible exact y.o _ A)
  (first|(go_at_call 176;refine C.Ah ?_;rintro e S ⟨i,ok,rfl,u,H⟩;have G:=Yw u;clear u;have A:Below W.heap.size W S:=Dg H))
 all_goals
  clear y C B;go_wp2;go_ret;exact⟨ok,rfl,G.o,h.trans (A.mono h.size)⟩
def JM(ks:List Kd):Prop:=∀k∈ks,k.B.length<=1000/\k.B.Pairwise (fun a b=>less a b=true)
theorem Po(base d m n q:Nat)(M:Zk)(E:Nat)(P L:Value)(wd now given births:Int)(ks:List Kd)(ps:List Pd)(ls:List Ld)(s:Zi)(w:Zh)(I:Dr w base d m (.slice M ks.length E) P L wd now given births ks ps ls)(Z:(ks.map (·.sum)).Nodup)(zB:∀k∈ks,(k.sum.size:Int)=wd)(K:JM ks)(hl:ks.length<=600)(A:w.cell? (Zd n 0)=some (Yy d))(D:w.cell? (Zd q 0)=some (.string s)):
 Calls prog 181 #[.slice M ks.length E,.func (.func 175) #[] #[Yy n,Yy q]] w fun e w'=>∃r:Int,e=.returned (Zg r)/\(0<=r↔∃k∈ks,s∈k.B)/\Zz w w':=by
 have X:=World.block_lt_of_cell? w _ A;have zA:=World.block_lt_of_cell? w _ D;have HD:=Yw I;clear I;go_enter func181,ntmps181;go_wp2
 go_loopw [8] (fun i wr=>∃k:Nat,k<=ks.length/\i=Zg k/\Hid (∀j x,j<k->ks[j]?=some x->¬s∈x.B)/\Zz w wr) (fun i _=>ks.length -(intOf i).toNat)
 case atStart=>exact⟨0,Nat.zero_le _,rfl,(fun j x h=>by omega),Ae⟩
 case round=>
  obtain⟨k,hk,rfl,g,b⟩:=hrel;have zC:=b.size;by_cases hlt:k<ks.length
  .have l:=Dr.below HD.o b;have f:=l.ord;obtain⟨og,oc,Y,_,zE⟩:=Co f (fun e=>by injection e with _ h2 _;omega);cases Y;have J:=Yw (Zv hlt);have c:=List.getElem_mem hlt;have B:(ks.map (·.sum))[k]?=some ks[k].sum:=by simp[hlt]
   have a:∀j,j<8->wr.cell? (Zd og (k *8+j))=some (.int .u8 (kB ks[k].sum j)):=fun j o=>(f.cellAt _ Yv).trans (EM B o);have z:=a 0 Yv;have Q:=a 1 Yv;have R:=a 2 Yv;have S:=a 3 Yv;have T:=a 4 Yv;have U:=a 5 Yv;have V:=a 6 Yv;have W:=a 7 Yv;rw[Nat.add_zero]at z
   have F:=Vp base d m n q _ P L wd now given births ks ps ls s ks[k] wr l Z zB c (K _ c).1 (K _ c).2 ((b.cell (p:=⟨n,0,none⟩) X).trans A) ((b.cell (p:=⟨q,0,none⟩) zA).trans D);unfold Cn CR at F;have t:=Yw F;clear a B f l c F;generalize ks[k]=x at *
   go_wp2_with fail;refine t.Ah ?_;rintro e w1 ⟨ok,rfl,C,N⟩;have v:=b.trans (N.mono zC);have u:=Yw C;clear C z Q R S T U V W t;cases ok
   .have HA:Hid (∀j y,j<k+1->ks[j]?=some y->¬s∈y.B):=by
     intro j y o G;rcases Nat.lt_or_ge j k with H|H
     .exact g.o j y H G
     .obtain rfl:j=k:=Yv
      rw[J.o]at G;cases G;exact fun h=>by have:=u.o.2 h;simp at this
    go_wp2;exact⟨⟨k+1,Yv,Yn,HA,v⟩,Ys⟩
   .go_wp2;go_ret;exact⟨_,rfl,⟨(fun _=>⟨x,Zs J.o,u.o.1 (by trivial)⟩),(fun _=>by omega)⟩,v⟩
  .go_wp2;go_ret;refine⟨_,rfl,⟨(fun h=>by omega),(fun⟨p,hp,h⟩=> ?_)⟩,b⟩;obtain⟨j,o,rfl⟩:=List.getElem_of_mem hp;exact absurd h (g.o j _ Yv (Zv o))
theorem LY(base d m g j:Nat)(i:Zk)(a:Nat)(P L:Value)(wd now given births:Int)(ks:List Kd)(ps:List Pd)(ls:List Ld)(s:Zi)(w:Zh)(b:Dr w base d m (.slice i ks.length a) P L wd now given births ks ps ls)(q:(ks.map (·.sum)).Nodup)(u:∀k∈ks,(k.sum.size:Int)=wd)(x:JM ks)(v:ks.length<=600)(o:w.cell? (Zd g 0)=some (Yy d))(t:w.cell? (Zd j 0)=some (.string s)):
 Calls prog 174 #[.slice i ks.length a,.func (.func 175) #[] #[Yy g,Yy j]] w fun e w'=>∃ok,e=.returned (.bool ok)/\(ok=true↔∃k∈ks,s∈k.B)/\Zz w w':=by
 have l:=Yw (Po base d m g j i a P L wd now given births ks ps ls s w b q u x v o t);clear b;go_enter func174,ntmps174;go_wp2_with fail;refine l.Ah ?_;rintro e y ⟨r,rfl,f,c⟩;have n:=Yw f;clear f l;by_cases h:0<=r
 .have b:decide ((0:Int)<=r)=true:=by simpa using h
  go_wp2;go_ret;exact⟨true,rfl,⟨(fun _=>n.o.1 h),(fun _=>rfl)⟩,c⟩
 .have b:decide ((0:Int)<=r)=false:=by simpa using h
  go_wp2;go_ret;exact⟨false,rfl,⟨(fun e=>by cases e),(fun e=>absurd (n.o.2 e) Yv)⟩,c⟩
theorem TR(base d m:Nat)(O P L:Value)(wd now given births:Int)(ks:List Kd)(ps:List Pd)(ls:List Ld)(s:Zi)(w:Zh)(g:Dr w base d m O P L wd now given births ks ps ls)(o:(ks.map (·.sum)).Nodup)(q:∀k∈ks,(k.sum.size:Int)=wd)(x:JM ks)(v:ks.length<=600):
 Calls prog 161 #[Yy d,.string s] w fun e w'=>∃ok,e=.returned (.bool ok)/\(ok=true↔∃k∈ks,s∈k.B)/\Zz w w':=by
 have z:∀(fn:Fn) (first cap:Array Value) (w:Zh),(Instr.makeFunc fn first cap).run prog w=.ok (.func fn first cap) w:=fun _ _ _ _=>rfl;obtain⟨y,r,rfl⟩:=As g.ord;obtain⟨W,a⟩:=Af ((w.alloc (.cells #[Yy d] 57)).alloc (.cells #[.string s] 9));have f:=(Bb a).1;have u:W.cell? (Zd (w.heap.size) 0)=some (Yy d):=by rw[a];simp[go_sem]
 have j:W.cell? (Zd (w.heap.size+1) 0)=some (.string s):=by rw[a];simp[go_sem]
 have b:=g.below f;have h:=Yw (LY base d m w.heap.size (w.heap.size+1) y r P L wd now given births ks ps ls s W b o q x v u j);obtain⟨A,_⟩:=b.box 5 _ rfl;have i:=Yw a;clear a b g j;go_enter func161,ntmps161;go_upto_region 1 with fail;rw[<-i.o];clear i;go_wp2_with fail;refine h.Ah ?_;rintro e B ⟨ok,rfl,c,l⟩;have t:=Yw c;have n:=f.trans (l.mono f.size);clear c h;go_wp2;go_ret
 exact⟨ok,rfl,t.o,n⟩
theorem KL(base d m:Nat)(O P L:Value)(wd now given births:Int)(ks:List Kd)(ps:List Pd)(ls:List Ld)(s:Zi)(w:Zh)(i:Dr w base d m O P L wd now given births ks ps ls)(n:(ks.map (·.sum)).Nodup)(o:∀k∈ks,(k.sum.size:Int)=wd)(x:JM ks)(t:ks.length<=600)(v:ps.length<=100)(u:ls.length<=200):
 Calls prog 142 #[Yy d,.string s] w fun e w'=>∃ok,e=.returned (.bool ok)/\(ok=true↔((∃p∈ps,p.sum=s)\/∃l∈ls,l.sum=s)\/∃k∈ks,s∈k.B)/\Zz w w':=by
 have f:=Yw i;clear i;go_enter func142,ntmps142;go_wp2_with fail;refine(RG base d m O P L wd now given births ks ps ls s w f.o v u).mono ?_;rintro e y ⟨q,rfl,g,a⟩;have b:=Yw g;clear g;cases q
 .go_wp2_with fail;refine(TR base d m O P L wd now given births ks ps ls s y (Dr.below f.o a) n o x t).mono ?_;rintro e z ⟨r,rfl,h,j⟩;have c:=Yw h;clear h;go_wp2;go_ret;exact⟨r,rfl,⟨(fun e=> .inr (c.o.1 e)),(fun e=>e.elim (fun e=>by have:=b.o.2 e;simp at this) c.o.2)⟩,a.trans (j.mono a.size)⟩
 .go_wp2;go_ret;exact⟨true,rfl,⟨(fun _=> .inl (b.o.1 (by trivial))),(fun _=>rfl)⟩,a⟩
theorem EE(base d m:Nat)(O P L:Value)(wd now given births:Int)(ks:List Kd)(ps:List Pd)(ls:List Ld)(s:Zi)(w:Zh)(c:Dr w base d m O P L wd now given births ks ps ls)(l:∀k∈ks,(k.sum.size:Int)=wd)(o:Au ks s):
 Calls prog 131 #[Yy d,.string s] w fun e w'=>e=.returned (.tuple #[])/\Zz w w':=by
 obtain⟨n,f,t,i,h⟩:=c.map;obtain⟨ok,b,a⟩:=Gp wd m n f ks w w.heap.size s w i h.holds l;obtain rfl:=b.2 o;obtain⟨q,r⟩:=Aa.c2 c.box 0 1;have g:=Yw (a w Ae);clear a b c i h;go_enter func131,ntmps131;go_wp2_with fail;refine g.Ah ?_;rintro e u ⟨rfl,j⟩;clear g;go_wp2
 go_end0
 exact⟨rfl,j⟩
end
structure Tn (V:List Nat) (w w':Zh):Prop where
 os:w'.os=w.os
 tape:w'.tape=w.tape
 output:w'.output=w.output
 size:w.heap.size<=w'.heap.size
 block:∀b,b<w.heap.size->b∉V->w'.heap[b]?=w.heap[b]?
theorem Tn.of(h:Zz w w'):Tn V w w':=⟨h.os,h.tape,h.output,h.size,fun b a _=>h.block b a⟩
theorem Tn.grown(h:w.grownBy w' (some g))(c:g∈V):Tn V w w':=⟨h.os,h.tape,h.output,h.size,fun b a f=>h.block b a (fun e=>f (Option.some.inj e▸c))⟩
theorem Tn.set(w:Zh)(g j:Nat)(v:Value)(a:g∈V):Tn V w (w.setCell (Zd g j) v):=Tn.grown (AA w g j v) a
theorem Tn.trans{a b c:Zh}(h:Tn V a b)(k:Tn V b c):Tn V a c:=
 ⟨k.os.trans h.os,k.tape.trans h.tape,k.output.trans h.output,Zm h.size k.size,fun q e f=>(k.block q (Zr e h.size) f).trans (h.block q e f)⟩
theorem Tn.below(h:Tn V w w')(e:B<=w.heap.size)(a:∀b∈V,B<=b):Below B w w':=⟨h.os,h.tape,h.output,h.size,fun b f=>h.block b Yv (fun c=>by have:=a b c;omega)⟩
theorem Tn.mono{V':List Nat}(h:Tn V w w')(a:∀b∈V,b∈V'):Tn V' w w':=⟨h.os,h.tape,h.output,h.size,fun b c f=>h.block b c (fun e=>f (a b e))⟩
theorem AJ.same{K:TypeId}{f:Lit->Option Value}(h:AJ w K b n f)(i:w'.heap[b]?=w.heap[b]?):AJ w' K b n f:=by obtain⟨D,⟨a,clock,c,e⟩,g⟩:=h;exact⟨D,⟨a,clock,i.trans c,e⟩,g⟩
theorem Dn.K{j:Zl}(h:Dn w base V a j)(f:Tn V w w'):Dn w' base V a j:=by
 rcases h with h|⟨b,c,k,e,g,o,l⟩
 .exact .inl h
 .exact .inr ⟨b,c,k,Zr e f.size,g,(by rw[f.block b e g];exact o),fun i s n=>(World.cell?_of_block (a:=⟨b,c+i,none⟩) (f.block b e g)).trans (l i s n)⟩
theorem LZ{P:Program}{b:Array Oper}{o:Oper}{a:Act}{K:Act->Zh->Prop}{Q:Exit->Act->Zh->Prop}{E:Prop}(e:o.guard=none)(s x:Operand)(t u:TypeId)(f:o.op=.call {callee:=.builtin .delete,args:= #[s,x],argTypes:= #[t,u]}){v c:Value}(i:a.eval s=v)(k:a.eval x=c)(g:(Builtin.delete_ #[t,u] o.type #[v,c]).run P w=.ok (.tuple #[]) w')(h:K (a.put o.dst (.tuple #[])) w'):
 if Region.wanted o (yielded b a.tmps)=true then Oper.wp P o a w K Q else E:=by
 have j:Region.wanted o (yielded b a.tmps)=true:=by simp[Region.wanted,e]
 rw[if_pos j];unfold Oper.wp execOp;simp only[f,resolve,invoke,builtin,Sem.run_bind,Sem.run_pure,Result.andThen_ok,List.map_toArray,List.map_cons,List.map_nil,i,k,g];exact h
def CK(ks:List Kd)(s:Zi):List Kd:=ks.filter (fun k=> !decide (k.sum=s))
theorem Qi(a:(ks.map (·.sum)).Nodup)(b:ks[i]?=some k):CK ks k.sum=ks.eraseIdx i:=by
 induction ks generalizing i with
 |nil=>simp at b
 |cons x xs ih=>
  simp only[List.map_cons,List.nodup_cons,List.mem_map,not_exists,not_and]at a;cases i with
  |zero=>simp at b;subst b;unfold CK;simp only[List.filter_cons,decide_true,Bool.not_true,Bool.false_eq_true,if_false,List.eraseIdx_zero,List.tail_cons];exact List.filter_eq_self.2 (fun y h=>by simpa using a.1 y h)
  |succ i=>
   have c:xs[i]?=some k:=by simpa using b
   have g:=Zs c;have f:¬x.sum=k.sum:=fun e=>a.1 k g e.symm;have:=ih a.2 c;unfold CK at *
   simp[f,this]
theorem TT{g:Zl}(h:Fv g s i)(r:s∈g)(c:g.Pairwise (fun a b=>less a b=true)):g[i]?=some s:=by
 obtain⟨j,f⟩:=List.getElem?_of_mem r;have q:=(Zw f).1;rcases Nat.lt_or_ge j i with l|l
 .have:=h.lo j s l f;rw[BI]at this;cases this
 .rcases Nat.lt_or_ge i j with k|k
  .have n:=List.pairwise_iff_getElem.1 c i j Yv q k;have o:=h.hi i _ (Zx) (Zv Yv);obtain⟨_,e⟩:=Zw f;rw[e]at n;rw[n]at o;cases o
  .obtain rfl:j=i:=Yv
   exact f
structure Em (wd:Int) (ks:List Kd):Prop where
 nd:(ks.map (·.sum)).Nodup
 dh:(ks.map (·.sum)).Pairwise (fun a b=>less a b=true)
 sz:∀k∈ks,(k.sum.size:Int)=wd
 B:JM ks
 len:ks.length<=600
 w8:wd<=8
theorem BL.drop{f:Lit->Option Value}(h:BL w base V wd ks f)(o:Tn V w w')(x:(s.size:Int)=wd)(v:wd<=8):BL w' base V wd (CK ks s) (fo f (keyL s)):=by
 intro t g;by_cases hts:t=s
 .subst hts;exact .inl ⟨by simp[fo],fun⟨u,b,a⟩=>by simp[CK,a]at b⟩
 .have c:keyL t≠keyL s:=fun e=>hts (key_inj e Yv Yv);have k:fo f (keyL s) (keyL t)=f (keyL t):=by simp[fo,c]
  rw[k];rcases h t g with⟨i,j⟩|⟨u,q,r,b,a,l,n⟩
  .exact .inl ⟨i,fun⟨u,b,a⟩=>j ⟨u,(List.mem_filter.1 b).1,a⟩⟩
  .exact .inr ⟨u,q,r,List.mem_filter.2 ⟨b,by simp[a,hts]⟩,a,l,n.K o⟩
theorem Dr.apart(h:Dr w base d m O P L wd now given births ks ps ls)(v:Tn [R] w w')(Q:base<=R)(F:R∉vB d m O P L)(t:∀l fz,w.heap[R]?≠some (.cells l 9 fz)):Dr w' base d m O P L wd now given births ks ps ls:=by
 obtain⟨n,f,D,z,E⟩:=h.map;have j:∀b,b<w.heap.size->b∈vB d m O P L->w'.heap[b]?=w.heap[b]?:=fun b o x=>v.block b o (fun e=>F (by simp at e;exact e▸x))
 refine⟨Aa.same h.box (j d h.box.lt (by simp[vB])),⟨n,f,D,AJ.same z (j m z.lt (by simp[vB])),?_⟩,Ak h.ord (fun g c=>j g (Ac h.ord c).2 (by simp[vB,c])),Ak h.ci (fun g c=>j g (Ac h.ci c).2 (by simp[vB,c])),Ak h.ck (fun g c=>j g (Ac h.ck c).2 (by simp[vB,c])),h.bd,h.bm,h.ap⟩;intro s B;rcases E s B with C|⟨u,M,N,I,J,K,y⟩
 .exact .inl C
 .refine .inr ⟨u,M,N,I,J,K,?_⟩;rcases y with y|⟨b,r,G,o,x,k,H⟩
  .exact .inl y
  .have A:b≠R:=by
    rcases k with k|⟨_,l,k⟩
    .omega
    .exact fun e=>t l _ (e▸k)
   have q:=v.block b o (by simpa using A);exact .inr ⟨b,r,G,Zr o v.size,x,(by rw[q];exact k),fun i s t=>(World.cell?_of_block (a:=⟨b,r+i,none⟩) q).trans (H i s t)⟩
def Sb(B:Nat)(wd:Int)(f:Lit->Option Value):Prop:=∀s:Zi,(s.size:Int)=wd->∀u ra rc,f (keyL s)=some (DX u ra rc)->∀p,ra=some p->u.B.length≠0->p.block<B
def DB(w:Zh)(base B d m:Nat)(O P L:Value)(wd births:Int)(ks:List Kd):Prop:=(∀g∈vB d m O P L,g<B)/\∃n f,n<=1000000+births.toNat/\AJ w 111 m n f/\BL w base (vB d m O P L) wd ks f/\Sb B wd f
theorem DB.K(h:DB w base B d m O P L wd births ks)(l:Tn U w w')(t:∀g∈U,B<=g):DB w' base B d m O P L wd births ks:=by
 obtain⟨y,n,f,F,q,G,r⟩:=h;refine⟨y,n,f,F,AJ.same q (l.block m q.lt (fun e=>by have:=t m e;have:=y m (by simp[vB]);omega)),fun s j=> ?_,r⟩;rcases G s j with E|⟨u,A,C,J,K,z,o⟩
 .exact .inl E
 .refine .inr ⟨u,A,C,J,K,z,?_⟩;rcases o with o|⟨b,c,v,x,D,I,H⟩
  .exact .inl o
  .by_cases hr:u.B.length=0
   .exact .inl (List.eq_nil_of_length_eq_zero hr)
   .have M:b<B:=r s j u A C z ⟨b,c,none⟩ v hr;have k:=l.block b x (fun e=>by have:=t b e;omega);exact .inr ⟨b,c,v,Zr x l.size,D,(by rw[k];exact I),fun i s j=>(World.cell?_of_block (a:=⟨b,c+i,none⟩) k).trans (H i s j)⟩
def DBk(w w':Zh)(base d m:Nat)(O O' P L:Value)(wd births:Int)(ks:List Kd)(s:Zi):Prop:=∀B,B<=w.heap.size->DB w base B d m O P L wd births ks->DB w' base B d m O' P L wd births (CK ks s)
theorem Sb.fo{f:Lit->Option Value}(h:Sb B wd f)(k:Lit):Sb B wd (fo f k):=by
 intro s a u b c e;refine h s a u b c ?_;unfold Proofs.YtoglnpagihdhpaaGreatDoor.fo at e;split at e
 .cases e
 .exact e
theorem Vq(base d m:Nat)(O P L:Value)(wd now given births:Int)(ks:List Kd)(ps:List Pd)(ls:List Ld)(s:Zi)(w:Zh)(hd:Dr w base d m O P L wd now given births ks ps ls)(j:Em wd ks)(hp:ps.length<=100)(hl:ls.length<=200)(zC:Au ks s)(Q:¬(((∃p∈ps,p.sum=s)\/∃l∈ls,l.sum=s)\/∃k∈ks,s∈k.B)):
 Calls prog 119 #[Yy d,.string s] w fun e w'=>e=.returned (.tuple #[])/\∃O',Dr w' base d m O' P L wd now given births (CK ks s) ps ls/\O'.ownBlock=O.ownBlock/\Tn (vB d m O P L) w w'/\DBk w w' base d m O O' P L wd births ks s:=by
 obtain⟨k0,M,zA⟩:=zC;have zC:Au ks s:=⟨k0,M,zA⟩;have zX:=zA▸j.sz k0 M;have hlen:=List.length_pos_of_mem M;obtain⟨g,cap,rfl,yE,yF⟩:=Co hd.ord (fun e=>by have:=As hd.ord;obtain⟨a,c,e'⟩:=this;rw[e']at e;injection e with _ h2 _;omega);have HD:=Yw hd;clear hd;go_enter func119,ntmps119;go_wp2_with fail;refine(EE base d m _ P L wd now given births ks ps ls s w HD.o j.sz zC).mono ?_;rintro e w1 ⟨rfl,C⟩
 have T:=Yw (Dr.below HD.o C);go_wp2_with fail;refine(KL base d m _ P L wd now given births ks ps ls s w1 T.o j.nd j.sz j.B j.len hp hl).mono ?_;rintro e w2 ⟨ok,rfl,H,F⟩;obtain rfl:ok=false:=by
  cases ok with
  |false=>rfl
  |true=>exact absurd (H.1 rfl) Q
 have zG:=Yw (Dr.below T.o F);clear H T;go_wp2_with fail;refine(My s w2).mono ?_;rintro e y ⟨rfl,K⟩;obtain⟨z,J⟩:=Af (y.alloc (.cells (Yk (kB s)) 111));have zK:=(AB J).1;have k4:Aa z y.heap.size (Am s):=by rw[J];exact Aa.new y (Am s) 111
 have B4:=((C.trans (F.mono C.size)).trans (K.mono (Zm C.size F.size))).trans (zK.mono (Zm (Zm C.size F.size) K.size));have o:=Yw (Dr.below (Dr.below zG.o K) zK);have zI:=Yw J;clear J zG;go_upto_region 4 with fail;rw[<-zI.o];clear zI;obtain⟨n,f,hn,hM,hH⟩:=o.o.map;obtain⟨w5,N,zZ,zO⟩:=(hM.ag (Below.refl z.heap.size z).drew hM.lt).del keyed underlying102 (EL s) 0
 have G:∀u A,AJ z 111 m u A->AJ w5 111 m u (fo A (keyL s)):=fun u A zM=>by obtain⟨yJ,I,zE,_⟩:=(zM.ag (Below.refl z.heap.size z).drew zM.lt).del keyed underlying102 (EL s) 0;rw[N]at I;cases I;exact zE
 have zY:=Yw hM;have yD:=o.o.box.lt;have q:=o.o.ap;have zN:d≠m:=by intro e;unfold vB at q;simp[e]at q
 have V:d≠g/\m≠g:=by unfold vB at q;simp[Value.ownBlock]at q;omega
 have yH:=(HD.o.map.choose_spec.choose_spec.2.1).lt;have yI:=Zm (Zm C.size F.size) K.size;have r:=Dh zO;have k5:=Aa.bu (v:=.int .u8 (kB s 0)) k4 r Yv;have x5:=Aa.bu o.o.box r (fun e=>zN e.symm);have P4:z.drew.cell? (Zd d 1)=some (.map (some m))/\_:=⟨(o.o.box 1 _ rfl).1,Ha (w:=z.drew) k4⟩;have P5:w5.cell? (Zd d 1)=some (.map (some m))/\_:=⟨(x5 1 _ rfl).1,Ha k5⟩;unfold Cn CR at N
 go_region_held3 (fun X=>X.cell? (Zd d 1)=some (.map (some m))/\(X.cell? (Zd (y.heap.size) 0)=some (.int .u8 (kB s 0))/\X.cell? (Zd (y.heap.size) 1)=some (.int .u8 (kB s 1))/\X.cell? (Zd (y.heap.size) 2)=some (.int .u8 (kB s 2))/\X.cell? (Zd (y.heap.size) 3)=some (.int .u8 (kB s 3))/\X.cell? (Zd (y.heap.size) 4)=some (.int .u8 (kB s 4))/\X.cell? (Zd (y.heap.size) 5)=some (.int .u8 (kB s 5))/\X.cell? (Zd (y.heap.size) 6)=some (.int .u8 (kB s 6))/\X.cell? (Zd (y.heap.size) 7)=some (.int .u8 (kB s 7))))
  (first|with_reducible exact P4|with_reducible exact P5)
  (first|(refine LZ Yp (.tmp 21) (.tmp 22) 102 111 Yp Yp Yp N ?_))
 have zB:=World.ownsRow.kept o.o.ord r (.inr (fun e=>V.2 (Option.some.inj e).symm));have HP:=Tw base d m g cap P L wd now given births ks s w5 x5 zB j.len (by have:=j.w8;omega) (fun x hx=>by have:=j.sz x hx;omega) j.dh;obtain⟨q0,q1,q2,q3,q4,q5,q6,q7⟩:=Ha k5;have HQ:=Yw HP;unfold Cn CR at HQ;have zJ:=Yw (Zn x5 zB);have H5:=Yw (Zn G (Zn r hH));clear HP P4 P5 N zZ zO r x5 zB k4 k5 hM G
 go_wp2_with fail;refine HQ.Ah ?_;rintro e w6 ⟨i,rfl,zW,U⟩;have Z:=TT zW (List.mem_map.2 ⟨k0,M,zA⟩) j.dh;have yG:=j.len;have zP:i<ks.length:=by have:=(Zw Z).1;simpa using this
 have x6:=Aa.below zJ.o.1 U;obtain⟨y5,f5⟩:=x6 5 _ rfl;have zU:w6.ownsRow base 111 8 (Yz g (ks.map (·.sum)).length cap) (ks.map (·.sum)).length (AG (ks.map (·.sum))):=by rw[List.length_map];exact Ag zJ.o.2 U
 have D:=NO g cap i (ks.map (·.sum)) w6 base zU (by rw[List.length_map];exact j.len) (by rw[List.length_map];exact zP);rw[List.length_map]at D;have zH:=Yw D;have R:=Yw (Zn Z (Zn x6 U));clear zW Z x6 D zU HQ q0 q1 q2 q3 q4 q5 q6 q7;go_wp2_with fail;refine zH.Ah ?_;rintro e w7 ⟨rfl,zV,Y⟩;have x7:=Aa.bu R.o.2.1 Y (fun e=>V.1 e.symm);obtain⟨y7,f7⟩:=x7 5 _ rfl;have H7:=Yw (Zn x7 (Zn zV Y))
 clear x7 zV Y y5 f5 zH;go_wp2
 go_end0
 have S:Tn [d,m,g] z (w7.setCell (Zd d 5) (Yz g (ks.length -1) cap)):=
  (((Tn.grown H5.o.2.1 Yu).trans (Tn.of R.o.2.2)).trans (Tn.grown H7.o.2.2 Yu)).trans (Tn.set w7 d 5 _ Yu)
 have E:∀b∈[d,m,g],b∈vB d m (Yz g ks.length cap) P L:=by intro b t;simp at t;unfold vB;rcases t with rfl|rfl|rfl<;>simp[Value.ownBlock]
 have zT:∀v:Value,(v=P\/v=L)->∀b,v.ownBlock=some b->b∉[d,m,g]:=by
  intro v hv b t zR;unfold vB at q;rcases hv with rfl|rfl
  .simp only[List.nodup_cons,List.mem_cons,List.mem_append,Option.mem_toList,t]at q;simp[Value.ownBlock]at q zR
   grind
  .simp only[List.nodup_cons,List.mem_cons,List.mem_append,Option.mem_toList,t]at q;simp[Value.ownBlock]at q zR
   grind
 have yB:∃k,ks[i]?=some k/\k.sum=s:=by
  have:=R.o.1;rw[List.getElem?_map]at this;cases hk:ks[i]? with
  |none=>rw[hk]at this;cases this
  |some k=>rw[hk]at this;exact⟨k,rfl,by simpa using this⟩
 obtain⟨ki,yC,zF⟩:=yB;have yA:=zF▸Qi j.nd yC;have zS:∀u A,AJ z 111 m u A->AJ (w7.setCell (Zd d 5) (Yz g (ks.length -1) cap)) 111 m u (fo A (keyL s)):=fun u A h=>by have h5:=H5.o.1 u A h;refine AJ.same (AJ.same (h5.ag R.o.2.2 h5.lt) (H7.o.2.2.block m (Zr h5.lt R.o.2.2.size) (fun e=>V.2 (Option.some.inj e)))) ?_;exact Below.heap_setCell _ _ _ _ (fun e=>zN e.symm)
 refine⟨rfl,Yz g (ks.length -1) cap,⟨Aa.set H7.o.1 5 _,⟨n,fo f (keyL s),hn,zS n f zY.o,?_⟩,?_,?_,?_,o.o.bd,o.o.bm,q⟩,rfl,(Tn.of B4).trans (S.mono E),fun B _ ⟨hv,u,A,h0,h1,h2,h3⟩=>⟨hv,u,_,h0,zS u A (h1.ag B4 h1.lt),BL.drop (h2.below B4) (S.mono E) zX j.w8,h3.fo _⟩⟩
 .exact BL.drop H5.o.2.2 (S.mono E) zX j.w8
 .rw[yA];have h1:(ks.eraseIdx i).length=ks.length -1:=by rw[List.length_eraseIdx,if_pos zP]
  rw[h1];have h2:(ks.eraseIdx i).map (·.sum)=(ks.map (·.sum)).eraseIdx i:=by simp[List.eraseIdx_eq_take_drop_succ]
  rw[h2];exact BM H7.o.2.1 (fun b t=>by simp[Value.ownBlock]at t;omega) 5 _
 .exact Ak o.o.ci (fun b t=>S.block b (Ac o.o.ci t).2 (zT P (.inl rfl) b t))
 .exact Ak o.o.ck (fun b t=>S.block b (Ac o.o.ck t).2 (zT L (.inr rfl) b t))
theorem Dr.cz(c:Dr w base d m O P L wd now given births ks ps ls):∀b∈vB d m O P L,b<w.heap.size:=by
 intro b a;unfold vB at a;simp only[List.mem_cons,List.mem_append,Option.mem_toList]at a;rcases a with rfl|rfl|a|a|a
 .exact c.box.lt
 .exact(c.map.choose_spec.choose_spec.2.1).lt
 .exact(Ac c.ord a).2
 .exact(Ac c.ci a).2
 .exact(Ac c.ck a).2
def Cj(c:Int)(a b:Zi):Value:=.iface 150 (.agg #[Zg c,.string a,.string b])
theorem TU(base d m:Nat)(O P L:Value)(wd now given births:Int)(ks:List Kd)(ps:List Pd)(ls:List Ld)(s:Zi)(w:Zh)(i:Dr w base d m O P L wd now given births ks ps ls)(a:Em wd ks)(q:ps.length<=100)(o:ls.length<=200)(n:Au ks s)(f:((∃p∈ps,p.sum=s)\/∃l∈ls,l.sum=s)\/∃k∈ks,s∈k.B):
 Calls prog 119 #[Yy d,.string s] w fun e w'=>e=.panicked [{v:=Cj 6 ⟨#[]⟩ ⟨#[]⟩,recovered:=false}]/\Zz w w':=by
 have h:=Yw i;clear i;go_enter func119,ntmps119;go_wp2_with fail;refine(EE base d m O P L wd now given births ks ps ls s w h.o a.sz n).mono ?_;rintro e r ⟨rfl,c⟩;have g:=Yw (Dr.below h.o c);go_wp2_with fail;refine(KL base d m O P L wd now given births ks ps ls s r g.o a.nd a.sz a.B a.len q o).mono ?_;rintro e t ⟨ok,rfl,b,j⟩;obtain rfl:=b.2 f;clear b g;go_wp2;exact⟨rfl,rfl,c.trans (j.mono c.size)⟩
def z12:Zj:=[Ze,Ze,Ze,Ze,Ze,Zb,Zb,Zb,Zc,Ze,Zc,Zc]
theorem AS(h:Aa w b z12):(w.cell? (Zd b 0)=some Ze/\w.frozen? ⟨b,0,none⟩=false)/\(w.cell? (Zd b 1)=some Ze/\w.frozen? ⟨b,1,none⟩=false)/\(w.cell? (Zd b 2)=some Ze/\w.frozen? ⟨b,2,none⟩=false)/\(w.cell? (Zd b 3)=some Ze/\w.frozen? ⟨b,3,none⟩=false)/\(w.cell? (Zd b 4)=some Ze/\w.frozen? ⟨b,4,none⟩=false)/\(w.cell? (Zd b 5)=some Zb/\w.frozen? ⟨b,5,none⟩=false)/\(w.cell? (Zd b 6)=some Zb/\w.frozen? ⟨b,6,none⟩=false)/\(w.cell? (Zd b 7)=some Zb/\w.frozen? ⟨b,7,none⟩=false)/\(w.cell? (Zd b 8)=some Zc/\w.frozen? ⟨b,8,none⟩=false)/\(w.cell? (Zd b 9)=some Ze/\w.frozen? ⟨b,9,none⟩=false)/\(w.cell? (Zd b 10)=some Zc/\w.frozen? ⟨b,10,none⟩=false)/\(w.cell? (Zd b 11)=some Zc/\w.frozen? ⟨b,11,none⟩=false):=
 ⟨h 0 _ rfl,h 1 _ rfl,h 2 _ rfl,h 3 _ rfl,h 4 _ rfl,h 5 _ rfl,h 6 _ rfl,h 7 _ rfl,h 8 _ rfl,h 9 _ rfl,h 10 _ rfl,h 11 _ rfl⟩
theorem Ba(w:Zh)(R:Nat)(c e f g i k l n o q a b:Value):Tn [R] w ((((((((((((w.setCell (Zd R 0) c).setCell (Zd R 1) e).setCell (Zd R 2) f).setCell (Zd R 3) g).setCell (Zd R 4) i).setCell (Zd R 5) k).setCell (Zd R 6) l).setCell (Zd R 7) n).setCell (Zd R 8) o).setCell (Zd R 9) q).setCell (Zd R 10) a).setCell (Zd R 11) b):=
 have h:∀(x:Zh) (j:Nat) (v:Value),Tn [R] x (x.setCell (Zd R j) v):=fun x j v=>Tn.set x R j v Yu
 (((((((((((h w 0 c).trans (h _ 1 e)).trans (h _ 2 f)).trans (h _ 3 g)).trans (h _ 4 i)).trans (h _ 5 k)).trans (h _ 6 l)).trans (h _ 7 n)).trans (h _ 8 o)).trans (h _ 9 q)).trans (h _ 10 a)).trans (h _ 11 b)
theorem Tn.fresh{f:Zh}(a:Tn V w f)(c:Tn [R] f w')(h:w.heap.size<=R):Tn V w w':=
 ⟨c.os.trans a.os,c.tape.trans a.tape,c.output.trans a.output,Zm a.size c.size,fun b e g=>(c.block b (Zr e a.size) Yt).trans (a.block b e g)⟩
theorem Sc(p:Addr)(w:Zh):
 CallsD prog 76 #[.pointer (some p)] .returning w fun e b w'=>e=.returned (.tuple #[])/\b=.returning/\w'=w:=by
 have a:∀w:Zh,(binOp BinOp.eql 20 .nilIface .nilIface).run prog w=.ok (.bool true) w:=fun _=>by kernel_rfl
 refine callsD_of_wpS func76 rfl fun c₀ cs hu=> ?_;apply wpS_seq;apply wpS_region;simp[wpOpsS,go_sem,recoverD,hu,ntmps76,Exit.thenS];refine wpS_of_wp ?_;change Code.wp prog _ _ {tmps:= #[Value.pointer (some p),undef,undef,undef,Value.nilIface,undef,undef,undef,undef,undef,undef,undef,undef,undef,undef,undef,undef],defers:=[]} w;go_wp2;cases c₀;simp_all [bodyPostS,results,results76]
theorem Sd(h:Aa w b z12)(e f g i j k l n o q a c:Value):Aa ((((((((((((w.setCell (Zd b 0) e).setCell (Zd b 1) f).setCell (Zd b 2) g).setCell (Zd b 3) i).setCell (Zd b 4) j).setCell (Zd b 5) k).setCell (Zd b 6) l).setCell (Zd b 7) n).setCell (Zd b 8) o).setCell (Zd b 9) q).setCell (Zd b 10) a).setCell (Zd b 11) c) b [e,f,g,i,j,k,l,n,o,q,a,c]:=
 ((((((((((((h.set 0 e).set 1 f).set 2 g).set 3 i).set 4 j).set 5 k).set 6 l).set 7 n).set 8 o).set 9 q).set 10 a).set 11 c)
def BB(c:Int)(a b:Zi):Zj:=[Zg c,Ze,Ze,Ze,Ze,Zb,Zb,Zb,Zc,Ze,.string a,.string b]
theorem Qj(R:Nat)(c:Int)(a b:Zi)(w:Zh)(f:Aa w R z12):
 CallsD prog 76 #[Yy R] (.panicking [{v:=Cj c a b,recovered:=false}]) w fun e i w'=>e=.returned (.tuple #[])/\i=.panicking [{v:=Cj c a b,recovered:=true}]/\Aa w' R (BB c a b)/\Tn [R] w w':=by
 have h:∀w:Zh,(binOp BinOp.eql 20 (.iface 150 (.agg #[Zg c,.string a,.string b])) .nilIface).run prog w=.ok (.bool false) w:=fun _=>by first|rfl|kernel_rfl
 have l:∀w:Zh,(Instr.typeAssert (.iface 150 (.agg #[Zg c,.string a,.string b])) 20 150 true).run prog w=.ok (.tuple #[.agg #[Zg c,.string a,.string b],.bool true]) w:=fun _=>by first|rfl|kernel_rfl
 obtain⟨⟨E,s⟩,⟨F,t⟩,⟨G,u⟩,⟨H,x⟩,⟨I,y⟩,⟨J,z⟩,⟨K,A⟩,⟨M,B⟩,⟨N,C⟩,⟨Q,D⟩,⟨q,n⟩,r,o⟩:=AS f;have j:=Aa.lt (v:=Ze) f;have k:¬w.heap.size=R:=Yv
 have g:¬R=w.heap.size:=Yv
 unfold Cj;refine callsD_of_wpS func76 rfl fun c₀ cs hu=> ?_;apply wpS_seq;apply wpS_region;simp[wpOpsS,go_sem,recoverD,hu,ntmps76,Exit.thenS];refine wpS_of_wp ?_;change Code.wp prog _ _ {tmps:= #[Yy R,undef,undef,undef,.iface 150 (.agg #[Zg c,.string a,.string b]),undef,undef,undef,undef,undef,undef,undef,undef,undef,undef,undef,undef],defers:=[]} w;go_wp2;simp[bodyPostS,results,results76]
 exact⟨Aa.below (v:=Zg c) (Sd f _ _ _ _ _ _ _ _ _ _ _ _) (Zy),(Ba w R _ _ _ _ _ _ _ _ _ _ _ _).trans (Tn.of (Zy))⟩
theorem Holds.low{W:Zh}{f:Lit->Option Value}(h:Holds W B wd ks f)(g:Below B W w):Holds w B wd ks f:=by
 intro s i;rcases h s i with h|⟨u,j,k,a,b,c,e⟩
 .exact .inl h
 .exact .inr ⟨u,j,k,a,b,c,Ad.below e g⟩
def HU(w:Zh)(base m:Nat)(wd:Int)(ks:List Kd):Prop:=∃n f,n<=1000000/\AJ w 111 m n f/\Holds w base wd ks f/\m<base+4
theorem HU.K(h:HU w base m wd ks)(c:Tn V w w')(k:base<=w.heap.size)(j:∀b∈V,base<=b)(l:m∉V):HU w' base m wd ks:=by obtain⟨n,f,e,a,g,i⟩:=h;exact⟨n,f,e,AJ.same a (c.block m a.lt l),g.low (c.below k j),i⟩
theorem Bl(w:Zh)(R j:Nat)(v:Value):Tn [R] w (w.setCell (Zd R j) v):=Tn.set w R j v Yu
theorem Di{b:Option Nat}(a:w.grownBy w' b):Tn b.toList w w':=⟨a.os,a.tape,a.output,a.size,fun k c f=>a.block k c (fun e=>f (by simp[<-e]))⟩
def HN(w:Zh)(m N:Nat):Prop:=∃n f,n<=N/\AJ w 111 m n f
theorem JN(wd now given births:Int)(a p l:Zk)(V S R:Nat)(ks:List Kd)(ps:List Pd)(ls:List Ld)(w:Zh)(D:Bt w w.heap.size a p l ks ps ls)(hk:ks.length<=600)(hp:ps.length<=100)(hl:ls.length<=200)(yM:∀k∈ks,(k.sum.size:Int)=wd)(h8:wd<=8):
 Calls prog 29 #[.agg (Yg wd now given births a ks.length V p ps.length S l ls.length R)] w fun e w'=>∃d m O P L,e=.returned (Yy d)/\Dr w' (w.heap.size+1) d m O P L wd now given births ks ps ls/\HU w' (w.heap.size+1) m wd ks/\(HN w' m 600/\m<=w.heap.size+3)/\Zz w w':=by
 have hx:=AN.new w wd now given births (.slice a ks.length V) (.slice p ps.length S) (.slice l ls.length R) 30;obtain⟨j,I⟩:=Af (w.alloc (.cells (Yg wd now given births a ks.length V p ps.length S l ls.length R) 30));have n:=(AB I).1;have zZ:=(AB I).2.1;rw[<-I]at hx;have C:=Yw D;have HX:=Yw hx;have zO:=Yw I;have S0:=FR hx
 have zW:j.drew.cell? (Zd (w.heap.size) 0)=some (Zg wd)/\j.drew.cell? (Zd (w.heap.size) 1)=some (Zg now)/\j.drew.cell? (Zd (w.heap.size) 2)=some (Zg given)/\j.drew.cell? (Zd (w.heap.size) 3)=some (Zg births)/\j.drew.cell? (Zd (w.heap.size) 4)=some (.slice a ks.length V)/\j.drew.cell? (Zd (w.heap.size) 5)=some (.slice p ps.length S)/\j.drew.cell? (Zd (w.heap.size) 6)=some (.slice l ls.length R):=S0
 have K0:Bu j.drew j.drew.heap.size a ks:=Bu.mono (Bu.below D.k n.drew) n.size;have yH:ks.length<=1048576:=Yv
 have yL:ps.length<=1048576:=Yv
 have yI:ls.length<=1048576:=Yv
 clear D hx I;go_enter func29,ntmps29;go_upto_region 1 with fail;rw[<-zO.o];clear zO
 go_region_held3 (fun w'=>w'.cell? (Zd (w.heap.size) 0)=some (Zg wd)/\w'.cell? (Zd (w.heap.size) 1)=some (Zg now)/\w'.cell? (Zd (w.heap.size) 2)=some (Zg given)/\w'.cell? (Zd (w.heap.size) 3)=some (Zg births)/\w'.cell? (Zd (w.heap.size) 4)=some (.slice a ks.length V)/\w'.cell? (Zd (w.heap.size) 5)=some (.slice p ps.length S)/\w'.cell? (Zd (w.heap.size) 6)=some (.slice l ls.length R))
  (first|exact S3|exact S2|exact S1|exact zW|exact FR (AN.below X3.o (Zy)))
  (first
  |(go_at_call 67;refine(KD wd now given births a V (.slice p ps.length S) (.slice l ls.length R) ks j.drew K0 yH yM h8).mono ?_;rintro e y ⟨m,f,rfl,hm,hM,hH,zF⟩;have N:Below j.heap.size j y:=(Below.refl j.heap.size j).drew.trans zF;have S1:=FR (AN.below HX.o N))
  |(go_at_call 40;refine(Jz p S ps y (AO.mono (AO.below C.o.p (n.trans (N.mono n.size))) (n.trans (N.mono n.size)).size) yL).mono ?_;rintro e H ⟨G,t,rfl,zH,M⟩;have U:Below j.heap.size j H:=N.trans (M.mono N.size);have S2:=FR (AN.below HX.o U))
  |(go_at_call 41;refine(Is l R ls H (AM.mono (AM.below C.o.l (n.trans (U.mono n.size))) (n.trans (U.mono n.size)).size) yI).mono ?_;rintro e h ⟨F,s,rfl,zI,z⟩;have B3:Below j.heap.size j h:=U.trans (z.mono U.size);have X3:=Yw (AN.below HX.o B3);have S3:=FR X3.o))
 obtain⟨E,J⟩:=Af (h.alloc (.cells #[Zg wd,.map (some m),Zg now,Zg given,Zg births,Zb,.slice G ps.length t,.slice F ls.length s] 107));have yT:=(AB J).2.1;have A:=(AB J).1;have Z4:=(AB J).2.2;have yN:w.heap.size+1<=y.heap.size:=by have:=N.size;omega
 have zJ:=M.size;have yO:=z.size;have yK:m<y.heap.size:=hM.lt;have B4:Below w.heap.size w E:=(n.trans (B3.mono n.size)).trans (A.mono Yv);have zK:Hid (Below j.drew.heap.size j.drew E):=((zF.trans (M.mono Yt)).trans (z.mono Yt)).trans (A.mono Yt);have zR:=Yw (AN.below X3.o A)
 have Y:Hid (AJ E 111 m ks.length f):=hM.ag (B:=y.heap.size) ((M.trans (z.mono zJ)).trans (A.mono Yv)) yK;have yC:Hid (E.ownsRow y.heap.size 69 2 (.slice G ps.length t) ps.length (Ab pC ps)):=Ag (Ag zH z) A;have yA:Hid (E.ownsRow H.heap.size 71 3 (.slice F ls.length s) ls.length (Ab lC ls)):=Ag zI A
 have Z:Hid (∀g,(Value.slice G ps.length t).ownBlock=some g->y.heap.size<=g/\g<H.heap.size):=fun g r=>Ac zH r;have X:Hid (∀g,(Value.slice F ls.length s).ownBlock=some g->H.heap.size<=g/\g<h.heap.size):=fun g r=>Ac zI r;have HH:=Yw hH;have zS:=Yw Z4;have yJ:w.heap.size+1<=m/\m<=w.heap.size+3:=by have:=hm;simp at this;omega
 rw[<-J];clear J S0 zW S1 S2 S3 X3 HX N U B3 zF M z hM zH zI hH Z4 K0 hm;obtain⟨x0,x1,x2,x3,x4,x5,x6,x7⟩:=zR.o;go_wp2
 go_loopw [25] (fun i wr=>∃(k:Nat) (O:Value),k<=ks.length/\i=Zg k/\Hid (Aa wr h.heap.size [Zg wd,.map (some m),Zg now,Zg given,Zg births,O,.slice G ps.length t,.slice F ls.length s])/\Hid (wr.ownsRow (h.heap.size+1) 111 8 O ((ks.take k).map (·.sum)).length (AG ((ks.take k).map (·.sum))))/\Below h.heap.size E wr) (fun i _=>ks.length -(intOf i).toNat)
 case atStart=>exact⟨0,_,Nat.zero_le _,rfl,zS,⟨rfl,.inl ⟨rfl,rfl⟩⟩,Ae⟩
 case round=>
  clear x0 x1 x2 x3 x4 x5 x6 x7 zS;obtain⟨k,O,yQ,rfl,HZ,Q,c⟩:=hrel;obtain⟨x0,x1,x2,x3,x4,x5,x6,x7⟩:=AN.ag zR.o c Yv;have yV:h.heap.size+1<=wr.heap.size:=by have:=c.size;omega
  by_cases hlt:k<ks.length
  .obtain⟨b,yW,ha,hb,hc⟩:=(Bu.below C.o.k (B4.trans (c.mono Yv))).at hlt;subst ha;have HG:Hid (ks[k]?=some ks[k]):=Zv hlt;obtain⟨c0,c1,c2,ra,rc,c3,_⟩:=hc k _ HG.o;have yP:b<wr.heap.size:=Yv
   have HN:Hid ((ks.take (k+1)).map (·.sum)=(ks.take k).map (·.sum)++[ks[k].sum]):=by show _=_;rw[Zu hlt,List.map_append];rfl
   have yR:((ks.take k).map (·.sum)).length<=600:=Yt
   clear hc;generalize ks[k]=x at *
   generalize (ks.take k).map (·.sum)=Os at *
   obtain⟨u,K⟩:=Af (wr.alloc (.cells #[.string x.sum,Zg x.born,.string x.J,.slice ra x.B.length rc] 66));have yU:=(AB K).2.1;have b5:=(AB K).1;have Z5:=(AB K).2.2;have yB:=Yw Q.o;have zN:=Yw (Ag Q.o b5);have zB:=Yw (Aa.below HZ.o b5);have zM:Hid (Below h.heap.size E u):=c.trans (b5.mono Yv)
   have P5:u.drew.cell? (Zd (h.heap.size) 5)=some O/\u.drew.cell? (Zd (wr.heap.size) 0)=some (.string x.sum):=⟨(zB.o 5 _ rfl).1,(Z5 0 _ rfl).1⟩;have D5:Below u.heap.size u u.drew:=Ae.drew;have zP:=Yw K;clear K Z5 Q HZ;go_upto_region 5 with fail;rw[<-zP.o];clear zP x0 x1 x2 x3 x4 x5 x6 x7 c0 c1 c2 c3;obtain⟨zC,zE⟩:=P5
   have zG:∀g,O.ownBlock=some g->h.heap.size+1<=g/\g<wr.heap.size:=fun g r=>Ac yB.o r;have yS:wr.heap.size≠h.heap.size:=Yv
   go_region_law (first
    |(go_simp;go_at_call 75;refine(My x.sum u.drew).mono ?_;rintro e T ⟨rfl,zX⟩;have v:Below u.heap.size u T:=D5.trans zX;have yD:T.cell? (Zd (h.heap.size) 5)=some O:=(v.cell (p:=⟨h.heap.size,5,none⟩) Yt).trans zC;have zT:T.cell? (Zd (wr.heap.size) 0)=some (.string x.sum):=(v.cell (p:=⟨wr.heap.size,0,none⟩) Yt).trans zE;have b7:Below u.heap.size u (T.alloc (GV x.sum)):=v.alloc v.size _;have zU:(T.alloc (GV x.sum)).cell? (Zd (h.heap.size) 5)=some O:=(b7.cell (p:=⟨h.heap.size,5,none⟩) Yt).trans zC;have zV:(T.alloc (GV x.sum)).cell? (Zd (wr.heap.size) 0)=some (.string x.sum):=(b7.cell (p:=⟨wr.heap.size,0,none⟩) Yt).trans zE;have z6:=v.size;obtain⟨g8,c8,w8,hr8,ho8,hg8,ha8⟩:=Aap T (h.heap.size+1) O Os (Ag zN.o v) x.sum Yv Yv 105;have Z6:=Aa.below zB.o v;unfold GV at hr8 zU zV;go_wp2_with fail)
    |(refine Bv Yp (.tmp 33) (.tmp 37) 105 105 Yp Yp Yp hr8 ?_;have yF:w8.cell? (Zd (wr.heap.size) 0)=some (.string x.sum):=hg8.cell zT (fun e=>by have:=(zG _ e.symm).2;simp at this);have Z8:Aa w8 h.heap.size _:=(Aa.same Z6 (hg8.block h.heap.size Yv (fun e=>by have:=(zG _ e.symm).1;omega)));have yE:=(Z8 5 _ rfl).1;have F8:=(Z8 5 _ rfl).2))
   all_goals
    have zY:Below h.heap.size E w8:=(zM.o.trans (v.mono Yv)).grown hg8 Yv (fun g r=>by have:=(zG g r).1;omega);have zA:=Yw (Zn Z8 (Zn zY ho8));clear Z8 zY ho8 hg8 hr8 Z6 v b7 zX zN zB zM zC zE yD zT zU zV yE yF F8 ha8 D5 b5;go_wp2;refine⟨⟨k+1,Yz g8 (Os.length+1) c8,Yv,Yn,?_,?_,?_⟩,Ys⟩
    .exact Aa.set zA.o.1 5 _
    .rw[HN.o];exact ownsRow_setCell_below zA.o.2.2 Ym _
    .exact zA.o.2.1.setCell Yu _
  .obtain rfl:k=ks.length:=Yv
   rw[Zt (Zx)]at Q;go_wp2;have yG:(vB h.heap.size m O (.slice G ps.length t) (.slice F ls.length s)).Nodup:=by
    have hO:∀g,O.ownBlock=some g->h.heap.size+1<=g:=fun g r=>(Ac Q.o r).1;have hP:∀g,(Value.slice G ps.length t).ownBlock=some g->y.heap.size<=g/\g<H.heap.size:=Z.o;have hL:∀g,(Value.slice F ls.length s).ownBlock=some g->H.heap.size<=g/\g<h.heap.size:=X.o;unfold vB;generalize (Value.slice G ps.length t).ownBlock=bp at *
    generalize (Value.slice F ls.length s).ownBlock=bl at *
    generalize O.ownBlock=bo at *
    cases bo<;>cases bp<;>cases bl<;>simp_all<;>omega
   have hV:∀q∈vB h.heap.size m O (.slice G ps.length t) (.slice F ls.length s),w.heap.size+1<=q:=by
    intro q o;unfold vB at o;simp only[List.mem_cons,List.mem_append,Option.mem_toList]at o;rcases o with rfl|rfl|o|o|o
    .omega
    .omega
    .have:=(Ac Q.o o).1;omega
    .have:=(Z.o _ o).1;omega
    .have:=(X.o _ o).1;omega
   go_ret;refine⟨_,rfl,m,⟨O,_,_,⟨HZ.o,⟨ks.length,f,Yv,Y.o.ag c Yv,?_⟩,?_,?_,?_,Yv,Yv,yG⟩⟩,⟨ks.length,f,Yv,Y.o.ag c Yv,?hu,Yv⟩,⟨⟨ks.length,f,hk,Y.o.ag c Yv⟩,yJ.2⟩,B4.trans (c.mono Yv)⟩
   .have o:j.drew.heap.size=w.heap.size+1:=zZ;rw[<-o];exact BL.of HH.o (zK.o.trans (c.mono Yt)) (fun q o=>by have:=hV q o;simp;omega) ⟨m,rfl,by rw[o];omega⟩
   .have:=Q.o;rw[List.length_map]at this;exact this.mono Yv
   .refine World.ownsRow.mono ?_ (show w.heap.size+1<=y.heap.size by omega);exact OL yC.o c (fun g r=>by have:=(Z.o g r).2;omega)
   .refine World.ownsRow.mono ?_ (show w.heap.size+1<=H.heap.size by omega);exact OL yA.o c (fun g r=>by have:=(X.o g r).2;omega)
   case hu=>
    have o:j.drew.heap.size=w.heap.size+1:=zZ;rw[<-o];exact Holds.low HH.o (zK.o.trans (c.mono Yt))
section
def NS(w:Zh)(b:Nat):Prop:=∀cur fz,w.heap[b]?≠some (.cells cur 9 fz)
theorem Dn.move{j:List Nat}{o:Zl}(h:Dn w base V a o)(l:Tn U w w')(u:∀b∈U,b∈V\/(base<=b/\NS w b))(v:∀b∈j,b∈V\/w.heap.size<=b)(z:j[1]?=V[1]?:=by rfl):Dn w' base j a o:=by
 rcases h with h|⟨b,g,x,k,n,c,y⟩
 .exact .inl h
 .have r:b∉U:=fun e=>by
   rcases u b e with e|⟨B,t⟩
   .exact n e
   .rcases c with c|⟨_,q,c⟩
    .omega
    .exact t q _ c
  have f:=l.block b k r;refine .inr ⟨b,g,x,Zr k l.size,fun e=> ?_,(by rw[f];unfold RC;rw[z];exact c),fun i s A=>(World.cell?_of_block (a:=⟨b,g+i,none⟩) f).trans (y i s A)⟩;rcases v b e with e|e
  .exact n e
  .omega
theorem Dn.low{c:Zl}(h:Ad w base a c)(i:∀b∈V,base<=b)(n:base<=w.heap.size)(l:RC base V):Dn w base V a c:=by
 rcases h with h|⟨b,g,j,f,k⟩
 .exact .inl h
 .exact .inr ⟨b,g,j,Yv,fun e=>by have:=i b e;omega,.inl ⟨f,l⟩,k⟩
theorem BL.move{a:List Nat}{f:Lit->Option Value}(h:BL w base V wd ks f)(o:Tn U w w')(j:∀b∈U,b∈V\/(base<=b/\NS w b))(k:∀b∈a,b∈V\/w.heap.size<=b)(l:a[1]?=V[1]?:=by rfl):BL w' base a wd ks f:=by
 intro s n;rcases h s n with h|⟨u,q,r,c,e,g,i⟩
 .exact .inl h
 .exact .inr ⟨u,q,r,c,e,g,i.move o j k l⟩
structure DU (w:Zh) (base d m:Nat) (O P L:Value) (wd now given births:Int) (ks:List Kd) (ps:List Pd) (ls:List Ld):Prop where
 I:Dr w base d m O P L wd now given births ks ps ls
variable {w w':Zh} {base d m:Nat} {O P L:Value} {wd now given births:Int} {ks:List Kd} {ps:List Pd} {ls:List Ld}
theorem DU.lo(h:DU w base d m O P L wd now given births ks ps ls):base<=w.heap.size:=by have:=h.I.bd;have:=h.I.box.lt;omega
theorem DU.K(h:DU w base d m O P L wd now given births ks ps ls)(k:Tn V w w')(j:∀b∈V,base<=b/\b∉vB d m O P L/\NS w b):DU w' base d m O P L wd now given births ks ps ls:=by
 have l:=h.I.cz;have i:∀b∈vB d m O P L,w'.heap[b]?=w.heap[b]?:=fun b a=>k.block b (l b a) (fun e=>(j b e).2.1 a);obtain⟨n,f,o,q,r⟩:=h.I.map;have h:=h.I
 exact⟨⟨Aa.same h.box (i d (by simp[vB])),⟨n,f,o,AJ.same q (i m (by simp[vB])),r.move k (fun b a=> .inr ⟨(j b a).1,(j b a).2.2⟩) (fun b a=> .inl a)⟩,Ak h.ord (fun g c=>i g (by simp[vB,c])),Ak h.ci (fun g c=>i g (by simp[vB,c])),Ak h.ck (fun g c=>i g (by simp[vB,c])),h.bd,h.bm,h.ap⟩⟩
theorem DU.below(h:DU w base d m O P L wd now given births ks ps ls)(a:Zz w w'):DU w' base d m O P L wd now given births ks ps ls:=
 h.K (V:=[]) (Tn.of a) Yu
theorem XH{d m n:Nat}{O P L a:Option Nat}(h:(d::m::(O.toList++(P.toList++L.toList))).Nodup)(e:∀b∈d::m::(O.toList++(P.toList++L.toList)),b<n)(c:a=L\/∃g,a=some g/\n<=g):(d::m::(O.toList++(P.toList++a.toList))).Nodup:=by
 rcases c with rfl|⟨g,rfl,f⟩
 .exact h
 .cases O<;>cases P<;>cases L<;>simp_all<;>grind
theorem XI{d m n:Nat}{O P L a:Option Nat}(h:(d::m::(O.toList++(P.toList++L.toList))).Nodup)(e:∀b∈d::m::(O.toList++(P.toList++L.toList)),b<n)(c:a=P\/∃g,a=some g/\n<=g):(d::m::(O.toList++(a.toList++L.toList))).Nodup:=by
 rcases c with rfl|⟨g,rfl,f⟩
 .exact h
 .cases O<;>cases P<;>cases L<;>simp_all<;>grind
theorem Dj{d m:Nat}{O P L:Option Nat}(h:(d::m::(O.toList++(P.toList++L.toList))).Nodup):d≠m/\(∀g,O=some g->g≠d/\g≠m/\P≠some g/\L≠some g)/\(∀g,P=some g->g≠d/\g≠m/\L≠some g)/\(∀g,L=some g->g≠d/\g≠m):=by cases O<;>cases P<;>cases L<;>simp_all<;>grind
theorem DU.ik(h:DU w base d m O P L wd now given births ks ps ls)(q:Tn (d::L.ownBlock.toList) w w'){k:Value}{o:List Ld}{j a:Int}(r:Aa w' d [Zg wd,.map (some m),Zg j,Zg a,Zg births,O,P,k])(A:w'.ownsRow base 71 3 k o.length (Ab lC o))(c:k.ownBlock=L.ownBlock\/∃g,k.ownBlock=some g/\w.heap.size<=g):DU w' base d m O P k wd j a births ks ps o:=by
 obtain⟨v,s,t,x⟩:=Dj h.I.ap;obtain⟨n,f,B,u,C⟩:=h.I.map;have y:∀b∈d::L.ownBlock.toList,b∈vB d m O P L:=by
  intro b c;unfold vB;rcases List.mem_cons.1 c with rfl|c
  .simp
  .simp only[List.mem_cons,List.mem_append];exact .inr (.inr (.inr (.inr c)))
 have z:∀b∈vB d m O P k,b∈vB d m O P L\/w.heap.size<=b:=by
  intro b l;unfold vB at l |-;simp only[List.mem_cons,List.mem_append]at l |-;rcases l with e|e|e|e|e
  .exact .inl (.inl e)
  .exact .inl (.inr (.inl e))
  .exact .inl (.inr (.inr (.inl e)))
  .exact .inl (.inr (.inr (.inr (.inl e))))
  .rcases c with c|⟨g,i,D⟩
   .rw[c]at e;exact .inl (.inr (.inr (.inr (.inr e))))
   .rw[i]at e;simp at e;exact .inr (by omega)
 refine⟨⟨r,⟨n,f,B,AJ.same u (q.block m u.lt (fun e=> ?_)),C.move q (fun b c=> .inl (y b c)) z⟩,Ak h.I.ord (fun g i=>q.block g (Ac h.I.ord i).2 (fun e=> ?_)),Ak h.I.ci (fun g i=>q.block g (Ac h.I.ci i).2 (fun e=> ?_)),A,h.I.bd,h.I.bm,XH h.I.ap h.I.cz c⟩⟩
 .rcases List.mem_cons.1 e with e|e
  .exact v e.symm
  .exact(x m (by simpa using e)).2 rfl
 .rcases List.mem_cons.1 e with e|e
  .exact(s g i).1 e
  .exact(s g i).2.2.2 (by simpa using e)
 .rcases List.mem_cons.1 e with e|e
  .exact(t g i).1 e
  .exact(t g i).2.2 (by simpa using e)
theorem DU.ij(h:DU w base d m O P L wd now given births ks ps ls)(l:Tn (d::P.ownBlock.toList) w w'){i:Value}{k:List Pd}(o:Aa w' d [Zg wd,.map (some m),Zg now,Zg given,Zg births,O,i,L])(y:w'.ownsRow base 69 2 i k.length (Ab pC k))(a:i.ownBlock=P.ownBlock\/∃g,i.ownBlock=some g/\w.heap.size<=g):DU w' base d m O i L wd now given births ks k ls:=by
 obtain⟨t,q,r,u⟩:=Dj h.I.ap;obtain⟨n,f,z,s,A⟩:=h.I.map;have v:∀b∈d::P.ownBlock.toList,b∈vB d m O P L:=by
  intro b a;unfold vB;rcases List.mem_cons.1 a with rfl|a
  .simp
  .simp only[List.mem_cons,List.mem_append];exact .inr (.inr (.inr (.inl a)))
 have x:∀b∈vB d m O i L,b∈vB d m O P L\/w.heap.size<=b:=by
  intro b j;unfold vB at j |-;simp only[List.mem_cons,List.mem_append]at j |-;rcases j with e|e|e|e|e
  .exact .inl (.inl e)
  .exact .inl (.inr (.inl e))
  .exact .inl (.inr (.inr (.inl e)))
  .rcases a with a|⟨g,c,B⟩
   .rw[a]at e;exact .inl (.inr (.inr (.inr (.inl e))))
   .rw[c]at e;simp at e;exact .inr (by omega)
  .exact .inl (.inr (.inr (.inr (.inr e))))
 refine⟨⟨o,⟨n,f,z,AJ.same s (l.block m s.lt (fun e=> ?_)),A.move l (fun b a=> .inl (v b a)) x⟩,Ak h.I.ord (fun g c=>l.block g (Ac h.I.ord c).2 (fun e=> ?_)),y,Ak h.I.ck (fun g c=>l.block g (Ac h.I.ck c).2 (fun e=> ?_)),h.I.bd,h.I.bm,XI h.I.ap h.I.cz a⟩⟩
 .rcases List.mem_cons.1 e with e|e
  .exact t e.symm
  .exact(r m (by simpa using e)).2.1 rfl
 .rcases List.mem_cons.1 e with e|e
  .exact(q g c).1 e
  .exact(q g c).2.2.1 (by simpa using e)
 .rcases List.mem_cons.1 e with e|e
  .exact(u g c).1 e
  .exact(r g (by simpa using e)).2.2 c
theorem Ih(c:A->Zj)(a b:List A):Ab c (a++b)=Ab c a++Ab c b:=by unfold Ab;simp
theorem Hd{a b:Int}(f:0<=a)(c:a<=1000000000)(g:0<=b)(e:b<=1000000000):IntKind.i64.wrap (a+b)=a+b:=by simp[IntKind.wrap,IntKind.bits,IntKind.signed];omega
theorem Om(w:Zh)(base:Nat)(v:Value)(ls:List Ld)(t:w.ownsRow base 71 3 v ls.length (Ab lC ls))(x:Ld)(s:ls.length<=1000000)(f:base<=w.heap.size)(h:TypeId):
 ∃g cap w',(Builtin.append_ #[28,28] h #[v,Yz w.heap.size 1 1]).run prog (w.alloc (.cells #[Zg x.H,.string x.sum,Zg x.R] 71))=.ok (Yz g (ls.length+1) cap) w'/\w'.ownsRow base 71 3 (Yz g (ls.length+1) cap) (ls++[x]).length (Ab lC (ls++[x]))/\w.grownBy w' v.ownBlock/\(v.ownBlock=some g\/g=w.heap.size+1):=by
 obtain⟨z,r,k,l,n⟩:=info_parts Ho;have i:=Ag t (Ae.alloc (Zx) (.cells #[Zg x.H,.string x.sum,Zg x.R] 71));have q:∀j u,(Ab lC [x])[j]?=some u->(w.alloc (.cells #[Zg x.H,.string x.sum,Zg x.R] 71)).cell? ((⟨w.heap.size,0,none⟩:Addr).add j)=some u:=by intro j u b;rw[Go.WideShapes.add_plain,Nat.zero_add];exact(Aa.new w [Zg x.H,.string x.sum,Zg x.R] 71 j u (by simpa [Ab,lC]using b)).1
 obtain⟨A,w',y,c,o,_,a⟩:=run_append_own_at (P:=prog) (w.alloc (.cells #[Zg x.H,.string x.sum,Zg x.R] 71)) base 28 h 71 z _ 3 32 underlying28 r k l n rfl Yq v ls.length (Ab lC ls) i ⟨w.heap.size,0,none⟩ 1 1 (Ab lC [x]) (by simp[Ab,lC]) q (by intro u b;simp[Ab,lC]at b;rcases b with rfl|rfl|rfl<;>rfl) Yo Yv Yt
 obtain⟨g,cap,rfl,_,_⟩:=Co c (fun e=>by subst e;rcases c.2 with⟨_,s⟩|⟨_,_,_,e,_⟩<;>first|omega|cases e);refine⟨g,cap,w',y,?_,(World.grownBy_alloc w _ _).trans o,?_⟩
 .rw[Ih,List.length_append];exact c
 .rcases a with a|a
  .exact .inl a.symm
  .right;simpa [Value.ownBlock]using a
theorem Pp(base d m:Nat)(O P L:Value)(wd now given births:Int)(ks:List Kd)(ps:List Pd)(ls:List Ld)(s:Zi)(a:Int)(w:Zh)(h:DU w base d m O P L wd now given births ks ps ls)(K:∀k∈ks,(k.sum.size:Int)=wd)(M:Au ks s)(hl:ls.length<200)(zI:0<=given)(zJ:given<1000000000)(zE:0<=now)(zF:now<=1000000000)(zG:0<=a)(zH:a<=1000000000):
 Calls prog 114 #[.pointer (some ⟨d,0,none⟩),.string s,Zg a] w fun e w'=>e=.returned (Zg (given+1))/\∃N,DU w' base d m O P N wd now (given+1) births ks ps (ls++[⟨given+1,s,now+a⟩])/\Tn (d::L.ownBlock.toList) w w':=by
 have HN:Hid _:=EE base d m O P L wd now given births ks ps ls s w h.I K M;have R:Hid (DU w base d m O P L wd now given births ks ps ls):=h;have zM:((ls.length:Int)==200)=false:=by simp;omega
 have zK:(given==1000000000)=false:=by simp;omega
 clear h K M;go_enter func114,ntmps114;go_wp2_with fail;refine HN.Ah ?_;rintro e r ⟨rfl,z⟩;have j:=R.o.below z;obtain⟨l,i,zA⟩:=As j.I.ck;subst zA;obtain⟨c2,_⟩:=j.I.box 2 _ rfl;obtain⟨c3,f3⟩:=j.I.box 3 _ rfl;obtain⟨c7,_⟩:=j.I.box 7 _ rfl;obtain⟨X,B⟩:=Af (r.setCell (Zd d 3) (Zg (given+1)));have t:Tn [d] r X:=by rw[B];exact Bl _ _ _ _
 have o:Aa X d [Zg wd,.map (some m),Zg now,Zg (given+1),Zg births,O,P,.slice l ls.length i]:=by rw[B];exact j.I.box.set 3 _
 have y:∀g,(Value.slice l ls.length i).ownBlock=some g->g≠d:=fun g u=>((Dj j.I.ap).2.2.2 g u).1;have I:X.ownsRow base 71 3 (.slice l ls.length i) ls.length (Ab lC ls):=Ak j.I.ck (fun g u=>t.block g (Ac j.I.ck u).2 (by simp;exact y g u));have G:d<X.heap.size:=o.lt;have C:base<=X.heap.size:=Zm j.lo t.size
 obtain⟨f,c,n,q,J,A,H⟩:=Om X.drew base _ ls (Ag I (Ae.drew)) ⟨given+1,s,now+a⟩ (by omega) C 28;dsimp only at q;replace q:(Builtin.append_ #[28,28] 28 #[.slice l ls.length i,.slice (some ⟨X.heap.size,0,none⟩) 1 1]).run prog (X.alloc (.cells #[Zg (given+1),.string s,Zg (now+a)] 71)).drew=.ok (.slice (some ⟨f,0,none⟩) (ls.length+1) c) n:=q
 have zN:IntKind.i64.wrap (now+a)=now+a:=Hd zE zF zG zH;have F:Below X.heap.size X (X.drew.alloc (.cells #[Zg (given+1),.string s,Zg (now+a)] 71)):=Ae.drew.alloc (Zx) _;have E:=o.below F;have S:Hid _:=B;have H1:Hid (DU r base d m O P (.slice l ls.length i) wd now given births ks ps ls):=j;have W:Hid (Zz w r):=z
 have x:Aa n d [Zg wd,.map (some m),Zg now,Zg (given+1),Zg births,O,P,.slice l ls.length i]:=Aa.same o (A.block d (by simpa using G) (fun e=>y d e.symm rfl))
 have v:Hid (n.ownsRow base 71 3 (.slice (some ⟨f,0,none⟩) (ls.length+1) c) (ls++[(⟨given+1,s,now+a⟩:Ld)]).length (Ab lC (ls++[(⟨given+1,s,now+a⟩:Ld)]))/\X.drew.grownBy n (Value.slice l ls.length i).ownBlock/\((Value.slice l ls.length i).ownBlock=some f\/f=X.drew.heap.size+1)):=⟨J,A,H⟩;have V:Hid (Aa n d [Zg wd,.map (some m),Zg now,Zg (given+1),Zg births,O,P,.slice l ls.length i]):=x
 have D:Hid (Tn [d] r X):=t;have Z:Hid (d<X.heap.size):=G;clear B j z HN R t I J A H;go_upto_region 5 with fail;rw[<-S.o];clear S c2 c3 c7 f3;obtain⟨c2,c3,c7⟩:=Aa.c3 o 2 3 7;obtain⟨a2,a3,a7⟩:=Aa.c3 E 2 3 7;obtain⟨e7,f7⟩:=x 7 _ rfl;clear o E x F
 go_region_law (first
  |(refine Bv (by rfl) (.tmp 36) (.tmp 49) 28 28 (by rfl) (by rfl) (by rfl) q ?_))
 all_goals
  clear q c2 c3 c7 a2 a3 a7;have Q:=V.o.set 7 (.slice (some ⟨f,0,none⟩) (ls.length+1) c);have z3:=(Q 3 _ rfl).1;have z7:X.heap.size<=n.heap.size:=by have:=v.o.2.1.size;simpa using this
  have Y:Hid (Aa (n.setCell (Zd d 7) (.slice (some ⟨f,0,none⟩) (ls.length+1) c)) d [Zg wd,.map (some m),Zg now,Zg (given+1),Zg births,O,P,.slice (some ⟨f,0,none⟩) (ls.length+1) c]):=Q;clear Q
  have T:∃N,DU (n.setCell (Zd d 7) (.slice (some ⟨f,0,none⟩) (ls.length+1) c)) base d m O P N wd now (given+1) births ks ps (ls++[(⟨given+1,s,now+a⟩:Ld)])/\Tn (d::(Value.slice l ls.length i).ownBlock.toList) w (n.setCell (Zd d 7) (.slice (some ⟨f,0,none⟩) (ls.length+1) c)):=by
   have U:Tn (d::(Value.slice l ls.length i).ownBlock.toList) r (n.setCell (Zd d 7) (.slice (some ⟨f,0,none⟩) (ls.length+1) c)):=
    ((D.o.mono (by simp)).trans ((Tn.of (Ae.drew)).trans ((Di v.o.2.1).mono (fun b hb=>List.mem_cons_of_mem _ hb)))).trans ((Bl n d 7 _).mono (by simp))
   have zC:∀g,(Value.slice (some ⟨f,0,none⟩) (ls.length+1) c).ownBlock=some g->g≠d:=fun g u=>by
    obtain rfl:f=g:=by simpa [Value.ownBlock]using u
    rcases v.o.2.2 with e|e
    .exact y f e
    .have h1:f=X.heap.size+1:=e;have h2:=Z.o;omega
   have zB:(Value.slice (some ⟨f,0,none⟩) (ls.length+1) c).ownBlock=(Value.slice l ls.length i).ownBlock\/∃g,(Value.slice (some ⟨f,0,none⟩) (ls.length+1) c).ownBlock=some g/\r.heap.size<=g:=by
    rcases v.o.2.2 with e|e
    .exact .inl e.symm
    .exact .inr ⟨f,rfl,by have h1:f=X.heap.size+1:=e;have:=D.o.size;omega⟩
   exact⟨_,H1.o.ik U Y.o (BM v.o.1 zC 7 _) zB,(Tn.of W.o).trans U⟩
  have HK:Hid _:=T;clear T;go_wp2;go_ret;exact⟨rfl,HK.o⟩
end
theorem Lf{c:A->Zj}{e:TypeId}(f:∀x,(c x).length=n){cap:Nat}{a:List A}(h:w.ownsRow base e n (Yz g a.length cap) a.length (Ab c a))(i:Nat)(b:i<=a.length):w.ownsRow base e n (Yz g i cap) i (Ab c (a.take i)):=by
 refine⟨by rw[By f,List.length_take];congr 1;omega,?_⟩;rcases h.2 with⟨e,_⟩|⟨t,k,j,e,r,s,u,l,o,q⟩
 .cases e
 .cases e;refine .inr ⟨g,cap,j,rfl,r,s,Yv,l,o,?_⟩;rw[<-FV f a i b,<-q,List.take_take];congr 1;exact(Nat.min_eq_left (Nat.mul_le_mul_right n b)).symm
theorem XJ(w:Zh):(zeroValue 69).run prog w=.ok (.agg #[Zc,Zc]) w:=Yr
theorem NQ(w:Zh)(k:TypeId)(b o c:Nat)(h:∀j,j<2->(w.cell? (Zd b (o+j))).isSome=true)(i:∀j,j<2->w.frozen? ⟨b,o+j,none⟩=false):
 (Builtin.clear_ #[27] k #[.slice (some ⟨b,o,none⟩) 1 c]).run prog w=.ok (.tuple #[]) (w.setCells b o [Zc,Zc]):=by
 have f:(Builtin.zeroCells (Value.agg #[Zc,Zc]).cells 1).toList=[Zc,Zc]:=Yr
 have a:=run_storeCells_cells (P:=prog) b o [Zc,Zc] 0 w (by simpa using h) (by simpa using i) (by intro v e;simp at e;rcases e with rfl|rfl<;>rfl);simp only[Nat.add_zero]at a;have g:=XJ;simp[Builtin.clear_,run_underlying underlying27,g,f,a]
theorem NR(g cap i:Nat)(a:List Pd)(w:Zh)(base:Nat)(t:w.ownsRow base 69 2 (Yz g a.length cap) a.length (Ab pC a))(hl:a.length<=600)(hi:i<a.length):
 Calls prog 135 #[Yz g a.length cap,Zg i,Zg ((i:Int)+1)] w fun e w'=>e=.returned (Yz g (a.length -1) cap)/\w'.ownsRow base 69 2 (Yz g (a.length -1) cap) (a.length -1) (Ab pC (a.eraseIdx i))/\w.grownBy w' (some g):=by
 obtain⟨N,q,W,G,X⟩:=info_parts Ir;have o:a.length<=cap/\cap<=maxLen:=by
  rcases t.2 with⟨e,_⟩|⟨I,n,D,e,M,B,y,z,J,K⟩
  .cases e
  .cases e;exact⟨y,z⟩
 obtain⟨Q,E⟩:=o;unfold maxLen at E;have hcut:=Lf Cg t i Yv;obtain⟨A,hA,c⟩:∃A,(if cap=i+1 then some (⟨g,0,none⟩:Addr)else some ⟨g,(i+1) *2,none⟩)=some A/\∀j u,(Ab pC (a.drop (i+1)))[j]?=some u->w.drew.cell? (A.add j)=some u:=by
  by_cases h:cap=i+1
  .refine⟨⟨g,0,none⟩,by rw[if_pos h],fun j u k=> ?_⟩;rw[List.drop_of_length_le Yv]at k;simp[Ab]at k
  .refine⟨⟨g,(i+1) *2,none⟩,by rw[if_neg h],fun j u k=> ?_⟩;rw[Go.WideShapes.add_plain];rw[<-Fm Cg a (i+1) Yv,List.getElem?_drop]at k;have F:=(Zw k).1;rw[By Cg]at F;exact(t.cellAt _ Yv).trans k
 obtain⟨v,C,b,f⟩:=run_append_fits (P:=prog) w.drew base 27 27 69 N 2 underlying27 q G g i cap (Ab pC (a.take i)) hcut A (a.length -(i+1)) (cap -(i+1)) (Ab pC (a.drop (i+1))) (by rw[By Cg,List.length_drop]) c (Jy _) Yv;rw[<-Bn,show i+(a.length -(i+1))=a.length -1 by omega]at b;rw[show i+(a.length -(i+1))=a.length -1 by omega]at C;have r:=(List.eraseIdx_eq_take_drop_succ a i).symm;rw[r]at b
 have x:=Yw (Zn b f);clear c b hcut r;go_enter func135,ntmps135;have R:¬((i:Int)==(i:Int)+1)=true:=Yt
 have S:i<=cap:=Yv
 have T:(0:Int)<=(i:Int)+1:=Yv
 have U:(i:Int)+1<=(a.length:Int):=Yv
 have V:((i:Int)+1).toNat=i+1:=Yv
 go_upto_region 5 with fail
 go_region_law (first
  |(refine Bv Yp (.tmp 22) (.tmp 25) 27 27 Yp Yp (by simp[Act.eval,Act.put]) C ?_))
 all_goals
  have s:∀j,j<2->(v.cell? (Zd g ((a.length -1) *2+j))).isSome=true/\v.frozen? ⟨g,(a.length -1) *2+j,none⟩=false:=fun j l=>by
   obtain⟨b,f⟩:=x.o;rcases b.2 with⟨e,_⟩|⟨I,n,D,e,M,B,y,z,J,K⟩
   .cases e
   .cases e;constructor
    .simp only[World.cell?,B];rw[Array.getElem?_eq_getElem Yv];rfl
    .exact b.frozenAt _
  have H:=NQ v 0 g ((a.length -1) *2) (cap -(a.length -1)) (fun j l=>(s j l).1) (fun j l=>(s j l).2);have Y:a.length -(a.length -1)=1:=Yv
  have Z:¬cap=a.length -1:=Yv
  have e3:a.length -1<=a.length:=Yv
  go_wp2;go_ret;obtain⟨b,f⟩:=x.o;exact⟨rfl,Hb _ _ _ b (Zx),Ar (Dh f) (Cd g _ _ _)⟩
theorem NA(w:Zh):(zeroValue 71).run prog w=.ok (.agg #[Ze,Zc,Ze]) w:=Yr
theorem Ma(w:Zh)(k:TypeId)(b o c:Nat)(h:∀j,j<3->(w.cell? (Zd b (o+j))).isSome=true)(i:∀j,j<3->w.frozen? ⟨b,o+j,none⟩=false):
 (Builtin.clear_ #[28] k #[.slice (some ⟨b,o,none⟩) 1 c]).run prog w=.ok (.tuple #[]) (w.setCells b o [Ze,Zc,Ze]):=by
 have f:(Builtin.zeroCells (Value.agg #[Ze,Zc,Ze]).cells 1).toList=[Ze,Zc,Ze]:=Yr
 have a:=run_storeCells_cells (P:=prog) b o [Ze,Zc,Ze] 0 w (by simpa using h) (by simpa using i) (by intro v e;simp at e;rcases e with rfl|rfl|rfl<;>rfl);simp only[Nat.add_zero]at a;have g:=NA;simp[Builtin.clear_,run_underlying underlying28,g,f,a]
theorem Mb(g cap i:Nat)(a:List Ld)(w:Zh)(base:Nat)(t:w.ownsRow base 71 3 (Yz g a.length cap) a.length (Ab lC a))(hl:a.length<=600)(hi:i<a.length):
 Calls prog 139 #[Yz g a.length cap,Zg i,Zg ((i:Int)+1)] w fun e w'=>e=.returned (Yz g (a.length -1) cap)/\w'.ownsRow base 71 3 (Yz g (a.length -1) cap) (a.length -1) (Ab lC (a.eraseIdx i))/\w.grownBy w' (some g):=by
 obtain⟨N,q,W,G,X⟩:=info_parts Ho;have o:a.length<=cap/\cap<=maxLen:=by
  rcases t.2 with⟨e,_⟩|⟨I,n,D,e,M,B,y,z,J,K⟩
  .cases e
  .cases e;exact⟨y,z⟩
 obtain⟨Q,E⟩:=o;unfold maxLen at E;have hcut:=Lf CU t i Yv;obtain⟨A,hA,c⟩:∃A,(if cap=i+1 then some (⟨g,0,none⟩:Addr)else some ⟨g,(i+1) *3,none⟩)=some A/\∀j u,(Ab lC (a.drop (i+1)))[j]?=some u->w.drew.cell? (A.add j)=some u:=by
  by_cases h:cap=i+1
  .refine⟨⟨g,0,none⟩,by rw[if_pos h],fun j u k=> ?_⟩;rw[List.drop_of_length_le Yv]at k;simp[Ab]at k
  .refine⟨⟨g,(i+1) *3,none⟩,by rw[if_neg h],fun j u k=> ?_⟩;rw[Go.WideShapes.add_plain];rw[<-Fm CU a (i+1) Yv,List.getElem?_drop]at k;have F:=(Zw k).1;rw[By CU]at F;exact(t.cellAt _ Yv).trans k
 obtain⟨v,C,b,f⟩:=run_append_fits (P:=prog) w.drew base 28 28 71 N 3 underlying28 q G g i cap (Ab lC (a.take i)) hcut A (a.length -(i+1)) (cap -(i+1)) (Ab lC (a.drop (i+1))) (by rw[By CU,List.length_drop]) c (Uy _) Yv;rw[<-Bn,show i+(a.length -(i+1))=a.length -1 by omega]at b;rw[show i+(a.length -(i+1))=a.length -1 by omega]at C;have r:=(List.eraseIdx_eq_take_drop_succ a i).symm;rw[r]at b
 have x:=Yw (Zn b f);clear c b hcut r;go_enter func139,ntmps139;have R:¬((i:Int)==(i:Int)+1)=true:=Yt
 have S:i<=cap:=Yv
 have T:(0:Int)<=(i:Int)+1:=Yv
 have U:(i:Int)+1<=(a.length:Int):=Yv
 have V:((i:Int)+1).toNat=i+1:=Yv
 go_upto_region 5 with fail
 go_region_law (first
  |(refine Bv Yp (.tmp 22) (.tmp 25) 28 28 Yp Yp (by simp[Act.eval,Act.put]) C ?_))
 all_goals
  have s:∀j,j<3->(v.cell? (Zd g ((a.length -1) *3+j))).isSome=true/\v.frozen? ⟨g,(a.length -1) *3+j,none⟩=false:=fun j l=>by
   obtain⟨b,f⟩:=x.o;rcases b.2 with⟨e,_⟩|⟨I,n,D,e,M,B,y,z,J,K⟩
   .cases e
   .cases e;constructor
    .simp only[World.cell?,B];rw[Array.getElem?_eq_getElem Yv];rfl
    .exact b.frozenAt _
  have H:=Ma v 0 g ((a.length -1) *3) (cap -(a.length -1)) (fun j l=>(s j l).1) (fun j l=>(s j l).2);have Y:a.length -(a.length -1)=1:=Yv
  have Z:¬cap=a.length -1:=Yv
  have e3:a.length -1<=a.length:=Yv
  go_wp2;go_ret;obtain⟨b,f⟩:=x.o;exact⟨rfl,Hb _ _ _ b (Zx),Ar (Dh f) (Cd g _ _ _)⟩
def DJ(x y:Int):Int:=if x<y then -1 else if y<x then 1 else 0
theorem Pq(x y:Int):DJ x y<0↔x<y:=by unfold DJ;split<;>(try split)<;>omega
theorem NB(x y:Int):DJ x y=0↔x=y:=by unfold DJ;split<;>(try split)<;>omega
theorem Pr(x:Int)(w:Zh):Calls prog 158 #[Zg x] w fun e w'=>e=.returned (.bool false)/\w'=w:=by
 have a:(x !=x)=false:=Yu
 go_enter func158,ntmps158;go_wp2;go_ret;exact⟨rfl,rfl⟩
theorem Vr(x y:Int)(w:Zh):Calls prog 138 #[Zg x,Zg y] w fun e w'=>e=.returned (Zg (DJ x y))/\w'=w:=by
 go_enter func138,ntmps138;go_wp2_with fail;refine(Pr x w).mono ?_;rintro e f ⟨rfl,rfl⟩;go_wp2_with fail;refine(Pr y f).mono ?_;rintro e g ⟨rfl,rfl⟩;by_cases h1:x<y
 .have c:decide (x<y)=true:=by simpa using h1
  have a:DJ x y= -1:=by unfold DJ;rw[if_pos h1]
  clear h1;go_wp2;go_ret;exact⟨by rw[a];rfl,rfl⟩
 .have c:decide (x<y)=false:=by simpa using h1
  by_cases h2:y<x
  .have b:decide (y<x)=true:=by simpa using h2
   have a:DJ x y=1:=by unfold DJ;rw[if_neg h1,if_pos h2]
   clear h1 h2;go_wp2;go_ret;exact⟨by rw[a];rfl,rfl⟩
  .have b:decide (y<x)=false:=by simpa using h2
   have a:DJ x y=0:=by unfold DJ;rw[if_neg h1,if_neg h2]
   clear h1 h2;go_wp2;go_ret;exact⟨by rw[a];rfl,rfl⟩
def En(x y:Zi):Int:=if less x y=true then -1 else if x=y then 0 else 1
theorem Ps(x y:Zi):En x y<0↔less x y=true:=by
 unfold En;by_cases h:less x y=true
 .rw[if_pos h];exact⟨fun _=>h,fun _=>by omega⟩
 .rw[if_neg h];refine⟨fun e=> ?_,fun e=>absurd e h⟩;split at e<;>omega
theorem JO(x y:Zi):En x y=0↔x=y:=by
 unfold En;by_cases h:less x y=true
 .rw[if_pos h];refine⟨fun e=>by omega,fun e=> ?_⟩;rw[e,BI]at h;cases h
 .rw[if_neg h];split
  .rename_i h2;exact⟨fun _=>h2,fun _=>rfl⟩
  .rename_i h2;exact⟨fun e=>by omega,fun e=>absurd e h2⟩
theorem Pt(x:Zi)(w:Zh):Calls prog 168 #[.string x] w fun e w'=>e=.returned (.bool false)/\w'=w:=by
 have a:(x.toList !=x.toList)=false:=Yu
 go_enter func168,ntmps168;go_wp2;go_ret;exact⟨rfl,rfl⟩
theorem Vs(x y:Zi)(w:Zh):Calls prog 155 #[.string x,.string y] w fun e w'=>e=.returned (Zg (En x y))/\w'=w:=by
 go_enter func155,ntmps155;go_wp2_with fail;refine(Pt x w).mono ?_;rintro e c ⟨rfl,rfl⟩;go_wp2_with fail;refine(Pt y c).mono ?_;rintro e f ⟨rfl,rfl⟩;cases h1:Op.bytesLess x.toList y.toList with
 |true=>
  have a:Hid (En x y= -1):=by show _=_;unfold En less;rw[if_pos h1]
  go_wp2;go_ret;exact⟨by rw[a.o];rfl,rfl⟩
 |false=>
  by_cases h2:x=y
  .have a:=Yw ((JO x y).2 h2);have b:(x.toList==y.toList)=true:=by rw[h2];simp
   clear h2;go_wp2;go_ret;exact⟨by rw[a.o];rfl,rfl⟩
  .have a:Hid (En x y=1):=by show _=_;unfold En less;rw[if_neg (by rw[h1];simp),if_neg h2]
   have b:=Bz h2;clear h2;go_wp2;go_ret;exact⟨by rw[a.o];rfl,rfl⟩
theorem NC(x:Ld)(n:Int)(w:Zh):Calls prog 137 #[.agg #[Zg x.H,.string x.sum,Zg x.R],Zg n] w fun e w'=>e=.returned (Zg (DJ x.H n))/\Zz w w':=by have a:∀o,Zz w (w.alloc o):=fun o=>Zy;go_enter func137,ntmps137;go_wp2_with fail;refine(Vr x.H n _).mono ?_;rintro e b ⟨rfl,rfl⟩;go_wp2;go_ret;exact⟨rfl,a _⟩
theorem Mc(x:Pd)(n:Zi)(w:Zh):Calls prog 154 #[.agg #[.string x.name,.string x.sum],.string n] w fun e w'=>e=.returned (Zg (En x.name n))/\Zz w w':=by have a:∀o,Zz w (w.alloc o):=fun o=>Zy;go_enter func154,ntmps154;go_wp2_with fail;refine(Vs x.name n _).mono ?_;rintro e b ⟨rfl,rfl⟩;go_wp2;go_ret;exact⟨rfl,a _⟩
structure JP (ls:List Ld) (n:Int) (i:Nat):Prop where
 le:i<=ls.length
 lo:∀j x,j<i->ls[j]?=some x->x.H<n
 hi:∀j x,i<=j->ls[j]?=some x->n<=x.H
theorem Hw(g cap:Nat)(ls:List Ld)(n:Int)(w:Zh)(base:Nat)(A:w.ownsRow base 71 3 (Yz g ls.length cap) ls.length (Ab lC ls))(hl:ls.length<=600)(o:ls.Pairwise (fun a b=>a.H<b.H)):
 Calls prog 136 #[Yz g ls.length cap,Zg n,.func (.func 137) #[] #[]] w fun e w'=>∃i:Nat,e=.returned (.tuple #[Zg i,.bool (decide (∃x,ls[i]?=some x/\x.H=n))])/\JP ls n i/\Zz w w':=by
 have W:=(Ac A rfl).2;have Z:=Yw A;have J:Hid (∀(X:Zh),Zz w X->∀k x,ls[k]?=some x->X.cell? (Zd g (k *3))=some (Zg x.H)/\X.cell? (Zd g (k *3+1))=some (.string x.sum)/\X.cell? (Zd g (k *3+2))=some (Zg x.R)):=fun X S k x B=>by have h:=Ag A S;have hk:=(Zw B).1;have l:∀j,j<3->X.cell? (Zd g (k *3+j))=(lC x)[j]?:=fun j F=>(h.cellAt (k *3+j) Yv).trans (Cz CU B F);exact⟨by simpa [lC]using l 0 Yq,by simpa [lC]using l 1 Yq,by simpa [lC]using l 2 Yq⟩
 have K:=Yw o;clear A o;go_enter func136,ntmps136;have V:=enters_of func137 Yr rfl;go_wp2
 go_loopw [9,10] (fun i j wr=>∃lo c:Nat,i=Zg lo/\j=Zg c/\lo<=c/\c<=ls.length/\Hid ((∀j x,j<lo->ls[j]?=some x->x.H<n)/\(∀j x,c<=j->ls[j]?=some x->n<=x.H))/\Zz w wr) (fun i j _=>(intOf j).toNat -(intOf i).toNat)
 case atStart=>exact⟨0,ls.length,rfl,rfl,Nat.zero_le _,Zx,⟨fun j x h=>by omega,fun j x h B=>by have:=(Zw B).1;omega⟩,Ae⟩
 case round=>
  obtain⟨lo,c,rfl,rfl,Y,C,z,f⟩:=hrel;have D:=f.size;by_cases hlt:lo<c
  .have v:(lo+c)/2<ls.length:=Yv
   have q:=Yw (Zv v);generalize ls[(lo+c)/2]=x at *
   obtain⟨r0,G,H⟩:=J.o wr f _ _ q.o;go_wp2_with fail;refine(NC x n wr).mono ?_;rintro e U ⟨rfl,u⟩;have s:=f.trans (u.mono D);clear r0 G H;by_cases l:x.H<n
   .have T:decide (DJ x.H n<0)=true:=by simpa using (Pq _ _).2 l
    have t:=Yw l;clear l;generalize DJ x.H n=cv at *
    go_wp2;refine⟨⟨(lo+c)/2+1,c,Yn,rfl,Yv,C,⟨?_,z.o.2⟩,s⟩,Ys⟩;intro j y F r;rcases Nat.lt_or_ge j ((lo+c)/2)with h|h
    .have:=List.pairwise_iff_getElem.1 K.o j ((lo+c)/2) Yv v h;obtain⟨_,rfl⟩:=Zw r;obtain⟨_,e⟩:=Zw q.o;rw[e]at this;have R:=t.o;omega
    .obtain rfl:j=(lo+c)/2:=Yv
     rw[q.o]at r;cases r;exact t.o
   .have T:decide (DJ x.H n<0)=false:=by simpa using fun e=>l ((Pq _ _).1 e)
    have t:=Yw (Int.not_lt.1 l);clear l;generalize DJ x.H n=cv at *
    go_wp2;refine⟨⟨lo,(lo+c)/2,rfl,Yn,Yv,Yv,⟨z.o.1,?_⟩,s⟩,Ys⟩;intro j y F r;rcases Nat.lt_or_ge ((lo+c)/2) j with h|h
    .have M:=(Zw r).1;have:=List.pairwise_iff_getElem.1 K.o ((lo+c)/2) j v M h;obtain⟨_,rfl⟩:=Zw r;obtain⟨_,e⟩:=Zw q.o;rw[e]at this;have R:=t.o;omega
    .obtain rfl:j=(lo+c)/2:=Yv
     rw[q.o]at r;cases r;exact t.o
  .obtain rfl:lo=c:=Yv
   have I:Hid (JP ls n lo):=⟨C,z.o.1,z.o.2⟩;by_cases hn:lo<ls.length
   .have q:=Yw (Zv hn);generalize ls[lo]=x at *
    obtain⟨r0,G,H⟩:=J.o wr f _ _ q.o;have N:(lo:Int)<ls.length:=Yv
    go_wp2_with fail;refine(NC x n wr).mono ?_;rintro e U ⟨rfl,u⟩;have s:=f.trans (u.mono D);clear r0 G H;have E:Hid (decide (∃y,ls[lo]?=some y/\y.H=n)=(DJ x.H n==0)):=by
     show _=_;rw[q.o];by_cases h:x.H=n
     .rw[(NB x.H n).2 h];simp[h]
     .have Q:¬DJ x.H n=0:=fun e=>h ((NB x.H n).1 e);rw[show(DJ x.H n==0)=false by simpa using Q];simp[h]
    generalize DJ x.H n=cv at *
    go_wp2
    go_ret2
    exact⟨lo,by rw[E.o];first|rfl|simp[Act.put],I.o,s⟩
   .have E:Hid (decide (∃y,ls[lo]?=some y/\y.H=n)=false):=by show _=_;rw[List.getElem?_eq_none Yv];simp
    have N:¬((lo:Int)<ls.length):=Yv
    go_wp2
    go_ret2
    exact⟨lo,by rw[E.o];first|rfl|simp[Act.put],I.o,f⟩
theorem Ii(t:Zi)(n:Zk)(r:Nat)(b:Zl)(w:Zh)(hr:Ad w w.heap.size n b)(C:n=none->b.length=0/\r=0)(hl:b.length<=1048576):
 Calls prog 54 #[.agg #[.string t,.slice n b.length r]] w fun e w'=>∃g c,e=.returned (.agg #[.string t,Yz g b.length c])/\
  w'.ownsRow w.heap.size 9 1 (Yz g b.length c) b.length (b.map Value.string)/\Zz w w':=by
 obtain⟨i0,hi,Z,zA,zB⟩:=info_parts Cq;obtain⟨o,f⟩:=Af (w.alloc (.cells #[.string t,.slice n b.length r] 36));have s:=(AB f).1;have N:=(AB f).2.2;have D:=(AB f).2.1;obtain⟨W,z⟩:=Af (o.alloc (.cells #[Zc,Zb] 36));have u:=(AB z).1;have y:=(AB z).2.2;have Q:=N.below u;have k:Below w.heap.size w W:=s.trans (u.mono s.size);have E:o.heap.size<W.heap.size:=y.lt
 obtain⟨B,S⟩:=Af o.heap.size;have H:w.heap.size<B:=Yv
 rw[<-S]at y E;have l:w.heap.size<W.heap.size:=Yv
 have G:=Yw f;have K:=Yw z;have M:Hid (w.heap.size+1=B):=by show _=_;omega
 obtain⟨X,Y⟩:=Aa.c2 Q 0 1;have i:Below W.heap.size W (W.alloc (.cells #[] 9)):=Zy;have U:(W.alloc (.cells #[] 9)).drew.ownsRow (B+1) 9 1 (Yz W.heap.size 0 0) 0 (([]:Zl).map Value.string):=World.ownsRow_lit W #[] 0 Yv Yo rfl;have V:=(Ad.below hr (k.trans (i.drew.mono k.size))).ay
 have q0:(W.alloc (.cells #[] 9)).cell? (Zd (w.heap.size) 0)=some (.string t):=(i.cell (p:=⟨w.heap.size,0,none⟩) l).trans X;have q1:(W.alloc (.cells #[] 9)).cell? (Zd (w.heap.size) 1)=some (.slice n b.length r):=(i.cell (p:=⟨w.heap.size,1,none⟩) l).trans Y;have HR:=Yw y;have F:=Yw k;clear f z S s u N y Q k D;go_enter func54,ntmps54;go_upto_region 1 with fail;rw[<-G.o,<-K.o,M.o];clear G K M
 go_region_law (first
  |(refine Ay (W.alloc (.cells #[] 9)).drew rfl (.tmp 5) (.tmp 7) 23 rfl (B+1) 9 i0 Zc 16 underlying23 hi Z zA zB rfl W.heap.size 0 0 [] rfl U n b.length r b rfl rfl C V Yo Yv Yt ?_;intro T h J x I A zC;simp only[Nat.zero_add,List.nil_append]at x;have q:Below W.heap.size W J:=i.drew.grown I Yu (fun j hj=>by cases hj;exact Zx);have R:=Aa.below HR.o q;obtain⟨y0,f0⟩:=R 0 _ rfl;obtain⟨y1,f1⟩:=R 1 _ rfl;have p0:=(q.cell (p:=⟨w.heap.size,0,none⟩) l).trans X;have p1:=(q.cell (p:=⟨w.heap.size,1,none⟩) l).trans Y))
 all_goals
  have HO:=Yw x;have HF:Hid (Zz w J):=F.o.trans (q.mono F.o.size);clear x I A q U V q0 q1;go_wp2;refine bodyPost_ret (v:=.agg #[.string t,Yz T b.length h]) (by simp[results,results54,go_sem, *]) rfl ?_;refine⟨_,_,rfl,?_,?_⟩
  .exact(ownsRow_setCell_below (ownsRow_setCell_below HO.o (a:=⟨B,0,none⟩) (Nat.lt_succ_self B) _) (a:=⟨B,1,none⟩) (Nat.lt_succ_self B) _).mono Yv
  .exact(HF.o.setCell (p:=⟨B,0,none⟩) (Nat.le_of_lt H) _).setCell (p:=⟨B,1,none⟩) (Nat.le_of_lt H) _
end Go.Proofs.YtoglnpagihdhpaaGreatDoor
