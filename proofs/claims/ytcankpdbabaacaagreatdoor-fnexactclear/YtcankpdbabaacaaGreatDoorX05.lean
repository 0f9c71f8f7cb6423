import Derived.Test.YtcankpdbabaacaaGreatDoorX04
import Derived.WalkLawsBesides
import Derived.Defers
import Derived.Recover
set_option maxRecDepth 100000
set_option maxHeartbeats 16000000
namespace Go.Proofs.YtcankpdbabaacaaGreatDoor
open Go.ChangeShapes Go.WideShapes Go.ChangeAt Go.RowKit _root_.Go.Proofs.Tryz
variable{w a:Zh}{V:List Nat}{c l v:Int}{b d m g B i R:Nat}{O P L:Value}{k:Kd}{s:Zi}
section
attribute [local go_sem↓] Go.wp_at_zero Go.wp_at_succ
theorem BH.holds{a:Nat}{b:List Kd}{f:Lit->Option Value}(h:BH w a V c b f):Holds w w.heap.size c b f:=by
 intro s j;rcases h s j with h|⟨u,ra,k,d,e,g,i⟩
 .exact .inl h
 .exact .inr ⟨u,ra,k,d,e,g,i.row⟩
theorem Dr.look{e:Nat}{b a:Int}{c:List Kd}{A:List Pd}{z:List Ld}(h:Dr w e d m O P L l v b a c A z)(p:(c.map (·.sum)).Nodup)(s:∀k∈c,(k.sum.size:Int)=l)(g:k∈c):
 ∃ra i,Ad w w.heap.size ra k.B/\∀X,Zz w X->(Instr.lookup 119 (.map (some m)) (BU k.sum) false).run prog X=.ok (CA k ra i) X:=by
 obtain⟨n,f,B,j,x⟩:=h.map;rcases x _ (s k g)with⟨_,q⟩|⟨u,ra,i,hu,t,o,r⟩
 .exact absurd ⟨_,g,rfl⟩ q
 .obtain rfl:=Gb p hu g t;refine⟨ra,i,r.row,fun X y=> ?_⟩;have:=(j.ah y j.lt).look keyed underlying119 (KK _) (CP u.sum);rw[o]at this;exact this
theorem Vy(u d m n o:Nat)(O P L:Value)(H S j c:Int)(t:List Kd)(Y:List Pd)(V:List Ld)(s:Zi)(k:Kd)(w:Zh)(G:Dr w u d m O P L H S j c t Y V)(M:(t.map (·.sum)).Nodup)(Q:∀k∈t,(k.sum.size:Int)=H)(T:k∈t)(U:k.B.length<=1000)(l:k.B.Pairwise (fun a b=>less a b=true))(x:w.cell? (Ze n 0)=some (Yz d))(z:w.cell? (Ze o 0)=some (.string s)):
 Calls prog 201 #[BU k.sum,Yz n,Yz o] w fun e Z=>∃ok,e=.returned (.bool ok)/\(ok=true↔s∈k.B)/\Zz w Z:=by
 obtain⟨ra,f,g,fj⟩:=G.look M Q T;have K:=World.block_lt_of_cell? w _ x;have N:=World.block_lt_of_cell? w _ z;obtain⟨W,q⟩:∃W,W=w.alloc (.cells (Ym (kB k.sum)) 183):=⟨_,rfl⟩;have h:=(AA q).1;have A:Aa W w.heap.size (Al k.sum):=by rw[q];exact Aa.new w (Al k.sum) 183
 have R:w.heap.size<W.heap.size:=Aa.lt (v:=.int .u8 (kB k.sum 0)) A;unfold BU CE CA at fj
 have HS:Hid (∀X,Zz W X->X.cell? (Ze n 0)=some (Yz d)/\X.cell? (Ze o 0)=some (.string s)/\X.cell? (Ze d 1)=some (.map (some m))/\(X.cell? (Ze (w.heap.size) 0)=some (.int .u8 (kB k.sum 0))/\X.cell? (Ze (w.heap.size) 1)=some (.int .u8 (kB k.sum 1))/\X.cell? (Ze (w.heap.size) 2)=some (.int .u8 (kB k.sum 2))/\X.cell? (Ze (w.heap.size) 3)=some (.int .u8 (kB k.sum 3))/\X.cell? (Ze (w.heap.size) 4)=some (.int .u8 (kB k.sum 4))/\X.cell? (Ze (w.heap.size) 5)=some (.int .u8 (kB k.sum 5))/\X.cell? (Ze (w.heap.size) 6)=some (.int .u8 (kB k.sum 6))/\X.cell? (Ze (w.heap.size) 7)=some (.int .u8 (kB k.sum 7)))/\(Instr.lookup 119 (.map (some m)) (.agg (Ym (kB k.sum))) false).run prog X=.ok (.agg #[.string k.sum,Zg k.born,.string k.M,.slice ra k.B.length f]) X):=
  fun X F=>by have r:=h.trans (F.mono h.size);exact⟨(r.cell (p:=⟨n,0,none⟩) K).trans x,(r.cell (p:=⟨o,0,none⟩) N).trans z,(Aa.below G.box r 1 _ rfl).1,ZY (F.block _ R) A,fj X r⟩
 have D:=Yx (PY ra f k.B s W.drew (Ad.mono (Ad.below g h.drew) h.size) U l);have C:Below W.heap.size W W.drew:=(Below.refl _ _).drew;have zA:∀X:Zh,(Instr.field 99 (.agg #[.string k.sum,Zg k.born,.string k.M,.slice ra k.B.length f]) 2).run prog X=.ok (.agg #[.string k.M,.slice ra k.B.length f]) X:=fun _=>by kernel_rfl
 have zB:∀X:Zh,(Instr.field 64 (.agg #[.string k.M,.slice ra k.B.length f]) 1).run prog X=.ok (.slice ra k.B.length f) X:=fun _=>by kernel_rfl
 have E:=Yx q;clear q A fj g;unfold BU CE;go_enter func201,ntmps201;go_upto_region 1 with fail;rw[<-E.o];clear E
 go_region_held3 (fun X=>X.cell? (Ze n 0)=some (Yz d)/\X.cell? (Ze o 0)=some (.string s)/\X.cell? (Ze d 1)=some (.map (some m))/\(X.cell? (Ze (w.heap.size) 0)=some (.int .u8 (kB k.sum 0))/\X.cell? (Ze (w.heap.size) 1)=some (.int .u8 (kB k.sum 1))/\X.cell? (Ze (w.heap.size) 2)=some (.int .u8 (kB k.sum 2))/\X.cell? (Ze (w.heap.size) 3)=some (.int .u8 (kB k.sum 3))/\X.cell? (Ze (w.heap.size) 4)=some (.int .u8 (kB k.sum 4))/\X.cell? (Ze (w.heap.size) 5)=some (.int .u8 (kB k.sum 5))/\X.cell? (Ze (w.heap.size) 6)=some (.int .u8 (kB k.sum 6))/\X.cell? (Ze (w.heap.size) 7)=some (.int .u8 (kB k.sum 7)))/\(Instr.lookup 119 (.map (some m)) (.agg (Ym (kB k.sum))) false).run prog X=.ok (.agg #[.string k.sum,Zg k.born,.string k.M,.slice ra k.B.length f]) X)
  (first|with_reducible exact HS.o _ C|with_reducible exact HS.o _ B)
  (first|(go_at_call 202;refine Calls.mono D.o ?_;rintro e w1 ⟨i,ok,rfl,y,J⟩;have I:=Yx y;clear y;have B:Below W.heap.size W w1:=Cp J))
 all_goals
  clear HS D C;go_wp2;go_ret;exact⟨ok,rfl,I.o,h.trans (B.mono h.size)⟩
def JB(ks:List Kd):Prop:=∀k∈ks,k.B.length<=1000/\k.B.Pairwise (fun a b=>less a b=true)
theorem OI(o d m u z:Nat)(oa:Zk)(J:Nat)(P L:Value)(N I l f:Int)(b:List Kd)(U:List Pd)(T:List Ld)(s:Zi)(w:Zh)(Q:Dr w o d m (.slice oa b.length J) P L N I l f b U T)(zG:(b.map (·.sum)).Nodup)(zI:∀k∈b,(k.sum.size:Int)=N)(S:JB b)(hl:b.length<=600)(E:w.cell? (Ze u 0)=some (Yz d))(H:w.cell? (Ze z 0)=some (.string s)):
 Calls prog 230 #[.slice oa b.length J,.func (.func 201) #[] #[Yz u,Yz z]] w fun e w'=>∃r:Int,e=.returned (Zg r)/\(0<=r↔∃k∈b,s∈k.B)/\Zz w w':=by
 have zE:=World.block_lt_of_cell? w _ E;have zH:=World.block_lt_of_cell? w _ H;have HD:=Yx Q;clear Q;go_enter func230,ntmps230;go_wp2
 go_loopw [8] (fun i wr=>∃k:Nat,k<=b.length/\i=Zg k/\Hid (∀j x,j<k->b[j]?=some x->¬s∈x.B)/\Zz w wr) (fun i _=>b.length -(intOf i).toNat)
 case atStart=>exact⟨0,Nat.zero_le _,rfl,(fun j x h=>by omega),Below.refl _ _⟩
 case round=>
  obtain⟨k,hk,rfl,q,c⟩:=hrel;have zJ:=c.size;by_cases hlt:k<b.length
  .have t:=Dr.below HD.o c;have n:=t.ord;obtain⟨og,oc,zF,_,zK⟩:=Cc n (fun e=>by injection e with _ h2 _;omega);cases zF;have R:=Yx (Zv hlt);have g:=List.getElem_mem hlt;have F:(b.map (·.sum))[k]?=some b[k].sum:=by simp[hlt]
   have a:∀j,j<8->wr.cell? (Ze og (k *8+j))=some (.int .u8 (kB b[k].sum j)):=fun j v=>(n.cellAt _ Yw).trans (Eg F v);have D:=a 0 Yw;have W:=a 1 Yw;have X:=a 2 Yw;have Y:=a 3 Yw;have Z:=a 4 Yw;have zA:=a 5 Yw;have zB:=a 6 Yw;have zC:=a 7 Yw;rw[Nat.add_zero]at D
   have K:=Vy o d m u z _ P L N I l f b U T s b[k] wr t zG zI g (S _ g).1 (S _ g).2 ((c.cell (p:=⟨u,0,none⟩) zE).trans E) ((c.cell (p:=⟨z,0,none⟩) zH).trans H);unfold BU CE at K;have A:=Yx K;clear a F n t g K;generalize b[k]=x at *
   go_wp2_with fail;refine Calls.mono A.o ?_;rintro e w1 ⟨ok,rfl,G,V⟩;have C:=c.trans (V.mono zJ);have B:=Yx G;clear G D W X Y Z zA zB zC A;cases ok
   .have HA:Hid (∀j y,j<k+1->b[j]?=some y->¬s∈y.B):=by
     intro j y v M;rcases Nat.lt_or_ge j k with O|O
     .exact q.o j y O M
     .obtain rfl:j=k:=Yw
      rw[R.o]at M;cases M;exact fun h=>by have:=B.o.2 h;simp at this
    go_wp2;exact⟨⟨k+1,Yw,Yp,HA,C⟩,by simp[intOf];omega⟩
   .go_wp2;go_ret;exact⟨_,rfl,⟨(fun _=>⟨x,Zs R.o,B.o.1 (by trivial)⟩),(fun _=>by omega)⟩,C⟩
  .go_wp2;go_ret;refine⟨_,rfl,⟨(fun h=>by omega),(fun⟨p,hp,h⟩=> ?_)⟩,c⟩;obtain⟨j,v,rfl⟩:=List.getElem_of_mem hp;exact absurd h (q.o j _ Yw (Zv v))
theorem Lv(f d m o p:Nat)(oa:Zk)(g:Nat)(P L:Value)(q n b a:Int)(c:List Kd)(x:List Pd)(v:List Ld)(s:Zi)(w:Zh)(i:Dr w f d m (.slice oa c.length g) P L q n b a c x v)(z:(c.map (·.sum)).Nodup)(B:∀k∈c,(k.sum.size:Int)=q)(D:JB c)(C:c.length<=600)(y:w.cell? (Ze o 0)=some (Yz d))(A:w.cell? (Ze p 0)=some (.string s)):
 Calls prog 200 #[.slice oa c.length g,.func (.func 201) #[] #[Yz o,Yz p]] w fun e E=>∃ok,e=.returned (.bool ok)/\(ok=true↔∃k∈c,s∈k.B)/\Zz w E:=by
 have t:=Yx (OI f d m o p oa g P L q n b a c x v s w i z B D C y A);clear i;go_enter func200,ntmps200;go_wp2_with fail;refine Calls.mono t.o ?_;rintro e F ⟨r,rfl,l,j⟩;have u:=Yx l;clear l t;by_cases h:0<=r
 .have i:decide ((0:Int)<=r)=true:=by simpa using h
  go_wp2;go_ret;exact⟨true,rfl,⟨(fun _=>u.o.1 h),(fun _=>rfl)⟩,j⟩
 .have i:decide ((0:Int)<=r)=false:=by simpa using h
  go_wp2;go_ret;exact⟨false,rfl,⟨(fun e=>by cases e),(fun e=>absurd (u.o.2 e) Yw)⟩,j⟩
theorem TB(f d m:Nat)(O P L:Value)(o j b a:Int)(c:List Kd)(u:List Pd)(t:List Ld)(s:Zi)(w:Zh)(n:Dr w f d m O P L o j b a c u t)(y:(c.map (·.sum)).Nodup)(z:∀k∈c,(k.sum.size:Int)=o)(E:JB c)(D:c.length<=600):
 Calls prog 162 #[Yz d,.string s] w fun e F=>∃ok,e=.returned (.bool ok)/\(ok=true↔∃k∈c,s∈k.B)/\Zz w F:=by
 have G:∀(fn:Fn) (first cap:Array Value) (w:Zh),(Instr.makeFunc fn first cap).run prog w=.ok (.func fn first cap) w:=fun _ _ _ _=>rfl;obtain⟨oa,A,rfl⟩:=As n.ord;obtain⟨W,g⟩:∃W,W=(w.alloc (.cells #[Yz d] 108)).alloc (.cells #[.string s] 9):=⟨_,rfl⟩;have l:=(Bo g).1;have C:W.cell? (Ze (w.heap.size) 0)=some (Yz d):=by rw[g];simp[go_sem]
 have r:W.cell? (Ze (w.heap.size+1) 0)=some (.string s):=by rw[g];simp[go_sem]
 have h:=n.below l;have p:=Yx (Lv f d m w.heap.size (w.heap.size+1) oa A P L o j b a c u t s W h y z E D C r);obtain⟨H,_⟩:=h.box 5 _ rfl;have q:=Yx g;clear g h n r;go_enter func162,ntmps162;go_upto_region 1 with fail;rw[<-q.o];clear q;go_wp2_with fail;refine Calls.mono p.o ?_;rintro e I ⟨ok,rfl,i,v⟩;have B:=Yx i;have x:=l.trans (v.mono l.size);clear i p;go_wp2;go_ret;exact⟨ok,rfl,B.o,x⟩
theorem Iv(c d m:Nat)(O P L:Value)(n j b a:Int)(f:List Kd)(i:List Pd)(h:List Ld)(s:Zi)(w:Zh)(v:Dr w c d m O P L n j b a f i h)(y:(f.map (·.sum)).Nodup)(z:∀k∈f,(k.sum.size:Int)=n)(F:JB f)(C:f.length<=600)(E:i.length<=100)(D:h.length<=200):
 Calls prog 122 #[Yz d,.string s] w fun e G=>∃ok,e=.returned (.bool ok)/\(ok=true↔((∃p∈i,p.sum=s)\/∃l∈h,l.sum=s)\/∃k∈f,s∈k.B)/\Zz w G:=by
 have r:=Yx v;clear v;go_enter func122,ntmps122;go_wp2_with fail;refine(RN c d m O P L n j b a f i h s w r.o E D).mono ?_;rintro e H ⟨A,rfl,t,g⟩;have o:=Yx t;clear t;cases A
 .go_wp2_with fail;refine(TB c d m O P L n j b a f i h s H (Dr.below r.o g) y z F C).mono ?_;rintro e I ⟨B,rfl,u,x⟩;have q:=Yx u;clear u;go_wp2;go_ret;exact⟨B,rfl,⟨(fun e=> .inr (q.o.1 e)),(fun e=>e.elim (fun e=>by have:=o.o.2 e;simp at this) q.o.2)⟩,g.trans (x.mono g.size)⟩
 .go_wp2;go_ret;exact⟨true,rfl,⟨(fun _=> .inl (o.o.1 (by trivial))),(fun _=>rfl)⟩,g⟩
theorem ED(g d m:Nat)(O P L:Value)(l v b a:Int)(c:List Kd)(y:List Pd)(x:List Ld)(s:Zi)(w:Zh)(j:Dr w g d m O P L l v b a c y x)(t:∀k∈c,(k.sum.size:Int)=l)(u:Av c s):
 Calls prog 214 #[Yz d,.string s] w fun e z=>e=.returned (.tuple #[])/\Zz w z:=by
 obtain⟨n,f,C,q,p⟩:=j.map;obtain⟨ok,i,h⟩:=MN l m n f c w w.heap.size s w q p.holds t;obtain rfl:=i.2 u;obtain⟨A,B⟩:=Aa.c2 j.box 0 1;have o:=Yx (h w (Below.refl _ _));clear h i j q p;go_enter func214,ntmps214;go_wp2_with fail;refine Calls.mono o.o ?_;rintro e D ⟨rfl,r⟩;clear o;go_wp2
 go_end0
 exact⟨rfl,r⟩
end
structure Tn (V:List Nat) (w w':Zh):Prop where
 os:w'.os=w.os
 tape:w'.tape=w.tape
 output:w'.output=w.output
 size:w.heap.size<=w'.heap.size
 block:∀b,b<w.heap.size->b∉V->w'.heap[b]?=w.heap[b]?
theorem Tn.of(h:Zz w a):Tn V w a:=⟨h.os,h.tape,h.output,h.size,fun b c _=>h.block b c⟩
theorem Tn.grown(h:w.grownBy a (some g))(d:g∈V):Tn V w a:=⟨h.os,h.tape,h.output,h.size,fun b c f=>h.block b c (fun e=>f (Option.some.inj e▸d))⟩
theorem Tn.set(w:Zh)(g j:Nat)(v:Value)(a:g∈V):Tn V w (w.setCell (Ze g j) v):=Tn.grown (Az w g j v) a
theorem Tn.trans{b c:Zh}(h:Tn V a b)(k:Tn V b c):Tn V a c:=
 ⟨k.os.trans h.os,k.tape.trans h.tape,k.output.trans h.output,Zm h.size k.size,fun q d e=>(k.block q (Zr d h.size) e).trans (h.block q d e)⟩
theorem Tn.below(h:Tn V w a)(e:B<=w.heap.size)(c:∀b∈V,B<=b):Below B w a:=⟨h.os,h.tape,h.output,h.size,fun b f=>h.block b Yw (fun d=>by have:=c b d;omega)⟩
theorem Tn.mono{V':List Nat}(h:Tn V w a)(c:∀b∈V,b∈V'):Tn V' w a:=⟨h.os,h.tape,h.output,h.size,fun b d f=>h.block b d (fun e=>f (c b e))⟩
theorem AT.same{K:TypeId}{n:Nat}{f:Lit->Option Value}(h:AT w K b n f)(i:a.heap[b]?=w.heap[b]?):AT a K b n f:=by obtain⟨D,⟨c,clock,d,e⟩,g⟩:=h;exact⟨D,⟨c,clock,i.trans d,e⟩,g⟩
theorem DG.Y{k:Zh}{c:Nat}{a:Zk}{j:Zl}(h:DG w c V a j)(f:Tn V w k):DG k c V a j:=by
 rcases h with h|⟨b,d,l,e,g,o,m⟩
 .exact .inl h
 .exact .inr ⟨b,d,l,Zr e f.size,g,(by rw[f.block b e g];exact o),fun i s n=>(World.cell?_of_block (a:=⟨b,d+i,none⟩) (f.block b e g)).trans (m i s n)⟩
theorem Lw{P:Program}{b:Array Oper}{o:Oper}{a:Act}{K:Act->Zh->Prop}{Q:Exit->Act->Zh->Prop}{E:Prop}(e:o.guard=none)(s x:Operand)(t u:TypeId)(f:o.op=.call {callee:=.builtin .delete,args:= #[s,x],argTypes:= #[t,u]}){v d:Value}{c:Zh}(i:a.eval s=v)(k:a.eval x=d)(g:(Builtin.delete_ #[t,u] o.type #[v,d]).run P w=.ok (.tuple #[]) c)(h:K (a.put o.dst (.tuple #[])) c):
 if Region.wanted o (yielded b a.tmps)=true then Oper.wp P o a w K Q else E:=by
 have j:Region.wanted o (yielded b a.tmps)=true:=by simp[Region.wanted,e]
 rw[if_pos j];unfold Oper.wp execOp;simp only[f,resolve,invoke,builtin,Sem.run_bind,Sem.run_pure,Result.andThen_ok,List.map_toArray,List.map_cons,List.map_nil,i,k,g];exact h
def CB(ks:List Kd)(s:Zi):List Kd:=ks.filter (fun k=> !decide (k.sum=s))
theorem PZ{b:List Kd}(a:(b.map (·.sum)).Nodup)(c:b[i]?=some k):CB b k.sum=b.eraseIdx i:=by
 induction b generalizing i with
 |nil=>simp at c
 |cons x xs ih=>
  simp only[List.map_cons,List.nodup_cons,List.mem_map,not_exists,not_and]at a;cases i with
  |zero=>simp at c;subst c;unfold CB;simp only[List.filter_cons,decide_true,Bool.not_true,Bool.false_eq_true,if_false,List.eraseIdx_zero,List.tail_cons];exact List.filter_eq_self.2 (fun y h=>by simpa using a.1 y h)
  |succ i=>
   have d:xs[i]?=some k:=by simpa using c
   have g:=Zs d;have f:¬x.sum=k.sum:=fun e=>a.1 k g e.symm;have:=ih a.2 d;unfold CB at *
   simp[f,this]
theorem TC{f:Zl}(h:FB f s i)(o:s∈f)(c:f.Pairwise (fun a b=>less a b=true)):f[i]?=some s:=by
 obtain⟨j,d⟩:=List.getElem?_of_mem o;have n:=(Zw d).1;rcases Nat.lt_or_ge j i with k|k
 .have:=h.lo j s k d;rw[Co]at this;cases this
 .rcases Nat.lt_or_ge i j with g|g
  .have l:=List.pairwise_iff_getElem.1 c i j Yw n g;have m:=h.hi i _ (Zx) (Zv Yw);obtain⟨_,e⟩:=Zw d;rw[e]at l;rw[l]at m;cases m
  .obtain rfl:j=i:=Yw
   exact d
structure Dj (wd:Int) (ks:List Kd):Prop where
 nd:(ks.map (·.sum)).Nodup
 dh:(ks.map (·.sum)).Pairwise (fun a b=>less a b=true)
 sz:∀k∈ks,(k.sum.size:Int)=wd
 B:JB ks
 len:ks.length<=600
 w8:wd<=8
theorem BH.drop{g:Zh}{d:List Kd}{f:Lit->Option Value}(h:BH w b V c d f)(p:Tn V w g)(v:(s.size:Int)=c)(r:c<=8):BH g b V c (CB d s) (fh f (keyL s)):=by
 intro t j;by_cases hts:t=s
 .subst hts;exact .inl ⟨by simp[fh],fun⟨u,hu,a⟩=>by simp[CB,a]at hu⟩
 .have i:keyL t≠keyL s:=fun e=>hts (key_inj e Yw Yw);have m:fh f (keyL s) (keyL t)=f (keyL t):=by simp[fh,i]
  rw[m];rcases h t j with⟨k,l⟩|⟨u,ra,q,hu,a,n,o⟩
  .exact .inl ⟨k,fun⟨u,hu,a⟩=>l ⟨u,(List.mem_filter.1 hu).1,a⟩⟩
  .exact .inr ⟨u,ra,q,List.mem_filter.2 ⟨hu,by simp[a,hts]⟩,a,n,o.Y p⟩
theorem Dr.apart{C:Zh}{k:Nat}{H j:Int}{E:List Kd}{G:List Pd}{F:List Ld}(h:Dr w k d m O P L H v j c E G F)(z:Tn [R] w C)(Z:k<=R)(S:R∉vB d m O P L)(y:∀q K,w.heap[R]?≠some (.cells q 9 K)):Dr C k d m O P L H v j c E G F:=by
 obtain⟨n,f,N,D,Q⟩:=h.map;have o:∀b,b<w.heap.size->b∈vB d m O P L->C.heap[b]?=w.heap[b]?:=fun b r A=>z.block b r (fun e=>S (by simp at e;exact e▸A))
 refine⟨Aa.same h.box (o d h.box.lt (by simp[vB])),⟨n,f,N,AT.same D (o m D.lt (by simp[vB])),?_⟩,Ak h.ord (fun g l=>o g (Ac h.ord l).2 (by simp[vB,l])),Ak h.cg (fun g l=>o g (Ac h.cg l).2 (by simp[vB,l])),Ak h.ci (fun g l=>o g (Ac h.ci l).2 (by simp[vB,l])),h.bd,h.bm,h.ap⟩;intro s J;rcases Q s J with M|⟨u,ra,Y,V,W,X,B⟩
 .exact .inl M
 .refine .inr ⟨u,ra,Y,V,W,X,?_⟩;rcases B with B|⟨b,x,T,r,A,p,U⟩
  .exact .inl B
  .have I:b≠R:=by
    rcases p with p|⟨_,q,p⟩
    .omega
    .exact fun e=>y q _ (e▸p)
   have t:=z.block b r (by simpa using I);exact .inr ⟨b,x,T,Zr r z.size,A,(by rw[t];exact p),fun i s y=>(World.cell?_of_block (a:=⟨b,x+i,none⟩) t).trans (U i s y)⟩
def RO(B:Nat)(wd:Int)(f:Lit->Option Value):Prop:=∀s:Zi,(s.size:Int)=wd->∀u ra rc,f (keyL s)=some (CA u ra rc)->∀p,ra=some p->u.B.length≠0->p.block<B
def DB(w:Zh)(base B d m:Nat)(O P L:Value)(wd births:Int)(ks:List Kd):Prop:=(∀g∈vB d m O P L,g<B)/\∃n f,n<=1000000+births.toNat/\AT w 183 m n f/\BH w base (vB d m O P L) wd ks f/\RO B wd f
theorem DB.Y{E:Zh}{j:Nat}{F:Int}{A:List Kd}{U:List Nat}(h:DB w j B d m O P L F c A)(p:Tn U w E)(v:∀g∈U,B<=g):DB E j B d m O P L F c A:=by
 obtain⟨z,n,f,I,r,J,t⟩:=h;refine⟨z,n,f,I,AT.same r (p.block m r.lt (fun e=>by have:=v m e;have:=z m (by simp[vB]);omega)),fun s l=> ?_,t⟩;rcases J s l with H|⟨u,ra,D,N,Q,C,q⟩
 .exact .inl H
 .refine .inr ⟨u,ra,D,N,Q,C,?_⟩;rcases q with q|⟨b,k,x,y,G,M,K⟩
  .exact .inl q
  .by_cases hr:u.B.length=0
   .exact .inl (List.eq_nil_of_length_eq_zero hr)
   .have R:b<B:=t s l u ra D C ⟨b,k,none⟩ x hr;have o:=p.block b y (fun e=>by have:=v b e;omega);exact .inr ⟨b,k,x,Zr y p.size,G,(by rw[o];exact M),fun i s l=>(World.cell?_of_block (a:=⟨b,k+i,none⟩) o).trans (K i s l)⟩
def WV(w w':Zh)(base d m:Nat)(O O' P L:Value)(wd births:Int)(ks:List Kd)(s:Zi):Prop:=∀B,B<=w.heap.size->DB w base B d m O P L wd births ks->DB w' base B d m O' P L wd births (CB ks s)
theorem RO.fh{a:Int}{f:Lit->Option Value}(h:RO B a f)(k:Lit):RO B a (fh f k):=by
 intro s b u ra c e;refine h s b u ra c ?_;unfold Proofs.YtcankpdbabaacaaGreatDoor.fh at e;split at e
 .cases e
 .exact e
theorem OJ(r d m:Nat)(O P L:Value)(M K t j:Int)(o:List Kd)(Z:List Pd)(Y:List Ld)(s:Zi)(w:Zh)(hd:Dr w r d m O P L M K t j o Z Y)(q:Dj M o)(hp:Z.length<=100)(hl:Y.length<=200)(zJ:Av o s)(zA:¬(((∃p∈Z,p.sum=s)\/∃l∈Y,l.sum=s)\/∃k∈o,s∈k.B)):
 Calls prog 187 #[Yz d,.string s] w fun e w'=>e=.returned (.tuple #[])/\∃O',Dr w' r d m O' P L M K t j (CB o s) Z Y/\O'.ownBlock=O.ownBlock/\Tn (vB d m O P L) w w'/\WV w w' r d m O O' P L M j o s:=by
 obtain⟨k0,U,zH⟩:=zJ;have zJ:Av o s:=⟨k0,U,zH⟩;have yD:=zH▸q.sz k0 U;have hlen:=List.length_pos_of_mem U;obtain⟨g,cap,rfl,yK,yL⟩:=Cc hd.ord (fun e=>by have:=As hd.ord;obtain⟨a,c,e'⟩:=this;rw[e']at e;injection e with _ h2 _;omega);have HD:=Yx hd;clear hd;go_enter func187,ntmps187;go_wp2_with fail;refine(ED r d m _ P L M K t j o Z Y s w HD.o q.sz zJ).mono ?_;rintro e w1 ⟨rfl,G⟩
 have zB:=Yx (Dr.below HD.o G);go_wp2_with fail;refine(Iv r d m _ P L M K t j o Z Y s w1 zB.o q.nd q.sz q.B q.len hp hl).mono ?_;rintro e w2 ⟨ok,rfl,Q,J⟩;obtain rfl:ok=false:=by
  cases ok with
  |false=>rfl
  |true=>exact absurd (Q.1 rfl) zA
 have zN:=Yx (Dr.below zB.o J);clear Q zB;go_wp2_with fail;refine(Mg s w2).mono ?_;rintro e D ⟨rfl,T⟩;obtain⟨E,S⟩:∃W,W=D.alloc (.cells (Ym (kB s)) 183):=⟨_,rfl⟩;have zS:=(AA S).1;have k4:Aa E D.heap.size (Al s):=by rw[S];exact Aa.new D (Al s) 183
 have B4:=((G.trans (J.mono G.size)).trans (T.mono (Zm G.size J.size))).trans (zS.mono (Zm (Zm G.size J.size) T.size));have u:=Yx (Dr.below (Dr.below zN.o T) zS);have zP:=Yx S;clear S zN;go_upto_region 4 with fail;rw[<-zP.o];clear zP;obtain⟨n,f,hn,hM,hH⟩:=u.o.map;obtain⟨w5,V,yF,zV⟩:=(hM.ah (Below.refl E.heap.size E).drew hM.lt).del keyed underlying119 (CP s) 0
 have N:∀C F,AT E 183 m C F->AT w5 183 m C (fh F (keyL s)):=fun C F zT=>by obtain⟨yP,R,zK,_⟩:=(zT.ah (Below.refl E.heap.size E).drew zT.lt).del keyed underlying119 (CP s) 0;rw[V]at R;cases R;exact zK
 have yE:=Yx hM;have yJ:=u.o.box.lt;have y:=u.o.ap;have zU:d≠m:=by intro e;unfold vB at y;simp[e]at y
 have zE:d≠g/\m≠g:=by unfold vB at y;simp[Value.ownBlock]at y;omega
 have yN:=(HD.o.map.choose_spec.choose_spec.2.1).lt;have yO:=Zm (Zm G.size J.size) T.size;have z:=Dp zV;have k5:=Aa.bz (v:=.int .u8 (kB s 0)) k4 z Yw;have x5:=Aa.bz u.o.box z (fun e=>zU e.symm);have P4:E.drew.cell? (Ze d 1)=some (.map (some m))/\_:=⟨(u.o.box 1 _ rfl).1,Hl (w:=E.drew) k4⟩;have P5:w5.cell? (Ze d 1)=some (.map (some m))/\_:=⟨(x5 1 _ rfl).1,Hl k5⟩;unfold BU CE at V
 go_region_held3 (fun X=>X.cell? (Ze d 1)=some (.map (some m))/\(X.cell? (Ze (D.heap.size) 0)=some (.int .u8 (kB s 0))/\X.cell? (Ze (D.heap.size) 1)=some (.int .u8 (kB s 1))/\X.cell? (Ze (D.heap.size) 2)=some (.int .u8 (kB s 2))/\X.cell? (Ze (D.heap.size) 3)=some (.int .u8 (kB s 3))/\X.cell? (Ze (D.heap.size) 4)=some (.int .u8 (kB s 4))/\X.cell? (Ze (D.heap.size) 5)=some (.int .u8 (kB s 5))/\X.cell? (Ze (D.heap.size) 6)=some (.int .u8 (kB s 6))/\X.cell? (Ze (D.heap.size) 7)=some (.int .u8 (kB s 7))))
  (first|with_reducible exact P4|with_reducible exact P5)
  (first|(refine Lw Yr (.tmp 21) (.tmp 22) 119 183 Yr Yr Yr V ?_))
 have zI:=World.ownsRow.kept u.o.ord z (.inr (fun e=>zE.2 (Option.some.inj e).symm));have HP:=TA r d m g cap P L M K t j o s w5 x5 zI q.len (by have:=q.w8;omega) (fun x hx=>by have:=q.sz x hx;omega) q.dh;obtain⟨q0,q1,q2,q3,q4,q5,q6,q7⟩:=Hl k5;have HQ:=Yx HP;unfold BU CE at HQ;have zR:=Yx (Zn x5 zI);have H5:=Yx (Zn N (Zn z hH));clear HP P4 P5 V yF zV z x5 zI k4 k5 hM N;go_wp2_with fail
 refine Calls.mono HQ.o ?_;rintro e w6 ⟨i,rfl,yC,zC⟩;have zG:=TC yC (List.mem_map.2 ⟨k0,U,zH⟩) q.dh;have yM:=q.len;have zW:i<o.length:=by have:=(Zw zG).1;simpa using this
 have x6:=Aa.below zR.o.1 zC;obtain⟨y5,f5⟩:=x6 5 _ rfl;have yA:w6.ownsRow r 183 8 (Za g (o.map (·.sum)).length cap) (o.map (·.sum)).length (AB (o.map (·.sum))):=by rw[List.length_map];exact Ae zR.o.2 zC
 have H:=Nw g cap i (o.map (·.sum)) w6 r yA (by rw[List.length_map];exact q.len) (by rw[List.length_map];exact zW);rw[List.length_map]at H;have zO:=Yx H;have H6:=Yx (Zn zG (Zn x6 zC));clear yC zG x6 H yA HQ q0 q1 q2 q3 q4 q5 q6 q7;go_wp2_with fail;refine Calls.mono zO.o ?_;rintro e w7 ⟨rfl,yB,zF⟩;have x7:=Aa.bz H6.o.2.1 zF (fun e=>zE.1 e.symm);obtain⟨y7,f7⟩:=x7 5 _ rfl
 have H7:=Yx (Zn x7 (Zn yB zF));clear x7 yB zF y5 f5 zO;go_wp2
 go_end0
 have T3:Tn [d,m,g] E (w7.setCell (Ze d 5) (Za g (o.length -1) cap)):=
  (((Tn.grown H5.o.2.1 Yv).trans (Tn.of H6.o.2.2)).trans (Tn.grown H7.o.2.2 Yv)).trans (Tn.set w7 d 5 _ Yv)
 have I:∀b∈[d,m,g],b∈vB d m (Za g o.length cap) P L:=by intro b A;simp at A;unfold vB;rcases A with rfl|rfl|rfl<;>simp[Value.ownBlock]
 have zZ:∀v:Value,(v=P\/v=L)->∀b,v.ownBlock=some b->b∉[d,m,g]:=by
  intro v hv b A zX;unfold vB at y;rcases hv with rfl|rfl
  .simp only[List.nodup_cons,List.mem_cons,List.mem_append,Option.mem_toList,A]at y;simp[Value.ownBlock]at y zX
   grind
  .simp only[List.nodup_cons,List.mem_cons,List.mem_append,Option.mem_toList,A]at y;simp[Value.ownBlock]at y zX
   grind
 have yH:∃k,o[i]?=some k/\k.sum=s:=by
  have:=H6.o.1;rw[List.getElem?_map]at this;cases hk:o[i]? with
  |none=>rw[hk]at this;cases this
  |some k=>rw[hk]at this;exact⟨k,rfl,by simpa using this⟩
 obtain⟨ki,yI,zM⟩:=yH;have yG:=zM▸PZ q.nd yI;have zY:∀C F,AT E 183 m C F->AT (w7.setCell (Ze d 5) (Za g (o.length -1) cap)) 183 m C (fh F (keyL s)):=fun C F h=>by have h5:=H5.o.1 C F h;refine AT.same (AT.same (h5.ah H6.o.2.2 h5.lt) (H7.o.2.2.block m (Zr h5.lt H6.o.2.2.size) (fun e=>zE.2 (Option.some.inj e)))) ?_;exact Below.heap_setCell _ _ _ _ (fun e=>zU e.symm)
 refine⟨rfl,Za g (o.length -1) cap,⟨Aa.set H7.o.1 5 _,⟨n,fh f (keyL s),hn,zY n f yE.o,?_⟩,?_,?_,?_,u.o.bd,u.o.bm,y⟩,rfl,(Tn.of B4).trans (T3.mono I),fun B _ ⟨hv,C,F,h0,h1,h2,h3⟩=>⟨hv,C,_,h0,zY C F (h1.ah B4 h1.lt),BH.drop (h2.below B4) (T3.mono I) yD q.w8,h3.fh _⟩⟩
 .exact BH.drop H5.o.2.2 (T3.mono I) yD q.w8
 .rw[yG];have h1:(o.eraseIdx i).length=o.length -1:=by rw[List.length_eraseIdx,if_pos zW]
  rw[h1];have h2:(o.eraseIdx i).map (·.sum)=(o.map (·.sum)).eraseIdx i:=by simp[List.eraseIdx_eq_take_drop_succ]
  rw[h2];exact Bn H7.o.2.1 (fun b A=>by simp[Value.ownBlock]at A;omega) 5 _
 .exact Ak u.o.cg (fun b A=>T3.block b (Ac u.o.cg A).2 (zZ P (.inl rfl) b A))
 .exact Ak u.o.ci (fun b A=>T3.block b (Ac u.o.ci A).2 (zZ L (.inr rfl) b A))
theorem Dr.cf{h e:Int}{i:List Kd}{k:List Pd}{j:List Ld}(f:Dr w g d m O P L l h e c i k j):∀b∈vB d m O P L,b<w.heap.size:=by
 intro b a;unfold vB at a;simp only[List.mem_cons,List.mem_append,Option.mem_toList]at a;rcases a with rfl|rfl|a|a|a
 .exact f.box.lt
 .exact(f.map.choose_spec.choose_spec.2.1).lt
 .exact(Ac f.ord a).2
 .exact(Ac f.cg a).2
 .exact(Ac f.ci a).2
def Ci(c:Int)(a b:Zi):Value:=.iface 208 (.agg #[Zg c,.string a,.string b])
theorem MS(c d m:Nat)(O P L:Value)(q o b a:Int)(h:List Kd)(j:List Pd)(i:List Ld)(s:Zi)(w:Zh)(x:Dr w c d m O P L q o b a h j i)(f:Dj q h)(B:j.length<=100)(A:i.length<=200)(z:Av h s)(r:((∃p∈j,p.sum=s)\/∃l∈i,l.sum=s)\/∃k∈h,s∈k.B):
 Calls prog 187 #[Yz d,.string s] w fun e C=>e=.panicked [{v:=Ci 6 ⟨#[]⟩ ⟨#[]⟩,recovered:=false}]/\Zz w C:=by
 have u:=Yx x;clear x;go_enter func187,ntmps187;go_wp2_with fail;refine(ED c d m O P L q o b a h j i s w u.o f.sz z).mono ?_;rintro e D ⟨rfl,n⟩;have t:=Yx (Dr.below u.o n);go_wp2_with fail;refine(Iv c d m O P L q o b a h j i s D t.o f.nd f.sz f.B f.len B A).mono ?_;rintro e E ⟨ok,rfl,g,y⟩;obtain rfl:=g.2 r;clear g t;go_wp2;exact⟨rfl,rfl,n.trans (y.mono n.size)⟩
def z12:Zj:=[Zf,Zf,Zf,Zf,Zf,Zc,Zc,Zc,Zd,Zf,Zd,Zd]
theorem AY(h:Aa w b z12):(w.cell? (Ze b 0)=some Zf/\w.frozen? ⟨b,0,none⟩=false)/\(w.cell? (Ze b 1)=some Zf/\w.frozen? ⟨b,1,none⟩=false)/\(w.cell? (Ze b 2)=some Zf/\w.frozen? ⟨b,2,none⟩=false)/\(w.cell? (Ze b 3)=some Zf/\w.frozen? ⟨b,3,none⟩=false)/\(w.cell? (Ze b 4)=some Zf/\w.frozen? ⟨b,4,none⟩=false)/\(w.cell? (Ze b 5)=some Zc/\w.frozen? ⟨b,5,none⟩=false)/\(w.cell? (Ze b 6)=some Zc/\w.frozen? ⟨b,6,none⟩=false)/\(w.cell? (Ze b 7)=some Zc/\w.frozen? ⟨b,7,none⟩=false)/\(w.cell? (Ze b 8)=some Zd/\w.frozen? ⟨b,8,none⟩=false)/\(w.cell? (Ze b 9)=some Zf/\w.frozen? ⟨b,9,none⟩=false)/\(w.cell? (Ze b 10)=some Zd/\w.frozen? ⟨b,10,none⟩=false)/\(w.cell? (Ze b 11)=some Zd/\w.frozen? ⟨b,11,none⟩=false):=
 ⟨h 0 _ rfl,h 1 _ rfl,h 2 _ rfl,h 3 _ rfl,h 4 _ rfl,h 5 _ rfl,h 6 _ rfl,h 7 _ rfl,h 8 _ rfl,h 9 _ rfl,h 10 _ rfl,h 11 _ rfl⟩
theorem Bd(w:Zh)(R:Nat)(c d e f g i k l m n a b:Value):Tn [R] w ((((((((((((w.setCell (Ze R 0) c).setCell (Ze R 1) d).setCell (Ze R 2) e).setCell (Ze R 3) f).setCell (Ze R 4) g).setCell (Ze R 5) i).setCell (Ze R 6) k).setCell (Ze R 7) l).setCell (Ze R 8) m).setCell (Ze R 9) n).setCell (Ze R 10) a).setCell (Ze R 11) b):=
 have h:∀(x:Zh) (j:Nat) (v:Value),Tn [R] x (x.setCell (Ze R j) v):=fun x j v=>Tn.set x R j v Yv
 (((((((((((h w 0 c).trans (h _ 1 d)).trans (h _ 2 e)).trans (h _ 3 f)).trans (h _ 4 g)).trans (h _ 5 i)).trans (h _ 6 k)).trans (h _ 7 l)).trans (h _ 8 m)).trans (h _ 9 n)).trans (h _ 10 a)).trans (h _ 11 b)
theorem Tn.fresh{f e:Zh}(a:Tn V w f)(c:Tn [R] f e)(h:w.heap.size<=R):Tn V w e:=
 ⟨c.os.trans a.os,c.tape.trans a.tape,c.output.trans a.output,Zm a.size c.size,fun b d g=>(c.block b (Zr d a.size) Yu).trans (a.block b d g)⟩
def Ic(s:Zi):Array Value:= #[Zg 7,.string s,Zd,Zf,Zd,Zc]
theorem Mi(c d m:Nat)(O P L:Value)(z C f a:Int)(o:List Kd)(y:List Pd)(x:List Ld)(s:Zi)(w:Zh)(j:Dr w c d m O P L z C f a o y x)(zE:Dj z o)(hp:y.length<=100)(hl:x.length<=200)(zF:Av o s)(u:¬(((∃p∈y,p.sum=s)\/∃l∈x,l.sum=s)\/∃k∈o,s∈k.B)):
 Calls prog 149 #[Yz d,.agg (Ic s)] w fun e N=>e=.returned (.agg z12.toArray)/\∃r,Dr N c d m r P L z C f a (CB o s) y x/\r.ownBlock=O.ownBlock/\Tn (vB d m O P L) w N/\WV w N c d m O r P L z a o s:=by
 obtain⟨W,g⟩:∃W,W=((w.alloc (.cells #[Zg 7,.string s,Zd,Zf,Zd,Zc] 66)).alloc (.cells Yg 88)).alloc (.cells Yg 88):=⟨_,rfl⟩;have E:=(Bq g).1;have J:=(Bq g).2.1;have e0:W.cell? (Ze (w.heap.size) 0)=some (Zg 7):=by rw[g];simp[go_sem]
 have e1:W.cell? (Ze (w.heap.size) 1)=some (.string s):=by rw[g];simp[go_sem]
 have Z:Aa W (w.heap.size+1) z12:=by have n:=Aa.new (w.alloc (.cells #[Zg 7,.string s,Zd,Zf,Zd,Zc] 66)) z12 88;rw[World.size_alloc]at n;rw[g];exact Aa.below (v:=Zf) n (Zy)
 have Y:Aa W (w.heap.size+2) z12:=by have n:=Aa.new ((w.alloc (.cells #[Zg 7,.string s,Zd,Zf,Zd,Zc] 66)).alloc (.cells z12.toArray 88)) z12 88;rw[World.size_alloc,World.size_alloc]at n;rw[g];exact n
 have R:=Yx (j.below E);have D:Hid (∀b∈vB d m O P L,b<w.heap.size):=by
  intro b i;unfold vB at i;simp only[List.mem_cons,List.mem_append,Option.mem_toList]at i;rcases i with rfl|rfl|i|i|i
  .exact j.box.lt
  .exact(j.map.choose_spec.choose_spec.2.1).lt
  .exact(Ac j.ord i).2
  .exact(Ac j.cg i).2
  .exact(Ac j.ci i).2
 have HR:Hid (W.heap[w.heap.size+1]?=some (.cells Yg 88)):=by show _=_;rw[g,Below.heap_alloc _ _ _ Yv];have:=heap_alloc_new (w.alloc (.cells #[Zg 7,.string s,Zd,Zf,Zd,Zc] 66)) (.cells Yg 88);rw[World.size_alloc]at this;exact this
 have Q:c<=w.heap.size:=by have:=j.bd;have:=j.box.lt;omega
 have S:=Yx g;have T:=Yx (Zn Z Y);have A:=Yx J;clear g j Z Y J;unfold Ic;go_enter func149,ntmps149;go_upto_region 2 with fail;rw[<-S.o];clear S;go_wp2_with fail;refine(OJ c d m O P L z C f a o y x s W R.o zE hp hl zF u).mono ?_;rintro e F ⟨rfl,r,H,X,t,I⟩;have M:=Aa.same T.o.1 (t.block _ (by have:=A.o;omega) (fun h=>by have:=D.o _ h;omega))
 have K:=Aa.same T.o.2 (t.block _ (by have:=A.o;omega) (fun h=>by have:=D.o _ h;omega));obtain⟨⟨y0,q0⟩,⟨y1,q1⟩,⟨y2,q2⟩,⟨y3,q3⟩,⟨y4,q4⟩,⟨y5,q5⟩,⟨y6,q6⟩,⟨y7,q7⟩,⟨y8,q8⟩,⟨y9,q9⟩,⟨zG,zI⟩,zH,zJ⟩:=AY M;obtain⟨⟨v0,_⟩,⟨v1,_⟩,⟨v2,_⟩,⟨v3,_⟩,⟨v4,_⟩,⟨v5,_⟩,⟨v6,_⟩,⟨v7,_⟩,⟨v8,_⟩,⟨v9,_⟩,⟨zK,_⟩,zM,_⟩:=AY K;have q:=Yx (Zn H (Zn X (Zn t I)));clear H X t I M K e0 e1 R;go_wp2
 have zC:w.heap.size+1∉vB d m r P L:=fun h=>by
  have:w.heap.size+1∈vB d m O P L:=by unfold vB at h |-;rw[q.o.2.1]at h;exact h
  have:=D.o _ this;omega
 have zB:∀G V,F.heap[w.heap.size+1]?≠some (.cells G 9 V):=fun G V e=>by have n:=q.o.2.2.1.block (w.heap.size+1) (by have:=A.o;omega) (fun h=>by have:=D.o _ h;omega);rw[e,HR.o]at n;simp at n
 refine bodyPost_ret (v:=.agg z12.toArray) (by simp[results,results149,go_sem,y0,y1,y2,y3,y4,y5,y6,y7,y8,y9,zG,zH,z12]) rfl ⟨rfl,r,Dr.apart q.o.1 (Bd F _ _ _ _ _ _ _ _ _ _ _ _ _) Yw zC zB,q.o.2.1,Tn.fresh ((Tn.of E).trans q.o.2.2.1) (Bd F _ _ _ _ _ _ _ _ _ _ _ _ _) Yw,fun B zA hD=>(q.o.2.2.2 B (Zm zA E.size) (hD.Y (U:=[]) (Tn.of E) Yv)).Y (Bd F _ _ _ _ _ _ _ _ _ _ _ _ _) Yu⟩
theorem Lx(c d m:Nat)(O P L:Value)(q n b a:Int)(g:List Kd)(i:List Pd)(h:List Ld)(s:Zi)(w:Zh)(t:Dr w c d m O P L q n b a g i h)(x:Dj q g)(B:i.length<=100)(A:h.length<=200)(y:Av g s)(j:((∃p∈i,p.sum=s)\/∃l∈h,l.sum=s)\/∃k∈g,s∈k.B):
 Calls prog 149 #[Yz d,.agg (Ic s)] w fun e C=>e=.panicked [{v:=Ci 6 ⟨#[]⟩ ⟨#[]⟩,recovered:=false}]/\Zz w C:=by
 obtain⟨W,f⟩:∃W,W=((w.alloc (.cells #[Zg 7,.string s,Zd,Zf,Zd,Zc] 66)).alloc (.cells Yg 88)).alloc (.cells Yg 88):=⟨_,rfl⟩;have o:=(Bq f).1;have D:W.cell? (Ze (w.heap.size) 0)=some (Zg 7):=by rw[f];simp[go_sem]
 have E:W.cell? (Ze (w.heap.size) 1)=some (.string s):=by rw[f];simp[go_sem]
 have z:=Yx (t.below o);have r:=Yx f;clear f t;unfold Ic;go_enter func149,ntmps149;go_upto_region 2 with fail;rw[<-r.o];clear r;go_wp2_with fail;refine(MS c d m O P L q n b a g i h s W z.o x B A y j).mono ?_;rintro e F ⟨rfl,u⟩;exact⟨rfl,rfl,o.trans (u.mono o.size)⟩
theorem Ly(p:Addr)(w:Zh):
 CallsD prog 148 #[.pointer (some p)] .returning w fun e b c=>e=.returned (.tuple #[])/\b=.returning/\c=w:=by
 have a:∀w:Zh,(binOp BinOp.eql 20 .nilIface .nilIface).run prog w=.ok (.bool true) w:=fun _=>by kernel_rfl
 refine callsD_of_wpS func148 rfl fun c₀ cs hu=> ?_;apply wpS_seq;apply wpS_region;simp[wpOpsS,go_sem,recoverD,hu,ntmps148,Exit.thenS];refine wpS_of_wp ?_;change Code.wp prog _ _ {tmps:= #[Value.pointer (some p),undef,undef,undef,Value.nilIface,undef,undef,undef,undef,undef,undef,undef,undef,undef,undef,undef,undef],defers:=[]} w;go_wp2;cases c₀;simp_all [bodyPostS,results,results148]
theorem WW(h:Aa w b z12)(d e f g i j k l m n a c:Value):Aa ((((((((((((w.setCell (Ze b 0) d).setCell (Ze b 1) e).setCell (Ze b 2) f).setCell (Ze b 3) g).setCell (Ze b 4) i).setCell (Ze b 5) j).setCell (Ze b 6) k).setCell (Ze b 7) l).setCell (Ze b 8) m).setCell (Ze b 9) n).setCell (Ze b 10) a).setCell (Ze b 11) c) b [d,e,f,g,i,j,k,l,m,n,a,c]:=
 ((((((((((((h.set 0 d).set 1 e).set 2 f).set 3 g).set 4 i).set 5 j).set 6 k).set 7 l).set 8 m).set 9 n).set 10 a).set 11 c)
def Cq(c:Int)(a b:Zi):Zj:=[Zg c,Zf,Zf,Zf,Zf,Zc,Zc,Zc,Zd,Zf,.string a,.string b]
theorem Ks(R:Nat)(c:Int)(a b:Zi)(w:Zh)(d:Aa w R z12):
 CallsD prog 148 #[Yz R] (.panicking [{v:=Ci c a b,recovered:=false}]) w fun e i f=>e=.returned (.tuple #[])/\i=.panicking [{v:=Ci c a b,recovered:=true}]/\Aa f R (Cq c a b)/\Tn [R] w f:=by
 have h:∀w:Zh,(binOp BinOp.eql 20 (.iface 208 (.agg #[Zg c,.string a,.string b])) .nilIface).run prog w=.ok (.bool false) w:=fun _=>by first|rfl|kernel_rfl
 have l:∀w:Zh,(Instr.typeAssert (.iface 208 (.agg #[Zg c,.string a,.string b])) 20 208 true).run prog w=.ok (.tuple #[.agg #[Zg c,.string a,.string b],.bool true]) w:=fun _=>by first|rfl|kernel_rfl
 obtain⟨⟨C,q⟩,⟨D,r⟩,⟨E,s⟩,⟨F,t⟩,⟨G,u⟩,⟨H,x⟩,⟨I,y⟩,⟨J,z⟩,⟨K,A⟩,⟨L,B⟩,⟨o,m⟩,p,n⟩:=AY d;have j:=Aa.lt (v:=Zf) d;have k:¬w.heap.size=R:=Yw
 have g:¬R=w.heap.size:=Yw
 unfold Ci;refine callsD_of_wpS func148 rfl fun c₀ cs hu=> ?_;apply wpS_seq;apply wpS_region;simp[wpOpsS,go_sem,recoverD,hu,ntmps148,Exit.thenS];refine wpS_of_wp ?_;change Code.wp prog _ _ {tmps:= #[Yz R,undef,undef,undef,.iface 208 (.agg #[Zg c,.string a,.string b]),undef,undef,undef,undef,undef,undef,undef,undef,undef,undef,undef,undef],defers:=[]} w;go_wp2;simp[bodyPostS,results,results148]
 exact⟨Aa.below (v:=Zg c) (WW d _ _ _ _ _ _ _ _ _ _ _ _) (Zy),(Bd w R _ _ _ _ _ _ _ _ _ _ _ _).trans (Tn.of (Zy))⟩
theorem Lz(b d m:Nat)(O P L:Value)(v y c a:Int)(i:List Kd)(u:List Pd)(t:List Ld)(s:Zi)(w:Zh)(r:Dr w b d m O P L v y c a i u t)(Y:Dj v i)(hp:u.length<=100)(hl:t.length<=200)(Z:Av i s)(o:¬(((∃p∈u,p.sum=s)\/∃l∈t,l.sum=s)\/∃k∈i,s∈k.B)):
 Calls prog 104 #[Yz d,.agg (Ic s)] w fun e J=>e=.returned (.agg z12.toArray)/\∃n,Dr J b d m n P L v y c a (CB i s) u t/\n.ownBlock=O.ownBlock/\Tn (vB d m O P L) w J/\WV w J b d m O n P L v a i s:=by
 have zC:∀(fn:Fn) (first cap:Array Value) (w:Zh),(Instr.makeFunc fn first cap).run prog w=.ok (.func fn first cap) w:=fun _ _ _ _=>rfl;obtain⟨W,g⟩:∃W,W=(w.alloc (.cells #[Zg 7,.string s,Zd,Zf,Zd,Zc] 66)).alloc (.cells Yg 88):=⟨_,rfl⟩;have z:=(Bo g).1;have G:=(Bo g).2.1;have e0:W.cell? (Ze (w.heap.size) 0)=some (Zg 7):=by rw[g];simp[go_sem]
 have e1:W.cell? (Ze (w.heap.size) 1)=some (.string s):=by rw[g];simp[go_sem]
 have e2:W.cell? (Ze (w.heap.size) 2)=some Zd:=by rw[g];simp[go_sem]
 have e3:W.cell? (Ze (w.heap.size) 3)=some Zf:=by rw[g];simp[go_sem]
 have e4:W.cell? (Ze (w.heap.size) 4)=some Zd:=by rw[g];simp[go_sem]
 have e5:W.cell? (Ze (w.heap.size) 5)=some Zc:=by rw[g];simp[go_sem]
 have HR:Hid (W.heap[w.heap.size+1]?=some (.cells Yg 88)):=by show _=_;have:=heap_alloc_new (w.alloc (.cells #[Zg 7,.string s,Zd,Zf,Zd,Zc] 66)) (.cells Yg 88);rw[World.size_alloc]at this;rw[g];exact this
 have S:Aa W (w.heap.size+1) z12:=by have q:=Aa.new (w.alloc (.cells #[Zg 7,.string s,Zd,Zf,Zd,Zc] 66)) z12 88;rw[World.size_alloc]at q;rw[g];exact q
 have M:=Yx (r.below z);have I:=Yx r.cf;have K:b<=w.heap.size:=by have:=r.bd;have:=r.box.lt;omega
 have N:=Yx g;have HZ:=Yx S;have C:=Yx G;clear g r S G;unfold Ic
 go_enter_defers func104,ntmps104
 go_upto_region 1 with fail;rw[<-N.o];clear N;go_wp2_with fail;refine(Mi b d m O P L v y c a i u t s W M.o Y hp hl Z o).mono ?_;rintro e A ⟨rfl,n,E,R,x,F⟩;have H:=Aa.same HZ.o (x.block _ (by have:=C.o;omega) (fun h=>by have:=I.o _ h;omega));obtain⟨⟨y0,q0⟩,⟨y1,q1⟩,⟨y2,q2⟩,⟨y3,q3⟩,⟨y4,q4⟩,⟨y5,q5⟩,⟨y6,q6⟩,⟨y7,q7⟩,⟨y8,q8⟩,⟨y9,q9⟩,⟨zA,zE⟩,zB,zF⟩:=AY H;have j:=Yx (Zn E (Zn R (Zn x F)))
 clear E R x F H e0 e1 e2 e3 e4 e5 M;unfold z12;go_wp2;refine leaves_cons (f:=148) (args:= #[Yz (w.heap.size+1)]) Yv (by simp[go_sem]) ?_;refine(Ly ⟨w.heap.size+1,0,none⟩ _).mono ?_;rintro e u' zG ⟨rfl,rfl,rfl⟩;have X:w.heap.size+1∉vB d m n P L:=fun h=>by
  have:w.heap.size+1∈vB d m O P L:=by unfold vB at h |-;rw[j.o.2.1]at h;exact h
  have:=I.o _ this;omega
 have V:∀D Q,A.heap[w.heap.size+1]?≠some (.cells D 9 Q):=fun D Q e=>by have q:=j.o.2.2.1.block (w.heap.size+1) (by have:=C.o;omega) (fun h=>by have:=I.o _ h;omega);rw[e,HR.o]at q;simp at q
 simp[Leaves,settle,results,results104,go_sem,y0,y1,y2,y3,y4,y5,y6,y7,y8,y9,zA,zB];exact⟨rfl,n,Dr.apart j.o.1 (Bd A _ _ _ _ _ _ _ _ _ _ _ _ _) Yw X V,j.o.2.1,Tn.fresh ((Tn.of z).trans j.o.2.2.1) (Bd A _ _ _ _ _ _ _ _ _ _ _ _ _) Yw,fun B T hD=>(j.o.2.2.2 B (Zm T z.size) (hD.Y (U:=[]) (Tn.of z) Yv)).Y (Bd A _ _ _ _ _ _ _ _ _ _ _ _ _) Yu⟩
theorem KN(h d m:Nat)(O P L:Value)(x t g a:Int)(i:List Kd)(o:List Pd)(n:List Ld)(s:Zi)(w:Zh)(B:Dr w h d m O P L x t g a i o n)(E:Dj x i)(U:o.length<=100)(T:n.length<=200)(F:Av i s)(q:((∃p∈o,p.sum=s)\/∃l∈n,l.sum=s)\/∃k∈i,s∈k.B):
 Calls prog 104 #[Yz d,.agg (Ic s)] w fun e X=>e=.returned (.agg (Cq 6 ⟨#[]⟩ ⟨#[]⟩).toArray)/\Zz w X:=by
 have zA:∀(fn:Fn) (first cap:Array Value) (w:Zh),(Instr.makeFunc fn first cap).run prog w=.ok (.func fn first cap) w:=fun _ _ _ _=>rfl;obtain⟨W,c⟩:∃W,W=(w.alloc (.cells #[Zg 7,.string s,Zd,Zf,Zd,Zc] 66)).alloc (.cells Yg 88):=⟨_,rfl⟩;have u:=(Bo c).1;have r:=(Bo c).2.1;have K:W.cell? (Ze (w.heap.size) 0)=some (Zg 7):=by rw[c];simp[go_sem]
 have M:W.cell? (Ze (w.heap.size) 1)=some (.string s):=by rw[c];simp[go_sem]
 have N:W.cell? (Ze (w.heap.size) 2)=some Zd:=by rw[c];simp[go_sem]
 have Q:W.cell? (Ze (w.heap.size) 3)=some Zf:=by rw[c];simp[go_sem]
 have R:W.cell? (Ze (w.heap.size) 4)=some Zd:=by rw[c];simp[go_sem]
 have S:W.cell? (Ze (w.heap.size) 5)=some Zc:=by rw[c];simp[go_sem]
 have C:Aa W (w.heap.size+1) z12:=by have A:=Aa.new (w.alloc (.cells #[Zg 7,.string s,Zd,Zf,Zd,Zc] 66)) z12 88;rw[World.size_alloc]at A;rw[c];exact A
 have y:=Yx (B.below u);have z:=Yx c;have J:=Yx C;have D:=Yx r;clear c B C r;unfold Ic
 go_enter_defers func104,ntmps104
 go_upto_region 1 with fail;rw[<-z.o];clear z;go_wp2_with fail;refine(Lx h d m O P L x t g a i o n s W y.o E U T F q).mono ?_;rintro e Y ⟨rfl,j⟩;have I:=Aa.below (v:=Zf) J.o j;clear K M N Q R S y;refine leaves_cons (f:=148) (args:= #[Yz (w.heap.size+1)]) Yv (by simp[go_sem]) ?_;refine(Ks (w.heap.size+1) 6 ⟨#[]⟩ ⟨#[]⟩ Y I).mono ?_;rintro e u' zB ⟨rfl,rfl,b,V⟩;have Z:=(b 0 _ rfl).1
 have y1:=(b 1 _ rfl).1;have y2:=(b 2 _ rfl).1;have y3:=(b 3 _ rfl).1;have y4:=(b 4 _ rfl).1;have y5:=(b 5 _ rfl).1;have y6:=(b 6 _ rfl).1;have y7:=(b 7 _ rfl).1;have y8:=(b 8 _ rfl).1;have y9:=(b 9 _ rfl).1;have G:=(b 10 _ rfl).1;have H:=(b 11 _ rfl).1;simp[Leaves,settle,results,results104,go_sem,Z,y1,y2,y3,y4,y5,y6,y7,y8,y9,G,H]
 exact⟨rfl,(u.trans (j.mono u.size)).trans (Tn.below V (by have:=j.size;have:=D.o;omega) Yv)⟩
theorem Holds.low{W:Zh}{b:Int}{a:List Kd}{f:Lit->Option Value}(h:Holds W B b a f)(i:Below B W w):Holds w B b a f:=by
 intro s j;rcases h s j with h|⟨u,ra,k,c,d,e,g⟩
 .exact .inl h
 .exact .inr ⟨u,ra,k,c,d,e,Ad.below g i⟩
def HU(w:Zh)(base m:Nat)(wd:Int)(ks:List Kd):Prop:=∃n f,n<=1000000/\AT w 183 m n f/\Holds w base wd ks f/\m<base+4
theorem HU.Y{g:Zh}{a:Nat}{i:Int}{e:List Kd}(h:HU w a m i e)(d:Tn V w g)(p:a<=w.heap.size)(o:∀b∈V,a<=b)(q:m∉V):HU g a m i e:=by obtain⟨n,f,j,c,k,l⟩:=h;exact⟨n,f,j,AT.same c (d.block m c.lt q),k.low (d.below p o),l⟩
theorem AM(w:Zh)(R j:Nat)(v:Value):Tn [R] w (w.setCell (Ze R j) v):=Tn.set w R j v Yv
theorem BV{c:Zh}{b:Option Nat}(a:w.grownBy c b):Tn b.toList w c:=⟨a.os,a.tape,a.output,a.size,fun k d f=>a.block k d (fun e=>f (by simp[<-e]))⟩
def HN(w:Zh)(m N:Nat):Prop:=∃n f,n<=N/\AT w 183 m n f
theorem OK(C z h c:Int)(a p l:Zk)(ac pc lc:Nat)(j:List Kd)(t:List Pd)(s:List Ld)(w:Zh)(M:BI w w.heap.size a p l j t s)(hk:j.length<=600)(hp:t.length<=100)(hl:s.length<=200)(yP:∀k∈j,(k.sum.size:Int)=C)(h8:C<=8):
 Calls prog 102 #[.agg (Yi C z h c a j.length ac p t.length pc l s.length lc)] w fun e A=>∃d m O P L,e=.returned (Yz d)/\Dr A (w.heap.size+1) d m O P L C z h c j t s/\HU A (w.heap.size+1) m C j/\(HN A m 600/\m<=w.heap.size+3)/\Zz w A:=by
 have hx:=AZ.new w C z h c (.slice a j.length ac) (.slice p t.length pc) (.slice l s.length lc) 40;obtain⟨r,T⟩:∃W,W=w.alloc (.cells (Yi C z h c a j.length ac p t.length pc l s.length lc) 40):=⟨_,rfl⟩;have u:=(AA T).1;have yC:=(AA T).2.1;rw[<-T]at hx;have K:=Yx M;have HX:=Yx hx;have zS:=Yx T;have S0:=FX hx
 have zZ:r.drew.cell? (Ze (w.heap.size) 0)=some (Zg C)/\r.drew.cell? (Ze (w.heap.size) 1)=some (Zg z)/\r.drew.cell? (Ze (w.heap.size) 2)=some (Zg h)/\r.drew.cell? (Ze (w.heap.size) 3)=some (Zg c)/\r.drew.cell? (Ze (w.heap.size) 4)=some (.slice a j.length ac)/\r.drew.cell? (Ze (w.heap.size) 5)=some (.slice p t.length pc)/\r.drew.cell? (Ze (w.heap.size) 6)=some (.slice l s.length lc):=S0
 have K0:By r.drew r.drew.heap.size a j:=By.mono (By.below M.k u.drew) u.size;have yK:j.length<=1048576:=Yw
 have yO:t.length<=1048576:=Yw
 have yL:s.length<=1048576:=Yw
 clear M hx T;go_enter func102,ntmps102;go_upto_region 1 with fail;rw[<-zS.o];clear zS
 go_region_held3 (fun A=>A.cell? (Ze (w.heap.size) 0)=some (Zg C)/\A.cell? (Ze (w.heap.size) 1)=some (Zg z)/\A.cell? (Ze (w.heap.size) 2)=some (Zg h)/\A.cell? (Ze (w.heap.size) 3)=some (Zg c)/\A.cell? (Ze (w.heap.size) 4)=some (.slice a j.length ac)/\A.cell? (Ze (w.heap.size) 5)=some (.slice p t.length pc)/\A.cell? (Ze (w.heap.size) 6)=some (.slice l s.length lc))
  (first|exact S3|exact S2|exact S1|exact zZ|exact FX (AZ.below X3.o (Zy)))
  (first
  |(go_at_call 144;refine(PW C z h c a ac (.slice p t.length pc) (.slice l s.length lc) j r.drew K0 yK yP h8).mono ?_;rintro e H ⟨m,f,rfl,hm,hM,hH,zI⟩;have Y:Below r.heap.size r H:=(Below.refl r.heap.size r).drew.trans zI;have S1:=FX (AZ.below HX.o Y))
  |(go_at_call 111;refine(Jz p pc t H (AG.mono (AG.below K.o.p (u.trans (Y.mono u.size))) (u.trans (Y.mono u.size)).size) yO).mono ?_;rintro e S ⟨R,E,rfl,zK,X⟩;have B2:Below r.heap.size r S:=Y.trans (X.mono Y.size);have S2:=FX (AZ.below HX.o B2))
  |(go_at_call 112;refine(IH l lc s S (AI.mono (AI.below K.o.l (u.trans (B2.mono u.size))) (u.trans (B2.mono u.size)).size) yL).mono ?_;rintro e o ⟨Q,D,rfl,zM,I⟩;have B3:Below r.heap.size r o:=B2.trans (I.mono B2.size);have X3:=Yx (AZ.below HX.o B3);have S3:=FX X3.o))
 obtain⟨N,U⟩:∃W,W=o.alloc (.cells #[Zg C,.map (some m),Zg z,Zg h,Zg c,Zc,.slice R t.length E,.slice Q s.length D] 124):=⟨_,rfl⟩;have yW:=(AA U).2.1;have J:=(AA U).1;have Z4:=(AA U).2.2;have yQ:w.heap.size+1<=H.heap.size:=by have:=Y.size;omega
 have zN:=X.size;have yR:=I.size;have yN:m<H.heap.size:=hM.lt;have B4:Below w.heap.size w N:=(u.trans (B3.mono u.size)).trans (J.mono Yw);have zO:Hid (Below r.drew.heap.size r.drew N):=((zI.trans (X.mono Yu)).trans (I.mono Yu)).trans (J.mono Yu);have zU:=Yx (AZ.below X3.o J)
 have zB:Hid (AT N 183 m j.length f):=hM.ah (B:=H.heap.size) ((X.trans (I.mono zN)).trans (J.mono Yw)) yN;have yF:Hid (N.ownsRow H.heap.size 163 2 (.slice R t.length E) t.length (Ab pC t)):=Ae (Ae zK I) J;have yD:Hid (N.ownsRow S.heap.size 164 3 (.slice Q s.length D) s.length (Ab lC s)):=Ae zM J
 have zC:Hid (∀g,(Value.slice R t.length E).ownBlock=some g->H.heap.size<=g/\g<S.heap.size):=fun g y=>Ac zK y;have zA:Hid (∀g,(Value.slice Q s.length D).ownBlock=some g->S.heap.size<=g/\g<o.heap.size):=fun g y=>Ac zM y;have HH:=Yx hH;have zV:=Yx Z4;have yM:w.heap.size+1<=m/\m<=w.heap.size+3:=by have:=hm;simp at this;omega
 rw[<-U];clear U S0 zZ S1 S2 S3 X3 HX Y B2 B3 zI X I hM zK zM hH Z4 K0 hm;obtain⟨x0,x1,x2,x3,x4,x5,x6,x7⟩:=zU.o;go_wp2
 go_loopw [25] (fun i wr=>∃(k:Nat) (O:Value),k<=j.length/\i=Zg k/\Hid (Aa wr o.heap.size [Zg C,.map (some m),Zg z,Zg h,Zg c,O,.slice R t.length E,.slice Q s.length D])/\Hid (wr.ownsRow (o.heap.size+1) 183 8 O ((j.take k).map (·.sum)).length (AB ((j.take k).map (·.sum))))/\Below o.heap.size N wr) (fun i _=>j.length -(intOf i).toNat)
 case atStart=>exact⟨0,_,Nat.zero_le _,rfl,zV,⟨rfl,.inl ⟨rfl,rfl⟩⟩,Below.refl _ _⟩
 case round=>
  clear x0 x1 x2 x3 x4 x5 x6 x7 zV;obtain⟨k,O,yT,rfl,HZ,Z,n⟩:=hrel;obtain⟨x0,x1,x2,x3,x4,x5,x6,x7⟩:=AZ.ah zU.o n Yw;have yY:o.heap.size+1<=wr.heap.size:=by have:=n.size;omega
  by_cases hlt:k<j.length
  .obtain⟨b,yZ,ha,hb,hc⟩:=(By.below K.o.k (B4.trans (n.mono Yw))).at hlt;subst ha;have HG:Hid (j[k]?=some j[k]):=Zv hlt;obtain⟨c0,c1,c2,ra,rc,c3,_⟩:=hc k _ HG.o;have yS:b<wr.heap.size:=Yw
   have HN:Hid ((j.take (k+1)).map (·.sum)=(j.take k).map (·.sum)++[j[k].sum]):=by show _=_;rw[Zu hlt,List.map_append];rfl
   have yU:((j.take k).map (·.sum)).length<=600:=Yu
   clear hc;generalize j[k]=x at *
   generalize (j.take k).map (·.sum)=Os at *
   obtain⟨F,V⟩:∃W,W=wr.alloc (.cells #[.string x.sum,Zg x.born,.string x.M,.slice ra x.B.length rc] 99):=⟨_,rfl⟩;have yX:=(AA V).2.1;have b5:=(AA V).1;have Z5:=(AA V).2.2;have yE:=Yx Z.o;have zR:=Yx (Ae Z.o b5);have zF:=Yx (Aa.below HZ.o b5);have zP:Hid (Below o.heap.size N F):=n.trans (b5.mono Yw)
   have P5:F.drew.cell? (Ze (o.heap.size) 5)=some O/\F.drew.cell? (Ze (wr.heap.size) 0)=some (.string x.sum):=⟨(zF.o 5 _ rfl).1,(Z5 0 _ rfl).1⟩;have D5:Below F.heap.size F F.drew:=(Below.refl _ _).drew;have zT:=Yx V;clear V Z5 Z HZ;go_upto_region 5 with fail;rw[<-zT.o];clear zT x0 x1 x2 x3 x4 x5 x6 x7 c0 c1 c2 c3;obtain⟨zG,zH⟩:=P5
   have zJ:∀g,O.ownBlock=some g->o.heap.size+1<=g/\g<wr.heap.size:=fun g y=>Ac yE.o y;have yV:wr.heap.size≠o.heap.size:=Yw
   go_region_law (first
    |(go_simp;go_at_call 145;refine(Mg x.sum F.drew).mono ?_;rintro e w6 ⟨rfl,yA⟩;have G:Below F.heap.size F w6:=D5.trans yA;have yG:w6.cell? (Ze (o.heap.size) 5)=some O:=(G.cell (p:=⟨o.heap.size,5,none⟩) Yu).trans zG;have zW:w6.cell? (Ze (wr.heap.size) 0)=some (.string x.sum):=(G.cell (p:=⟨wr.heap.size,0,none⟩) Yu).trans zH;have b7:Below F.heap.size F (w6.alloc (Hj x.sum)):=G.alloc G.size _;have zX:(w6.alloc (Hj x.sum)).cell? (Ze (o.heap.size) 5)=some O:=(b7.cell (p:=⟨o.heap.size,5,none⟩) Yu).trans zG;have zY:(w6.alloc (Hj x.sum)).cell? (Ze (wr.heap.size) 0)=some (.string x.sum):=(b7.cell (p:=⟨wr.heap.size,0,none⟩) Yu).trans zH;have z6:=G.size;obtain⟨g8,c8,w8,hr8,ho8,hg8,ha8⟩:=Abz w6 (o.heap.size+1) O Os (Ae zR.o G) x.sum Yw Yw 122;have Z6:=Aa.below zF.o G;unfold Hj at hr8 zX zY;go_wp2_with fail)
    |(refine Bv Yr (.tmp 33) (.tmp 37) 122 122 Yr Yr Yr hr8 ?_;have yI:w8.cell? (Ze (wr.heap.size) 0)=some (.string x.sum):=hg8.cell zW (fun e=>by have:=(zJ _ e.symm).2;simp at this);have Z8:Aa w8 o.heap.size _:=(Aa.same Z6 (hg8.block o.heap.size Yw (fun e=>by have:=(zJ _ e.symm).1;omega)));have yH:=(Z8 5 _ rfl).1;have F8:=(Z8 5 _ rfl).2))
   all_goals
    have yB:Below o.heap.size N w8:=(zP.o.trans (G.mono Yw)).grown hg8 Yw (fun g y=>by have:=(zJ g y).1;omega);have zE:=Yx (Zn Z8 (Zn yB ho8));clear Z8 yB ho8 hg8 hr8 Z6 G b7 yA zR zF zP zG zH yG zW zX zY yH yI F8 ha8 D5 b5;go_wp2;refine⟨⟨k+1,Za g8 (Os.length+1) c8,Yw,Yp,?_,?_,?_⟩,by simp[intOf];omega⟩
    .exact Aa.set zE.o.1 5 _
    .rw[HN.o];exact ownsRow_setCell_below zE.o.2.2 Yo _
    .exact zE.o.2.1.setCell Yv _
  .obtain rfl:k=j.length:=Yw
   rw[Zt (Zx)]at Z;go_wp2;have yJ:(vB o.heap.size m O (.slice R t.length E) (.slice Q s.length D)).Nodup:=by
    have hO:∀g,O.ownBlock=some g->o.heap.size+1<=g:=fun g y=>(Ac Z.o y).1;have hP:∀g,(Value.slice R t.length E).ownBlock=some g->H.heap.size<=g/\g<S.heap.size:=zC.o;have hL:∀g,(Value.slice Q s.length D).ownBlock=some g->S.heap.size<=g/\g<o.heap.size:=zA.o;unfold vB;generalize (Value.slice R t.length E).ownBlock=bp at *
    generalize (Value.slice Q s.length D).ownBlock=bl at *
    generalize O.ownBlock=bo at *
    cases bo<;>cases bp<;>cases bl<;>simp_all<;>omega
   have hV:∀q∈vB o.heap.size m O (.slice R t.length E) (.slice Q s.length D),w.heap.size+1<=q:=by
    intro q v;unfold vB at v;simp only[List.mem_cons,List.mem_append,Option.mem_toList]at v;rcases v with rfl|rfl|v|v|v
    .omega
    .omega
    .have:=(Ac Z.o v).1;omega
    .have:=(zC.o _ v).1;omega
    .have:=(zA.o _ v).1;omega
   go_ret;refine⟨_,rfl,m,⟨O,_,_,⟨HZ.o,⟨j.length,f,Yw,zB.o.ah n Yw,?_⟩,?_,?_,?_,Yw,Yw,yJ⟩⟩,⟨j.length,f,Yw,zB.o.ah n Yw,?hu,Yw⟩,⟨⟨j.length,f,hk,zB.o.ah n Yw⟩,yM.2⟩,B4.trans (n.mono Yw)⟩
   .have v:r.drew.heap.size=w.heap.size+1:=yC;rw[<-v];exact BH.of HH.o (zO.o.trans (n.mono Yu)) (fun q v=>by have:=hV q v;simp;omega) ⟨m,rfl,by rw[v];omega⟩
   .have:=Z.o;rw[List.length_map]at this;exact this.mono Yw
   .refine World.ownsRow.mono ?_ (show w.heap.size+1<=H.heap.size by omega);exact OC yF.o n (fun g y=>by have:=(zC.o g y).2;omega)
   .refine World.ownsRow.mono ?_ (show w.heap.size+1<=S.heap.size by omega);exact OC yD.o n (fun g y=>by have:=(zA.o g y).2;omega)
   case hu=>
    have v:r.drew.heap.size=w.heap.size+1:=yC;rw[<-v];exact Holds.low HH.o (zO.o.trans (n.mono Yu))
end Go.Proofs.YtcankpdbabaacaaGreatDoor
