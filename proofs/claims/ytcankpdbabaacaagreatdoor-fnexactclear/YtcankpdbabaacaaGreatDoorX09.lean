import Derived.Test.YtcankpdbabaacaaGreatDoorX08
import Derived.Laws.IdiomCopy
import Derived.Laws.NewBlocks
import Derived.Laws.AppendOwn
import Derived.Lib.AppendZerosOnto
import Derived.Lib.Overlaps
import Derived.Lib.Walk
set_option maxRecDepth 100000
set_option maxHeartbeats 16000000
namespace Go.Proofs.YtcankpdbabaacaaGreatDoor
open Go.ChangeShapes Go.WideShapes Go.ChangeAt Go.RowKit _root_.Go.Proofs.Tryz
variable{P:Program}{w:Zh}{c g cap n k i a d m N:Nat}{e:TypeId}{b:Int}{o:Oper}{x:Kd}{V:List Nat}
theorem CJ(w:Zh)(l x y elem:TypeId)(i:TypeInfo)(k b o c f:Nat)(a:Addr)(d h:Nat)(e:Zj)(hu:P.underlying l=some (.slice elem))(s:P.info? elem=some i)(t:i.size=k)(u:e.length=Nat.min d c *k)(g:∀j v,e[j]?=some v->w.cell? (a.add j)=some v)(q:∀j,j<e.length->(w.cell? (Ze b (o+j))).isSome=true)(r:∀j,j<e.length->w.frozen? ⟨b,o+j,none⟩=false)(p:∀v∈e,v.oneCell'=true):
 (Builtin.copy_ #[l,x] y #[.slice (some ⟨b,o,none⟩) c f,.slice (some a) d h]).run P w=.ok (goInt (Nat.min d c)) (w.setCells b o e):=by
 have m:=run_loadCells_list (P:=P) w a e g;have n:=run_storeCells_cells (P:=P) b o e 0 w (by simpa using q) (by simpa using r) p;rw[u]at m;subst t;simp[Builtin.copy_,run_underlying hu,Builtin.lenOf,Builtin.firstCells,sizeOf,typeInfo,s,m,n]
theorem Er(g:Nat)(t:TypeId)(a:Nat×Nat):∀(vs:Zj) (o:Nat) (w:Zh) (cur:Array Value),w.heap[g]?=some (.cells cur t a)->o+vs.length<=cur.size->
 (w.setCells g o vs).heap[g]?=some (.cells (cur.toList.take o++vs++cur.toList.drop (o+vs.length)).toArray t a)
 |[],o,w,cur,hg,_=>by simpa [World.setCells]using hg
 |v::r,o,w,cur,hg,hl=>by
  simp only[List.length_cons]at hl;rw[World.setCells];have b:(w.setCell (Ze g o) v).heap[g]?=some (.cells (cur.setIfInBounds o v) t a):=by rw[setCell_eq_setRow w g o cur t a v hg];exact setRow_heap w g cur _ t _ hg
  rw[Er g t a r (o+1) _ _ b Yu];have e:=list_seg_step cur.toList o v r Yu;simp only[Array.toList_setIfInBounds,List.length_cons];rw[e]
theorem Nd{a f:Zj}(h:w.ownsRow c e k (Za g n cap) n a)(y:i<=n)(j:f.length=k)(o:n+1<=cap):
 ((w.setCells g ((i+1) *k) (a.drop (i *k))).setCells g (i *k) f).ownsRow c e k (Za g (n+1) cap) (n+1) (a.take (i *k)++f++a.drop (i *k)):=by
 obtain⟨p,z⟩:=h;rcases z with⟨e,_⟩|⟨D,q,b,e,v,x,E,t,d,u⟩
 .cases e
 .cases e;have F:=Nat.mul_le_mul_right k y;have A:=Nat.mul_le_mul_right k o;rw[Nat.add_mul]at A |-;have hlen:(a.take (i *k)++f++a.drop (i *k)).length=n *k+k:=by rw[List.length_append,List.length_append,List.length_take,List.length_drop,p,j];omega
  have m:(n+1) *k=n *k+k:=by rw[Nat.add_mul];omega
  have l:(a.drop (i *k)).length=n *k -i *k:=by rw[List.length_drop,p]
  have r:=Er g e (0,0) (a.drop (i *k)) (i *k+1 *k) w b x (by rw[l,d];omega);have s:=Er g e (0,0) f (i *k) _ _ r (by simp[l,d,j];omega);refine⟨by rw[hlen,m],.inr ⟨g,cap,_,rfl,v,s,o,t,?_,?_⟩⟩
  .simp[l,d,j];omega
  .have B:(b.toList.take (i *k+1 *k)++a.drop (i *k)++b.toList.drop (i *k+1 *k+(a.drop (i *k)).length)).take (i *k)=a.take (i *k):=by rw[List.append_assoc,List.take_append_of_le_length (by simp[d];omega),List.take_take,Nat.min_eq_left Yw,<-u,List.take_take,Nat.min_eq_left Yw]
   have C:(b.toList.take (i *k+1 *k)++a.drop (i *k)++b.toList.drop (i *k+1 *k+(a.drop (i *k)).length)).drop (i *k+f.length)=a.drop (i *k)++b.toList.drop (i *k+1 *k+(a.drop (i *k)).length):=by rw[List.append_assoc,List.drop_append_of_le_length (by simp[d,j];omega),List.drop_eq_nil_of_le (by simp[d,j];omega),List.nil_append]
   rw[List.toList_toArray,List.toList_toArray,B,C,<-List.append_assoc,List.take_append_of_le_length (by rw[hlen,m];exact Zx),Zt (by rw[hlen,m];exact Zx)]
theorem OT{G:Nat}{a b h:Zj}(m:a.length=n *k)(u:i<=n)(f:b.length=k)(s:d<=g)(t:w.heap[g]?=some (.cells (a.take (i *k)++h).toArray e (0,0)))(z:i *k+h.length=G *k)(o:n+1<=G)(p:G<=maxLen):
 ((w.setCells g (i *k) b).setCells g ((i+1) *k) (a.drop (i *k))).ownsRow d e k (Za g (n+1) G) (n+1) (a.take (i *k)++b++a.drop (i *k)):=by
 have A:=Nat.mul_le_mul_right k u;have v:=Nat.mul_le_mul_right k o;rw[Nat.add_mul]at v |-;have hlen:(a.take (i *k)++b++a.drop (i *k)).length=n *k+k:=by rw[List.length_append,List.length_append,List.length_take,List.length_drop,m,f];omega
 have j:(n+1) *k=n *k+k:=by rw[Nat.add_mul];omega
 have c:(a.take (i *k)).length=i *k:=by rw[List.length_take,m];omega
 have l:(a.drop (i *k)).length=n *k -i *k:=by rw[List.length_drop,m]
 have q:=Er g e (0,0) b (i *k) w _ t (by simp[c,f];omega);have r:=Er g e (0,0) (a.drop (i *k)) (i *k+1 *k) _ _ q (by simp[l,f,c];omega);refine⟨by rw[hlen,j],.inr ⟨g,G,_,rfl,s,r,o,p,?_,?_⟩⟩
 .simp[l,f,c];omega
 .have x:(a.take (i *k)++h).take (i *k)=a.take (i *k):=by rw[List.take_append_of_le_length Yw,Zt Yw]
  have y:((a.take (i *k)++h).take (i *k)++b++(a.take (i *k)++h).drop (i *k+b.length)).take (i *k+1 *k)=a.take (i *k)++b:=by rw[x,List.take_append_of_le_length (by simp[f,c]),Zt (by simp[f,c])]
  rw[y,List.take_append_of_le_length (by rw[hlen,j];exact Zx),Zt (by rw[hlen,j];exact Zx)]
theorem Ih(b:Nat)(a:Zj)(o:Nat)(w:Zh)(h:∀j,j<a.length->(w.cell? (Ze b (o+j))).isSome=true)(k:Nat)(c:(w.cell? (Ze b k)).isSome=true):((w.setCells b o a).cell? (Ze b k)).isSome=true:=by
 by_cases hin:o<=k/\k<o+a.length
 .obtain⟨j,rfl⟩:∃j,k=o+j:=⟨k -o,Yw⟩;rw[World.cell?_setCells_in b a o w h j Yw];rfl
 .rw[World.cell?_setCells_out b a o w _ (fun _ _=>by show k<o\/o+a.length<=k;omega)];exact c
theorem JL(b:Nat):∀(vs:Zj) (o:Nat) (w:Zh),(w.setCells b o vs).drew=w.drew.setCells b o vs
 |[],_,_=>rfl
 |v::r,o,w=>by rw[World.setCells,World.setCells,JL b r];rfl
theorem GS(w:Zh)(a:Addr):w.drew.cell? a=w.cell? a:=rfl
theorem JM(w:Zh)(a:Addr):w.drew.frozen? a=w.frozen? a:=rfl
theorem Kt(w:Zh)(r:Option Nat):w.grownBy w.drew r:=⟨rfl,rfl,rfl,Zx,fun _ _ _=>rfl⟩
theorem DN(w:Zh){b:Array Oper}{rest:List Oper}{a:Act}{Q:Exit->Act->Zh->Prop}(j:o.guard=none)(d s:Operand)(t c:TypeId)(k:o.op=.call {callee:=.builtin .copy,args:= #[d,s],argTypes:= #[t,c]})(v u:Value)(i:a.eval d=v)(m:a.eval s=u){e:Value}{f:Zh}(l:(Builtin.copy_ #[t,c] o.type #[v,u]).run P w=.ok e f)(h:wpList P b Q rest (a.put o.dst e) f):wpList P b Q (o::rest) a w:=by
 refine wpList_plain j fun K g=> ?_;unfold Oper.wp;simp[execOp,k,resolve,invoke,builtin,i,m,l,Result.andThen];exact g _ _ h
theorem Ey{f:Array Oper}{a:Act}{K:Act->Zh->Prop}{Q:Exit->Act->Zh->Prop}{E:Prop}(i:o.guard=none)(d s:Operand)(t b:TypeId)(j:o.op=.call {callee:=.builtin .copy,args:= #[d,s],argTypes:= #[t,b]})(v u:Value)(h:a.eval d=v)(l:a.eval s=u){c:Value}{e:Zh}(k:(Builtin.copy_ #[t,b] o.type #[v,u]).run P w=.ok c e)(g:K (a.put o.dst c) e):
 if Region.wanted o (yielded f a.tmps)=true then Oper.wp P o a w K Q else E:=by
 rw[if_pos (by simp[Region.wanted,i])];unfold Oper.wp;simp[execOp,j,resolve,invoke,builtin,h,l,k,Result.andThen];exact g
section
open Go.ChangeShapes Go.WideShapes Go.ChangeAt Go.RowKit Go.Lib
theorem Ge:∃i:TypeInfo,prog.info? 183=some i/\i.zero=some (.agg Cv)/\i.size=8/\i.bytes=8:=by obtain⟨e,d,a,b,c⟩:=info_parts Kf;exact⟨e,d,a,b,c⟩
theorem Iy{x:Zi}(b:w.heap[a]?=some (.cells (Al x).toArray 183 (0,0))):∀j u,(Ab Al [x])[j]?=some u->w.cell? (Ze a j)=some u:=by intro j u hu;rw[Ab,List.flatMap_cons,List.flatMap_nil,List.append_nil]at hu;simp only[World.cell?,b];rw[<-hu];simp
theorem NE(P:Value)(b:Zl)(x:Zi)(s:Nat)(w:Zh)(a:Nat)(o:w.ownsRow a 183 8 P b.length (Ab Al b))(F:b.length<=600)(d:a<=w.heap.size)(q:w.heap[s]?=some (.cells (Al x).toArray 183 (0,0))):
 Calls prog 239 #[P,Zg b.length,Za s 1 1] w fun e t=>∃m,e=.returned m/\t.ownsRow a 183 8 m (b.length+1) (Ab Al (b++[x]))/\w.grownBy t P.ownBlock/\(m.ownBlock=P.ownBlock\/m.ownBlock=some w.heap.size):=by
 obtain⟨B,c,h,i,k⟩:=Ge;obtain⟨r,t,p,f,n,_,v⟩:=run_append_own_at (P:=prog) w a 122 122 183 B _ 8 8 underlying122 c h i k rfl Ys P b.length (Ab Al b) o ⟨s,0,none⟩ 1 1 (Ab Al [x]) (by rw[Bu EC];rfl) (fun j u hu=>by rw[Go.WideShapes.add_plain,Nat.zero_add];exact Iy q j u hu) (Dz _) Yq Yw d;rw[<-Bm]at f;have l:=Yx (Zn f (Zn n v));clear f n v
 rcases o.2 with⟨e,y⟩|⟨g,cap,C,e,E,A,D,f,n,z⟩
 .subst e;rw[y]at l |-;clear o q c h i k;go_enter func239,ntmps239;go_wp2_with (at_builtin;refine Lib.wpList_append_run _ rfl _ _ _ _ rfl _ _ rfl rfl _ _ p ?_);go_ret;exact⟨r,rfl,l.o⟩
 .subst e;clear o q c h i k A n z;unfold maxLen at f;by_cases hc:cap=b.length
  .subst hc;go_enter func239,ntmps239;go_wp2_with (at_builtin;refine Lib.wpList_append_run _ rfl _ _ _ _ rfl _ _ rfl rfl _ _ p ?_);go_ret;exact⟨r,rfl,l.o⟩
  .go_enter func239,ntmps239;go_wp2_with (at_builtin;refine Lib.wpList_append_run _ rfl _ _ _ _ rfl _ _ rfl rfl _ _ p ?_);go_ret;exact⟨r,rfl,l.o⟩
theorem LN(g cap i:Nat)(a:Zl)(x:Zi)(q:Nat)(w:Zh)(k:Nat)(u:w.ownsRow k 183 8 (Za g a.length cap) a.length (Ab Al a))(hl:a.length<=600)(hi:i<a.length)(z:a.length+1<=cap)(F:q≠g)(o:w.heap[q]?=some (.cells (Al x).toArray 183 (0,0))):
 Calls prog 239 #[Za g a.length cap,Zg i,Za q 1 1] w fun e L=>e=.returned (Za g (a.length+1) cap)/\L.ownsRow k 183 8 (Za g (a.length+1) cap) (a.length+1) (Ab Al (a.take i++[x]++a.drop i))/\w.grownBy L (some g):=by
 obtain⟨K,c,P,y,Q⟩:=Ge;obtain⟨d,A,zC,M,D,N⟩:∃d,w.heap[g]?=some (.cells d 183 (0,0))/\a.length<=cap/\cap<=maxLen/\d.size=cap *8/\d.toList.take (a.length *8)=Ab Al a:=by
  rcases u.2 with⟨e,_⟩|⟨g',R,d,e,hb,A,T,U,V,W⟩
  .cases e
  .cases e;exact⟨d,A,T,U,V,W⟩
 have G:=Bu EC a;have B:(Ab Al [x]).length=8:=by rw[Bu EC];rfl
 have E:((Ab Al a).drop (i *8)).length=(a.length -i) *8:=by rw[List.length_drop,G];omega
 have b:∀j,j<cap *8->(w.cell? (Ze g j)).isSome=true:=fun j l=>by simp only[World.cell?,A];rw[Array.getElem?_eq_getElem Yw];rfl
 have O:∀I H,(callFunc 250 #[Za q 1 1,.slice (some ⟨g,(i+1) *8,none⟩) I H]).run prog w=.ok (.value (.bool false)) w:=fun I H=>by
  rw[run_callFunc_extern func250 Yt Yt Yt (e:=Extern.SlicesOverlaps.overlaps #[122,122] #[4]) Yt,
   Lib.run_overlaps_apart w 122 4 183 underlying122 8 (fun w=>by simp[sizeOf,typeInfo,c,y]) ⟨q,0,none⟩ ⟨g,(i+1) *8,none⟩ 1 1 I H F 183 183 ((Al x).toArray:Array Value).size d.size (by simp only[World.shape?,o]) (by simp only[World.shape?,A]) (by rw[D];omega) (by simp only[World.frozen?,o];rfl) (by simp[World.frozen?,o])]
  rfl
 have r:∀p n J,(Builtin.copy_ #[122,122] p #[.slice (some ⟨g,(i+1) *8,none⟩) (a.length+1 -(i+1)) n,.slice (some ⟨g,i *8,none⟩) (a.length+1 -i) J]).run prog w.drew=.ok (goInt (Nat.min (a.length+1 -i) (a.length+1 -(i+1)))) (w.drew.setCells g ((i+1) *8) ((Ab Al a).drop (i *8))):=fun p n J=>
  CJ w.drew 122 122 p 183 K 8 g ((i+1) *8) (a.length+1 -(i+1)) n ⟨g,i *8,none⟩ (a.length+1 -i) J ((Ab Al a).drop (i *8)) underlying122 c y (by rw[E];congr 1;show _=min _ _;omega)
   (fun j v l=>by
     rw[Go.WideShapes.add_plain];rw[List.getElem?_drop]at l;have:=(Zw l).1;exact(u.cellAt _ Yw).trans l)
   (fun j l=>b _ Yw) (fun j _=>u.frozenAt _) (fun v o=>Dz _ v (List.mem_of_mem_drop o))
 obtain⟨m,f⟩:∃m,m=w.drew.setCells g ((i+1) *8) ((Ab Al a).drop (i *8)):=⟨_,rfl⟩;have C:∀p n,(Builtin.copy_ #[122,122] p #[.slice (some ⟨g,i *8,none⟩) (a.length+1 -i) n,Za q 1 1]).run prog m=.ok (goInt (Nat.min 1 (a.length+1 -i))) (m.setCells g (i *8) (Ab Al [x])):=fun p n=>
  CJ m 122 122 p 183 K 8 g (i *8) (a.length+1 -i) n ⟨q,0,none⟩ 1 1 (Ab Al [x]) underlying122 c y (by rw[B,show Nat.min 1 (a.length+1 -i)=1 from Nat.min_eq_left Yw,Nat.one_mul])
   (fun j v l=>by
     rw[Go.WideShapes.add_plain,Nat.zero_add,f,World.cell?_setCells_out g _ _ _ _ (fun h _=>absurd h F)];exact Iy o j v l)
   (fun j l=>by rw[f];exact Ih g ((Ab Al a).drop (i *8)) ((i+1) *8) w.drew (fun t ht=>b _ Yw) (i *8+j) (b _ Yw)) (fun j _=>by rw[f,World.frozen?_setCells];exact u.frozenAt _) (Dz _)
 have s:(m.setCells g (i *8) (Ab Al [x])).ownsRow k 183 8 (Za g (a.length+1) cap) (a.length+1) (Ab Al (a.take i++[x]++a.drop i))/\w.grownBy (m.setCells g (i *8) (Ab Al [x])) (some g):=by
  refine⟨?_,?_⟩
  .rw[Bm,Bm,<-FZ EC a i Yw,<-Fo EC a i Yw,f];exact Nd (w:=w.drew) (Ae u ((Below.refl _ _).drew)) Yw B z
  .rw[f];exact Aw (Dp (Ch g _ _ _)) (Ch g _ _ _)
 have S:=Yx s;rw[<-f]at r;unfold maxLen at M;have y:¬((i:Int)=(a.length:Int)):=Yw
 have zE:(0:Int)<=(i:Int)+1:=Yw
 have zF:(i:Int)+1<=(a.length:Int)+1:=Yw
 have zG:((i:Int)+1).toNat=i+1:=Yw
 have zH:((a.length:Int)+1).toNat=a.length+1:=Yw
 have zI:(0:Int)<=(a.length:Int)+1:=Yw
 have zJ:(a.length:Int)+1<=(cap:Int):=Yw
 have X:¬(cap=i+1):=Yw
 have Y:¬(cap=i):=Yw
 have Z:i<=a.length+1:=Yw
 have zA:(i:Int)<=(a.length:Int)+1:=Yw
 have zB:(i:Int)<=(a.length:Int):=Yw
 have mixed:prog.follows .mixedOrders=true:=Yt
 have zK:IntKind.i64.wrap ((i:Int)+1)=(i:Int)+1:=by rw[IntKind.wrap_i64];omega
 have zM:IntKind.i64.wrap ((a.length:Int)+1)=(a.length:Int)+1:=by rw[IntKind.wrap_i64];omega
 clear u b s o A N D c P Q G B E f;go_enter func239,ntmps239;go_wp2_with (simp only[O])
 go_region_law_o (refine Ey rfl _ _ 122 122 rfl (.slice (some ⟨g,(i+1) *8,none⟩) (a.length+1 -(i+1)) (cap -(i+1))) (.slice (some ⟨g,i *8,none⟩) (a.length+1 -i) (cap -i)) (by simp[Act.eval,Act.put]) (by simp[Act.eval,Act.put]) (r 3 (cap -(i+1)) (cap -i)) ?_)
 go_wp2_with (at_builtin;refine DN _ rfl _ _ 122 122 rfl _ _ rfl rfl (C _ _) ?_);go_ret;exact⟨rfl,S.o⟩
theorem Mr(g cap i:Nat)(a:Zl)(x:Zi)(J:Nat)(w:Zh)(f:Nat)(H:w.ownsRow f 183 8 (Za g a.length cap) a.length (Ab Al a))(hl:a.length<=600)(hi:i<a.length)(D:cap<a.length+1)(C:f<=w.heap.size)(I:w.heap[J]?=some (.cells (Al x).toArray 183 (0,0))):
 Calls prog 239 #[Za g a.length cap,Zg i,Za J 1 1] w fun e w'=>∃G,e=.returned (Za w.heap.size (a.length+1) G)/\w'.ownsRow f 183 8 (Za w.heap.size (a.length+1) G) (a.length+1) (Ab Al (a.take i++[x]++a.drop i))/\w.grownBy w' none:=by
 obtain⟨T,k,zB,A,O⟩:=Ge;have L:g<w.heap.size:=(Ac H rfl).2;have zA:=(Array.getElem?_eq_some_iff.1 I).1;have zS:a.length<=cap:=by
  rcases H.2 with⟨e,_⟩|⟨g',zH,zI,e,y,hg,h1,h2,h3,h4⟩
  .cases e
  .cases e;exact h1
 have z:=Bu EC a;have N:(Ab Al [x]).length=8:=by rw[Bu EC];rfl
 have X:((Ab Al a).drop (i *8)).length=(a.length -i) *8:=by rw[List.length_drop,z];omega
 have M:((Ab Al a).take (i *8)).length=i *8:=by rw[List.length_take,z];omega
 have hold:(Builtin.firstCells T.size i (Za g i cap)).run prog w.drew=.ok ((Ab Al a).take (i *8)).toArray w.drew:=by
  rw[A];exact run_firstCells_some w.drew 8 i ⟨g,0,none⟩ i cap ((Ab Al a).take (i *8)) M (fun j v d=>by
   rw[Go.WideShapes.add_plain,Nat.zero_add];rw[List.getElem?_take]at d;split at d
   .exact(H.cellAt _ Yw).trans d
   .cases d)
 obtain⟨G,R⟩:∃G,G=grownCap w (a.length+1) cap 183:=⟨_,rfl⟩;obtain⟨o,zG,W⟩:∃o:Array Value,o=Value.cells (.agg Cv)/\o.size=8:=⟨_,rfl,Yt⟩;obtain⟨B,Q⟩:∃B:Zj,B=(Builtin.zeroCells o (a.length+1 -i)).toList++(Builtin.zeroCells o (G -(a.length+1))).toList:=⟨_,rfl⟩;have zF:a.length+1<=G:=by rw[R];exact grownCap_ge w _ _ _
 have s:G<=maxLen:=by rw[R];exact grownCap_le_maxLen w (a.length+1) cap 183 Yq
 have zC:i *8+B.length=G *8:=by rw[Q];simp[Builtin.zeroCells,W];omega
 have Z:∀m,(Builtin.append_ #[122,3] m #[Za g i cap,Zg ((a.length:Int)+1 -(i:Int))]).run prog w=
  .ok (Za w.heap.size (a.length+1) G) (w.drew.alloc (.cells ((Ab Al a).take (i *8)++B).toArray 183)):=fun m=>by
  have Y:i+(a.length+1 -i)=a.length+1:=Yw
  have h:=Lib.run_append_grow_zeros (P:=prog) w 122 3 m 183 T _ .i64 .i64 underlying122 underlying3 k zB (some ⟨g,0,none⟩) i cap ((Ab Al a).take (i *8)) hold (a.length+1 -i) Yw (by rw[A];omega) Yw Yw (by rw[O];omega) (by rw[O,Y];exact growslice_fits D Yw);rw[Y,<-R,<-zG]at h;rw[show(a.length:Int)+1 -(i:Int)=((a.length+1 -i:Nat):Int) by omega,h,Q]
  have e:((Ab Al a).take (i *8)).toArray++Builtin.zeroCells o (a.length+1 -i)++Builtin.zeroCells o (G -(a.length+1))=((Ab Al a).take (i *8)++((Builtin.zeroCells o (a.length+1 -i)).toList++(Builtin.zeroCells o (G -(a.length+1))).toList)).toArray:=by apply Array.toList_inj.1;simp
  rw[e]
 obtain⟨c,p⟩:∃c,c=w.drew.alloc (.cells ((Ab Al a).take (i *8)++B).toArray 183):=⟨_,rfl⟩;have l:c.heap[w.heap.size]?=some (.cells ((Ab Al a).take (i *8)++B).toArray 183 (0,0)):=by rw[p];exact heap_alloc_new w.drew _
 have S:∀j,j<G *8->(c.cell? (Ze (w.heap.size) j)).isSome=true:=fun j d=>by simp only[World.cell?,l];rw[Array.getElem?_eq_getElem (by simp[M];omega)];rfl
 have K:∀j,c.frozen? ⟨w.heap.size,j,none⟩=false:=fun j=>by simp[World.frozen?,l]
 have hO:∀b,b<w.heap.size->c.heap[b]?=w.heap[b]?:=fun b y=>by rw[p];exact GP w.drew _ y
 have U:∀m r,(Builtin.copy_ #[122,122] m #[.slice (some ⟨w.heap.size,i *8,none⟩) (a.length+1 -i) r,Za J 1 1]).run prog c=.ok (goInt (Nat.min 1 (a.length+1 -i))) (c.setCells w.heap.size (i *8) (Ab Al [x])):=fun m r=>
  CJ c 122 122 m 183 T 8 w.heap.size (i *8) (a.length+1 -i) r ⟨J,0,none⟩ 1 1 (Ab Al [x]) underlying122 k A (by rw[N,show Nat.min 1 (a.length+1 -i)=1 from Nat.min_eq_left Yw,Nat.one_mul])
   (fun j v d=>by
     rw[Go.WideShapes.add_plain,Nat.zero_add,World.cell?_of_block (hO J zA)];exact Iy I j v d)
   (fun j d=>S _ Yw) (fun j _=>K _) (Dz _)
 obtain⟨q,n⟩:∃q,q=(c.setCells w.heap.size (i *8) (Ab Al [x])).drew:=⟨_,rfl⟩;have V:∀m r sc,(Builtin.copy_ #[122,122] m #[.slice (some ⟨w.heap.size,(i+1) *8,none⟩) (a.length+1 -(i+1)) r,.slice (some ⟨g,i *8,none⟩) (a.length -i) sc]).run prog q=.ok (goInt (Nat.min (a.length -i) (a.length+1 -(i+1)))) (q.setCells w.heap.size ((i+1) *8) ((Ab Al a).drop (i *8))):=fun m r sc=>
  CJ q 122 122 m 183 T 8 w.heap.size ((i+1) *8) (a.length+1 -(i+1)) r ⟨g,i *8,none⟩ (a.length -i) sc ((Ab Al a).drop (i *8)) underlying122 k A (by rw[X];congr 1;show _=min _ _;omega)
   (fun j v d=>by
     rw[List.getElem?_drop]at d;have:=(Zw d).1;rw[Go.WideShapes.add_plain,n,GS,World.cell?_setCells_out _ _ _ _ _ (fun h _=>absurd h (Nat.ne_of_lt L)),World.cell?_of_block (hO g L)];exact(H.cellAt _ Yw).trans d)
   (fun j d=>by rw[n,GS];exact Ih w.heap.size (Ab Al [x]) (i *8) c (fun t ht=>S _ Yw) ((i+1) *8+j) (S _ Yw)) (fun j _=>by rw[n,JM,World.frozen?_setCells];exact K _) (fun v I=>Dz _ v (List.mem_of_mem_drop I))
 have u:(q.setCells w.heap.size ((i+1) *8) ((Ab Al a).drop (i *8))).ownsRow f 183 8 (Za w.heap.size (a.length+1) G) (a.length+1) (Ab Al (a.take i++[x]++a.drop i))/\w.grownBy (q.setCells w.heap.size ((i+1) *8) ((Ab Al a).drop (i *8))) none:=by
  refine⟨?_,?_⟩
  .rw[Bm,Bm,<-FZ EC a i Yw,<-Fo EC a i Yw,n,<-JL];exact Ae (OT (w:=c) z Yw N C l zC zF s) ((Below.refl _ _).drew)
  .have s1:c.heap.size=w.heap.size+1:=by rw[p];simp
   have E:w.grownBy c none:=by rw[p];exact⟨rfl,rfl,rfl,Yv,fun b y _=>GP w.drew _ y⟩
   have F:c.grownBy (q.setCells w.heap.size ((i+1) *8) ((Ab Al a).drop (i *8))) (some w.heap.size):=by rw[n];exact Aw (Aw (Ch w.heap.size (Ab Al [x]) (i *8) c) (Kt _ _)) (Ch w.heap.size ((Ab Al a).drop (i *8)) ((i+1) *8) _)
   exact⟨F.os.trans E.os,F.tape.trans E.tape,F.output.trans E.output,Zm E.size F.size,fun b y _=>(F.block b Yw Yu).trans (E.block b y Yv)⟩
 have HF:=Yx u;have zE:G<=9223372036854775807:=by unfold maxLen at s;omega
 have zW:¬((i:Int)=(a.length:Int)):=Yw
 have zX:(cap:Int)<(a.length:Int)+1:=Yw
 have zT:(0:Int)<=(i:Int)+1:=Yw
 have zU:(i:Int)+1<=(a.length:Int)+1:=Yw
 have zV:((i:Int)+1).toNat=i+1:=Yw
 have zJ:¬(cap=i):=Yw
 have zK:¬(G=i):=Yw
 have zM:¬(G=i+1):=Yw
 have zN:i<=a.length+1:=Yw
 have zP:(i:Int)<=(a.length:Int)+1:=Yw
 have zR:(i:Int)<=(a.length:Int):=Yw
 have mixed:prog.follows .mixedOrders=true:=Yt
 have zO:i<=cap:=Yw
 have zY:IntKind.i64.wrap ((i:Int)+1)=(i:Int)+1:=by rw[IntKind.wrap_i64];omega
 have zZ:IntKind.i64.wrap ((a.length:Int)+1)=(a.length:Int)+1:=by rw[IntKind.wrap_i64];omega
 have yA:IntKind.i64.wrap ((a.length:Int)+1 -(i:Int))=(a.length:Int)+1 -(i:Int):=by rw[IntKind.wrap_i64];omega
 rw[<-p]at Z;clear H u I k zB O z N X M hold R Q zC l S K hO p L zA;go_enter func239,ntmps239;go_wp2_with (first
  |(at_builtin;refine Lib.wpList_append_run _ rfl _ _ _ _ rfl _ _ rfl rfl _ _ (Z _) ?_)
  |(at_builtin;refine DN _ rfl _ _ 122 122 rfl _ _ rfl rfl (U _ _) ?_))
 go_region_law_o (refine Ey rfl _ _ 122 122 rfl (.slice (some ⟨w.heap.size,(i+1) *8,none⟩) (a.length+1 -(i+1)) (G -(i+1))) (.slice (some ⟨g,i *8,none⟩) (a.length -i) (cap -i)) (by simp[Act.eval,Act.put]) (by simp[Act.eval,Act.put]) (by rw[<-n];exact V 3 (G -(i+1)) (cap -i)) ?_)
 go_wp2;go_ret;rw[<-n];exact⟨G,rfl,HF.o⟩
theorem NF(P:Value)(i:Nat)(c:Zl)(x:Zi)(j:Nat)(w:Zh)(a:Nat)(l:w.ownsRow a 183 8 P c.length (Ab Al c))(o:c.length<=600)(B:i<=c.length)(d:a<=w.heap.size)(s:P.ownBlock≠some j)(p:w.heap[j]?=some (.cells (Al x).toArray 183 (0,0))):
 Calls prog 239 #[P,Zg i,Za j 1 1] w fun e m=>∃k,e=.returned k/\m.ownsRow a 183 8 k (c.length+1) (Ab Al (c.take i++[x]++c.drop i))/\w.grownBy m P.ownBlock/\(k.ownBlock=P.ownBlock\/k.ownBlock=some w.heap.size):=by
 rcases Nat.lt_or_ge i c.length with h|h
 .rcases l.2 with⟨e,C⟩|⟨g,cap,t,e,r,A,u,v,y,z⟩
  .omega
  .subst e;rcases Nat.lt_or_ge cap (c.length+1)with n|n
   .refine Calls.mono (Mr g cap i c x j w a l o h n d p) ?_;rintro e m ⟨G,rfl,q,f⟩;exact⟨_,rfl,q,⟨f.os,f.tape,f.output,f.size,fun b r _=>f.block b r Yv⟩,.inr rfl⟩
   .refine Calls.mono (LN g cap i c x j w a l o h n (fun e=>s (by rw[e];rfl)) p) ?_;rintro e m ⟨rfl,q,f⟩;exact⟨_,rfl,q,f,.inl rfl⟩
 .obtain rfl:i=c.length:=Yw
  rw[List.take_length,List.drop_length,List.append_nil];exact NE P c x j w a l o d p
end
theorem NG(a:Zk)(cap:Nat)(s:Zi)(w:Zh):
 Calls prog 246 #[.slice a 0 cap,BU s,.func (.func 247) #[] #[]] w fun e c=>e=.returned (.tuple #[Zf,.bool false])/\Zz w c:=by
 unfold BU CE;go_enter func246,ntmps246;go_wp2
 go_loopw [9,10] (fun i j wr=>i=Zg 0/\j=Zg 0/\Zz w wr) (fun _ _ _=>0)
 case atStart=>exact⟨rfl,rfl,Zy⟩
 case round=>
  obtain⟨rfl,rfl,b⟩:=hrel;have d:=Ar.ne wr;go_wp2;refine Au Yt Yt ?_
  repeat (go_big_quiet_step (fail))
  refine wpQuiet_nil ?_;intro m;go_wp2
  go_ret2
  exact⟨by first|rfl|simp[Act.put],b.trans (m.h.mono b.size)⟩
theorem YL(d:Nat)(O:Value)(c:Zl)(s:Zi)(w:Zh)(k:w.ownsRow d 183 8 O c.length (AB c))(p:c.length<=600)(m:s.size<=8)(n:∀x∈c,x.size=s.size)(f:c.Pairwise (fun a b=>less a b=true)):
 Calls prog 246 #[O,BU s,.func (.func 247) #[] #[]] w fun e l=>∃i:Nat,e=.returned (.tuple #[Zg i,.bool (decide (c[i]?=some s))])/\FB c s i/\Zz w l:=by
 rcases k.2 with⟨rfl,r⟩|⟨g,cap,t,rfl,_⟩
 .have:c=[]:=List.eq_nil_of_length_eq_zero r;subst this;refine(NG none 0 s w).mono ?_;rintro e l ⟨rfl,o⟩;exact⟨0,Yv,⟨Zx,fun j x h=>by omega,fun j x _ q=>by simp at q⟩,o⟩
 .exact Ls g cap c s w d k p m n f
theorem Aac(f d m:Nat)(oa:Zk)(n:Nat)(P L:Value)(T C k g:Int)(c:List Kd)(s:Zi)(w:Zh)(h:Aa w d [Zg T,.map (some m),Zg C,Zg k,Zg g,.slice oa c.length n,P,L])(j:w.ownsRow f 183 8 (.slice oa c.length n) c.length (AB (c.map (·.sum))))(N:c.length<=600)(A:s.size<=8)(B:∀x∈c,x.sum.size=s.size)(l:(c.map (·.sum)).Pairwise (fun a b=>less a b=true)):
 Calls prog 226 #[Yz d,BU s] w fun e S=>∃i:Nat,e=.returned (.tuple #[Zg i,.bool (decide ((c.map (·.sum))[i]?=some s))])/\FB (c.map (·.sum)) s i/\Zz w S:=by
 obtain⟨W,p⟩:∃W,W=w.alloc (.cells (Ym (kB s)) 183):=⟨_,rfl⟩;have o:=(AA p).1;have u:Aa W w.heap.size (Al s):=by rw[p];exact Aa.new w (Al s) 183
 have q:W.drew.ownsRow f 183 8 (.slice oa c.length n) (c.map (·.sum)).length (AB (c.map (·.sum))):=by rw[List.length_map];exact Ae j o.drew
 have HS:=Yx (YL f (.slice oa c.length n) (c.map (·.sum)) s W.drew q (by rw[List.length_map];exact N) A (fun x O=>by obtain⟨y,Q,rfl⟩:=List.mem_map.1 O;exact B y Q) l)
 have M:W.drew.cell? (Ze d 5)=some (.slice oa c.length n)/\(W.drew.cell? (Ze (w.heap.size) 0)=some (.int .u8 (kB s 0))/\W.drew.cell? (Ze (w.heap.size) 1)=some (.int .u8 (kB s 1))/\W.drew.cell? (Ze (w.heap.size) 2)=some (.int .u8 (kB s 2))/\W.drew.cell? (Ze (w.heap.size) 3)=some (.int .u8 (kB s 3))/\W.drew.cell? (Ze (w.heap.size) 4)=some (.int .u8 (kB s 4))/\W.drew.cell? (Ze (w.heap.size) 5)=some (.int .u8 (kB s 5))/\W.drew.cell? (Ze (w.heap.size) 6)=some (.int .u8 (kB s 6))/\W.drew.cell? (Ze (w.heap.size) 7)=some (.int .u8 (kB s 7))):=⟨(Aa.below h o 5 _ rfl).1,Hl (w:=W.drew) u⟩
 have t:=Yx p;clear p u q h j;unfold BU CE at *
 go_enter func226,ntmps226;go_upto_region 1 with fail;rw[<-t.o];clear t;obtain⟨R,D,E,F,G,H,I,J,K⟩:=M;go_region_with (go_at_call 246;refine Calls.mono HS.o ?_;rintro e U ⟨i,rfl,z,v⟩)
 all_goals
  have r:=Yx (Zn z (o.trans ((Cp v).mono o.size)));clear z v R D E F G H I J K HS;go_wp2
  go_ret2
  exact⟨i,by first|rfl|simp[Act.put],r.o.1,r.o.2⟩
def DH(ks:List Kd)(x:Kd):List Kd:=ks.filter (fun k=>less k.sum x.sum)++[x]++ks.filter (fun k=> !(less k.sum x.sum))
theorem KT{a:List Kd}{u:Kd}:u∈DH a x↔u∈a++[x]:=by
 unfold DH;simp only[List.mem_append,List.mem_filter,List.mem_singleton];cases less u.sum x.sum<;>simp
 .constructor
  .rintro(h|h)
   .exact .inr h
   .exact .inl h
  .rintro(h|h)
   .exact .inr h
   .exact .inl h
theorem OU(a:List Kd)(x:Kd):(DH a x).length=a.length+1:=by
 unfold DH;rw[List.length_append,List.length_append];have:∀l:List Kd,(l.filter (fun k=>less k.sum x.sum)).length+(l.filter (fun k=> !(less k.sum x.sum))).length=l.length:=by
  intro l;induction l with
  |nil=>rfl
  |cons y l ih=>cases h:less y.sum x.sum<;>simp[h]<;>omega
 have:=this a;simp;omega
theorem RZ{b:List Kd}(h:FB (b.map (·.sum)) x.sum i):DH b x=b.take i++[x]++b.drop i:=by
 have lo:∀k∈b.take i,less k.sum x.sum=true:=fun k a=>by obtain⟨j,c⟩:=List.getElem?_of_mem a;have f:=(Zw c).1;rw[List.length_take]at f;rw[List.getElem?_take_of_lt Yw]at c;exact h.lo j k.sum Yw (by rw[List.getElem?_map,c];rfl)
 have d:∀k∈b.drop i,less k.sum x.sum=false:=fun k a=>by obtain⟨j,c⟩:=List.getElem?_of_mem a;rw[List.getElem?_drop]at c;exact h.hi (i+j) k.sum Yw (by rw[List.getElem?_map,c];rfl)
 have e:=(List.take_append_drop i b).symm;unfold DH
 conv=>lhs;rw[e]
 rw[List.filter_append,List.filter_append,List.filter_eq_self.2 lo,List.filter_eq_nil_iff.2 (fun k a=>by rw[d k a];simp),List.filter_eq_nil_iff.2 (fun k a=>by rw[lo k a];simp),List.filter_eq_self.2 (fun k a=>by rw[d k a];rfl)];simp
theorem Holds.same{W:Zh}{B:Nat}{i:Int}{g a:List Kd}{f:Lit->Option Value}(h:Holds W B i g f)(d:∀u,u∈a↔u∈g):Holds W B i a f:=by
 intro s j;rcases h s j with⟨b,c⟩|⟨u,ra,l,b,c⟩
 .exact .inl ⟨b,fun⟨k,hk,e⟩=>c ⟨k,(d k).1 hk,e⟩⟩
 .exact .inr ⟨u,ra,l,(d u).2 b,c⟩
theorem Sa{b:List Pd}(h:w.ownsRow a 163 2 (Za g n cap) n (Ab pC b)){x:Pd}(f:b[i]?=some x)(s:Zi):(w.setCell (Ze g (i *2+1)) (.string s)).ownsRow a 163 2 (Za g n cap) n (Ab pC (b.set i ⟨x.name,s⟩)):=by
 have l:=(Zw f).1;have d:=(h.stored (i *2+1) (.string s)).1;have k:(Ab pC b)[i *2]?=some (.string x.name):=by have:=Br BM f (show 0<2 by decide);simpa [pC]using this
 have c:=KP l (⟨x.name,s⟩:Pd);have j:(Ab pC b).set (i *2) (.string x.name)=Ab pC b:=by obtain⟨m,e⟩:=Zw k;rw[<-e];exact List.set_getElem_self m
 rw[j]at c;rw[c]at d;exact d
theorem YM(l d m:Nat)(O P L:Value)(y p f c:Int)(u:List Kd)(j:List Pd)(E:List Ld)(n s:Zi)(w:Zh)(h:DU w l d m O P L y p f c u j E)(M:∀k∈u,(k.sum.size:Int)=y)(A:Av u s)(hl:j.length<=200)(q:j.Pairwise (fun a b=>less a.name b.name=true))(I:∃x∈j,x.name=n):
 Calls prog 183 #[Yz d,.string n,.string s] w fun e U=>e=.returned (.tuple #[])/\∃N,DU U l d m O N L y p f c u (Bl j n s) E/\Tn (d::P.ownBlock.toList) w U:=by
 have J:0<j.length:=by obtain⟨x,hx,_⟩:=I;exact List.length_pos_of_mem hx
 obtain⟨g,cap,V⟩:=JE h.I.cg J;subst V;have HN:=Yx (ED l d m O (Za g j.length cap) L y p f c u j E s w h.I M A);have Q:=Yx h;have B:=Yx q;have K:Hid (∃x∈j,x.name=n):=I;clear h q I M A;go_enter func183,ntmps183;go_wp2_with fail;refine Calls.mono HN.o ?_;rintro e w1 ⟨rfl,C⟩;have F:=Q.o.below C;have HS:=Yx (JF l d m O L g cap y p f c u j E n w1 F hl B.o);clear HN;go_wp2_with fail
 refine Calls.mono HS.o ?_;rintro e v ⟨i,rfl,H,G⟩;obtain⟨x,r,D⟩:=H.at K.o B.o;have z:decide (∃x,j[i]?=some x/\x.name=n)=true:=by simpa using ⟨x,r,D⟩
 have zC:i<j.length:=(Zw r).1;have Z:Hid (Bl j n s=j.set i ⟨n,s⟩):=VI H r D B.o;have o:=F.below G;obtain⟨c6,_⟩:=o.I.box 6 _ rfl;have zA:v.cell? (Ze g (i *2+1))=some (.string x.sum):=by have:=(o.I.cg.cellAt (i *2+1) Yw).trans (Br BM r (show 1<2 by decide));simpa [pC]using this
 have zB:v.frozen? ⟨g,i *2+1,none⟩=false:=o.I.cg.frozenAt _;have X:g≠d:=((Dq o.I.ap).2.2.1 g rfl).1;have t:=Sa o.I.cg r s;rw[D]at t;have R:∃N,DU (v.setCell (Ze g (i *2+1)) (.string s)) l d m O N L y p f c u (Bl j n s) E/\Tn (d::(Za g j.length cap).ownBlock.toList) w (v.setCell (Ze g (i *2+1)) (.string s)):=by
  have T:Tn (d::(Za g j.length cap).ownBlock.toList) v (v.setCell (Ze g (i *2+1)) (.string s)):=(AM v g _ _).mono (by intro b S;simp[Value.ownBlock]at S |-;exact .inr S);have W:Aa (v.setCell (Ze g (i *2+1)) (.string s)) d [Zg y,.map (some m),Zg p,Zg f,Zg c,O,Za g j.length cap,L]:=Aa.same o.I.box (Below.heap_setCell _ _ _ _ (fun e=>X e.symm))
  refine⟨Za g j.length cap,o.ie T W ?_ (.inl rfl),(Tn.of (C.trans (G.mono C.size))).trans T⟩;rw[Z.o,List.length_set];exact t
 have HK:=Yx R;have Y:(i:Int)<j.length:=Yw
 rw[z];clear z R t r D H F o C G Q HS K B;go_wp2;refine bodyPost_ret (results_none rfl _ _ _) rfl ?_;exact⟨rfl,HK.o⟩
theorem Qf(c d m:Nat)(O P L:Value)(l j b a:Int)(g:List Kd)(p:List Pd)(o:List Ld)(n s:Zi)(w:Zh)(h:DU w c d m O P L l j b a g p o)(i:∀k∈g,(k.sum.size:Int)=l)(f:¬Av g s):
 Calls prog 183 #[Yz d,.string n,.string s] w fun e r=>e=.panicked [{v:=Ci 2 ⟨#[]⟩ ⟨#[]⟩,recovered:=false}]/\Zz w r:=by
 have HN:=Yx (Kh c d m O P L l j b a g p o s w h.I i f);clear h i f;go_enter func183,ntmps183;go_wp2_with fail;refine Calls.mono HN.o ?_;rintro e t ⟨rfl,q⟩;go_wp2;exact⟨rfl,rfl,q⟩
theorem VK(l d m:Nat)(O P L:Value)(z y f c:Int)(r:List Kd)(g:List Pd)(G:List Ld)(n s:Zi)(w:Zh)(h:DU w l d m O P L z y f c r g G)(D:∀k∈r,(k.sum.size:Int)=z)(p:Av r s)(I:g.length=100)(j:g.Pairwise (fun a b=>less a.name b.name=true))(E:¬∃x∈g,x.name=n):
 Calls prog 183 #[Yz d,.string n,.string s] w fun e S=>e=.panicked [{v:=Ci 4 ⟨#[]⟩ ⟨#[]⟩,recovered:=false}]/\Zz w S:=by
 obtain⟨J,F,M⟩:=As h.I.cg;subst M;have HN:=Yx (ED l d m O (.slice J g.length F) L z y f c r g G s w h.I D p);have H:=Yx h;have A:=Yx j;have B:=Yx E;have U:((g.length:Int)==100)=true:=Yu
 have K:=Yx I;clear h j E D p I;go_enter func183,ntmps183;go_wp2_with fail;refine Calls.mono HN.o ?_;rintro e T ⟨rfl,q⟩;have t:=H.o.below q;have HS:=Yx (JJ l d m O (.slice J g.length F) L z y f c r g G n T t (by have:=K.o;omega) A.o);clear HN;go_wp2_with fail;refine Calls.mono HS.o ?_;rintro e V ⟨i,rfl,_,u⟩;have o:decide (∃x,g[i]?=some x/\x.name=n)=false:=by rw[decide_eq_false_iff_not];rintro⟨x,R,Q⟩;exact B.o ⟨x,Zs R,Q⟩
 have C:=t.below u;obtain⟨c6,_⟩:=C.I.box 6 _ rfl;have N:=Yx (q.trans (u.mono q.size));rw[o];clear o t C q u H HS B A;go_wp2;exact⟨rfl,rfl,N.o⟩
section
open Go.ChangeShapes Go.WideShapes Go.ChangeAt Go.RowKit Go.Lib
theorem Gf:∃i:TypeInfo,prog.info? 163=some i/\i.zero=some (.agg #[Zd,Zd])/\i.size=2/\i.bytes=32:=by obtain⟨e,d,a,b,c⟩:=info_parts GY;exact⟨e,d,a,b,c⟩
theorem Iz{x:Pd}(b:w.heap[a]?=some (.cells #[.string x.name,.string x.sum] 163 (0,0))):∀j u,(Ab pC [x])[j]?=some u->w.cell? (Ze a j)=some u:=by intro j u hu;rw[Ab,List.flatMap_cons,List.flatMap_nil,List.append_nil]at hu;simp only[World.cell?,b];rw[<-hu];simp[pC]
theorem NH(P:Value)(b:List Pd)(x:Pd)(s:Nat)(w:Zh)(a:Nat)(o:w.ownsRow a 163 2 P b.length (Ab pC b))(F:b.length<=600)(d:a<=w.heap.size)(q:w.heap[s]?=some (.cells #[.string x.name,.string x.sum] 163 (0,0))):
 Calls prog 218 #[P,Zg b.length,Za s 1 1] w fun e t=>∃m,e=.returned m/\t.ownsRow a 163 2 m (b.length+1) (Ab pC (b++[x]))/\w.grownBy t P.ownBlock/\(m.ownBlock=P.ownBlock\/m.ownBlock=some w.heap.size):=by
 obtain⟨B,c,h,i,k⟩:=Gf;obtain⟨r,t,p,f,n,_,v⟩:=run_append_own_at (P:=prog) w a 37 37 163 B _ 2 32 underlying37 c h i k rfl Ys P b.length (Ab pC b) o ⟨s,0,none⟩ 1 1 (Ab pC [x]) (by rw[Bu BM];rfl) (fun j u hu=>by rw[Go.WideShapes.add_plain,Nat.zero_add];exact Iz q j u hu) (Jy _) Yq Yw d;rw[<-Bm]at f;have l:=Yx (Zn f (Zn n v));clear f n v
 rcases o.2 with⟨e,y⟩|⟨g,cap,C,e,E,A,D,f,n,z⟩
 .subst e;rw[y]at l |-;clear o q c h i k;go_enter func218,ntmps218;go_wp2_with (at_builtin;refine Lib.wpList_append_run _ rfl _ _ _ _ rfl _ _ rfl rfl _ _ p ?_);go_ret;exact⟨r,rfl,l.o⟩
 .subst e;clear o q c h i k A n z;unfold maxLen at f;by_cases hc:cap=b.length
  .subst hc;go_enter func218,ntmps218;go_wp2_with (at_builtin;refine Lib.wpList_append_run _ rfl _ _ _ _ rfl _ _ rfl rfl _ _ p ?_);go_ret;exact⟨r,rfl,l.o⟩
  .go_enter func218,ntmps218;go_wp2_with (at_builtin;refine Lib.wpList_append_run _ rfl _ _ _ _ rfl _ _ rfl rfl _ _ p ?_);go_ret;exact⟨r,rfl,l.o⟩
theorem LO(g cap i:Nat)(a:List Pd)(x:Pd)(q:Nat)(w:Zh)(k:Nat)(u:w.ownsRow k 163 2 (Za g a.length cap) a.length (Ab pC a))(hl:a.length<=600)(hi:i<a.length)(z:a.length+1<=cap)(F:q≠g)(o:w.heap[q]?=some (.cells #[.string x.name,.string x.sum] 163 (0,0))):
 Calls prog 218 #[Za g a.length cap,Zg i,Za q 1 1] w fun e L=>e=.returned (Za g (a.length+1) cap)/\L.ownsRow k 163 2 (Za g (a.length+1) cap) (a.length+1) (Ab pC (a.take i++[x]++a.drop i))/\w.grownBy L (some g):=by
 obtain⟨K,c,P,y,Q⟩:=Gf;obtain⟨d,A,zC,M,D,N⟩:∃d,w.heap[g]?=some (.cells d 163 (0,0))/\a.length<=cap/\cap<=maxLen/\d.size=cap *2/\d.toList.take (a.length *2)=Ab pC a:=by
  rcases u.2 with⟨e,_⟩|⟨g',R,d,e,hb,A,T,U,V,W⟩
  .cases e
  .cases e;exact⟨d,A,T,U,V,W⟩
 have G:=Bu BM a;have B:(Ab pC [x]).length=2:=by rw[Bu BM];rfl
 have E:((Ab pC a).drop (i *2)).length=(a.length -i) *2:=by rw[List.length_drop,G];omega
 have b:∀j,j<cap *2->(w.cell? (Ze g j)).isSome=true:=fun j l=>by simp only[World.cell?,A];rw[Array.getElem?_eq_getElem Yw];rfl
 have O:∀I H,(callFunc 243 #[Za q 1 1,.slice (some ⟨g,(i+1) *2,none⟩) I H]).run prog w=.ok (.value (.bool false)) w:=fun I H=>by
  rw[run_callFunc_extern func243 Yt Yt Yt (e:=Extern.SlicesOverlaps.overlaps #[37,37] #[4]) Yt,
   Lib.run_overlaps_apart w 37 4 163 underlying37 2 (fun w=>by simp[sizeOf,typeInfo,c,y]) ⟨q,0,none⟩ ⟨g,(i+1) *2,none⟩ 1 1 I H F 163 163 (#[.string x.name,.string x.sum]:Array Value).size d.size (by simp only[World.shape?,o]) (by simp only[World.shape?,A]) (by rw[D];omega) (by simp only[World.frozen?,o];rfl) (by simp[World.frozen?,o])]
  rfl
 have r:∀p n J,(Builtin.copy_ #[37,37] p #[.slice (some ⟨g,(i+1) *2,none⟩) (a.length+1 -(i+1)) n,.slice (some ⟨g,i *2,none⟩) (a.length+1 -i) J]).run prog w.drew=.ok (goInt (Nat.min (a.length+1 -i) (a.length+1 -(i+1)))) (w.drew.setCells g ((i+1) *2) ((Ab pC a).drop (i *2))):=fun p n J=>
  CJ w.drew 37 37 p 163 K 2 g ((i+1) *2) (a.length+1 -(i+1)) n ⟨g,i *2,none⟩ (a.length+1 -i) J ((Ab pC a).drop (i *2)) underlying37 c y (by rw[E];congr 1;show _=min _ _;omega)
   (fun j v l=>by
     rw[Go.WideShapes.add_plain];rw[List.getElem?_drop]at l;have:=(Zw l).1;exact(u.cellAt _ Yw).trans l)
   (fun j l=>b _ Yw) (fun j _=>u.frozenAt _) (fun v o=>Jy _ v (List.mem_of_mem_drop o))
 obtain⟨m,f⟩:∃m,m=w.drew.setCells g ((i+1) *2) ((Ab pC a).drop (i *2)):=⟨_,rfl⟩;have C:∀p n,(Builtin.copy_ #[37,37] p #[.slice (some ⟨g,i *2,none⟩) (a.length+1 -i) n,Za q 1 1]).run prog m=.ok (goInt (Nat.min 1 (a.length+1 -i))) (m.setCells g (i *2) (Ab pC [x])):=fun p n=>
  CJ m 37 37 p 163 K 2 g (i *2) (a.length+1 -i) n ⟨q,0,none⟩ 1 1 (Ab pC [x]) underlying37 c y (by rw[B,show Nat.min 1 (a.length+1 -i)=1 from Nat.min_eq_left Yw,Nat.one_mul])
   (fun j v l=>by
     rw[Go.WideShapes.add_plain,Nat.zero_add,f,World.cell?_setCells_out g _ _ _ _ (fun h _=>absurd h F)];exact Iz o j v l)
   (fun j l=>by rw[f];exact Ih g ((Ab pC a).drop (i *2)) ((i+1) *2) w.drew (fun t ht=>b _ Yw) (i *2+j) (b _ Yw)) (fun j _=>by rw[f,World.frozen?_setCells];exact u.frozenAt _) (Jy _)
 have s:(m.setCells g (i *2) (Ab pC [x])).ownsRow k 163 2 (Za g (a.length+1) cap) (a.length+1) (Ab pC (a.take i++[x]++a.drop i))/\w.grownBy (m.setCells g (i *2) (Ab pC [x])) (some g):=by
  refine⟨?_,?_⟩
  .rw[Bm,Bm,<-FZ BM a i Yw,<-Fo BM a i Yw,f];exact Nd (w:=w.drew) (Ae u ((Below.refl _ _).drew)) Yw B z
  .rw[f];exact Aw (Dp (Ch g _ _ _)) (Ch g _ _ _)
 have S:=Yx s;rw[<-f]at r;unfold maxLen at M;have y:¬((i:Int)=(a.length:Int)):=Yw
 have zE:(0:Int)<=(i:Int)+1:=Yw
 have zF:(i:Int)+1<=(a.length:Int)+1:=Yw
 have zG:((i:Int)+1).toNat=i+1:=Yw
 have zH:((a.length:Int)+1).toNat=a.length+1:=Yw
 have zI:(0:Int)<=(a.length:Int)+1:=Yw
 have zJ:(a.length:Int)+1<=(cap:Int):=Yw
 have X:¬(cap=i+1):=Yw
 have Y:¬(cap=i):=Yw
 have Z:i<=a.length+1:=Yw
 have zA:(i:Int)<=(a.length:Int)+1:=Yw
 have zB:(i:Int)<=(a.length:Int):=Yw
 have mixed:prog.follows .mixedOrders=true:=Yt
 have zK:IntKind.i64.wrap ((i:Int)+1)=(i:Int)+1:=by rw[IntKind.wrap_i64];omega
 have zM:IntKind.i64.wrap ((a.length:Int)+1)=(a.length:Int)+1:=by rw[IntKind.wrap_i64];omega
 clear u b s o A N D c P Q G B E f;go_enter func218,ntmps218;go_wp2_with (simp only[O])
 go_region_law_o (refine Ey rfl _ _ 37 37 rfl (.slice (some ⟨g,(i+1) *2,none⟩) (a.length+1 -(i+1)) (cap -(i+1))) (.slice (some ⟨g,i *2,none⟩) (a.length+1 -i) (cap -i)) (by simp[Act.eval,Act.put]) (by simp[Act.eval,Act.put]) (r 3 (cap -(i+1)) (cap -i)) ?_)
 go_wp2_with (at_builtin;refine DN _ rfl _ _ 37 37 rfl _ _ rfl rfl (C _ _) ?_);go_ret;exact⟨rfl,S.o⟩
theorem Ms(g cap i:Nat)(a:List Pd)(x:Pd)(J:Nat)(w:Zh)(f:Nat)(H:w.ownsRow f 163 2 (Za g a.length cap) a.length (Ab pC a))(hl:a.length<=600)(hi:i<a.length)(D:cap<a.length+1)(C:f<=w.heap.size)(I:w.heap[J]?=some (.cells #[.string x.name,.string x.sum] 163 (0,0))):
 Calls prog 218 #[Za g a.length cap,Zg i,Za J 1 1] w fun e w'=>∃G,e=.returned (Za w.heap.size (a.length+1) G)/\w'.ownsRow f 163 2 (Za w.heap.size (a.length+1) G) (a.length+1) (Ab pC (a.take i++[x]++a.drop i))/\w.grownBy w' none:=by
 obtain⟨T,k,zB,A,O⟩:=Gf;have L:g<w.heap.size:=(Ac H rfl).2;have zA:=(Array.getElem?_eq_some_iff.1 I).1;have zS:a.length<=cap:=by
  rcases H.2 with⟨e,_⟩|⟨g',zH,zI,e,y,hg,h1,h2,h3,h4⟩
  .cases e
  .cases e;exact h1
 have z:=Bu BM a;have N:(Ab pC [x]).length=2:=by rw[Bu BM];rfl
 have X:((Ab pC a).drop (i *2)).length=(a.length -i) *2:=by rw[List.length_drop,z];omega
 have M:((Ab pC a).take (i *2)).length=i *2:=by rw[List.length_take,z];omega
 have hold:(Builtin.firstCells T.size i (Za g i cap)).run prog w.drew=.ok ((Ab pC a).take (i *2)).toArray w.drew:=by
  rw[A];exact run_firstCells_some w.drew 2 i ⟨g,0,none⟩ i cap ((Ab pC a).take (i *2)) M (fun j v d=>by
   rw[Go.WideShapes.add_plain,Nat.zero_add];rw[List.getElem?_take]at d;split at d
   .exact(H.cellAt _ Yw).trans d
   .cases d)
 obtain⟨G,R⟩:∃G,G=grownCap w (a.length+1) cap 163:=⟨_,rfl⟩;obtain⟨o,zG,W⟩:∃o:Array Value,o=Value.cells (.agg #[Zd,Zd])/\o.size=2:=⟨_,rfl,Yt⟩;obtain⟨B,Q⟩:∃B:Zj,B=(Builtin.zeroCells o (a.length+1 -i)).toList++(Builtin.zeroCells o (G -(a.length+1))).toList:=⟨_,rfl⟩;have zF:a.length+1<=G:=by rw[R];exact grownCap_ge w _ _ _
 have s:G<=maxLen:=by rw[R];exact grownCap_le_maxLen w (a.length+1) cap 163 Yq
 have zC:i *2+B.length=G *2:=by rw[Q];simp[Builtin.zeroCells,W];omega
 have Z:∀m,(Builtin.append_ #[37,3] m #[Za g i cap,Zg ((a.length:Int)+1 -(i:Int))]).run prog w=
  .ok (Za w.heap.size (a.length+1) G) (w.drew.alloc (.cells ((Ab pC a).take (i *2)++B).toArray 163)):=fun m=>by
  have Y:i+(a.length+1 -i)=a.length+1:=Yw
  have h:=Lib.run_append_grow_zeros (P:=prog) w 37 3 m 163 T _ .i64 .i64 underlying37 underlying3 k zB (some ⟨g,0,none⟩) i cap ((Ab pC a).take (i *2)) hold (a.length+1 -i) Yw (by rw[A];omega) Yw Yw (by rw[O];omega) (by rw[O,Y];exact growslice_fits D Yw);rw[Y,<-R,<-zG]at h;rw[show(a.length:Int)+1 -(i:Int)=((a.length+1 -i:Nat):Int) by omega,h,Q]
  have e:((Ab pC a).take (i *2)).toArray++Builtin.zeroCells o (a.length+1 -i)++Builtin.zeroCells o (G -(a.length+1))=((Ab pC a).take (i *2)++((Builtin.zeroCells o (a.length+1 -i)).toList++(Builtin.zeroCells o (G -(a.length+1))).toList)).toArray:=by apply Array.toList_inj.1;simp
  rw[e]
 obtain⟨c,p⟩:∃c,c=w.drew.alloc (.cells ((Ab pC a).take (i *2)++B).toArray 163):=⟨_,rfl⟩;have l:c.heap[w.heap.size]?=some (.cells ((Ab pC a).take (i *2)++B).toArray 163 (0,0)):=by rw[p];exact heap_alloc_new w.drew _
 have S:∀j,j<G *2->(c.cell? (Ze (w.heap.size) j)).isSome=true:=fun j d=>by simp only[World.cell?,l];rw[Array.getElem?_eq_getElem (by simp[M];omega)];rfl
 have K:∀j,c.frozen? ⟨w.heap.size,j,none⟩=false:=fun j=>by simp[World.frozen?,l]
 have hO:∀b,b<w.heap.size->c.heap[b]?=w.heap[b]?:=fun b y=>by rw[p];exact GP w.drew _ y
 have U:∀m r,(Builtin.copy_ #[37,37] m #[.slice (some ⟨w.heap.size,i *2,none⟩) (a.length+1 -i) r,Za J 1 1]).run prog c=.ok (goInt (Nat.min 1 (a.length+1 -i))) (c.setCells w.heap.size (i *2) (Ab pC [x])):=fun m r=>
  CJ c 37 37 m 163 T 2 w.heap.size (i *2) (a.length+1 -i) r ⟨J,0,none⟩ 1 1 (Ab pC [x]) underlying37 k A (by rw[N,show Nat.min 1 (a.length+1 -i)=1 from Nat.min_eq_left Yw,Nat.one_mul])
   (fun j v d=>by
     rw[Go.WideShapes.add_plain,Nat.zero_add,World.cell?_of_block (hO J zA)];exact Iz I j v d)
   (fun j d=>S _ Yw) (fun j _=>K _) (Jy _)
 obtain⟨q,n⟩:∃q,q=(c.setCells w.heap.size (i *2) (Ab pC [x])).drew:=⟨_,rfl⟩;have V:∀m r sc,(Builtin.copy_ #[37,37] m #[.slice (some ⟨w.heap.size,(i+1) *2,none⟩) (a.length+1 -(i+1)) r,.slice (some ⟨g,i *2,none⟩) (a.length -i) sc]).run prog q=.ok (goInt (Nat.min (a.length -i) (a.length+1 -(i+1)))) (q.setCells w.heap.size ((i+1) *2) ((Ab pC a).drop (i *2))):=fun m r sc=>
  CJ q 37 37 m 163 T 2 w.heap.size ((i+1) *2) (a.length+1 -(i+1)) r ⟨g,i *2,none⟩ (a.length -i) sc ((Ab pC a).drop (i *2)) underlying37 k A (by rw[X];congr 1;show _=min _ _;omega)
   (fun j v d=>by
     rw[List.getElem?_drop]at d;have:=(Zw d).1;rw[Go.WideShapes.add_plain,n,GS,World.cell?_setCells_out _ _ _ _ _ (fun h _=>absurd h (Nat.ne_of_lt L)),World.cell?_of_block (hO g L)];exact(H.cellAt _ Yw).trans d)
   (fun j d=>by rw[n,GS];exact Ih w.heap.size (Ab pC [x]) (i *2) c (fun t ht=>S _ Yw) ((i+1) *2+j) (S _ Yw)) (fun j _=>by rw[n,JM,World.frozen?_setCells];exact K _) (fun v I=>Jy _ v (List.mem_of_mem_drop I))
 have u:(q.setCells w.heap.size ((i+1) *2) ((Ab pC a).drop (i *2))).ownsRow f 163 2 (Za w.heap.size (a.length+1) G) (a.length+1) (Ab pC (a.take i++[x]++a.drop i))/\w.grownBy (q.setCells w.heap.size ((i+1) *2) ((Ab pC a).drop (i *2))) none:=by
  refine⟨?_,?_⟩
  .rw[Bm,Bm,<-FZ BM a i Yw,<-Fo BM a i Yw,n,<-JL];exact Ae (OT (w:=c) z Yw N C l zC zF s) ((Below.refl _ _).drew)
  .have s1:c.heap.size=w.heap.size+1:=by rw[p];simp
   have E:w.grownBy c none:=by rw[p];exact⟨rfl,rfl,rfl,Yv,fun b y _=>GP w.drew _ y⟩
   have F:c.grownBy (q.setCells w.heap.size ((i+1) *2) ((Ab pC a).drop (i *2))) (some w.heap.size):=by rw[n];exact Aw (Aw (Ch w.heap.size (Ab pC [x]) (i *2) c) (Kt _ _)) (Ch w.heap.size ((Ab pC a).drop (i *2)) ((i+1) *2) _)
   exact⟨F.os.trans E.os,F.tape.trans E.tape,F.output.trans E.output,Zm E.size F.size,fun b y _=>(F.block b Yw Yu).trans (E.block b y Yv)⟩
 have HF:=Yx u;have zE:G<=9223372036854775807:=by unfold maxLen at s;omega
 have zW:¬((i:Int)=(a.length:Int)):=Yw
 have zX:(cap:Int)<(a.length:Int)+1:=Yw
 have zT:(0:Int)<=(i:Int)+1:=Yw
 have zU:(i:Int)+1<=(a.length:Int)+1:=Yw
 have zV:((i:Int)+1).toNat=i+1:=Yw
 have zJ:¬(cap=i):=Yw
 have zK:¬(G=i):=Yw
 have zM:¬(G=i+1):=Yw
 have zN:i<=a.length+1:=Yw
 have zP:(i:Int)<=(a.length:Int)+1:=Yw
 have zR:(i:Int)<=(a.length:Int):=Yw
 have mixed:prog.follows .mixedOrders=true:=Yt
 have zO:i<=cap:=Yw
 have zY:IntKind.i64.wrap ((i:Int)+1)=(i:Int)+1:=by rw[IntKind.wrap_i64];omega
 have zZ:IntKind.i64.wrap ((a.length:Int)+1)=(a.length:Int)+1:=by rw[IntKind.wrap_i64];omega
 have yA:IntKind.i64.wrap ((a.length:Int)+1 -(i:Int))=(a.length:Int)+1 -(i:Int):=by rw[IntKind.wrap_i64];omega
 rw[<-p]at Z;clear H u I k zB O z N X M hold R Q zC l S K hO p L zA;go_enter func218,ntmps218;go_wp2_with (first
  |(at_builtin;refine Lib.wpList_append_run _ rfl _ _ _ _ rfl _ _ rfl rfl _ _ (Z _) ?_)
  |(at_builtin;refine DN _ rfl _ _ 37 37 rfl _ _ rfl rfl (U _ _) ?_))
 go_region_law_o (refine Ey rfl _ _ 37 37 rfl (.slice (some ⟨w.heap.size,(i+1) *2,none⟩) (a.length+1 -(i+1)) (G -(i+1))) (.slice (some ⟨g,i *2,none⟩) (a.length -i) (cap -i)) (by simp[Act.eval,Act.put]) (by simp[Act.eval,Act.put]) (by rw[<-n];exact V 3 (G -(i+1)) (cap -i)) ?_)
 go_wp2;go_ret;rw[<-n];exact⟨G,rfl,HF.o⟩
theorem NI(P:Value)(i:Nat)(c:List Pd)(x:Pd)(j:Nat)(w:Zh)(a:Nat)(l:w.ownsRow a 163 2 P c.length (Ab pC c))(o:c.length<=600)(B:i<=c.length)(d:a<=w.heap.size)(s:P.ownBlock≠some j)(p:w.heap[j]?=some (.cells #[.string x.name,.string x.sum] 163 (0,0))):
 Calls prog 218 #[P,Zg i,Za j 1 1] w fun e m=>∃k,e=.returned k/\m.ownsRow a 163 2 k (c.length+1) (Ab pC (c.take i++[x]++c.drop i))/\w.grownBy m P.ownBlock/\(k.ownBlock=P.ownBlock\/k.ownBlock=some w.heap.size):=by
 rcases Nat.lt_or_ge i c.length with h|h
 .rcases l.2 with⟨e,C⟩|⟨g,cap,t,e,r,A,u,v,y,z⟩
  .omega
  .subst e;rcases Nat.lt_or_ge cap (c.length+1)with n|n
   .refine Calls.mono (Ms g cap i c x j w a l o h n d p) ?_;rintro e m ⟨G,rfl,q,f⟩;exact⟨_,rfl,q,⟨f.os,f.tape,f.output,f.size,fun b r _=>f.block b r Yv⟩,.inr rfl⟩
   .refine Calls.mono (LO g cap i c x j w a l o h n (fun e=>s (by rw[e];rfl)) p) ?_;rintro e m ⟨rfl,q,f⟩;exact⟨_,rfl,q,f,.inl rfl⟩
 .obtain rfl:i=c.length:=Yw
  rw[List.take_length,List.drop_length,List.append_nil];exact NH P c x j w a l o d p
end
theorem YN(j d m:Nat)(O P L:Value)(u p g c:Int)(r:List Kd)(f:List Pd)(z:List Ld)(n s:Zi)(w:Zh)(h:DU w j d m O P L u p g c r f z)(Z:∀k∈r,(k.sum.size:Int)=u)(I:Av r s)(hl:f.length<100)(y:f.Pairwise (fun a b=>less a.name b.name=true))(zA:¬∃x∈f,x.name=n):
 Calls prog 183 #[Yz d,.string n,.string s] w fun e w'=>e=.returned (.tuple #[])/\∃P',DU w' j d m O P' L u p g c r (Bl f n s) z/\Tn (d::P.ownBlock.toList) w w':=by
 obtain⟨t,o,zE⟩:=As h.I.cg;subst zE;have HN:=Yx (ED j d m O (.slice t f.length o) L u p g c r f z s w h.I Z I);have HD:=Yx h;have Y:=Yx y;have Q:Hid (¬∃x∈f,x.name=n):=zA;have zI:((f.length:Int)==100)=false:=Yu
 clear h y zA Z I;go_enter func183,ntmps183;go_wp2_with fail;refine Calls.mono HN.o ?_;rintro e w1 ⟨rfl,J⟩;have R:=HD.o.below J;have HS:=Yx (JJ j d m O (.slice t f.length o) L u p g c r f z n w1 R Yw Y.o);clear HN;go_wp2_with fail;refine Calls.mono HS.o ?_;rintro e F ⟨i,rfl,W,S⟩;have G:decide (∃x,f[i]?=some x/\x.name=n)=false:=by rw[decide_eq_false_iff_not];rintro⟨x,hx,hn⟩;exact Q.o ⟨x,Zs hx,hn⟩
 have HE:Hid (Bl f n s=f.take i++[⟨n,s⟩]++f.drop i):=Qe W Q.o;have C:=R.below S;have zH:=Yx C;have HB:Hid (Zz w F):=J.trans (S.mono J.size);obtain⟨c6,_⟩:=C.I.box 6 _ rfl;obtain⟨A,X⟩:∃A,A=F.alloc (.cells #[.string n,.string s] 163):=⟨_,rfl⟩;have bA:=(AA X).1;have D:=C.below bA;have B:=Yx D;have zB:Hid (Zz F A):=bA;have zG:=W.le
 have v:=NI (.slice t f.length o) i f ⟨n,s⟩ F.heap.size A j D.I.cg Yw zG D.lo (fun e=>Nat.lt_irrefl _ (Ac C.I.cg e).2) (by rw[X];exact heap_alloc_new F _);have HI:=Yx v;have HA:=Yx X;obtain⟨e6,_⟩:=D.I.box 6 _ rfl;rw[G];clear G R C J S HD HS Q Y W v D bA X;go_wp2_with fail;rw[<-HA.o];refine Calls.mono HI.o ?_;rintro e N ⟨P',rfl,V,T,l⟩;obtain⟨K,M,zF⟩:=As V;subst zF
 have U:∀b,(Value.slice t f.length o).ownBlock=some b->b≠d:=fun b E=>((Dq B.o.I.ap).2.2.1 b E).1;have H:∀b,(Value.slice K (f.length+1) M).ownBlock=some b->b≠d:=fun b E=>by
  rcases l with l|l
  .exact U b (l▸E)
  .rw[l]at E;have:=B.o.I.box.lt;cases E;omega
 have q:Aa N d [Zg u,.map (some m),Zg p,Zg g,Zg c,O,.slice t f.length o,L]:=Aa.same B.o.I.box (T.block d B.o.I.box.lt (fun e=>U d e.symm rfl));obtain⟨f6,k6⟩:=q 6 _ rfl;have hK:∃zC,DU (N.setCell (Ze d 6) (.slice K (f.length+1) M)) j d m O zC L u p g c r (Bl f n s) z/\Tn (d::(Value.slice t f.length o).ownBlock.toList) w (N.setCell (Ze d 6) (.slice K (f.length+1) M)):=by
  have t1:Tn (d::(Value.slice t f.length o).ownBlock.toList) A (N.setCell (Ze d 6) (.slice K (f.length+1) M)):=
   ((BV T).mono (fun b E=>List.mem_cons_of_mem _ E)).trans ((AM N d 6 _).mono Yv)
  refine⟨_,B.o.ie t1 (q.set 6 _) ?_ ?_,((Tn.of HB.o).trans (Tn.of zB.o)).trans t1⟩
  .have hlen:(Bl f n s).length=f.length+1:=by rw[HE.o];simp;omega
   rw[hlen,HE.o];exact Bn V H 6 _
  .rcases l with l|l
   .exact .inl l
   .exact .inr ⟨_,l,Zx⟩
 have HK:=Yx hK;clear hK V T q e6 l U H;go_wp2
 go_end0
 exact⟨rfl,HK.o⟩
theorem YO{O P L a:Option Nat}(h:(d::m::(O.toList++(P.toList++L.toList))).Nodup)(e:∀b∈d::m::(O.toList++(P.toList++L.toList)),b<n)(c:a=O\/∃g,a=some g/\n<=g):(d::m::(a.toList++(P.toList++L.toList))).Nodup:=by
 rcases c with rfl|⟨g,rfl,f⟩
 .exact h
 .cases O<;>cases P<;>cases L<;>simp_all<;>grind
theorem DU.newK{o:Zh}{O P L:Value}{q p j:Int}{B:List Kd}{y:List Pd}{x:List Ld}(h:DU w c d m O P L q p b j B y x)(v:Tn (d::m::O.ownBlock.toList) w o){k:Value}{l:List Kd}{a:Int}(r:Aa o d [Zg q,.map (some m),Zg p,Zg b,Zg a,k,P,L])(hu:∃n f,n<=1000000+a.toNat/\AT o 183 m n f/\BH o c (vB d m k P L) q l f)(A:o.ownsRow c 183 8 k l.length (AB (l.map (·.sum))))(z:k.ownBlock=O.ownBlock\/∃g,k.ownBlock=some g/\w.heap.size<=g):DU o c d m k P L q p b a l y x:=by
 obtain⟨C,s,t,u⟩:=Dq h.I.ap;refine⟨⟨r,hu,A,Ak h.I.cg (fun g i=>v.block g (Ac h.I.cg i).2 (fun e=> ?_)),Ak h.I.ci (fun g i=>v.block g (Ac h.I.ci i).2 (fun e=> ?_)),h.I.bd,h.I.bm,YO h.I.ap h.I.cf z⟩⟩
 .rcases List.mem_cons.1 e with e|e
  .exact(t g i).1 e
  .rcases List.mem_cons.1 e with e|e
   .exact(t g i).2.1 e
   .exact(s g (by simpa using e)).2.2.1 i
 .rcases List.mem_cons.1 e with e|e
  .exact(u g i).1 e
  .rcases List.mem_cons.1 e with e|e
   .exact(u g i).2 e
   .exact(s g (by simpa using e)).2.2.2 i
theorem Mt{a:List Kd}(h:FB (a.map (·.sum)) x.sum i):(a.map (·.sum)).take i++[x.sum]++(a.map (·.sum)).drop i=(DH a x).map (·.sum):=by rw[RZ h];simp[List.map_take,List.map_drop]
theorem BH.snoc{g:List Kd}{f:Lit->Option Value}(h:BH w a V b g f){ra:Zk}{rc:Nat}(q:(x.sum.size:Int)=b)(p:b<=8)(n:DG w a V ra x.B):BH w a V b (g++[x]) (upd f (keyL x.sum) (CA x ra rc)):=by
 intro s o;by_cases he:keyL s=keyL x.sum
 .have:s=x.sum:=key_inj he Yw Yw;subst this;exact .inr ⟨x,ra,rc,Yv,rfl,DF _ _ _,n⟩
 .rw[Dy _ _ he];have i:x.sum≠s:=fun e=>he (by rw[e]);rcases h s o with⟨c,d⟩|⟨u,j,k,c,d,l,m⟩
  .refine .inl ⟨c,fun⟨u,hu,e⟩=> ?_⟩;rcases List.mem_append.1 hu with hu|hu
   .exact d ⟨u,hu,e⟩
   .simp at hu;subst hu;exact i e
  .exact .inr ⟨u,j,k,by simp[c],d,l,m⟩
theorem BH.same{base:Nat}{i:Int}{g a:List Kd}{f:Lit->Option Value}(h:BH w base V i g f)(d:∀u,u∈a↔u∈g):BH w base V i a f:=by
 intro s j;rcases h s j with⟨b,c⟩|⟨u,ra,l,b,c⟩
 .exact .inl ⟨b,fun⟨k,hk,e⟩=>c ⟨k,(d k).1 hk,e⟩⟩
 .exact .inr ⟨u,ra,l,(d u).2 b,c⟩
def QZ(w:Zh)(base:Nat)(V:List Nat)(m:Nat)(wd births:Int)(ks:List Kd):Prop:=∃n f,n<=1000000+births.toNat/\AT w 183 m n f/\BH w base V wd ks f
theorem QZ.Y{j:Zh}{U:List Nat}{k a:Int}{i:List Kd}(h:QZ w c V m k a i)(g:Tn U w j)(p:∀b∈U,b∈V)(q:m∉U):QZ j c V m k a i:=by obtain⟨n,f,l,e,o⟩:=h;exact⟨n,f,l,AT.same e (g.block m e.lt q),o.move g (fun b d=> .inl (p b d)) (fun b d=> .inl d)⟩
theorem HN.below{b:Zh}(h:HN w m N)(d:Zz w b):HN b m N:=by obtain⟨n,f,c,a⟩:=h;exact⟨n,f,c,a.ah d a.lt⟩
theorem HN.same{a:Zh}(h:HN w m N)(d:a.heap[m]?=w.heap[m]?):HN a m N:=by obtain⟨n,f,b,c⟩:=h;exact⟨n,f,b,AT.same c d⟩
theorem YP(j d m:Nat)(O P L:Value)(H J q a:Int)(c:List Kd)(ps:List Pd)(ls:List Ld)(s n:Zi)(l:Zl)(ra:Zk)(rc:Nat)(w:Zh)(h:DU w j d m O P L H J q a c ps ls)(zE:Dj H c)(yH:(s.size:Int)=H)(hl:c.length<600)(yL:0<=a)(yM:a<1000000000)(hr:DG w j (vB d m O P L) ra l):
 Calls prog 216 #[Yz d,.string s,.agg #[.string n,.slice ra l.length rc]] w fun e w'=>e=.returned (.tuple #[])/\(∃O',DU w' j d m O' P L H J q (a+1) (DH c ⟨s,a+1,n,l⟩) ps ls/\(O'.ownBlock=O.ownBlock\/∃g,O'.ownBlock=some g/\w.heap.size<=g))/\Tn (d::m::O.ownBlock.toList) w w':=by
 obtain⟨oa,r,zI⟩:=As h.I.ord;subst zI;obtain⟨W0,zC⟩:∃W,W=w.alloc (.cells #[.string n,.slice ra l.length rc] 64):=⟨_,rfl⟩;have zA:=(AA zC).1;have x0:=(AA zC).2.2;have D:=h.below zA;obtain⟨X,hX⟩:∃X,X=W0.setCell (Ze d 4) (Zg (a+1)):=⟨_,rfl⟩;have yO:d<w.heap.size:=h.I.box.lt;have tX:Tn [d] W0 X:=by rw[hX];exact AM _ _ _ _
 have S:Aa X d [Zg H,.map (some m),Zg J,Zg q,Zg (a+1),.slice oa c.length r,P,L]:=by rw[hX];exact D.I.box.set 4 _
 have E:=Dq D.I.ap;have xX:Aa X w.heap.size [.string n,.slice ra l.length rc]:=Aa.same x0 (tX.block _ x0.lt Yu);have oX:X.ownsRow j 183 8 (.slice oa c.length r) c.length (AB (c.map (·.sum))):=Ak D.I.ord (fun g hg=>tX.block g (Ac D.I.ord hg).2 (by simp;exact(E.2.1 g hg).1))
 have uX:QZ X j (vB d m (.slice oa c.length r) P L) m H a c:=QZ.Y D.I.map tX (by intro b k;simp at k;subst k;simp[vB]) (by simp;exact fun e=>E.1 e.symm);have rX:DG X j (vB d m (.slice oa c.length r) P L) ra l:=(hr.move (U:=[]) (Tn.of zA) Yv (fun b k=> .inl k)).move tX (by intro b k;simp at k;subst k;exact .inl (by simp[vB])) (fun b k=> .inl k);obtain⟨c4,k4⟩:=D.I.box 4 _ rfl
 obtain⟨c5,_⟩:=D.I.box 5 _ rfl;have yQ:((c.length:Int)==600)=false:=Yu
 have yN:(a==1000000000)=false:=Yu
 have zR:=Yx zC;have HX:=Yx hX;have Z:=Yx h;have HP:=Yx (Zn S (Zn xX (Zn oX (Zn uX rX))));have HT:Hid (Tn [d] w X):=(Tn.of zA).trans tX;clear zC hX D h hr x0 tX S xX oX uX rX zA;go_enter func216,ntmps216;go_upto_region 1 with fail;rw[<-zR.o];go_wp2_with fail;rw[<-HX.o];clear HX zR;refine(Mg s X).mono ?_;rintro e y ⟨rfl,M⟩;obtain⟨K,hK⟩:∃W,W=y.alloc (.cells (Ym (kB s)) 183):=⟨_,rfl⟩;have zT:=(AA hK).1
 have G:Below X.heap.size X K:=M.trans (zT.mono M.size);have kK:Aa K y.heap.size (Al s):=by rw[hK];exact Aa.new y (Al s) 183
 obtain⟨S,xX,oX,uX,rX⟩:=HP.o;have yK:j<=X.heap.size:=Zm Z.o.lo HT.o.size;have zB:=S.below G;have xK:=xX.below G;have oK:=Ae oX G;have rK:DG K j (vB d m (.slice oa c.length r) P L) ra l:=rX.move (U:=[]) (Tn.of G) Yv (fun b k=> .inl k);obtain⟨n1,f,zZ,zU,hH⟩:=QZ.Y uX (U:=[]) (Tn.of G) Yv Yv;have hM:=zU;have E:=Dq Z.o.I.ap;have yR:m<K.heap.size:=hM.lt
 obtain⟨C,zN,T,I⟩:=(hM.ah (Below.refl K.heap.size K).drew hM.lt).put keyed underlying119 (val:=CA ⟨s,a+1,n,l⟩ ra rc) Yq (CP s);have t:K.grownBy C (some m):=Dp I;have kl:y.heap.size<K.heap.size:=kK.lt;have yS:m<w.heap.size:=by obtain⟨_,_,_,yB,_⟩:=Z.o.I.map;exact yB.lt
 have yT:w.heap.size<y.heap.size:=by have h1:=M.size;have h2:=xX.lt;omega
 have k5:Aa C y.heap.size (Al s):=Aa.bz (v:=.int .u8 (kB s 0)) kK t Yw;have x5:Aa C d _:=Aa.bz zB t (fun e=>E.1 e.symm);have t5:Aa C w.heap.size [.string n,.slice ra l.length rc]:=Aa.bz xK t Yw
 have P4:K.drew.cell? (Ze d 1)=some (.map (some m))/\K.drew.cell? (Ze d 4)=some (Zg (a+1))/\K.drew.cell? (Ze (w.heap.size) 0)=some (.string n)/\K.drew.cell? (Ze (w.heap.size) 1)=some (.slice ra l.length rc)/\_:=⟨(zB 1 _ rfl).1,(zB 4 _ rfl).1,(xK 0 _ rfl).1,(xK 1 _ rfl).1,Hl (w:=K.drew) kK⟩
 have P5:C.cell? (Ze d 1)=some (.map (some m))/\C.cell? (Ze d 4)=some (Zg (a+1))/\C.cell? (Ze (w.heap.size) 0)=some (.string n)/\C.cell? (Ze (w.heap.size) 1)=some (.slice ra l.length rc)/\_:=⟨(x5 1 _ rfl).1,(x5 4 _ rfl).1,(t5 0 _ rfl).1,(t5 1 _ rfl).1,Hl k5⟩;have o5:C.ownsRow j 183 8 (.slice oa c.length r) c.length (AB (c.map (·.sum))):=World.ownsRow.kept oK t (.inr (fun e=>(E.2.1 m e).2.1 rfl))
 have R:=Aac j d m oa r P L H J q (a+1) c s C x5 o5 Yw (by have:=zE.w8;omega) (fun x hx=>by have:=zE.sz x hx;omega) zE.dh;unfold BU CE at R zN;unfold CA at zN;have HQ:=Yx R;have N:=Yx (Zn x5 (Zn o5 (Zn k5 (Zn T (Zn t (Zn hH (Zn rK (Zn G zZ))))))));have HK:=Yx hK;clear S xX oX uX rX zB xK oK rK zU hM R hK HP x5 o5 k5 T I t hH t5 kK G zT c4 k4 c5;go_upto_region 5 with fail;rw[<-HK.o];clear HK
 go_region_held3 (fun X=>X.cell? (Ze d 1)=some (.map (some m))/\X.cell? (Ze d 4)=some (Zg (a+1))/\X.cell? (Ze (w.heap.size) 0)=some (.string n)/\X.cell? (Ze (w.heap.size) 1)=some (.slice ra l.length rc)/\(X.cell? (Ze (y.heap.size) 0)=some (.int .u8 (kB s 0))/\X.cell? (Ze (y.heap.size) 1)=some (.int .u8 (kB s 1))/\X.cell? (Ze (y.heap.size) 2)=some (.int .u8 (kB s 2))/\X.cell? (Ze (y.heap.size) 3)=some (.int .u8 (kB s 3))/\X.cell? (Ze (y.heap.size) 4)=some (.int .u8 (kB s 4))/\X.cell? (Ze (y.heap.size) 5)=some (.int .u8 (kB s 5))/\X.cell? (Ze (y.heap.size) 6)=some (.int .u8 (kB s 6))/\X.cell? (Ze (y.heap.size) 7)=some (.int .u8 (kB s 7))))
  (first|with_reducible exact P4|with_reducible exact P5)
  (fail)
 obtain⟨q0,q1,q2,q3,q4,q5,q6,q7⟩:=Hl N.o.2.2.1;clear P4 P5 zN;go_wp2_with fail;refine Calls.mono HQ.o ?_;rintro e F ⟨i,rfl,zM,z⟩;have zF:=Aa.below N.o.1 z;have zX:=Aa.below (v:=.int .u8 (kB s 0)) N.o.2.2.1 z;have zK:F.ownsRow j 183 8 (.slice oa c.length r) (c.map (·.sum)).length (Ab Al (c.map (·.sum))):=by rw[List.length_map];exact Ae N.o.2.1 z
 have yF:i<=c.length:=by have:=zM.le;rwa[List.length_map]at this
 obtain⟨A,hA⟩:∃A,A=F.drew.alloc (.cells (Al s).toArray 183):=⟨_,rfl⟩;have Q:Below F.heap.size F A:=by rw[hA];exact(Below.refl _ _).drew.alloc (Zx) _
 have zO:j<=F.heap.size:=by have h1:=N.o.2.2.2.2.1.size;have h2:=z.size;have h3:=N.o.2.2.2.2.2.2.2.1.size;omega
 have B:=NF (.slice oa c.length r) i (c.map (·.sum)) s F.heap.size A j (Ae zK Q) (by rw[List.length_map];omega) (by rw[List.length_map];exact yF) (Zm zO Q.size) (fun e=>Nat.lt_irrefl _ (Ac zK e).2) (by rw[hA];exact heap_alloc_new F.drew _);rw[List.length_map,hA]at B;have HI:=Yx B;have R:=Yx zM;have xA:=zF.below Q;have yD:d<F.heap.size:=zF.lt;obtain⟨y5,_⟩:=zF 5 _ rfl
 obtain⟨r0,r1,r2,r3,r4,r5,r6,r7⟩:=Hl zX;have H6:=Yx (Zn z (Zn Q xA));have zG:=Yx hA;have zJ:∀b,(Value.slice oa c.length r).ownBlock=some b->b≠d/\b≠m:=fun b k=>⟨(E.2.1 b k).1,(E.2.1 b k).2.1⟩;have yE:d<A.heap.size:=xA.lt;clear q0 q1 q2 q3 q4 q5 q6 q7 zM B HQ zK zF zX;go_upto_region 7 with fail;have zS:Below F.heap.size F (F.alloc (.cells (Ym (kB s)) 183)):=Zy
 have a5:=(zS.cell (p:=⟨d,5,none⟩) yD).trans y5;clear xA hA zS;unfold Al CE at HI
 go_region_law (first
  |(go_simp;go_at_call 239;refine Calls.mono HI.o ?_;rintro e w7 ⟨O',rfl,Y,zW,zY⟩;obtain⟨oa',oc',zI⟩:=As Y;subst zI;have V:A.grownBy w7 (Value.slice oa c.length r).ownBlock:=(by rw[zG.o];exact zW);have x7:=Aa.same H6.o.2.2 (V.block d yE (fun e=>(zJ d e.symm).1 rfl));obtain⟨f5,k5⟩:=x7 5 _ rfl))
 all_goals
  have o:(Value.slice oa' (c.length+1) oc').ownBlock=(Value.slice oa c.length r).ownBlock\/(Value.slice oa' (c.length+1) oc').ownBlock=some A.heap.size:=by rw[zG.o];exact zY
  have H7:=Yx (Zn x7 (Zn V (Zn o Y)));clear zY zW V x7 Y o HI a5 r0 r1 r2 r3 r4 r5 r6 r7 y5 zG
  have hK:(∃zH,DU (w7.setCell (Ze d 5) (.slice oa' (c.length+1) oc')) j d m zH P L H J q (a+1) (DH c ⟨s,a+1,n,l⟩) ps ls/\(zH.ownBlock=(Value.slice oa c.length r).ownBlock\/∃g,zH.ownBlock=some g/\w.heap.size<=g))/\Tn (d::m::(Value.slice oa c.length r).ownBlock.toList) w (w7.setCell (Ze d 5) (.slice oa' (c.length+1) oc')):=by
   obtain⟨x5,o5,yU,T,I,hH,rK,G,zZ⟩:=N.o;obtain⟨z,Q,xA⟩:=H6.o;obtain⟨x7,V,o,Y⟩:=H7.o;have t1:Tn (d::m::(Value.slice oa c.length r).ownBlock.toList) w X:=HT.o.mono Yv
   have t2:Tn (d::(Value.slice oa c.length r).ownBlock.toList) C (w7.setCell (Ze d 5) (.slice oa' (c.length+1) oc')):=(((Tn.of z).trans (Tn.of Q)).trans ((BV V).mono (fun b k=>List.mem_cons_of_mem _ k))).trans ((AM w7 d 5 _).mono Yv)
   have t3:Tn (d::m::(Value.slice oa c.length r).ownBlock.toList) K (w7.setCell (Ze d 5) (.slice oa' (c.length+1) oc')):=(Tn.grown I Yv).trans (t2.mono (by intro b k;simp at k |-;rcases k with k|k<;>simp[k]));have tt:=(t1.trans (Tn.of G)).trans t3;have yJ:w.heap.size<=K.heap.size:=Zm HT.o.size G.size;have yI:w.heap.size<=A.heap.size:=Zm (Zm (Zm yJ I.size) z.size) Q.size
   have yP:∀b∈d::m::(Value.slice oa c.length r).ownBlock.toList,j<=b:=by
    intro b k;rcases List.mem_cons.1 k with rfl|k
    .exact Z.o.I.bd
    .rcases List.mem_cons.1 k with rfl|k
     .exact Z.o.I.bm
     .exact(Ac Z.o.I.ord (by simpa using k)).1
   have yG:(w7.setCell (Ze d 5) (.slice oa' (c.length+1) oc')).heap[m]?=C.heap[m]?:=t2.block m T.lt (fun e=>by
    rcases List.mem_cons.1 e with e|e
    .exact E.1 e.symm
    .exact(zJ m (by simpa using e)).2 rfl)
   have yC:=AT.same T yG;have zV:(Value.slice oa' (c.length+1) oc').ownBlock=(Value.slice oa c.length r).ownBlock\/∃g,(Value.slice oa' (c.length+1) oc').ownBlock=some g/\w.heap.size<=g:=by
    rcases o with o|o
    .exact .inl o
    .exact .inr ⟨_,o,yI⟩
   have zP:∀b,(Value.slice oa' (c.length+1) oc').ownBlock=some b->b≠d:=fun b k=>by
    rcases o with o|o
    .exact(zJ b (o▸k)).1
    .rw[o]at k;cases k;omega
   refine⟨⟨_,Z.o.newK tt (x7.set 5 _) ⟨n1+1,_,Yw,yC,?_⟩ ?_ zV,zV⟩,tt⟩
   .refine((hH.snoc (x:=⟨s,a+1,n,l⟩) (rc:=rc) yH zE.w8 rK).same (fun u=>KT)).move t3 (fun b k=> .inl ?_) (fun b k=> ?_)
    .unfold vB;simp only[List.mem_cons,List.mem_append]at k |-;rcases k with e|e|e
     .exact .inl e
     .exact .inr (.inl e)
     .exact .inr (.inr (.inl e))
    .unfold vB at k |-;simp only[List.mem_cons,List.mem_append]at k |-;rcases k with e|e|e|e|e
     .exact .inl (.inl e)
     .exact .inl (.inr (.inl e))
     .rcases o with o|o
      .rw[o]at e;exact .inl (.inr (.inr (.inl e)))
      .rw[o]at e;simp at e;exact .inr (by have h1:=I.size;have h2:=z.size;have h3:=Q.size;omega)
     .exact .inl (.inr (.inr (.inr (.inl e))))
     .exact .inl (.inr (.inr (.inr (.inr e))))
   .rw[OU,<-Mt (x:=⟨s,a+1,n,l⟩) R.o];exact Bn Y zP 5 _
  have yA:=Yx hK;clear hK H7 H6 N;go_wp2
  go_end0
  exact⟨rfl,yA.o⟩
theorem VL(j d m:Nat)(O P L:Value)(A u c a:Int)(f:List Kd)(y:List Pd)(x:List Ld)(s b:Zi)(ra:Zk)(q p:Nat)(w:Zh)(h:DU w j d m O P L A u c a f y x)(o:f.length=600\/a=1000000000):
 Calls prog 216 #[Yz d,.string s,.agg #[.string b,.slice ra q p]] w fun e z=>e=.panicked [{v:=Ci 4 ⟨#[]⟩ ⟨#[]⟩,recovered:=false}]/\Zz w z:=by
 obtain⟨oa,E,r⟩:=As h.I.ord;subst r;obtain⟨C,i⟩:∃W,W=w.alloc (.cells #[.string b,.slice ra q p] 64):=⟨_,rfl⟩;have g:=(AA i).1;have l:=h.below g;obtain⟨c4,D⟩:=Aa.c2 l.I.box 4 5;have k:=Yx i;have n:=Yx g;clear i l h g;by_cases hk:f.length=600
 .have t:((f.length:Int)==600)=true:=Yu
  clear o hk;go_enter func216,ntmps216;go_upto_region 1 with fail;rw[<-k.o];go_wp2;exact⟨rfl,rfl,n.o⟩
 .have t:((f.length:Int)==600)=false:=Yu
  have B:(a==1000000000)=true:=Yu
  clear o hk;go_enter func216,ntmps216;go_upto_region 1 with fail;rw[<-k.o];go_wp2;exact⟨rfl,rfl,n.o⟩
end Go.Proofs.YtcankpdbabaacaaGreatDoor
