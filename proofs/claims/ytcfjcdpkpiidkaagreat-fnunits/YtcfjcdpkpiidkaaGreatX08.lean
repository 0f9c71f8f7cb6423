import Derived.Test.YtcfjcdpkpiidkaaGreatX03
import Derived.Test.YtcfjcdpkpiidkaaGreatX05
import Derived.Test.YtcfjcdpkpiidkaaGreatX04
import Derived.Orders
import Derived.Laws.BytesArg
set_option maxRecDepth 100000
set_option maxHeartbeats 16000000
namespace Go.Proofs.YtcfjcdpkpiidkaaGreat
open ChangeShapes WideShapes ChangeAt RowKit _root_.Go.Proofs.Tryz
variable{b c:Array Oper}{a:Act}{i id last N B:Nat}{P:Program}{w:Zh}{e d:Int}{Q M:Value}
def Bp(L:Nat->Bool)(i:Nat):Nat->Bool:=fun j=>if j=i then true else L j
theorem IQ{k:Region.Mode}{a:Array Bool}:i∈Region.ready k b a↔i<b.size/\a.getD i true=false/\∃o,b[i]?=some o/\∀e∈o.after,Region.binds k e=true->a.getD e.on false=true:=by
 unfold Region.ready;rw[List.mem_filter,List.mem_range];constructor
 .rintro⟨f,c⟩;rw[Bool.and_eq_true,Bool.not_eq_true']at c;have g:b[i]?=some b[i]:=Array.getElem?_eq_getElem f;refine⟨f,c.1,_,g,fun e j h=> ?_⟩;have d:=c.2;rw[g]at d;simp only[Option.map_some,Option.getD_some,Array.all_eq_true_iff_forall_mem]at d;have l:=d e j;rw[h]at l;simpa using l
 .rintro⟨f,c,o,g,d⟩;refine⟨f,?_⟩;rw[c,g];simp only[Option.map_some,Option.getD_some,Bool.not_false,Bool.true_and,Array.all_eq_true_iff_forall_mem];intro e j;cases h:Region.binds k e with
  |false=>rfl
  |true=>simpa using d e j h
theorem Pu:∀(l:List Bool) (i:Nat),l[i]?=some false->((l.set i true).filter (! ·)).length+1=(l.filter (! ·)).length
 |[],i,h=>by simp at h
 |x::l,0,h=>by simp at h;simp[h]
 |x::l,i+1,h=>by have:=Pu l i (by simpa using h);cases x<;>simp at this |-<;>omega
theorem Vb{Q:Exit->Act->Zh->Prop}(I:(Nat->Bool)->Act->Zh->Prop)(E:∀L a w i o,I L a w->c[i]?=some o->L i=false->(∀e∈o.after,Region.binds .any e=true->L e.on=true)->wpOp P c Q i (I (Bp L i)) a w)(x:∀L a w,I L a w->(∀i,i<c.size->L i=true)->Q .normal a w)(A:∀i o,c[i]?=some o->∀e∈o.after,Region.binds .any e=true->e.on<i):
 ∀(d:Nat) (b:Array Bool) (a:Act) (w:Zh),b.size=c.size->(b.toList.filter (! ·)).length<=d->I (fun j=>b.getD j false) a w->wpAny P .any c Q d b a w:=by
 have t:∀b:Array Bool,b.size=c.size->Region.ready .any c b=[]->∀i,i<c.size->b.getD i false=true:=by
  intro b s u i;induction i using Nat.strongRecOn with
  |_ i ih=>
   intro r;cases hv:b.getD i false with
   |true=>rfl
   |false=>
    have l:i∈Region.ready .any c b:=by
     refine IQ.2 ⟨r,?_,_,Array.getElem?_eq_getElem r,fun e D B=> ?_⟩
     .rw[Array.getD_eq_getD_getElem?,Array.getElem?_eq_getElem Yv]at hv |-;simpa using hv
     .have n:=A i _ (Array.getElem?_eq_getElem r) e D B;exact ih e.on n Yv
    rw[u]at l;cases l
 intro d;induction d with
 |zero=>
  intro b a w s C q;have n:∀i,i<c.size->b.getD i false=true:=by
   intro i r;cases hv:b.getD i false with
   |true=>rfl
   |false=>exfalso;have m:(b.toList.filter (! ·))=[]:=List.eq_nil_of_length_eq_zero Yv;rw[List.filter_eq_nil_iff]at m;rw[Array.getD_eq_getD_getElem?,Array.getElem?_eq_getElem Yv]at hv;have:=m (b[i]'(by omega)) Yu;simp at hv;simp[hv]at this
  refine⟨?_,x _ a w q n⟩;rw[List.eq_nil_iff_forall_not_mem];intro i l;obtain⟨m,f,_⟩:=IQ.1 l;have g:=n i m;rw[Array.getD_eq_getD_getElem?,Array.getElem?_eq_getElem Yv]at f g;simp at f g;rw[f]at g;cases g
 |succ d ih=>
  intro b a w s C q;refine⟨fun u=>x _ a w q (t b s u),fun i l=> ?_⟩;obtain⟨m,f,o,g,z⟩:=IQ.1 l;have k:i<b.size:=Yv
  have v:b[i]=false:=by rw[Array.getD_eq_getD_getElem?,Array.getElem?_eq_getElem k]at f;simpa using f
  refine wpOp_mono (fun y F h=>ih _ y F (by simpa using s) ?_ ?_) (E _ a w i o q g ?_ z)
  .have G:((b.setIfInBounds i true).toList.filter (! ·)).length+1=(b.toList.filter (! ·)).length:=by rw[Array.toList_setIfInBounds];exact Pu _ i (by rw[Array.getElem?_toList,Array.getElem?_eq_getElem k,v])
   omega
  .have e:(fun j=>(b.setIfInBounds i true).getD j false)=Bp (fun j=>b.getD j false) i:=by
    funext j
    unfold Bp;by_cases hj:j=i
    .subst hj;simp[k]
    .simp[hj,Array.getD_eq_getD_getElem?,Array.getElem?_setIfInBounds_ne (Ne.symm hj)]
   rw[e];exact h
  .show b.getD i false=false;rw[Array.getD_eq_getD_getElem?,Array.getElem?_eq_getElem k];simpa using v
theorem Qg{Q:Exit->Act->Zh->Prop}{k:Nat}(g:P.follows .mixedOrders=true)(I:(Nat->Bool)->Act->Zh->Prop)(d:∀i o,b[i]?=some o->∀e∈o.after,Region.binds .any e=true->e.on<i)(c:I (fun _=>false) a w.drew)(h:∀L a w i o,I L a w->b[i]?=some o->L i=false->(∀e∈o.after,Region.binds .any e=true->L e.on=true)->wpOp P b Q i (I (Bp L i)) a w)(f:∀L a w,I L a w->(∀i,i<b.size->L i=true)->Q .normal a w):(Code.region k b true).wp P Q a w:=by
 refine wp_region_any g (Vb I h f d b.size _ a _ Yu Yu ?_);have e:(fun j=>(Array.replicate b.size false).getD j false)=fun _=>false:=by
  funext j
  rw[Array.getD_eq_getD_getElem?];by_cases hj:j<b.size
  .simp[hj]
  .simp[hj]
 rw[e];exact c
theorem Nt(L:Nat->Bool)(i:Nat):∀n,i<n->L i=false->((List.range n).filter (Bp L i)).length=((List.range n).filter L).length+1
 |0,h,_=>absurd h (Nat.not_lt_zero _)
 |n+1,h,hL=>by
  rw[List.range_succ,List.filter_append,List.filter_append,List.length_append,List.length_append];by_cases hn:i=n
  .subst hn;have a:(List.range i).filter (Bp L i)=(List.range i).filter L:=List.filter_congr (fun x c=>by have:=List.mem_range.1 c;unfold Bp;rw[if_neg Yv]);rw[a];simp[Bp,hL]
  .have a:=Nt L i n Yv hL;have b:Bp L i n=L n:=by unfold Bp;rw[if_neg (Ne.symm hn)]
   rw[a];simp only[List.filter_cons,b,List.filter_nil];omega
def Hi(ops:Array Oper):Bool:=(List.range ops.size).all fun i=>((ops[i]?).map (·.after.all fun e=>decide (e.on<i))).getD true
theorem JG{a:Array Oper}(h:Hi a=true):∀i o,a[i]?=some o->∀e∈o.after,Region.binds .any e=true->e.on<i:=by intro i o c e d _;unfold Hi at h;rw[List.all_eq_true]at h;have b:=h i (List.mem_range.2 (Array.getElem?_eq_some_iff.1 c).1);rw[c]at b;simp only[Option.map_some,Option.getD_some,Array.all_eq_true_iff_forall_mem]at b;simpa using b e d
def GV(ops:Array Oper)(i j:Nat):Bool:=((ops[i]?).map (·.after.any fun e=>e.on==j&&Region.binds .any e)).getD false
theorem GF{a:Array Oper}{j:Nat}{o:Oper}(d:a[i]?=some o)(h:GV a i j=true):∃e∈o.after,e.on=j/\Region.binds .any e=true:=by unfold GV at h;rw[d]at h;simp only[Option.map_some,Option.getD_some,Array.any_eq_true']at h;obtain⟨e,c,b⟩:=h;rw[Bool.and_eq_true]at b;exact⟨e,c,eq_of_beq b.1,b.2⟩
def Nu(ops:Array Oper)(last:Nat):Bool:=(List.range last).all fun i=>GV ops last i||(List.range last).any fun m=>GV ops last m&&GV ops m i
def EB(e:Edge):Bool:=match e.ground with
 |.data=>Region.binds .any e
 |_=>false
theorem KG{e:Edge}(h:EB e=true):Region.binds .any e=true:=by
 unfold EB at h;split at h
 .exact h
 .cases h
def VS(ops:Array Oper)(last:Nat)(kl:List (Nat×Nat)):Bool:=kl.all fun p=>(List.range last).all fun m=>m==p.1||(p.1<last&&GV ops p.1 m)||((ops[m]?).map (·.after.all fun e=>e.on !=p.2|| !EB e)).getD true
theorem Iz{Q:Exit->Act->Zh->Prop}(last:Nat)(Z:P.follows .mixedOrders=true)(zG:b.size=last+1)(ha:Hi b=true)(Y:Nu b last=true)(A:List (Nat×Nat))(M:VS b last A=true)(F:(Nat->Value)->Act)(S:Nat->Value)(J:(Nat->Bool)->Zh->Prop)(T:Nat->Zh->Value->Prop)(E:Nat->Zh->Zh->Prop)(hE:∀j i w r v,j≠i->(j,i)∉A->GV b i j=false->E j w r->T i w v->T i r v)(hF:∀i o d v,i<last->b[i]?=some o->(F d).put o.dst v=F (fun j=>if j=i then v else d j))(h0:J (fun _=>false) w.drew)(hs:∀i o L d w,i<last->b[i]?=some o->L i=false->(∀e∈o.after,Region.binds .any e=true->L e.on=true)->J L w->(∀e∈o.after,EB e=true->T e.on w (d e.on))->∀K:Act->Zh->Prop,Hid (∀v r,T i r v->E i w r->J (Bp L i) r->K ((F d).put o.dst v) r)->if Region.wanted o (yielded b (F d).tmps)=true then Oper.wp P o (F d) w K Q else K ((F d).put o.dst undef) w)(hf:∀o L d w,b[last]?=some o->(∀i,i<last->L i=true)->J L w->(∀i,i<last->(∀j,(j,i)∉A)->T i w (d i))->∀K:Act->Zh->Prop,Hid (∀a w,Q .normal a w->K a w)->if Region.wanted o (yielded b (F d).tmps)=true then Oper.wp P o (F d) w K Q else K ((F d).put o.dst undef) w):
 (Code.region id b true).wp P Q (F S) w:=by
 refine Qg Z (fun L a w=>if L last=true then (∀i,i<last->L i=true)/\Q .normal a w else ∃d,a=F d/\J L w/\(∀j o,j<last->b[j]?=some o->L j=true->∀e∈o.after,Region.binds .any e=true->L e.on=true)/\∀i,i<last->L i=true->(∀j,(j,i)∈A->L j=false)->T i w (d i)) (JG ha) ?_ ?_ ?_
 .rw[if_neg Yu];exact⟨S,rfl,h0,fun j o _ _ h=>by simp at h,fun i _ h=>by simp at h⟩
 .intro L a w i o s l y z;have hi:i<b.size:=(Array.getElem?_eq_some_iff.1 l).1;by_cases hil:i=last
  .subst hil;rw[if_neg (by rw[y];simp)]at s;obtain⟨d,rfl,W,G,H⟩:=s;have k:∀j,j<i->L j=true:=by
    intro j g;unfold Nu at Y;rw[List.all_eq_true]at Y;have c:=Y j (List.mem_range.2 g);rw[Bool.or_eq_true]at c;rcases c with c|c
    .obtain⟨e,q,V,n⟩:=GF l c;rw[<-V];exact z e q n
    .obtain⟨m,Z,u⟩:=List.any_eq_true.1 c;rw[Bool.and_eq_true]at u;obtain⟨e,q,V,n⟩:=GF l u.1;have zE:=List.mem_range.1 Z;have R:b[m]?=some b[m]:=Array.getElem?_eq_getElem Yv;obtain⟨U,B,e2,zB⟩:=GF R u.2;rw[<-e2];exact G m _ zE R (by rw[<-V];exact z e q n) U B zB
   refine wpOp_step l (fun K X=>hf o L d w l k W (fun j g hn=>H j g (k j g) (fun j' C=>absurd C (hn j'))) K (fun a w h=>X a w ?_));show if Bp L i i=true then _ else _
   rw[if_pos (by unfold Bp;rw[if_pos rfl])];exact⟨fun j g=>by unfold Bp;rw[if_neg Yv];exact k j g,h⟩
  .have t:i<last:=Yv
   have I:L last=false:=by
    cases h:L last with
    |false=>rfl
    |true=>rw[if_pos h]at s;have:=s.1 i t;rw[y]at this;cases this
   rw[if_neg (by rw[I];simp)]at s;obtain⟨d,rfl,W,G,H⟩:=s;have N:∀j,j<last->L j=true->GV b j i=false:=fun j g f=>by
    cases c:GV b j i with
    |false=>rfl
    |true=>have O:b[j]?=some b[j]:=Array.getElem?_eq_getElem Yv;obtain⟨U,B,u,h4⟩:=GF O c;have x:=G j _ g O f U B h4;rw[u,y]at x;cases x
   refine wpOp_step l (fun K X=>hs i o L d w t l y z W (fun e q n=>H e.on (by have:=JG ha i o l e q (KG n);omega) (z e q (KG n)) (fun j g=> ?_)) K (fun v r hv hw zA=>X _ r ?_))
   .unfold VS at M;have c:=List.all_eq_true.1 (List.all_eq_true.1 M _ g) i (List.mem_range.2 t);rw[l]at c;simp only[Option.map_some,Option.getD_some,Bool.or_eq_true,beq_iff_eq,Array.all_eq_true_iff_forall_mem]at c;rcases c with(c|c)|c
    .rw[<-c];exact y
    .rw[Bool.and_eq_true]at c;cases f:L j with
     |false=>rfl
     |true=>have zC:j<last:=of_decide_eq_true c.1;have x:=N j zC f;rw[c.2]at x;cases x
    .have:=c e q;rw[n]at this;simp at this
   show if Bp L i last=true then _ else _
   rw[if_neg (by unfold Bp;rw[if_neg (Ne.symm hil),I];simp),hF i o d v t l];refine⟨_,rfl,zA,fun j o' g D f e q n=> ?_,fun j g f hN=> ?_⟩
   .have c:L e.on=true:=by
     by_cases hji:j=i
     .subst hji;rw[l]at D;cases D;exact z e q n
     .unfold Bp at f;rw[if_neg hji]at f;exact G j o' g D f e q n
    unfold Bp;rw[c];simp
   by_cases hji:j=i
   .subst hji;rw[if_pos rfl];exact hv
   .rw[if_neg hji];have zF:(i,j)∉A:=fun h=>by have:=hN i h;unfold Bp at this;rw[if_pos rfl]at this;cases this
    unfold Bp at f;rw[if_neg hji]at f;refine hE i j w r _ (fun e=>hji e.symm) zF (N j g f) hw (H j g f (fun j' C=> ?_));have:=hN j' C;unfold Bp at this;split at this
    .cases this
    .exact this
 .intro L a w s k;rw[if_pos (k last Yv)]at s;exact s.2
def IS(last:Nat)(J:Nat->Zh->Prop):(Nat->Bool)->Zh->Prop:=fun L w=>J ((List.range last).filter L).length w
theorem Uu{J:Nat->Zh->Prop}(h:J 0 w):IS last J (fun _=>false) w:=by unfold IS;rw[show(List.range last).filter (fun _=>false)=[]from by simp];exact h
theorem RN{L:Nat->Bool}(c:i<last)(b:L i=false):((List.range last).filter L).length<last:=by have d:=Nt L i last c b;have a:((List.range last).filter (Bp L i)).length<=(List.range last).length:=List.length_filter_le _ _;rw[List.length_range]at a;omega
theorem Uv{J:Nat->Zh->Prop}{L:Nat->Bool}(b:i<last)(a:L i=false)(h:J (((List.range last).filter L).length+1) w):IS last J (Bp L i) w:=by unfold IS;rw[Nt L i last b a];exact h
theorem Pv{J:Nat->Zh->Prop}{L:Nat->Bool}(a:∀i,i<last->L i=true)(h:IS last J L w):J last w:=by have b:(List.range last).filter L=List.range last:=List.filter_eq_self.2 (fun x c=>a x (List.mem_range.1 c));unfold IS at h;rw[b,List.length_range]at h;exact h
theorem Nv{Q:Exit->Act->Zh->Prop}(last:Nat)(H:P.follows .mixedOrders=true)(s:c.size=last+1)(n:Hi c=true)(G:Nu c last=true)(F:(Nat->Value)->Act)(g:Nat->Value)(J:Nat->Zh->Prop)(T:Nat->Zh->Value->Prop)(E:Zh->Zh->Prop)(z:∀i w d v,E w d->T i w v->T i d v)(A:∀i o b v,i<last->c[i]?=some o->(F b).put o.dst v=F (fun j=>if j=i then v else b j))(t:J 0 w.drew)(I:∀i o k b w,i<last->c[i]?=some o->k<last->J k w->(∀e∈o.after,EB e=true->T e.on w (b e.on))->∀K:Act->Zh->Prop,Hid (∀v d,T i d v->E w d->J (k+1) d->K ((F b).put o.dst v) d)->if Region.wanted o (yielded c (F b).tmps)=true then Oper.wp P o (F b) w K Q else K ((F b).put o.dst undef) w)(D:∀o b w,c[last]?=some o->J last w->(∀i,i<last->T i w (b i))->∀K:Act->Zh->Prop,Hid (∀a w,Q .normal a w->K a w)->if Region.wanted o (yielded c (F b).tmps)=true then Oper.wp P o (F b) w K Q else K ((F b).put o.dst undef) w):
 (Code.region N c true).wp P Q (F g) w:=
 Iz last H s n G [] rfl F g (IS last J) T (fun _=>E) (fun _ i w d v _ _ _ C M=>z i w d v C M) A (Uu t) (fun i o L b w f q r _ l m K B=>I i o _ b w f q (RN f r) l m K (fun v d u x y=>B.out v d u x (Uv f r y))) (fun o L b w q n l m=>D o b w q (Pv n l) (fun i f=>m i f (fun _ h=>by cases h)))
def Bc(a:Act):List Nat->(Nat->Value)->Nat->Act
 |[],_,_=>a
 |d::ds,xs,k=>Bc (a.put (some d) (xs k)) ds xs (k+1)
theorem Vc(a:Act)(d:Nat)(v u:Value):(a.put (some d) v).put (some d) u=a.put (some d) u:=by simp[Act.put]
theorem Nw:∀(ds:List Nat) (a:Act) (xs:Nat->Value) (k d:Nat) (v:Value),d∉ds->(Bc a ds xs k).put (some d) v=Bc (a.put (some d) v) ds xs k
 |[],_,_,_,_,_,_=>rfl
 |e::ds,a,xs,k,d,v,h=>by have b:d≠e:=fun x=>h (by rw[x];exact List.mem_cons_self);show(Bc (a.put (some e) (xs k)) ds xs (k+1)).put (some d) v=Bc ((a.put (some d) v).put (some e) (xs k)) ds xs (k+1);rw[Nw ds _ xs (k+1) d v (fun x=>h (List.mem_cons_of_mem _ x)),Act.put_comm a (xs k) v (by simpa using b)]
theorem FP:∀(ds:List Nat) (a:Act) (xs ys:Nat->Value) (k:Nat),(∀j,k<=j->xs j=ys j)->Bc a ds xs k=Bc a ds ys k
 |[],_,_,_,_,_=>rfl
 |d::ds,a,xs,ys,k,h=>by show Bc (a.put (some d) (xs k)) ds xs (k+1)=Bc (a.put (some d) (ys k)) ds ys (k+1);rw[h k (Zx)];exact FP ds _ xs ys (k+1) (fun j b=>h j Yv)
theorem Pw:∀(ds:List Nat) (a:Act) (xs:Nat->Value) (k i d:Nat) (v:Value),ds.Nodup->ds[i]?=some d->(Bc a ds xs k).put (some d) v=Bc a ds (fun j=>if j=k+i then v else xs j) k
 |[],_,_,_,_,_,_,_,h=>by simp at h
 |e::ds,a,xs,k,0,d,v,hn,h=>by
  obtain rfl:e=d:=by simpa using h
  show(Bc (a.put (some e) (xs k)) ds xs (k+1)).put (some e) v=Bc (a.put (some e) (if k=k+0 then v else xs k)) ds _ (k+1);rw[Nw ds _ xs (k+1) e v (List.nodup_cons.1 hn).1,Vc,if_pos (Nat.add_zero k).symm];exact FP ds _ _ _ (k+1) (fun j b=>by rw[if_neg Yv])
 |e::ds,a,xs,k,i+1,d,v,hn,h=>by show(Bc (a.put (some e) (xs k)) ds xs (k+1)).put (some d) v=Bc (a.put (some e) (if k=k+(i+1)then v else xs k)) ds _ (k+1);rw[Pw ds _ xs (k+1) i d v (List.nodup_cons.1 hn).2 (by simpa using h),if_neg Yv];exact FP ds _ _ _ (k+1) (fun j b=>by rw[show k+1+i=k+(i+1) by omega])
theorem Tm(a:Act)(d:Nat):a.put (some d) (a.tmps.getD d undef)=a:=by
 obtain⟨t,b⟩:=a;show Act.mk (t.setIfInBounds d (t.getD d undef)) b=_;congr 1;apply Array.ext
 .simp
 .intro i e c;rw[Array.getElem_setIfInBounds];split
  .rename_i h
   subst h;simp[c]
  .rfl
theorem Mf:∀(ds:List Nat) (a:Act) (k:Nat),∃b,Bc a ds b k=a
 |[],a,_=>⟨fun _=>undef,rfl⟩
 |d::ds,a,k=>by obtain⟨b,h⟩:=Mf ds a (k+1);refine⟨fun j=>if j=k then a.tmps.getD d undef else b j,?_⟩;show Bc (a.put (some d) (if k=k then _ else _)) ds _ (k+1)=a;rw[if_pos rfl,Tm];exact(FP ds a _ b (k+1) (fun j c=>if_neg Yv)).trans h
def Tp(ops:Array Oper)(ds:List Nat):Bool:=(List.range ds.length).all fun i=>((ops[i]?).map (fun o=>decide (o.dst=ds[i]?))).getD false
theorem BL{Q:Exit->Act->Zh->Prop}(d:List Nat)(last:Nat)(hlen:d.length=last)(B:Oper)(D:b[last]?=some B)(R:P.follows .mixedOrders=true)(F:b.size=last+1)(x:Hi b=true)(O:Nu b last=true)(k:Tp b d=true)(S:d.Nodup)(q:b.all (·.guard.isNone)=true)(n:List (Nat×Nat))(C:VS b last n=true)(J:(Nat->Bool)->Zh->Prop)(T:Nat->Zh->Value->Prop)(E:Nat->Zh->Zh->Prop)(I:∀j i w g v,j≠i->(j,i)∉n->GV b i j=false->E j w g->T i w v->T i g v)(H:J (fun _=>false) w.drew)(U:∀i o L c w,i<last->b[i]?=some o->L i=false->(∀e∈o.after,Region.binds .any e=true->L e.on=true)->J L w->(∀e∈o.after,EB e=true->T e.on w (c e.on))->∀K:Act->Zh->Prop,Hid (∀v g,T i g v->E i w g->J (Bp L i) g->K ((Bc a d c 0).put o.dst v) g)->Oper.wp P o (Bc a d c 0) w K Q)(N:∀L c w,(∀i,i<last->L i=true)->J L w->(∀i,i<last->(∀j,(j,i)∉n)->T i w (c i))->∀K:Act->Zh->Prop,Hid (∀a w,Q .normal a w->K a w)->Oper.wp P B (Bc a d c 0) w K Q):
 (Code.region id b true).wp P Q a w:=by
 subst hlen;have A:∀i o t,b[i]?=some o->Region.wanted o t=true:=fun i o t f=>by rw[Array.all_eq_true_iff_forall_mem]at q;have h:=q o (Array.mem_of_getElem? f);simp[Region.wanted,Option.isNone_iff_eq_none.1 h]
 obtain⟨G,l⟩:=Mf d a 0;have:=Iz (id:=id) (w:=w) (Q:=Q) d.length R F x O n C (fun c=>Bc a d c 0) G J T E I ?_ H (fun i o L c w m f M k r u K s=>by rw[if_pos (A i o _ f)];exact U i o L c w m f M k r u K s) (fun o L c w f x r u K s=>by rw[if_pos (A _ o _ f)];rw[D]at f;cases f;exact N L c w x r u K s)
 .rw[<-l];rw[l]at this;rw[l];exact this
 .intro i o c v m f;unfold Tp at k;rw[List.all_eq_true]at k;have h:=k i (List.mem_range.2 m);rw[f]at h;simp only[Option.map_some,Option.getD_some,decide_eq_true_eq]at h;have y:=Zv m;rw[h,y];have z:=Pw d a c 0 i _ v S y;rw[Nat.zero_add]at z;exact z
theorem DO{Q:Exit->Act->Zh->Prop}{R:Nat}(f:List Nat)(last:Nat)(hlen:f.length=last)(n:Oper)(s:b[last]?=some n)(H:P.follows .mixedOrders=true)(t:b.size=last+1)(m:Hi b=true)(G:Nu b last=true)(C:Tp b f=true)(I:f.Nodup)(r:b.all (·.guard.isNone)=true)(J:Nat->Zh->Prop)(T:Nat->Zh->Value->Prop)(E:Zh->Zh->Prop)(A:∀i w c v,E w c->T i w v->T i c v)(u:J 0 w.drew)(N:∀i o k d w,i<last->b[i]?=some o->k<last->J k w->(∀e∈o.after,EB e=true->T e.on w (d e.on))->∀K:Act->Zh->Prop,Hid (∀v c,T i c v->E w c->J (k+1) c->K ((Bc a f d 0).put o.dst v) c)->Oper.wp P o (Bc a f d 0) w K Q)(F:∀d w,J last w->(∀i,i<last->T i w (d i))->∀K:Act->Zh->Prop,Hid (∀a w,Q .normal a w->K a w)->Oper.wp P n (Bc a f d 0) w K Q):
 (Code.region R b true).wp P Q a w:=
 BL f last hlen n s H t m G C I r [] rfl (IS last J) T (fun _=>E) (fun _ i w c v _ _ _ D O=>A i w c v D O) (Uu u) (fun i o L d w g M q _ j l K B=>N i o _ d w g M (RN g q) j l K (fun v c x y z=>B.out v c x y (Uv g q z))) (fun L d w m j l=>F d w (Pv m j) (fun i g=>l i g (fun _ h=>by cases h)))
theorem Qh(w:Zh)(g:Nat)(y:Int)(h:w.cell? (Zd g 0)=some (.int .u8 y)):∃s,(convert 22 9 (Yz g 1 1)).run prog w=.ok (.string s) w/\s.size=1:=
 ⟨_,run_convert_bytes_arg (P:=prog) w 22 5 underlying22 underlying5 g 0 1 1 [y] rfl (fun i a=>by
  obtain rfl:i=0:=Yv
  simpa using h) 9 underlying9,DX [y]⟩
theorem RO{n:Int}(h:n<10^N)(d:N<=9):n<1000000000:=by
 have a:(10:Nat)^N<=10^9:=Nat.pow_le_pow_right Yv d;have b:((10^N:Nat):Int)<=((10^9:Nat):Int):=Int.ofNat_le.2 a;have c:((10^N:Nat):Int)=(10:Int)^N:=Yu
 rw[c]at b;have e:((10^9:Nat):Int)=1000000000:=rfl;omega
theorem Ve:∀(N:Nat) (n:Int) (w:Zh),0<=n->n<10^N->N<=9->
 Calls prog 54 #[Zg n] w fun e q=>∃s,e=.returned (.string s)/\s.size<=N+1/\Zz w q:=by
 intro N;induction N with
 |zero=>
  intro n w l d _;obtain rfl:n=0:=by simp at d;omega
  obtain⟨s,h,m⟩:=Qh (w.alloc (.cells #[.int .u8 48] 5)) w.heap.size 48 Yu;go_enter func54,ntmps54;go_wp2;go_ret;exact⟨s,rfl,Yv,Zy⟩
 |succ N ih=>
  intro n w l d O;have T:=RO d O;by_cases hc:n<10
  .have Q:IntKind.u8.wrap (48+n)=48+n:=Jo Yv Yv;obtain⟨s,h,m⟩:=Qh (w.alloc (.cells #[.int .u8 (48+n)] 5)) w.heap.size (48+n) Yu;go_enter func54,ntmps54;go_wp2;go_ret;exact⟨s,rfl,Yv,Zy⟩
  .have hq:n.tdiv 10=n/10:=Int.tdiv_eq_ediv_of_nonneg l;have hm:n.tmod 10=n%10:=Int.tmod_eq_emod_of_nonneg l;have U:IntKind.i64.wrap (n/10)=n/10:=Bs Yv Yv;have V:IntKind.i64.wrap (48+n%10)=48+n%10:=Bs Yv Yv;have Q:IntKind.u8.wrap (48+n%10)=48+n%10:=Jo Yv Yv
   have M:Hid (∀X,Calls prog 54 #[Zg (n/10)] X fun e q=>∃s,e=.returned (.string s)/\s.size<=N+1/\Zz X q):=fun X=>ih (n/10) X Yv (by rw[Int.pow_succ]at d;omega) Yv;clear ih;go_enter func54,ntmps54;go_upto_region 3 with fail
   refine DO [10,11,12,13,14,15,16,17,18,19] 10 rfl _ rfl Yr Yr Yr Yr Yr Yq Yr (fun _ X=>Zz w X) (fun i X v=>match i with
    |0=>v=Zg n
    |1=>v=Zg (n/10)
    |2=>∃s,v=.string s/\s.size<=N+1
    |3=>v=Zg n
    |4=>v=Zg (n%10)
    |5=>v=Zg (48+n%10)
    |6=>v=.int .u8 (48+n%10)
    |7=>∃g,v=Yz g 1 1/\g<X.heap.size/\X.cell? (Zd g 0)=some (.int .u8 (48+n%10))
    |8=>∃s,v=.string s/\s.size=1
    |9=>∃s,v=.string s/\s.size<=N+1+1
    |_=>True) (fun X Y=>Zz X Y) ?_ Ad.drew ?_ ?_
   .intro i X Y v j f;rcases i with _|_|_|_|_|_|_|_|_|_|_<;>first
     |exact f
     |(obtain⟨g,d,r,L⟩:=f;exact⟨g,d,Zr r j.size,(j.cell (p:=⟨g,0,none⟩) r).trans L⟩)
   .intro i o k x X Z P hk b c K a;rcases(show i=0\/i=1\/i=2\/i=3\/i=4\/i=5\/i=6\/i=7\/i=8\/i=9 by omega)with rfl|rfl|rfl|rfl|rfl|rfl|rfl|rfl|rfl|rfl<;>cases P<;>simp only[Bc,Act.put,Zq,Zp,Zo]at a |-
    .go_simp;exact a.out _ X rfl Ad b
    .have A:=c ⟨0,.data⟩ Yu Yp;rw[show x 0=Zg n from A]at a |-;go_simp;exact a.out _ X rfl Ad b
    .have B:=c ⟨1,.data⟩ Yu Yp;rw[show x 1=Zg (n/10)from B]at a |-;go_simp;refine(M.o X).mono ?_;rintro e z ⟨s,rfl,h,u⟩;exact a.out _ z ⟨s,rfl,h⟩ u (b.trans (u.mono b.size))
    .go_simp;exact a.out _ X rfl Ad b
    .have C:=c ⟨3,.data⟩ Yu Yp;rw[show x 3=Zg n from C]at a |-;go_simp;exact a.out _ X rfl Ad b
    .have D:=c ⟨4,.data⟩ Yu Yp;rw[show x 4=Zg (n%10)from D]at a |-;go_simp;exact a.out _ X rfl Ad b
    .have E:=c ⟨5,.data⟩ Yu Yp;rw[show x 5=Zg (48+n%10)from E]at a |-;go_simp;exact a.out _ X rfl Ad b
    .have F:=c ⟨6,.data⟩ Yu Yp;rw[show x 6=.int .u8 (48+n%10)from F]at a |-;have t:Below X.heap.size X (X.alloc (.cells #[.int .u8 (48+n%10)] 5)):=Zy;go_simp;exact a.out _ _ ⟨X.heap.size,rfl,Yu,Yu⟩ t (b.trans (t.mono b.size))
    .obtain⟨g,H,W,c7⟩:=c ⟨7,.data⟩ Yu Yp;obtain⟨s,h,m⟩:=Qh X g _ c7;rw[H]at a |-;go_simp;exact a.out _ X ⟨s,rfl,m⟩ Ad b
    .obtain⟨y,G,z2⟩:=c ⟨2,.data⟩ Yu Yp;obtain⟨R,I,z8⟩:=c ⟨8,.data⟩ Yu Yp;rw[G,I]at a |-;have hl:¬9223372036854775807<y.size+1:=Yv
     go_simp;exact a.out _ X ⟨y++R,rfl,by rw[ByteArray.size_append];omega⟩ Ad b
   .intro x X b f K a;simp only[Bc,Act.put,Zq,Zp,Zo];obtain⟨s,J,S⟩:=f 9 Yq;rw[J];go_simp;refine a.out _ _ ?_;clear a K f;go_wp2;go_ret;exact⟨s,rfl,S,b⟩
theorem MG(b:Nat)(a:Zk)(n c:Nat)(p:Int)(w:Zh)(h:AA w b a n c p)(j:0<=p)(k:p<=900000):
 Calls prog 49 #[Yy b] w fun e i=>∃d,e=.returned (Zg d)/\(1<=d/\d<=8)/\AA i b a n c (p+1)/\w.grownBy i (some b):=by
 go_enter func49,ntmps49;go_wp2_with fail;refine(AR b a n c p 8 w h j Yv Yv Yv).mono ?_;rintro e m ⟨r,rfl,r0,l,g,f⟩;have H:=Yw (Zn g f);clear g f h;by_cases c1:r<2
 .go_wp2;go_ret;exact⟨1,rfl,Yv,H.o⟩
 .by_cases c2:r=2
  .subst c2;go_wp2;go_ret;exact⟨2,rfl,Yv,H.o⟩
  .have c3:(r==2)=false:=by simpa using c2
   go_wp2;go_ret;exact⟨8,rfl,Yv,H.o⟩
structure Ej (w w':Zh) (e:Ending) (b:Nat) (a:Zk) (n c:Nat) (p K:Int) (TX RF:Nat):Prop where
 ex:∃(t:Zi) (ra:Zk) (rc:Nat) (ss:Zl),e=.returned (.agg #[.string t,.slice ra ss.length rc])/\t.size<=TX/\ss.length<=RF/\(∀s∈ss,s.size<=8)/\
  w'.ownsRow w.heap.size 9 1 (.slice ra ss.length rc) ss.length (ss.map Value.string)
 dr:GD w w' b a n c p K
theorem IT(l:List UInt8)(k:Nat):(CR l k).size=k:=by unfold CR;rw[DX,CC]
def Bi(w:Zh)(b:Nat)(ph:Int)(Q M:Value)(top at_ ro:Int):Prop:=
 w.cell? ⟨b,0,none⟩=some (.int .i64 ph)/\w.cell? ⟨b,1,none⟩=some Q/\w.cell? ⟨b,2,none⟩=some M/\w.cell? ⟨b,3,none⟩=some (.int .i64 top)/\
  w.cell? ⟨b,4,none⟩=some (.int .i64 at_)/\w.cell? ⟨b,5,none⟩=some (.int .i64 ro)/\b<w.heap.size
theorem Bi.new(w:Zh)(c b a d:Int)(Q M:Value)(t:TypeId):Bi (w.alloc (.cells #[Zg c,Q,M,Zg b,Zg a,Zg d] t)) w.heap.size c Q M b a d:=
 ⟨Yu,Yu,Yu,Yu,Yu,Yu,Yu⟩
theorem Bi.ah{i:Zh}{b:Nat}{f g:Int}(h:Bi w b f Q M e d g)(a:Below B w i)(c:b<B):Bi i b f Q M e d g:=by
 obtain⟨j,k,l,m,n,o,q⟩:=h;exact⟨(a.cell (p:=⟨b,0,none⟩) c).trans j,(a.cell (p:=⟨b,1,none⟩) c).trans k,(a.cell (p:=⟨b,2,none⟩) c).trans l,(a.cell (p:=⟨b,3,none⟩) c).trans m,
  (a.cell (p:=⟨b,4,none⟩) c).trans n,(a.cell (p:=⟨b,5,none⟩) c).trans o,Zr q a.size⟩
theorem Bi.below{f:Zh}{b:Nat}{c a:Int}(h:Bi w b d Q M c a e)(g:Zz w f):Bi f b d Q M c a e:=h.ah g h.2.2.2.2.2.2
structure GW (qs ms:Zl):Prop where
 q:qs.length<=1048576
 m:ms.length<=1048576
section
attribute [local go_sem↓] Go.wp_at_zero Go.wp_at_succ
theorem GX(B t r E:Int)(q a:Zk)(D C A:Nat)(d:Zl)(w:Zh)(m:Ab w w.heap.size a d)(hl:d.length<=1048576):
 Calls prog 38 #[.agg (Ye B q D C a d.length A t r E)] w fun e I=>∃b c f,e=.returned (.map (some b))/\w.heap.size<=b/\AT I 94 b d.length c f/\MK d f c/\Zz w I:=by
 have N:= @run_makeMap prog;go_enter func38,ntmps38;go_wp2;obtain⟨o,h⟩:=Af ((w.alloc (Obj.cells (Ye B q D C a d.length A t r E) 31)).alloc (Obj.map #[] 0));have K:Below w.heap.size w o:=by rw[h];exact(Zy).alloc Yu _
 have U:o.heap.size=w.heap.size+2:=by rw[h];simp
 have L:AT o 94 (w.heap.size+1) 0 0 (fun _=>none):=by have:=AT.new (w.alloc (Obj.cells (Ye B q D C a d.length A t r E) 31)) 94;rw[h];rw[World.size_alloc]at this;exact this
 rw[<-h];clear h N
 go_loopw [10] (fun i wr=>∃(k c:Nat) (f:Lit->Option Value),k<=d.length/\i=Zg k/\Hid (AT wr 94 (w.heap.size+1) k c f)/\Hid (MK (d.take k) f c)/\o.grownBy wr (some (w.heap.size+1))) (fun i _=>d.length -(intOf i).toNat)
 case atStart=>exact⟨0,0,_,Nat.zero_le _,rfl,L,by rw[List.take_zero];exact MK.nil,AJ _ _⟩
 case round=>
  obtain⟨k,c,f,Z,rfl,G,u,s⟩:=hrel;have l:Below w.heap.size w wr:=K.grown s Yv (by intro j Q;cases Q;omega);have V:=s.size;by_cases hlt:k<d.length
  .obtain⟨b,off,P,Y,H⟩:=(m.below l).at hlt;subst P;have F:Hid (d[k]?=some d[k]):=Zv hlt;have X:=H k _ F.o;clear H m;generalize d[k]=x at *
   obtain⟨n,R,O,y,_⟩:=u.o.get (keyL x);have z:(d.take k).length=k:=Yt
   rw[z]at y;have T:IntKind.i64.wrap (n+1)=n+1:=Gg Yv Yv;go_wp2;go_region_with (first
    |(go_at_call 42;refine(EH x _).mono ?_;rintro e S ⟨rfl,v⟩;have g:Below wr.heap.size wr S:=Ad.drew.trans (v.mono Yu);obtain⟨st,w3,w4,he,hl1,hl3,hs4,hm4,hg3,hg4⟩:=(G.o.ah g Yv).gq keyed underlying57 Yo EI (Ct x) (Zg (n+1));rw[R]at he hl1 hl3;unfold goInt at he hs4))
   all_goals
    have M:o.grownBy w4 (some (w.heap.size+1)):=Ap s (Ap (Ak _ g) hg4);have HN:Hid (MK (d.take (k+1)) (upd f (keyL x) (Zg (n+1))) (if (f (keyL x)).isSome then c else c+1)):=by have:=u.o.snoc x O (by rw[z];exact y);rw[List.take_add_one,F.o];exact this
    have J:=Yw hm4;clear hm4 he hl1 hl3 hs4 hg3 hg4 g v;go_wp2;exact⟨⟨k+1,_,_,Yv,Yn,J,HN,M⟩,Ys⟩
  .rw[Zt Yv]at u;obtain rfl:k=d.length:=Yv
   go_wp2;go_ret;exact⟨_,c,f,rfl,Yv,G.o,u.o,l⟩
end
section
attribute [local go_sem↓] Go.wp_at_zero Go.wp_at_succ
theorem RP(s:Zi)(a:Int)(b:Nat)(w:Zh)(f:w.cell? (Zd b 0)=some (Zg a)):
 Calls prog 92 #[.string s,Yy b] w fun e d=>e=.returned (.bool (!decide ((s.size:Int)=a)))/\d=w:=by
 go_enter func92,ntmps92;by_cases h:(s.size:Int)=a
 .have c:((s.size:Int) !=a)=false:=by simp[h]
  go_wp2;go_ret;exact⟨by simp[h],rfl⟩
 .have c:((s.size:Int) !=a)=true:=by simp[h]
  go_wp2;go_ret;exact⟨by simp[h],rfl⟩
theorem MH(a:Zk)(cap b:Nat)(c:Zl)(d:Int)(w:Zh)(B:Nat)(g:Ab w B a c)(G:c.length<=1048576)(z:w.cell? (Zd b 0)=some (Zg d)):
 Calls prog 112 #[.slice a c.length cap,.func (.func 92) #[] #[Yy b]] w fun e A=>∃r:Int,e=.returned (Zg r)/\(0<=r↔∃s∈c,¬(s.size:Int)=d)/\A=w:=by
 go_enter func112,ntmps112;go_wp2
 go_loop [8] (fun i=>∃k:Nat,k<=c.length/\i=Zg k/\Hid (∀j x,j<k->c[j]?=some x->(x.size:Int)=d)) (fun i=>c.length -(intOf i).toNat)
 case atStart=>exact⟨0,Nat.zero_le _,rfl,fun j x h=>by omega⟩
 case round=>
  obtain⟨k,F,rfl,f⟩:=hrel;by_cases hlt:k<c.length
  .obtain⟨C,off,v,E,l⟩:=g.at hlt;subst v;have n:=Yw (Zv hlt);have D:=l k _ n;clear l g;generalize c[k]=x at *
   go_wp2_with fail;refine(RP x d b w z).mono ?_;rintro e H ⟨rfl,rfl⟩;by_cases h:(x.size:Int)=d
   .have u:Hid (∀j y,j<k+1->c[j]?=some y->(y.size:Int)=d):=by
     intro j y t o;rcases Nat.lt_or_ge j k with q|q
     .exact f j y q o
     .obtain rfl:j=k:=Yv
      rw[n.o]at o;cases o;exact h
    have m:decide ((x.size:Int)=d)=true:=by simp[h]
    rw[m];go_wp2;exact⟨⟨k+1,Yv,Yn,u⟩,Ys⟩
   .have m:decide ((x.size:Int)=d)=false:=by simp[h]
    rw[m];go_wp2;go_ret;exact⟨_,rfl,⟨fun _=>⟨x,Zs n.o,h⟩,fun _=>by omega⟩,rfl⟩
  .go_wp2;go_ret;refine⟨_,rfl,⟨fun h=>by omega,fun⟨s,hs,h⟩=> ?_⟩,rfl⟩;obtain⟨j,t,rfl⟩:=List.getElem_of_mem hs;exact absurd (f j _ Yv (Zv t)) h
open Classical in
theorem Gl(a:Zk)(cap b:Nat)(c:Zl)(d:Int)(w:Zh)(B:Nat)(f:Ab w B a c)(l:c.length<=1048576)(j:w.cell? (Zd b 0)=some (Zg d)):
 Calls prog 93 #[.slice a c.length cap,.func (.func 92) #[] #[Yy b]] w fun e m=>e=.returned (.bool (decide (∃s∈c,¬(s.size:Int)=d)))/\m=w:=by
 go_enter func93,ntmps93;go_wp2_with fail;refine(MH a cap b c d w B f l j).mono ?_;rintro e n ⟨r,rfl,g,rfl⟩;by_cases h:0<=r
 .have k:decide ((0:Int)<=r)=true:=by simpa using h
  go_wp2;go_ret;exact⟨by simp[g.1 h],rfl⟩
 .have k:decide ((0:Int)<=r)=false:=by simpa using h
  have i:¬∃s∈c,¬(s.size:Int)=d:=fun e=>h (g.2 e);go_wp2;go_ret;exact⟨by rw[decide_eq_false i];rfl,rfl⟩
structure Nx (wd:Int) (qs ms:Zl):Prop where
 nq:qs.length<=23200
 nm:ms.length<=600
 q:∀s∈qs,(s.size:Int)=wd
 m:∀s∈ms,(s.size:Int)=wd
 nd:ms.Nodup
theorem Qi{i:Int}{a:Zl}(l:i<=8)(d:∀s∈a,(s.size:Int)=i):(a.map keyL).Nodup↔a.Nodup:=by
 induction a with
 |nil=>simp
 |cons x r f=>
  have f:=f (fun s j=>d s (by simp[j]));simp only[List.map_cons,List.nodup_cons,f];have m:=d x Yu;constructor
  .rintro⟨b,c⟩;exact⟨fun h=>b (List.mem_map.2 ⟨x,h,rfl⟩),c⟩
  .rintro⟨b,c⟩;refine⟨fun h=> ?_,c⟩;obtain⟨y,g,e⟩:=List.mem_map.1 h;have k:=d y (by simp[g]);have:y=x:=key_inj e Yv Yv;subst this;exact b g
theorem MI(o k j q g:Int)(a b:Zk)(m n:Nat)(d c:Zl)(w:Zh)(O:Ab w w.heap.size a d)(E:Ab w w.heap.size b c)(t:GW d c)(N:g<=8):
 Calls prog 61 #[.agg (Ye o a d.length m b c.length n k j q),Zg g] w fun e Q=>Ao (Nx g d c) w Q e:=by
 have U:=t.q;have T:=t.m;have i:Below w.heap.size w ((w.alloc (.cells (Ye o a d.length m b c.length n k j q) 31)).alloc (.cells #[Zg g] 3)):=(Zy).alloc Yu _;go_enter func61,ntmps61;by_cases h1:d.length<=23200
 .have K:decide ((23200:Int)<(d.length:Int))=false:=Yt
  by_cases h2:c.length<=600
  .have L:decide ((600:Int)<(c.length:Int))=false:=Yt
   go_wp2_with fail;refine(Gl a m _ d g _ w.heap.size (O.below i) t.q (by simp[go_sem])).mono ?_;rintro e Z ⟨rfl,rfl⟩;by_cases h3:∃s∈d,¬(s.size:Int)=g
   .rw[decide_eq_true h3];go_wp2;go_ret;exact Ao.no (fun h=>by obtain⟨s,l,B⟩:=h3;exact B (h.q s l)) i
   .rw[decide_eq_false h3];go_wp2_with fail;refine(Gl b n _ c g _ w.heap.size (E.below i) t.m (by simp[go_sem])).mono ?_;rintro e F ⟨rfl,rfl⟩;by_cases h4:∃s∈c,¬(s.size:Int)=g
    .rw[decide_eq_true h4];go_wp2;go_ret;exact Ao.no (fun h=>by obtain⟨s,l,B⟩:=h4;exact B (h.m s l)) i
    .rw[decide_eq_false h4];have z:∀s∈d,(s.size:Int)=g:=fun s l=>Classical.byContradiction fun h=>h3 ⟨s,l,h⟩;have x:∀s∈c,(s.size:Int)=g:=fun s l=>Classical.byContradiction fun h=>h4 ⟨s,l,h⟩;have A:=Yw (Zn z x);clear z x h3 h4;go_wp2_with fail;obtain⟨W,C⟩:=Af ((w.alloc (.cells (Ye o a d.length m b c.length n k j q) 31)).alloc (.cells #[Zg g] 3))
     have u:Bi W w.heap.size o (.slice a d.length m) (.slice b c.length n) k j q:=by rw[C];exact(Bi.new w o k j q _ _ 31).below (Zy)
     rw[<-C]at i |-;have X:=Yw u;have G:=Yw (E.L i);obtain⟨x0,x1,R,x3,x4,x5,S⟩:=u;clear C;go_region_with (first
      |(go_at_call 38;refine(GX o k j q a b d.length m n c W.drew G.o Yv).mono ?_;rintro e F ⟨Y,J,f,rfl,V,v,y,r⟩;have hlen:=fun P=>v.len underlying57 P;have y2:=(r.cell (p:=⟨w.heap.size,2,none⟩) S).trans R))
     all_goals
      have H:Hid (Zz w F):=(i.drew.trans (r.mono i.size));have I:=Yw y;clear hlen v y r;go_wp2;go_ret;refine⟨_,rfl,?_,H.o⟩;have D:=I.o.all;rw[Qi N A.o.2]at D;have M:(J:Int)=c.length↔c.Nodup:=by rw[<-D];omega
      simp only[beq_iff_eq,M];exact⟨fun h=>⟨h1,h2,A.o.1,A.o.2,h⟩,fun h=>h.nd⟩
  .have L:decide ((600:Int)<(c.length:Int))=true:=Yt
   go_wp2;go_ret;exact Ao.no (fun h=>h2 h.nm) i
 .have K:decide ((23200:Int)<(d.length:Int))=true:=Yt
  go_wp2;go_ret;exact Ao.no (fun h=>h1 h.nq) i
end
theorem Cc(n lo a:Int)(w:Zh):
 Calls prog 15 #[Zg n,Zg lo,Zg a] w fun e b=>e=.returned (.bool (decide (lo<=n/\n<=a)))/\b=w:=by
 by_cases h1:lo<=n
 .by_cases h2:n<=a
  .go_enter func15,ntmps15;go_wp2;go_ret;exact⟨AE (by simp[h1,h2]),rfl⟩
  .go_enter func15,ntmps15;go_wp2;go_ret;exact⟨AE (by simp[h2]),rfl⟩
 .have c:decide (lo<=n)=false:=by simpa using h1
  go_enter func15,ntmps15;go_wp2;go_ret;exact⟨AE Yu,rfl⟩
theorem GH(n:Int)(w:Zh):
 Calls prog 60 #[Zg n] w fun e a=>e=.returned (.bool (decide (0<=n/\n<=1000000000)))/\a=w:=by
 by_cases h1:0<=n
 .by_cases h2:n<=1000000000
  .go_enter func60,ntmps60;go_wp2;go_ret;exact⟨AE (by simp[h1,h2]),rfl⟩
  .have c:decide (n<=1000000000)=false:=by simpa using h2
   go_enter func60,ntmps60;go_wp2;go_ret;exact⟨rfl,rfl⟩
 .have b:decide (0<=n)=false:=by simpa using h1
  go_enter func60,ntmps60;go_wp2;go_ret;exact⟨rfl,rfl⟩
section
attribute [local go_sem↓] Go.wp_at_zero Go.wp_at_succ
def DY(births ph top at_:Int)(qs ms:Zl):Prop:=
 (ph=0/\qs=[]/\ms=[]/\top=0/\at_=0)\/(ph=1/\0<=top/\top<=births/\at_=top+1)\/(ph=2/\0<=top/\top<=births/\1<=at_/\at_<=top+1)
structure AK (wd births H top at_ ro:Int) (qs ms:Zl):Prop where
 iu:0<=ro
 ix:ro<=1000000000
 bz:Nx wd qs ms
 H:DY births H top at_ qs ms
theorem Ly(m d f k l c:Int)(a b:Zk)(t u:Nat)(j i:Zl)(w:Zh)(G:Ab w w.heap.size a j)(F:Ab w w.heap.size b i)(A:GW j i)(E:l<=8)(I:c<=1000000000):
 Calls prog 36 #[.agg (Ye m a j.length t b i.length u d f k),Zg l,Zg c] w fun e H=>Ao (AK l c m d f k j i) w H e:=by
 have K:=A.q;have J:=A.m;have v:Below w.heap.size w (w.alloc (.cells (Ye m a j.length t b i.length u d f k) 31)):=Zy;have B:=Bi.new w m d f k (.slice a j.length t) (.slice b i.length u) 31;go_enter func36,ntmps36;go_wp2_with fail;refine(GH k _).mono ?_;rintro e O ⟨rfl,rfl⟩;by_cases h1:0<=k/\k<=1000000000
 .rw[decide_eq_true h1];go_wp2_with fail;refine(MI m d f k l a b t u j i _ (G.L v) (F.L v) A E).mono ?_;rintro e Q ⟨D,rfl,s,r⟩;have g:=v.trans (r.mono Yu);obtain⟨R,S,T,U,V,W,X⟩:=B.below r;clear r B;cases D with
  |false=>go_wp2;go_ret;exact Ao.no (fun h=>by have:=s.2 h.bz;cases this) g
  |true=>
   have o:=s.1 rfl;have HS:=Yw o;clear s o;by_cases p0:m=0
   .subst p0;by_cases e1:j.length=0
    .by_cases e2:i.length=0
     .by_cases e3:d=0
      .by_cases e4:f=0
       .go_wp2;go_ret;exact Ao.yes ⟨h1.1,h1.2,HS.o,.inl ⟨rfl,List.eq_nil_of_length_eq_zero e1,List.eq_nil_of_length_eq_zero e2,e3,e4⟩⟩ g
       .have z:(f==0)=false:=by simpa using e4
        go_wp2;go_ret;exact Ao.no (P:=AK l c 0 d f k j i) (fun h=>by have:=h.H;unfold DY at this;simp at this;have n:=this.2.2.2;omega) g
      .have q:(d==0)=false:=by simpa using e3
       go_wp2;go_ret;exact Ao.no (fun h=>by have:=h.H;unfold DY at this;simp at this;have n:=this.2.2.1;omega) g
     .have y:((i.length:Int)==0)=false:=beq_eq_false_iff_ne.2 Yv;go_wp2;go_ret;exact Ao.no (fun h=>by have:=h.H;unfold DY at this;simp at this;exact e2 (by rw[this.2.1];rfl)) g
    .have x:((j.length:Int)==0)=false:=beq_eq_false_iff_ne.2 Yv;go_wp2;go_ret;exact Ao.no (fun h=>by have:=h.H;unfold DY at this;simp at this;exact e1 (by rw[this.1];rfl)) g
   .have L:(m==0)=false:=by simpa using p0
    by_cases p1:m=1
    .subst p1;by_cases e1:0<=d
     .by_cases e2:d<=c
      .have C:IntKind.i64.wrap (d+1)=d+1:=Gg Yv Yv;by_cases e3:f=d+1
       .have q:(f==d+1)=true:=by simpa using e3
        go_wp2;go_ret;exact Ao.yes (P:=AK l c 1 d f k j i) ⟨h1.1,h1.2,HS.o,.inr (.inl ⟨rfl,e1,e2,e3⟩)⟩ g
       .have q:(f==d+1)=false:=by simpa using e3
        go_wp2;go_ret;exact Ao.no (P:=AK l c 1 d f k j i) (fun h=>by have:=h.H;unfold DY at this;simp at this;have n:=this.2.2;omega) g
      .have y:decide (d<=c)=false:=by simpa using e2
       go_wp2;go_ret;exact Ao.no (P:=AK l c 1 d f k j i) (fun h=>by have:=h.H;unfold DY at this;simp at this;have n:=this.2.1;omega) g
     .have x:decide (0<=d)=false:=by simpa using e1
      go_wp2;go_ret;exact Ao.no (P:=AK l c 1 d f k j i) (fun h=>by have:=h.H;unfold DY at this;simp at this;have n:=this.1;omega) g
    .have M:(m==1)=false:=by simpa using p1
     by_cases p2:m=2
     .subst p2;by_cases e1:0<=d
      .by_cases e2:d<=c
       .have C:IntKind.i64.wrap (d+1)=d+1:=Gg Yv Yv;by_cases e3:1<=f
        .by_cases e4:f<=d+1
         .have z:decide (f<=d+1)=true:=by simpa using e4
          go_wp2;go_ret;exact Ao.yes (P:=AK l c 2 d f k j i) ⟨h1.1,h1.2,HS.o,.inr (.inr ⟨rfl,e1,e2,e3,e4⟩)⟩ g
         .have z:decide (f<=d+1)=false:=by simpa using e4
          go_wp2;go_ret;exact Ao.no (P:=AK l c 2 d f k j i) (fun h=>by have:=h.H;unfold DY at this;simp at this;have n:=this.2.2.2;omega) g
        .have q:decide (1<=f)=false:=by simpa using e3
         go_wp2;go_ret;exact Ao.no (P:=AK l c 2 d f k j i) (fun h=>by have:=h.H;unfold DY at this;simp at this;have n:=this.2.2.1;omega) g
       .have y:decide (d<=c)=false:=by simpa using e2
        go_wp2;go_ret;exact Ao.no (P:=AK l c 2 d f k j i) (fun h=>by have:=h.H;unfold DY at this;simp at this;have n:=this.2.1;omega) g
      .have x:decide (0<=d)=false:=by simpa using e1
       go_wp2;go_ret;exact Ao.no (P:=AK l c 2 d f k j i) (fun h=>by have:=h.H;unfold DY at this;simp at this;have n:=this.1;omega) g
     .have N:(m==2)=false:=by simpa using p2
      go_wp2;go_ret;exact Ao.no (P:=AK l c m d f k j i) (fun h=>by rcases h.H with h|h|h;exact p0 h.1;exact p1 h.1;exact p2 h.1) g
 .rw[decide_eq_false h1];go_wp2;go_ret;exact Ao.no (fun h=>h1 ⟨h.iu,h.ix⟩) v
end
structure Gm (ks:List Kd) (ps:List Pd) (ls:List Ld):Prop where
 k:Ez ks
 p:Gc ps
 l:JV ls
 b:∀k∈ks,(Lit.int .i64 k.born).wf=true
 n:ks.length<=600/\ps.length<=100/\ls.length<=200
def Hj(k:Kd):Prop:=k.F.size<=2000/\k.B.length<=30/\∀s∈k.B,s.size<=8
section
attribute [local go_sem↓] Go.wp_at_zero Go.wp_at_succ
def TS(W:Zh)(b c:Nat)(wd:Value)(s t r:Value)(w':Zh):Prop:=
 w'.cell? (Zd b 0)=some wd/\w'.cell? (Zd c 0)=some s/\w'.cell? (Zd c 2)=some t/\w'.cell? (Zd c 3)=some r/\Zz W w'
theorem TS.new{wr:Zh}{n:Nat}{ty:TypeId}{c:Int}(s b t r:Value)(d:wr.cell? (Zd (w.heap.size) 0)=some (Zg c))(e:w.heap.size<wr.heap.size):
 Below wr.heap.size wr ((wr.alloc (.cells #[s,b,t,r] ty)).drewN n)/\((wr.alloc (.cells #[s,b,t,r] ty)).drewN n).heap.size=wr.heap.size+1/\
  TS ((wr.alloc (.cells #[s,b,t,r] ty)).drewN n) w.heap.size wr.heap.size (Zg c) s t r ((wr.alloc (.cells #[s,b,t,r] ty)).drewN n):=by
 have a:Below wr.heap.size wr ((wr.alloc (.cells #[s,b,t,r] ty)).drewN n):=AH (Zy) _;refine⟨a,by rw[Hu];simp,(a.cell (p:=⟨w.heap.size,0,none⟩) e).trans d,?_,?_,?_,Ad⟩
 all_goals rw[Ht];simp
theorem Ki(c now l f:Int)(a:Zk)(I:Nat)(P L:Value)(d:List Kd)(w:Zh)(B:AQ w w.heap.size a d)(hm:Ez d)(hl:d.length<=1048576)(T:∀k∈d,k.B.length<=1048576)(h1:1<=c)(h8:c<=8):
 Calls prog 56 #[.agg #[Zg c,Zg now,Zg l,Zg f,.slice a d.length I,P,L]] w fun e s=>∃b,e=.returned (.bool b)/\(b=true↔d.length<=600/\∀(i:Nat) k,d[i]?=some k->DP c d i k)/\Zz w s:=by
 have zC:Below w.heap.size w (w.alloc (.cells #[Zg c,Zg now,Zg l,Zg f,.slice a d.length I,P,L] 27)):=Zy;by_cases hn:600<d.length
 .go_enter func56,ntmps56;go_wp2;go_ret;exact⟨_,rfl,by simp;intro h;omega,zC⟩
 .have Y:=Aq.new w c now l f (.slice a d.length I) P L 27;go_enter func56,ntmps56;go_wp2
  go_loopw [12] (fun i wr=>∃k:Nat,k<=d.length/\i=Zg k/\Zz w wr/\Aq wr w.heap.size c now l f (.slice a d.length I) P L/\Hid (∀j x,j<k->d[j]?=some x->DP c d j x)) (fun i _=>d.length -(intOf i).toNat)
  case atStart=>exact⟨0,Nat.zero_le _,rfl,zC,Y,fun j x h=>by omega⟩
  case round=>
   obtain⟨k,hk,rfl,g,zA,o⟩:=hrel;by_cases hlt:k<d.length
   .obtain⟨b,off,ha,hb,X⟩:=(B.below g).at hlt;subst ha;have D:d[k]?=some d[k]:=Zv hlt;obtain⟨V,W,c2,r,t,c3,Q⟩:=X k _ D;obtain⟨Z,x1,x2,x3,x4,x5,x6,J⟩:=zA;have v:=List.getElem_mem hlt;have G:=hm.F _ v;have H:=T _ v
    match k,hk,hlt,o,D,V,W,c2,c3,Q,G,H with
    |0,hk,hlt,o,D,V,W,c2,c3,Q,G,H=>
     have C:=Yw D;clear X B hm T v D;simp only[Nat.zero_mul,Nat.add_zero]at V W c2 c3;generalize d[0]=x at *
     go_wp2;go_quiet (fail);go_wp2;obtain⟨z,z1,R⟩:=TS.new (n:=nq) (ty:=65) (.string x.sum) (Zg x.born) (.string x.F) (.slice r x.B.length t) Z J;generalize hW1:(wr.alloc (Obj.cells #[Value.string x.sum,Value.int IntKind.i64 x.born,Value.string x.F,Value.slice r x.B.length t] 65)).drewN nq=W1 at *
     have E:Ab W1 W1.heap.size r x.B:=(Q.mono g.size).L z;have S:Aq W1 w.heap.size c now l f (.slice (some ⟨b,off,none⟩) d.length I) P L:=Aq.ah ⟨Z,x1,x2,x3,x4,x5,x6,J⟩ z J;obtain⟨t0,t1,t2,t3,t4⟩:=R;have q0:=Ae.cell t0 Yv;have q1:=Ae.cell t1 Yv;have q2:=Ae.cell t2 Yv;have q3:=Ae.cell t3 Yv;have zF:=Ae.ne W1
     have O:∀n:Ae W1,Calls prog 87 #[.agg #[.string x.F,.slice r x.B.length t],Zg c] n.w fun e s=>e=.returned (.bool (Az x.F x.B c))/\Below n.w.heap.size n.w s:=fun n=>Iy x.F r t x.B c _ (E.L n.h) H G
     have M:∀n:Ae W1,Calls prog 89 #[.agg #[.string x.F,.slice r x.B.length t],Zg c] n.w fun e s=>e=.returned (.string (AD x.F x.B c))/\Below n.w.heap.size n.w s:=fun n=>LN x.F r t x.B c _ (E.L n.h) H G;have N:∀n:Ae W1,Calls prog 88 #[.string (AD x.F x.B c),Zg c] n.w fun e s=>e=.returned (.string (sumOf x c))/\Below n.w.heap.size n.w s:=fun n=>MV _ c _ (Dm _ _ _) h1 h8;have A:=Yw (Zn M N)
     have u:=Yw O;clear M N O;generalize AD x.F x.B c=fx at *
     generalize hsx:sumOf x c=sx at *
     have m:=g.trans (z.mono g.size);cases hok:Az x.F x.B c with
     |false=>
      rw[hok]at u;refine Ai Yr Yr ?_
      repeat (go_big_quiet_step (exact Ae.calls (u.o _)))
      refine wpQuiet_nil ?_;intro n;go_wp2;go_ret;refine⟨_,rfl,?_,m.trans (n.h.mono m.size)⟩;simp;intro _;exact⟨_,_,C.o,fun h=>by rw[h.ok]at hok;cases hok⟩
     |true=>
      rw[hok]at u;by_cases hs:x.sum=sx
      .have U:(x.sum.toList !=sx.toList)=false:=by rw[hs];simp
       have HA:Hid (∀q y,q<0+1->d[q]?=some y->DP c d q y):=by
        intro q y hj F;rcases Nat.lt_or_ge q (0)with K|K
        .exact o.o q y K F
        .obtain rfl:q=0:=Yv
         rw[C.o]at F;cases F;exact⟨hok,by rw[hsx];exact hs,fun j p h=>by omega⟩
       refine Ai Yr Yr ?_
       repeat (go_big_quiet_step (first|exact Ae.calls (u.o _)|exact Ae.calls (A.o.1 _)|exact Ae.calls (A.o.2 _)))
       refine wpQuiet_nil ?_;intro n;go_wp2;exact⟨⟨0+1,Yv,Yn,m.trans (n.h.mono m.size),S.ah n.h Yv,HA⟩,Ys⟩
      .have U:(x.sum.toList !=sx.toList)=true:=by simp[Bu hs,bne]
       have zB:=Bu hs;refine Ai Yr Yr ?_
       repeat (go_big_quiet_step (first|exact Ae.calls (u.o _)|exact Ae.calls (A.o.1 _)|exact Ae.calls (A.o.2 _)))
       refine wpQuiet_nil ?_;intro n;go_wp2;go_ret;refine⟨_,rfl,?_,m.trans (n.h.mono m.size)⟩;simp;intro _;exact⟨_,_,C.o,fun h=>hs (by rw[<-hsx];exact h.sum)⟩
    |j+1,hk,hlt,o,D,V,W,c2,c3,Q,G,H=>
     have C:=Yw D;have HP:Hid (d[j]?=some d[j]):=Zv Yv;obtain⟨d0,_,_,_⟩:=X j _ HP.o;clear X B hm T v D;generalize d[j+1]=x at *
     generalize d[j]=p at *
     have zJ:IntKind.i64.wrap (j:Int)=(j:Int):=wrap_small Yv Yv;have zH:(0:Int)<=(j:Int):=Yv
     have zG:b<wr.heap.size:=Yv
     have zI:(j:Int)<(d.length:Int):=Yv
     cases hless:Op.bytesLess p.sum.toList x.sum.toList with
     |false=>go_wp2;go_quiet (fail);go_wp2;go_ret;refine⟨_,rfl,?_,AH (g.alloc g.size _) _⟩;simp;intro _;exact⟨_,_,C.o,fun h=>by have:=h.up j p rfl HP.o;unfold less at this;rw[hless]at this;cases this⟩
     |true=>
      go_wp2;go_quiet (fail);go_wp2;obtain⟨z,z1,R⟩:=TS.new (n:=nq) (ty:=65) (.string x.sum) (Zg x.born) (.string x.F) (.slice r x.B.length t) Z J;generalize hW1:(wr.alloc (Obj.cells #[Value.string x.sum,Value.int IntKind.i64 x.born,Value.string x.F,Value.slice r x.B.length t] 65)).drewN nq=W1 at *
      have E:Ab W1 W1.heap.size r x.B:=(Q.mono g.size).L z;have S:Aq W1 w.heap.size c now l f (.slice (some ⟨b,off,none⟩) d.length I) P L:=Aq.ah ⟨Z,x1,x2,x3,x4,x5,x6,J⟩ z J;obtain⟨t0,t1,t2,t3,t4⟩:=R;have q0:=Ae.cell t0 Yv;have q1:=Ae.cell t1 Yv;have q2:=Ae.cell t2 Yv;have q3:=Ae.cell t3 Yv;have zF:=Ae.ne W1
      have O:∀n:Ae W1,Calls prog 87 #[.agg #[.string x.F,.slice r x.B.length t],Zg c] n.w fun e s=>e=.returned (.bool (Az x.F x.B c))/\Below n.w.heap.size n.w s:=fun n=>Iy x.F r t x.B c _ (E.L n.h) H G
      have M:∀n:Ae W1,Calls prog 89 #[.agg #[.string x.F,.slice r x.B.length t],Zg c] n.w fun e s=>e=.returned (.string (AD x.F x.B c))/\Below n.w.heap.size n.w s:=fun n=>LN x.F r t x.B c _ (E.L n.h) H G;have N:∀n:Ae W1,Calls prog 88 #[.string (AD x.F x.B c),Zg c] n.w fun e s=>e=.returned (.string (sumOf x c))/\Below n.w.heap.size n.w s:=fun n=>MV _ c _ (Dm _ _ _) h1 h8;have A:=Yw (Zn M N)
      have u:=Yw O;clear M N O;generalize AD x.F x.B c=fx at *
      generalize hsx:sumOf x c=sx at *
      have m:=g.trans (z.mono g.size);cases hok:Az x.F x.B c with
      |false=>
       rw[hok]at u;refine Ai Yr Yr ?_
       repeat (go_big_quiet_step (exact Ae.calls (u.o _)))
       refine wpQuiet_nil ?_;intro n;go_wp2;go_ret;refine⟨_,rfl,?_,m.trans (n.h.mono m.size)⟩;simp;intro _;exact⟨_,_,C.o,fun h=>by rw[h.ok]at hok;cases hok⟩
      |true=>
       rw[hok]at u;by_cases hs:x.sum=sx
       .have U:(x.sum.toList !=sx.toList)=false:=by rw[hs];simp
        have HA:Hid (∀q y,q<(j+1)+1->d[q]?=some y->DP c d q y):=by
         intro q y hj F;rcases Nat.lt_or_ge q ((j+1))with K|K
         .exact o.o q y K F
         .obtain rfl:q=(j+1):=Yv
          rw[C.o]at F;cases F;exact⟨hok,by rw[hsx];exact hs,fun j2 p2 h zE=>by cases h;rw[HP.o]at zE;cases zE;exact hless⟩
        refine Ai Yr Yr ?_
        repeat (go_big_quiet_step (first|exact Ae.calls (u.o _)|exact Ae.calls (A.o.1 _)|exact Ae.calls (A.o.2 _)))
        refine wpQuiet_nil ?_;intro n;go_wp2;exact⟨⟨(j+1)+1,Yv,Yn,m.trans (n.h.mono m.size),S.ah n.h Yv,HA⟩,Ys⟩
       .have U:(x.sum.toList !=sx.toList)=true:=by simp[Bu hs,bne]
        have zB:=Bu hs;refine Ai Yr Yr ?_
        repeat (go_big_quiet_step (first|exact Ae.calls (u.o _)|exact Ae.calls (A.o.1 _)|exact Ae.calls (A.o.2 _)))
        refine wpQuiet_nil ?_;intro n;go_wp2;go_ret;refine⟨_,rfl,?_,m.trans (n.h.mono m.size)⟩;simp;intro _;exact⟨_,_,C.o,fun h=>hs (by rw[<-hsx];exact h.sum)⟩
   .go_wp2;go_ret;exact⟨_,rfl,by simp;exact⟨Yv,fun i x Y=>o.o i x (by have:=(Zw Y).1;omega) Y⟩,g⟩
end
section
attribute [local go_sem↓] Go.wp_at_zero Go.wp_at_succ
def CY(w:Zh)(b:Nat)(wd:Int)(m:Nat):Prop:=w.cell? (Zd b 0)=some (Zg wd)/\w.cell? (Zd b 1)=some (.map (some m))/\b<w.heap.size
theorem CY.new(w:Zh)(a:Int)(m:Nat)(t:TypeId):CY (w.alloc (.cells #[Zg a,.map (some m)] t)) w.heap.size a m:=⟨Yu,Yu,Yu⟩
theorem CY.ah{d:Zh}{b m:Nat}(h:CY w b e m)(a:Below B w d)(c:b<B):CY d b e m:=
 ⟨(a.cell (p:=⟨b,0,none⟩) c).trans h.1,(a.cell (p:=⟨b,1,none⟩) c).trans h.2.1,Zr h.2.2 a.size⟩
theorem Lz(r now g d:Int)(T P L:Value)(a:Zk)(K m:Nat)(I:List Kd)(c:List Pd)(w:Zh)(u:AM w w.heap.size a c)(hm:Gc c)(hl:c.length<=1048576)(q:∀s,Ur w r m I s)(hX:P=.slice a c.length K):
 Calls prog 58 #[.agg #[Zg r,Zg now,Zg g,Zg d,T,P,L],.agg #[Zg r,.map (some m)]] w fun e w'=>Ao (c.length<=100/\∀(i:Nat) x,c[i]?=some x->FK I c i x) w w' e:=by
 subst hX;have R:∀o1 o2,Zz w ((w.alloc o1).alloc o2):=fun o1 o2=>(Zy).alloc Yu _;by_cases hn:100<c.length
 .go_enter func58,ntmps58;go_wp2;go_ret;exact Ao.no (fun h=>by omega) (R _ _)
 .have Q:=Aq.below (Aq.new w r now g d T (.slice a c.length K) L 27) (Ad.alloc (Zx) (.cells #[Zg r,.map (some m)] 86));have hh:CY ((w.alloc (.cells #[Zg r,Zg now,Zg g,Zg d,T,(.slice a c.length K),L] 27)).alloc (.cells #[Zg r,.map (some m)] 86)) (w.heap.size+1) r m:=⟨by simp[go_sem],by simp[go_sem],Yu⟩;go_enter func58,ntmps58;go_wp2
  go_loopw [14] (fun i wr=>∃k:Nat,k<=c.length/\i=Zg k/\Zz w wr/\Hid (Aq wr w.heap.size r now g d T (.slice a c.length K) L)/\Hid (CY wr (w.heap.size+1) r m)/\Hid (∀(j:Nat) x,j<k->c[j]?=some x->FK I c j x)) (fun i _=>c.length -(intOf i).toNat)
  case atStart=>exact⟨0,Nat.zero_le _,rfl,R _ _,Q,hh,fun j x h=>by omega⟩
  case round=>
   obtain⟨k,Z,rfl,f,Y,W,l⟩:=hrel;obtain⟨x0,x1,x2,x3,x4,x5,x6,x7⟩:=Y.o;obtain⟨g0,g1,g2⟩:=W.o;by_cases hlt:k<c.length
   .obtain⟨b,off,ha,hb,O⟩:=(u.below f).at hlt;subst ha;have z:c[k]?=some c[k]:=Zv hlt;obtain⟨M,N⟩:=O k _ z;have t:=List.getElem_mem hlt;have J:=hm.name _ t;have zA:b<wr.heap.size:=Yv
    match k,Z,hlt,l,z,M,N,J with
    |0,Z,hlt,l,z,M,N,J=>
     have v:=Yw z;clear O u hm t z;simp only[Nat.zero_mul,Nat.add_zero]at M N;generalize c[0]=x at *
     go_wp2;go_quiet (fail);have o:Below w.heap.size w ((wr.alloc (Obj.cells #[Value.string x.name,Value.string x.sum] 48)).drewN nq):=AH (f.alloc f.size _) _;have D:Below wr.heap.size wr ((wr.alloc (Obj.cells #[Value.string x.name,Value.string x.sum] 48)).drewN nq):=AH (Zy) _;obtain⟨ok,F,E⟩:=q x.sum;have V:=Yw (E _ o);clear q E;go_wp2_with fail;refine(LQ x.name _ J).mono ?_
     rintro e w1 ⟨rfl,rfl⟩;cases hnm:BV x.name with
     |false=>go_wp2;go_ret;refine Ao.no (fun h=> ?_) (o);exact by have:=(h.2 _ _ v.o).name;rw[hnm]at this;cases this
     |true=>
      go_wp2_with fail;refine V.Am ?_;rintro e w2 ⟨rfl,B⟩;have A:=o.trans (B.mono o.size);have C:=D.trans (B.mono D.size);cases ok with
      |false=>go_wp2;go_ret;refine Ao.no (fun h=> ?_) (A);exact by have:=F.2 (h.2 _ _ v.o).sum;cases this
      |true=>
       have U:Hid (∀(n:Nat) y,n<0+1->c[n]?=some y->FK I c n y):=by
        intro n y hj G;rcases Nat.lt_or_ge n (0)with H|H
        .exact l.o n y H G
        .obtain rfl:n=0:=Yv
         rw[v.o]at G;cases G;exact⟨hnm,fun j p h=>by omega,F.1 rfl⟩
       go_wp2;exact⟨⟨0+1,Yv,Yn,A,Aq.ah Y.o C x7,CY.ah W.o C g2,U⟩,Ys⟩
    |j+1,Z,hlt,l,z,M,N,J=>
     have v:=Yw z;have X:Hid (c[j]?=some c[j]):=Zv Yv;obtain⟨d0,_⟩:=O j _ X.o;clear O u hm t z;generalize c[j+1]=x at *
     generalize c[j]=p at *
     have zE:IntKind.i64.wrap (j:Int)=(j:Int):=wrap_small Yv Yv;have zB:(0:Int)<=(j:Int):=Yv
     have zC:(j:Int)<(c.length:Int):=Yv
     cases hless:Op.bytesLess p.name.toList x.name.toList with
     |false=>go_wp2;go_quiet (fail);go_wp2;go_ret;refine Ao.no (fun h=> ?_) (AH (f.alloc f.size _) _);exact by have:=(h.2 _ _ v.o).up j p rfl X.o;unfold less at this;rw[hless]at this;cases this
     |true=>
      go_wp2;go_quiet (fail);have o:Below w.heap.size w ((wr.alloc (Obj.cells #[Value.string x.name,Value.string x.sum] 48)).drewN nq):=AH (f.alloc f.size _) _;have D:Below wr.heap.size wr ((wr.alloc (Obj.cells #[Value.string x.name,Value.string x.sum] 48)).drewN nq):=AH (Zy) _;obtain⟨ok,F,E⟩:=q x.sum;have V:=Yw (E _ o);clear q E;go_wp2_with fail;refine(LQ x.name _ J).mono ?_
      rintro e w1 ⟨rfl,rfl⟩;cases hnm:BV x.name with
      |false=>go_wp2;go_ret;refine Ao.no (fun h=> ?_) (o);exact by have:=(h.2 _ _ v.o).name;rw[hnm]at this;cases this
      |true=>
       go_wp2_with fail;refine V.Am ?_;rintro e w2 ⟨rfl,B⟩;have A:=o.trans (B.mono o.size);have C:=D.trans (B.mono D.size);cases ok with
       |false=>go_wp2;go_ret;refine Ao.no (fun h=> ?_) (A);exact by have:=F.2 (h.2 _ _ v.o).sum;cases this
       |true=>
        have U:Hid (∀(n:Nat) y,n<(j+1)+1->c[n]?=some y->FK I c n y):=by
         intro n y hj G;rcases Nat.lt_or_ge n ((j+1))with H|H
         .exact l.o n y H G
         .obtain rfl:n=(j+1):=Yv
          rw[v.o]at G;cases G;exact⟨hnm,fun j2 p2 h S=>by cases h;rw[X.o]at S;cases S;exact hless,F.1 rfl⟩
        go_wp2;exact⟨⟨(j+1)+1,Yv,Yn,A,Aq.ah Y.o C x7,CY.ah W.o C g2,U⟩,Ys⟩
   .go_wp2;go_ret;exact Ao.yes ⟨Yv,fun i x Q=>l.o i x (by have:=(Zw Q).1;omega) Q⟩ f
theorem Kj(C now c g:Int)(T P L:Value)(a:Zk)(ac m:Nat)(ks:List Kd)(d:List Ld)(w:Zh)(G:AN w w.heap.size a d)(hm:JV d)(hl:d.length<=1048576)(zB:0<=now)(zC:now<=1000000000)(v:∀s,Ur w C m ks s)(hX:L=.slice a d.length ac):
 Calls prog 59 #[.agg #[Zg C,Zg now,Zg c,Zg g,T,P,L],.agg #[Zg C,.map (some m)]] w fun e w'=>Ao (d.length<=200/\∀(i:Nat) x,d[i]?=some x->EF now c ks d i x) w w' e:=by
 subst hX;have U:∀o1 o2,Zz w ((w.alloc o1).alloc o2):=fun o1 o2=>(Zy).alloc Yu _;by_cases hn:200<d.length
 .go_enter func59,ntmps59;go_wp2;go_ret;exact Ao.no (fun h=>by omega) (U _ _)
 .have V:=Aq.below (Aq.new w C now c g T P (.slice a d.length ac) 27) (Ad.alloc (Zx) (.cells #[Zg C,.map (some m)] 86));have hh:CY ((w.alloc (.cells #[Zg C,Zg now,Zg c,Zg g,T,P,(.slice a d.length ac)] 27)).alloc (.cells #[Zg C,.map (some m)] 86)) (w.heap.size+1) C m:=⟨by simp[go_sem],by simp[go_sem],Yu⟩;go_enter func59,ntmps59;go_wp2
  go_loopw [14] (fun i wr=>∃k:Nat,k<=d.length/\i=Zg k/\Zz w wr/\Hid (Aq wr w.heap.size C now c g T P (.slice a d.length ac))/\Hid (CY wr (w.heap.size+1) C m)/\Hid (∀(j:Nat) x,j<k->d[j]?=some x->EF now c ks d j x)) (fun i _=>d.length -(intOf i).toNat)
  case atStart=>exact⟨0,Nat.zero_le _,rfl,U _ _,V,hh,fun j x h=>by omega⟩
  case round=>
   obtain⟨k,hk,rfl,f,O,X,n⟩:=hrel;obtain⟨x0,x1,x2,x3,x4,x5,x6,x7⟩:=O.o;obtain⟨g0,g1,g2⟩:=X.o;by_cases hlt:k<d.length
   .obtain⟨b,off,ha,hb,hc⟩:=(G.below f).at hlt;subst ha;have J:d[k]?=some d[k]:=Zv hlt;obtain⟨R,S,c2⟩:=hc k _ J;have F:=List.getElem_mem hlt;have m1:=hm.sum _ F;have zE:b<wr.heap.size:=Yv
    match k,hk,hlt,n,J,R,S,c2,m1 with
    |0,hk,hlt,n,J,R,S,c2,m1=>
     have q:=Yw J;clear hc G hm F J;simp only[Nat.zero_mul,Nat.add_zero]at R S c2;generalize d[0]=x at *
     go_wp2;go_quiet (fail);have l:Below w.heap.size w ((wr.alloc (Obj.cells #[Value.int IntKind.i64 x.I,Value.string x.sum,Value.int IntKind.i64 x.Y] 50)).drewN nq):=AH (f.alloc f.size _) _;have A:Below wr.heap.size wr ((wr.alloc (Obj.cells #[Value.int IntKind.i64 x.I,Value.string x.sum,Value.int IntKind.i64 x.Y] 50)).drewN nq):=AH (Zy) _
     have Y:((wr.alloc (Obj.cells #[Value.int IntKind.i64 x.I,Value.string x.sum,Value.int IntKind.i64 x.Y] 50)).drewN nq).cell? (Zd (wr.heap.size) 2)=some (Zg x.Y):=by rw[Ht];simp
     have Z:((wr.alloc (Obj.cells #[Value.int IntKind.i64 x.I,Value.string x.sum,Value.int IntKind.i64 x.Y] 50)).drewN nq).heap.size=wr.heap.size+1:=by rw[Hu];simp
     obtain⟨ok,B,M⟩:=v x.sum;have W:=Yw (M _ l);have N:=Yw (Zn Y Z);clear v M Y Z;by_cases hlo:1<=x.I
     .have E:decide (x.I<1)=false:=Yt
      by_cases hhi:x.I<=c
      .have D:decide (c<x.I)=false:=Yt
       go_wp2_with fail;refine W.Am ?_;rintro e w2 ⟨rfl,r⟩;have z:=l.trans (r.mono l.size);have t:=A.trans (r.mono A.size);cases ok with
       |false=>go_wp2;go_ret;refine Ao.no (fun h=> ?_) (z);exact by have:=B.2 (h.2 _ _ q.o).sum;cases this
       |true=>
        obtain⟨y0,y1,y2,y3,y4,y5,y6,y7⟩:=Aq.ah O.o t x7;have e2:=(r.cell (p:=⟨wr.heap.size,2,none⟩) (by rw[N.o.2];simp)).trans N.o.1;have u:=Yw (Zn z (Zn (Aq.ah O.o t x7) (CY.ah X.o t g2)));have HO:=Yw (B.1 rfl);clear x0 x1 x2 x3 x4 x5 x6 g0 g1 A r z t O X B W N U V hh f m1 R S c2 l;by_cases ht1:now<x.Y
        .have H:decide (x.Y<=now)=false:=Yt
         by_cases ht2:x.Y<=now+100000
         .have I:decide (now+100000<x.Y)=false:=Yt
          have HA:Hid (∀(o:Nat) y,o<0+1->d[o]?=some y->EF now c ks d o y):=by
           intro o y hj Q;rcases Nat.lt_or_ge o (0)with h'|h'
           .exact n.o o y h' Q
           .obtain rfl:o=0:=Yv
            rw[q.o]at Q;cases Q;exact⟨hlo,hhi,fun j p h=>by omega,HO.o,ht1,ht2⟩
          go_wp2;exact⟨⟨0+1,Yv,Yn,u.o.1,u.o.2.1,u.o.2.2,HA⟩,Ys⟩
         .have I:decide (now+100000<x.Y)=true:=Yt
          go_wp2;go_ret;refine Ao.no (fun h=> ?_) (u.o.1);exact by have:=(h.2 _ _ q.o).fy;omega
        .have H:decide (x.Y<=now)=true:=Yt
         go_wp2;go_ret;refine Ao.no (fun h=> ?_) (u.o.1);exact by have:=(h.2 _ _ q.o).gh;omega
      .have D:decide (c<x.I)=true:=Yt
       go_wp2;go_ret;refine Ao.no (fun h=> ?_) (l);exact by have:=(h.2 _ _ q.o).hi;omega
     .have E:decide (x.I<1)=true:=Yt
      go_wp2;go_ret;refine Ao.no (fun h=> ?_) (l);exact by have:=(h.2 _ _ q.o).y;omega
    |j+1,hk,hlt,n,J,R,S,c2,m1=>
     have q:=Yw J;have HP:Hid (d[j]?=some d[j]):=Zv Yv;obtain⟨d0,_,_⟩:=hc j _ HP.o;clear hc G hm F J;generalize d[j+1]=x at *
     generalize d[j]=p at *
     have zH:IntKind.i64.wrap (j:Int)=(j:Int):=wrap_small Yv Yv;have zF:(0:Int)<=(j:Int):=Yv
     have zG:(j:Int)<(d.length:Int):=Yv
     by_cases hless:p.I<x.I
     .have K:decide (x.I<=p.I)=false:=Yt
      go_wp2;go_quiet (fail);have l:Below w.heap.size w ((wr.alloc (Obj.cells #[Value.int IntKind.i64 x.I,Value.string x.sum,Value.int IntKind.i64 x.Y] 50)).drewN nq):=AH (f.alloc f.size _) _;have A:Below wr.heap.size wr ((wr.alloc (Obj.cells #[Value.int IntKind.i64 x.I,Value.string x.sum,Value.int IntKind.i64 x.Y] 50)).drewN nq):=AH (Zy) _
      have Y:((wr.alloc (Obj.cells #[Value.int IntKind.i64 x.I,Value.string x.sum,Value.int IntKind.i64 x.Y] 50)).drewN nq).cell? (Zd (wr.heap.size) 2)=some (Zg x.Y):=by rw[Ht];simp
      have Z:((wr.alloc (Obj.cells #[Value.int IntKind.i64 x.I,Value.string x.sum,Value.int IntKind.i64 x.Y] 50)).drewN nq).heap.size=wr.heap.size+1:=by rw[Hu];simp
      obtain⟨ok,B,M⟩:=v x.sum;have W:=Yw (M _ l);have N:=Yw (Zn Y Z);clear v M Y Z;by_cases hlo:1<=x.I
      .have E:decide (x.I<1)=false:=Yt
       by_cases hhi:x.I<=c
       .have D:decide (c<x.I)=false:=Yt
        go_wp2_with fail;refine W.Am ?_;rintro e w2 ⟨rfl,r⟩;have z:=l.trans (r.mono l.size);have t:=A.trans (r.mono A.size);cases ok with
        |false=>go_wp2;go_ret;refine Ao.no (fun h=> ?_) (z);exact by have:=B.2 (h.2 _ _ q.o).sum;cases this
        |true=>
         obtain⟨y0,y1,y2,y3,y4,y5,y6,y7⟩:=Aq.ah O.o t x7;have e2:=(r.cell (p:=⟨wr.heap.size,2,none⟩) (by rw[N.o.2];simp)).trans N.o.1;have u:=Yw (Zn z (Zn (Aq.ah O.o t x7) (CY.ah X.o t g2)));have HO:=Yw (B.1 rfl);clear x0 x1 x2 x3 x4 x5 x6 g0 g1 A r z t O X B W N U V hh f m1 R S c2 l;by_cases ht1:now<x.Y
         .have H:decide (x.Y<=now)=false:=Yt
          by_cases ht2:x.Y<=now+100000
          .have I:decide (now+100000<x.Y)=false:=Yt
           have HA:Hid (∀(o:Nat) y,o<(j+1)+1->d[o]?=some y->EF now c ks d o y):=by
            intro o y hj Q;rcases Nat.lt_or_ge o ((j+1))with h'|h'
            .exact n.o o y h' Q
            .obtain rfl:o=(j+1):=Yv
             rw[q.o]at Q;cases Q;exact⟨hlo,hhi,fun j2 p2 h zA=>by cases h;rw[HP.o]at zA;cases zA;exact hless,HO.o,ht1,ht2⟩
           go_wp2;exact⟨⟨(j+1)+1,Yv,Yn,u.o.1,u.o.2.1,u.o.2.2,HA⟩,Ys⟩
          .have I:decide (now+100000<x.Y)=true:=Yt
           go_wp2;go_ret;refine Ao.no (fun h=> ?_) (u.o.1);exact by have:=(h.2 _ _ q.o).fy;omega
         .have H:decide (x.Y<=now)=true:=Yt
          go_wp2;go_ret;refine Ao.no (fun h=> ?_) (u.o.1);exact by have:=(h.2 _ _ q.o).gh;omega
       .have D:decide (c<x.I)=true:=Yt
        go_wp2;go_ret;refine Ao.no (fun h=> ?_) (l);exact by have:=(h.2 _ _ q.o).hi;omega
      .have E:decide (x.I<1)=true:=Yt
       go_wp2;go_ret;refine Ao.no (fun h=> ?_) (l);exact by have:=(h.2 _ _ q.o).y;omega
     .have K:decide (x.I<=p.I)=true:=Yt
      go_wp2;go_quiet (fail);go_wp2;go_ret;refine Ao.no (fun h=> ?_) (AH (f.alloc f.size _) _);exact by have:=(h.2 _ _ q.o).up j p rfl HP.o;omega
   .go_wp2;go_ret;exact Ao.yes ⟨Yv,fun i x V=>n.o i x (by have:=(Zw V).1;omega) V⟩ f
end
theorem KH(t u:Zi)(a b:Zk)(c d:Nat)(f g:Zl)(w:Zh)(s:Ab w w.heap.size a f)(r:Ab w w.heap.size b g)(hl:f.length<=100000)(zB:g.length<=1048576):
 Calls prog 153 #[.agg #[.string t,.slice a f.length c],.agg #[.string u,.slice b g.length d]] w fun e w'=>Ao (t=u/\f=g) w w' e:=by
 obtain⟨W,v⟩:=Af ((w.alloc (.cells #[.string t,.slice a f.length c] 63)).alloc (.cells #[.string u,.slice b g.length d] 63));have C:=(Bf v).1;have m:=(Bf v).2.2.1;have n:Aa W (w.heap.size+1) [.string u,.slice b g.length d]:=by have D:=Aa.new (w.alloc (.cells #[.string t,.slice a f.length c] 63)) [.string u,.slice b g.length d] 63;rw[World.size_alloc]at D;rw[v];exact D
 have HX:Hid (∀X,Zz W X->Aa X w.heap.size [.string t,.slice a f.length c]/\Aa X (w.heap.size+1) [.string u,.slice b g.length d]/\Ab X w.heap.size a f/\Ab X w.heap.size b g/\Zz w X):=fun X I=>by have z:=C.trans (I.mono C.size);exact⟨Aa.below m I,Aa.below n I,s.below z,r.below z,z⟩
 obtain⟨y0,K⟩:=Aa.c2 m 0 1;obtain⟨z0,L⟩:=Aa.c2 n 0 1;have B:=Yw v;clear v s r m n;by_cases ht:t=u
 .subst ht;have G:(t.toList !=t.toList)=false:=Yu
  by_cases hlen:f.length=g.length
  .have R:((f.length:Int) !=(g.length:Int))=false:=Yt
   have o:=Yw hlen;clear hlen;go_enter func153,ntmps153;go_upto_region 1 with fail;rw[<-B.o];clear B;go_wp2
   go_loopw [5] (fun i wr=>∃k:Nat,k<=f.length/\i=Zg k/\Hid (f.take k=g.take k/\Zz W wr)) (fun i _=>f.length -(intOf i).toNat)
   case atStart=>exact⟨0,Nat.zero_le _,rfl,⟨Yu,Ad⟩⟩
   case round=>
    clear y0 K z0 L;obtain⟨k,hk,rfl,A⟩:=hrel;obtain⟨m,n,s,r,l⟩:=HX.o wr A.o.2;obtain⟨K,_⟩:=m 1 _ rfl;obtain⟨L,_⟩:=n 1 _ rfl;by_cases hlt:k<f.length
    .have j:k<g.length:=by have:=o.o;omega
     obtain⟨rb,ro,ha,U,F⟩:=s.at hlt;obtain⟨qb,qo,z,T,E⟩:=r.at j;subst ha z;have c0:=F k _ (Zv hlt);have d0:=E k _ (Zv j);have zE:=Zr U l.size;have zC:=Zr T l.size;have P:=Yw (Zu hlt);have Q:=Yw (Zu j);have HN:Hid (∀x y,f[k]?=some x->g[k]?=some y->x≠y->f≠g):=fun x y D J S e=>by subst e;rw[D]at J;exact S (Option.some.inj J)
     have N:=Yw (Zv hlt);have O:=Yw (Zv j);have zA:(k:Int)<g.length:=Yv
     clear F E;generalize f[k]=x at *
     generalize g[k]=y at *
     have HB:=Yw A.o.2;have M:=Yw l;clear m n s r l;by_cases hxy:x=y
     .subst hxy;have H:(x.toList !=x.toList)=false:=Yu
      go_wp2
      go_region
      all_goals go_wp2
      all_goals exact⟨⟨k+1,Yv,Yn,⟨by rw[P.o,Q.o,A.o.1],HB.o.drew⟩⟩,Ys⟩
     .have H:=Bu hxy;have Z:(x.toList !=y.toList)=true:=by simp[bne,H]
      go_wp2
      go_region
      all_goals go_wp2
      all_goals go_ret
      all_goals exact Ao.no (fun h=>HN.o x y N.o O.o hxy h.2) M.o.drew
    .obtain rfl:k=f.length:=Yv
     have q:=A.o.1;rw[Zt (Zx),Zt (by have:=o.o;omega)]at q;clear m n s r;go_wp2;go_ret;exact Ao.yes ⟨by trivial,q⟩ l
  .have R:((f.length:Int)==(g.length:Int))=false:=Yt
   have V:((f.length:Int) !=(g.length:Int))=true:=Yt
   go_enter func153,ntmps153;go_upto_region 1 with fail;rw[<-B.o];go_wp2;go_ret;exact Ao.no (fun h=>hlen (by rw[h.2])) C
 .have G:=Bu ht;have Y:(t.toList !=u.toList)=true:=by simp[bne,G]
  go_enter func153,ntmps153;go_upto_region 1 with fail;rw[<-B.o];go_wp2;go_ret;exact Ao.no (fun h=>ht h.1) C
theorem Mg(a b:Zk)(c d:Nat)(f h:Zl)(w:Zh)(N:Ab w w.heap.size a f)(M:Ab w w.heap.size b h)(ha:a=none->f.length=0/\c=0)(hb:b=none->h.length=0/\d=0)(hl:f.length<=1048576)(zA:h.length<=1048576):
 Calls prog 69 #[.agg #[.slice a f.length c,.slice b h.length d]] w fun e S=>∃g cap,e=.returned (Yz g (f++h).length cap)/\S.ownsRow w.heap.size 9 1 (Yz g (f++h).length cap) (f++h).length ((f++h).map Value.string)/\Zz w S:=by
 obtain⟨O,L,y,z,A⟩:=info_parts BO;obtain⟨W,m⟩:=Af (w.alloc (.cells #[.slice a f.length c,.slice b h.length d] 67));have o:=(AL m).1;have zW:=(AL m).2.1;have F:=(AL m).2.2;have B:Below W.heap.size W (W.alloc (.cells #[] 9)):=Zy;have Q:(W.alloc (.cells #[] 9)).drew.ownsRow (w.heap.size+1) 9 1 (Yz (w.heap.size+1) 0 0) 0 (([]:Zl).map Value.string):=by have K:=World.ownsRow_lit (base:=w.heap.size+1) (e:=9) (size:=1) W #[] 0 Yv Yo rfl;rw[zW]at K;exact K
 have R:=(Ab.below N (o.trans (B.drew.mono o.size))).ay;have H:=Aa.below F B;obtain⟨y0,y1⟩:=Aa.c2 F 0 1;obtain⟨z0,z1⟩:=Aa.c2 H 0 1;have I:=Yw m;have J:=Yw (Zn H (o.trans (B.mono o.size)));have X:Hid (Ab w w.heap.size b h):=M;clear m F H N M;go_enter func69,ntmps69;go_upto_region 1 with fail;rw[<-I.o];clear I
 go_region_law (first
  |(refine Ax (W.alloc (.cells #[] 9)).drew rfl (.tmp 3) (.tmp 5) 29 rfl (w.heap.size+1) 9 O Zc 16 underlying29 L y z A rfl (w.heap.size+1) 0 0 [] rfl Q a f.length c f rfl rfl ha R Yo Yv Ym ?_;intro D q E l j r t;simp only[Nat.zero_add,List.nil_append]at l;have G:Aa E w.heap.size [.slice a f.length c,.slice b h.length d]:=(Aa.same J.o.1 (j.block _ Ym Ym));have n:Below w.heap.size w E:=(J.o.2.drew.grown j Ym (fun k C=>by cases C;omega));have Y:=(G 0 _ rfl).1;have Z:=(G 1 _ rfl).1;have r6:=(Ab.below X.o n).ay;have U:=j.size;simp at U)
  |(refine Ax E rfl (.tmp 6) (.tmp 8) 29 rfl (w.heap.size+1) 9 O Zc 16 underlying29 L y z A rfl D f.length q f rfl l b h.length d h rfl rfl hb r6 Yo Yv Yv ?_;intro P i T x v s u))
 all_goals
  have l6:w.heap.size+1<=D:=(l.lt D rfl).1;have V:Hid (T.ownsRow w.heap.size 9 1 (Yz P (f.length+h.length) i) (f.length+h.length) ((f++h).map Value.string)/\Zz w T):=⟨x.mono Yv,n.grown v n.size (fun k C=>by cases C;omega)⟩;clear l j r t G n Y Z r6 U x v s u Q R y0 y1 z0 z1;go_wp2;go_ret;rw[List.length_append];exact⟨P,i,rfl,V.o⟩
end Go.Proofs.YtcfjcdpkpiidkaaGreat
