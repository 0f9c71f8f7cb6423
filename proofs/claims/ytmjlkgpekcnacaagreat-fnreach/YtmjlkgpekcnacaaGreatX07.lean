import Derived.Test.YtmjlkgpekcnacaaGreatX04
import Derived.Test.YtmjlkgpekcnacaaGreatRows
import Derived.OpenShut
import Derived.ShutString
import Derived.Orders
import Derived.Laws.BytesArg
set_option maxRecDepth 100000
set_option maxHeartbeats 16000000
namespace Go.Proofs.YtmjlkgpekcnacaaGreat
open Go.ChangeShapes Go.WideShapes Go.ChangeAt Go.RowKit _root_.Go.Proofs.Tryz
variable{k b i c id last N n g:Nat}{a:Zk}{P:Program}{w f:Zh}{o:Oper}{e t:Zi}{p:Int}{d:Zl}{v:Value}
theorem own:ownKnob prog.godebug=none:=Ys
theorem laidOut:laidOutB prog=true:=Ys
def Bn(L:Nat->Bool)(i:Nat):Nat->Bool:=fun j=>if j=i then true else L j
theorem Jf{k:Region.Mode}{b:Array Oper}{a:Array Bool}:i∈Region.ready k b a↔i<b.size/\a.getD i true=false/\∃o,b[i]?=some o/\∀e∈o.after,Region.binds k e=true->a.getD e.on false=true:=by
 unfold Region.ready;rw[List.mem_filter,List.mem_range];constructor
 .rintro⟨f,c⟩;rw[Bool.and_eq_true,Bool.not_eq_true']at c;have g:b[i]?=some b[i]:=Array.getElem?_eq_getElem f;refine⟨f,c.1,_,g,fun e j h=> ?_⟩;have d:=c.2;rw[g]at d;simp only[Option.map_some,Option.getD_some,Array.all_eq_true_iff_forall_mem]at d;have l:=d e j;rw[h]at l;simpa using l
 .rintro⟨f,c,o,g,d⟩;refine⟨f,?_⟩;rw[c,g];simp only[Option.map_some,Option.getD_some,Bool.not_false,Bool.true_and,Array.all_eq_true_iff_forall_mem];intro e j;cases h:Region.binds k e with
  |false=>rfl
  |true=>simpa using d e j h
theorem Pe:∀(l:List Bool) (i:Nat),l[i]?=some false->((l.set i true).filter (! ·)).length+1=(l.filter (! ·)).length
 |[],i,h=>by simp at h
 |x::l,0,h=>by simp at h;simp[h]
 |x::l,i+1,h=>by have:=Pe l i (by simpa using h);cases x<;>simp at this |-<;>omega
theorem UB{c:Array Oper}{Q:Exit->Act->Zh->Prop}(I:(Nat->Bool)->Act->Zh->Prop)(E:∀L a w i o,I L a w->c[i]?=some o->L i=false->(∀e∈o.after,Region.binds .any e=true->L e.on=true)->wpOp P c Q i (I (Bn L i)) a w)(x:∀L a w,I L a w->(∀i,i<c.size->L i=true)->Q .normal a w)(A:∀i o,c[i]?=some o->∀e∈o.after,Region.binds .any e=true->e.on<i):
 ∀(d:Nat) (b:Array Bool) (a:Act) (w:Zh),b.size=c.size->(b.toList.filter (! ·)).length<=d->I (fun j=>b.getD j false) a w->wpAny P .any c Q d b a w:=by
 have t:∀b:Array Bool,b.size=c.size->Region.ready .any c b=[]->∀i,i<c.size->b.getD i false=true:=by
  intro b s u i;induction i using Nat.strongRecOn with
  |_ i ih=>
   intro r;cases hv:b.getD i false with
   |true=>rfl
   |false=>
    have l:i∈Region.ready .any c b:=by
     refine Jf.2 ⟨r,?_,_,Array.getElem?_eq_getElem r,fun e D B=> ?_⟩
     .rw[Array.getD_eq_getD_getElem?,Array.getElem?_eq_getElem Yv]at hv |-;simpa using hv
     .have n:=A i _ (Array.getElem?_eq_getElem r) e D B;exact ih e.on n Yv
    rw[u]at l;cases l
 intro d;induction d with
 |zero=>
  intro b a w s C q;have n:∀i,i<c.size->b.getD i false=true:=by
   intro i r;cases hv:b.getD i false with
   |true=>rfl
   |false=>exfalso;have m:(b.toList.filter (! ·))=[]:=List.eq_nil_of_length_eq_zero Yv;rw[List.filter_eq_nil_iff]at m;rw[Array.getD_eq_getD_getElem?,Array.getElem?_eq_getElem Yv]at hv;have:=m (b[i]'(by omega)) Yu;simp at hv;simp[hv]at this
  refine⟨?_,x _ a w q n⟩;rw[List.eq_nil_iff_forall_not_mem];intro i l;obtain⟨m,f,_⟩:=Jf.1 l;have g:=n i m;rw[Array.getD_eq_getD_getElem?,Array.getElem?_eq_getElem Yv]at f g;simp at f g;rw[f]at g;cases g
 |succ d ih=>
  intro b a w s C q;refine⟨fun u=>x _ a w q (t b s u),fun i l=> ?_⟩;obtain⟨m,f,o,g,z⟩:=Jf.1 l;have k:i<b.size:=Yv
  have v:b[i]=false:=by rw[Array.getD_eq_getD_getElem?,Array.getElem?_eq_getElem k]at f;simpa using f
  refine wpOp_mono (fun y F h=>ih _ y F (by simpa using s) ?_ ?_) (E _ a w i o q g ?_ z)
  .have G:((b.setIfInBounds i true).toList.filter (! ·)).length+1=(b.toList.filter (! ·)).length:=by rw[Array.toList_setIfInBounds];exact Pe _ i (by rw[Array.getElem?_toList,Array.getElem?_eq_getElem k,v])
   omega
  .have e:(fun j=>(b.setIfInBounds i true).getD j false)=Bn (fun j=>b.getD j false) i:=by
    funext j
    unfold Bn;by_cases hj:j=i
    .subst hj;simp[k]
    .simp[hj,Array.getD_eq_getD_getElem?,Array.getElem?_setIfInBounds_ne (Ne.symm hj)]
   rw[e];exact h
  .show b.getD i false=false;rw[Array.getD_eq_getD_getElem?,Array.getElem?_eq_getElem k];simpa using v
theorem PX{b:Array Oper}{Q:Exit->Act->Zh->Prop}{a:Act}(g:P.follows .mixedOrders=true)(I:(Nat->Bool)->Act->Zh->Prop)(d:∀i o,b[i]?=some o->∀e∈o.after,Region.binds .any e=true->e.on<i)(c:I (fun _=>false) a w.drew)(h:∀L a w i o,I L a w->b[i]?=some o->L i=false->(∀e∈o.after,Region.binds .any e=true->L e.on=true)->wpOp P b Q i (I (Bn L i)) a w)(f:∀L a w,I L a w->(∀i,i<b.size->L i=true)->Q .normal a w):(Code.region k b true).wp P Q a w:=by
 refine wp_region_any g (UB I h f d b.size _ a _ Yu Yu ?_);have e:(fun j=>(Array.replicate b.size false).getD j false)=fun _=>false:=by
  funext j
  rw[Array.getD_eq_getD_getElem?];by_cases hj:j<b.size
  .simp[hj]
  .simp[hj]
 rw[e];exact c
theorem Nv(L:Nat->Bool)(i:Nat):∀n,i<n->L i=false->((List.range n).filter (Bn L i)).length=((List.range n).filter L).length+1
 |0,h,_=>absurd h (Nat.not_lt_zero _)
 |n+1,h,hL=>by
  rw[List.range_succ,List.filter_append,List.filter_append,List.length_append,List.length_append];by_cases hn:i=n
  .subst hn;have a:(List.range i).filter (Bn L i)=(List.range i).filter L:=List.filter_congr (fun x c=>by have:=List.mem_range.1 c;unfold Bn;rw[if_neg Yv]);rw[a];simp[Bn,hL]
  .have a:=Nv L i n Yv hL;have b:Bn L i n=L n:=by unfold Bn;rw[if_neg (Ne.symm hn)]
   rw[a];simp only[List.filter_cons,b,List.filter_nil];omega
def Hj(ops:Array Oper):Bool:=(List.range ops.size).all fun i=>((ops[i]?).map (·.after.all fun e=>decide (e.on<i))).getD true
theorem JW{a:Array Oper}(h:Hj a=true):∀i o,a[i]?=some o->∀e∈o.after,Region.binds .any e=true->e.on<i:=by intro i o c e d _;unfold Hj at h;rw[List.all_eq_true]at h;have b:=h i (List.mem_range.2 (Array.getElem?_eq_some_iff.1 c).1);rw[c]at b;simp only[Option.map_some,Option.getD_some,Array.all_eq_true_iff_forall_mem]at b;simpa using b e d
def Ha(ops:Array Oper)(i j:Nat):Bool:=((ops[i]?).map (·.after.any fun e=>e.on==j&&Region.binds .any e)).getD false
theorem GM{a:Array Oper}{j:Nat}(d:a[i]?=some o)(h:Ha a i j=true):∃e∈o.after,e.on=j/\Region.binds .any e=true:=by unfold Ha at h;rw[d]at h;simp only[Option.map_some,Option.getD_some,Array.any_eq_true']at h;obtain⟨e,c,b⟩:=h;rw[Bool.and_eq_true]at b;exact⟨e,c,eq_of_beq b.1,b.2⟩
def Nw(ops:Array Oper)(last:Nat):Bool:=(List.range last).all fun i=>Ha ops last i||(List.range last).any fun m=>Ha ops last m&&Ha ops m i
def LG(e:Edge):Bool:=match e.ground with
 |.data=>Region.binds .any e
 |_=>false
theorem KZ{e:Edge}(h:LG e=true):Region.binds .any e=true:=by
 unfold LG at h;split at h
 .exact h
 .cases h
def Vr(ops:Array Oper)(last:Nat)(kl:List (Nat×Nat)):Bool:=kl.all fun p=>(List.range last).all fun m=>m==p.1||(p.1<last&&Ha ops p.1 m)||((ops[m]?).map (·.after.all fun e=>e.on !=p.2|| !LG e)).getD true
theorem IL{b:Array Oper}{Q:Exit->Act->Zh->Prop}(last:Nat)(Z:P.follows .mixedOrders=true)(zG:b.size=last+1)(ha:Hj b=true)(Y:Nw b last=true)(A:List (Nat×Nat))(M:Vr b last A=true)(F:(Nat->Value)->Act)(S:Nat->Value)(J:(Nat->Bool)->Zh->Prop)(T:Nat->Zh->Value->Prop)(E:Nat->Zh->Zh->Prop)(hE:∀j i w r v,j≠i->(j,i)∉A->Ha b i j=false->E j w r->T i w v->T i r v)(hF:∀i o d v,i<last->b[i]?=some o->(F d).put o.dst v=F (fun j=>if j=i then v else d j))(h0:J (fun _=>false) w.drew)(hs:∀i o L d w,i<last->b[i]?=some o->L i=false->(∀e∈o.after,Region.binds .any e=true->L e.on=true)->J L w->(∀e∈o.after,LG e=true->T e.on w (d e.on))->∀K:Act->Zh->Prop,Hid (∀v r,T i r v->E i w r->J (Bn L i) r->K ((F d).put o.dst v) r)->if Region.wanted o (yielded b (F d).tmps)=true then Oper.wp P o (F d) w K Q else K ((F d).put o.dst undef) w)(hf:∀o L d w,b[last]?=some o->(∀i,i<last->L i=true)->J L w->(∀i,i<last->(∀j,(j,i)∉A)->T i w (d i))->∀K:Act->Zh->Prop,Hid (∀a w,Q .normal a w->K a w)->if Region.wanted o (yielded b (F d).tmps)=true then Oper.wp P o (F d) w K Q else K ((F d).put o.dst undef) w):
 (Code.region id b true).wp P Q (F S) w:=by
 refine PX Z (fun L a w=>if L last=true then (∀i,i<last->L i=true)/\Q .normal a w else ∃d,a=F d/\J L w/\(∀j o,j<last->b[j]?=some o->L j=true->∀e∈o.after,Region.binds .any e=true->L e.on=true)/\∀i,i<last->L i=true->(∀j,(j,i)∈A->L j=false)->T i w (d i)) (JW ha) ?_ ?_ ?_
 .rw[if_neg Yu];exact⟨S,rfl,h0,fun j o _ _ h=>by simp at h,fun i _ h=>by simp at h⟩
 .intro L a w i o s l y z;have hi:i<b.size:=(Array.getElem?_eq_some_iff.1 l).1;by_cases hil:i=last
  .subst hil;rw[if_neg (by rw[y];simp)]at s;obtain⟨d,rfl,W,G,H⟩:=s;have k:∀j,j<i->L j=true:=by
    intro j g;unfold Nw at Y;rw[List.all_eq_true]at Y;have c:=Y j (List.mem_range.2 g);rw[Bool.or_eq_true]at c;rcases c with c|c
    .obtain⟨e,q,V,n⟩:=GM l c;rw[<-V];exact z e q n
    .obtain⟨m,Z,u⟩:=List.any_eq_true.1 c;rw[Bool.and_eq_true]at u;obtain⟨e,q,V,n⟩:=GM l u.1;have zE:=List.mem_range.1 Z;have R:b[m]?=some b[m]:=Array.getElem?_eq_getElem Yv;obtain⟨U,B,e2,zB⟩:=GM R u.2;rw[<-e2];exact G m _ zE R (by rw[<-V];exact z e q n) U B zB
   refine wpOp_step l (fun K X=>hf o L d w l k W (fun j g hn=>H j g (k j g) (fun j' C=>absurd C (hn j'))) K (fun a w h=>X a w ?_));show if Bn L i i=true then _ else _
   rw[if_pos (by unfold Bn;rw[if_pos rfl])];exact⟨fun j g=>by unfold Bn;rw[if_neg Yv];exact k j g,h⟩
  .have t:i<last:=Yv
   have I:L last=false:=by
    cases h:L last with
    |false=>rfl
    |true=>rw[if_pos h]at s;have:=s.1 i t;rw[y]at this;cases this
   rw[if_neg (by rw[I];simp)]at s;obtain⟨d,rfl,W,G,H⟩:=s;have N:∀j,j<last->L j=true->Ha b j i=false:=fun j g f=>by
    cases c:Ha b j i with
    |false=>rfl
    |true=>have O:b[j]?=some b[j]:=Array.getElem?_eq_getElem Yv;obtain⟨U,B,u,h4⟩:=GM O c;have x:=G j _ g O f U B h4;rw[u,y]at x;cases x
   refine wpOp_step l (fun K X=>hs i o L d w t l y z W (fun e q n=>H e.on (by have:=JW ha i o l e q (KZ n);omega) (z e q (KZ n)) (fun j g=> ?_)) K (fun v r hv hw zA=>X _ r ?_))
   .unfold Vr at M;have c:=List.all_eq_true.1 (List.all_eq_true.1 M _ g) i (List.mem_range.2 t);rw[l]at c;simp only[Option.map_some,Option.getD_some,Bool.or_eq_true,beq_iff_eq,Array.all_eq_true_iff_forall_mem]at c;rcases c with(c|c)|c
    .rw[<-c];exact y
    .rw[Bool.and_eq_true]at c;cases f:L j with
     |false=>rfl
     |true=>have zC:j<last:=of_decide_eq_true c.1;have x:=N j zC f;rw[c.2]at x;cases x
    .have:=c e q;rw[n]at this;simp at this
   show if Bn L i last=true then _ else _
   rw[if_neg (by unfold Bn;rw[if_neg (Ne.symm hil),I];simp),hF i o d v t l];refine⟨_,rfl,zA,fun j o' g D f e q n=> ?_,fun j g f hN=> ?_⟩
   .have c:L e.on=true:=by
     by_cases hji:j=i
     .subst hji;rw[l]at D;cases D;exact z e q n
     .unfold Bn at f;rw[if_neg hji]at f;exact G j o' g D f e q n
    unfold Bn;rw[c];simp
   by_cases hji:j=i
   .subst hji;rw[if_pos rfl];exact hv
   .rw[if_neg hji];have zF:(i,j)∉A:=fun h=>by have:=hN i h;unfold Bn at this;rw[if_pos rfl]at this;cases this
    unfold Bn at f;rw[if_neg hji]at f;refine hE i j w r _ (fun e=>hji e.symm) zF (N j g f) hw (H j g f (fun j' C=> ?_));have:=hN j' C;unfold Bn at this;split at this
    .cases this
    .exact this
 .intro L a w s k;rw[if_pos (k last Yv)]at s;exact s.2
def Jg(last:Nat)(J:Nat->Zh->Prop):(Nat->Bool)->Zh->Prop:=fun L w=>J ((List.range last).filter L).length w
theorem Ue{J:Nat->Zh->Prop}(h:J 0 w):Jg last J (fun _=>false) w:=by unfold Jg;rw[show(List.range last).filter (fun _=>false)=[]from by simp];exact h
theorem Rj{L:Nat->Bool}(c:i<last)(b:L i=false):((List.range last).filter L).length<last:=by have d:=Nv L i last c b;have a:((List.range last).filter (Bn L i)).length<=(List.range last).length:=List.length_filter_le _ _;rw[List.length_range]at a;omega
theorem Uf{J:Nat->Zh->Prop}{L:Nat->Bool}(b:i<last)(a:L i=false)(h:J (((List.range last).filter L).length+1) w):Jg last J (Bn L i) w:=by unfold Jg;rw[Nv L i last b a];exact h
theorem Pf{J:Nat->Zh->Prop}{L:Nat->Bool}(a:∀i,i<last->L i=true)(h:Jg last J L w):J last w:=by have b:(List.range last).filter L=List.range last:=List.filter_eq_self.2 (fun x c=>a x (List.mem_range.1 c));unfold Jg at h;rw[b,List.length_range]at h;exact h
theorem Nx{c:Array Oper}{Q:Exit->Act->Zh->Prop}(last:Nat)(H:P.follows .mixedOrders=true)(s:c.size=last+1)(n:Hj c=true)(G:Nw c last=true)(F:(Nat->Value)->Act)(g:Nat->Value)(J:Nat->Zh->Prop)(T:Nat->Zh->Value->Prop)(E:Zh->Zh->Prop)(z:∀i w d v,E w d->T i w v->T i d v)(A:∀i o b v,i<last->c[i]?=some o->(F b).put o.dst v=F (fun j=>if j=i then v else b j))(t:J 0 w.drew)(I:∀i o k b w,i<last->c[i]?=some o->k<last->J k w->(∀e∈o.after,LG e=true->T e.on w (b e.on))->∀K:Act->Zh->Prop,Hid (∀v d,T i d v->E w d->J (k+1) d->K ((F b).put o.dst v) d)->if Region.wanted o (yielded c (F b).tmps)=true then Oper.wp P o (F b) w K Q else K ((F b).put o.dst undef) w)(D:∀o b w,c[last]?=some o->J last w->(∀i,i<last->T i w (b i))->∀K:Act->Zh->Prop,Hid (∀a w,Q .normal a w->K a w)->if Region.wanted o (yielded c (F b).tmps)=true then Oper.wp P o (F b) w K Q else K ((F b).put o.dst undef) w):
 (Code.region N c true).wp P Q (F g) w:=
 IL last H s n G [] rfl F g (Jg last J) T (fun _=>E) (fun _ i w d v _ _ _ C M=>z i w d v C M) A (Ue t) (fun i o L b w f q r _ l m K B=>I i o _ b w f q (Rj f r) l m K (fun v d u x y=>B.out v d u x (Uf f r y))) (fun o L b w q n l m=>D o b w q (Pf n l) (fun i f=>m i f (fun _ h=>by cases h)))
def Bb(a:Act):List Nat->(Nat->Value)->Nat->Act
 |[],_,_=>a
 |d::ds,xs,k=>Bb (a.put (some d) (xs k)) ds xs (k+1)
theorem UC(a:Act)(d:Nat)(v u:Value):(a.put (some d) v).put (some d) u=a.put (some d) u:=by simp[Act.put]
theorem Ny:∀(ds:List Nat) (a:Act) (xs:Nat->Value) (k d:Nat) (v:Value),d∉ds->(Bb a ds xs k).put (some d) v=Bb (a.put (some d) v) ds xs k
 |[],_,_,_,_,_,_=>rfl
 |e::ds,a,xs,k,d,v,h=>by have b:d≠e:=fun x=>h (by rw[x];exact List.mem_cons_self);show(Bb (a.put (some e) (xs k)) ds xs (k+1)).put (some d) v=Bb ((a.put (some d) v).put (some e) (xs k)) ds xs (k+1);rw[Ny ds _ xs (k+1) d v (fun x=>h (List.mem_cons_of_mem _ x)),Act.put_comm a (xs k) v (by simpa using b)]
theorem Gb:∀(ds:List Nat) (a:Act) (xs ys:Nat->Value) (k:Nat),(∀j,k<=j->xs j=ys j)->Bb a ds xs k=Bb a ds ys k
 |[],_,_,_,_,_=>rfl
 |d::ds,a,xs,ys,k,h=>by show Bb (a.put (some d) (xs k)) ds xs (k+1)=Bb (a.put (some d) (ys k)) ds ys (k+1);rw[h k (Zx)];exact Gb ds _ xs ys (k+1) (fun j b=>h j Yv)
theorem Pg:∀(ds:List Nat) (a:Act) (xs:Nat->Value) (k i d:Nat) (v:Value),ds.Nodup->ds[i]?=some d->(Bb a ds xs k).put (some d) v=Bb a ds (fun j=>if j=k+i then v else xs j) k
 |[],_,_,_,_,_,_,_,h=>by simp at h
 |e::ds,a,xs,k,0,d,v,hn,h=>by
  obtain rfl:e=d:=by simpa using h
  show(Bb (a.put (some e) (xs k)) ds xs (k+1)).put (some e) v=Bb (a.put (some e) (if k=k+0 then v else xs k)) ds _ (k+1);rw[Ny ds _ xs (k+1) e v (List.nodup_cons.1 hn).1,UC,if_pos (Nat.add_zero k).symm];exact Gb ds _ _ _ (k+1) (fun j b=>by rw[if_neg Yv])
 |e::ds,a,xs,k,i+1,d,v,hn,h=>by show(Bb (a.put (some e) (xs k)) ds xs (k+1)).put (some d) v=Bb (a.put (some e) (if k=k+(i+1)then v else xs k)) ds _ (k+1);rw[Pg ds _ xs (k+1) i d v (List.nodup_cons.1 hn).2 (by simpa using h),if_neg Yv];exact Gb ds _ _ _ (k+1) (fun j b=>by rw[show k+1+i=k+(i+1) by omega])
theorem SP(a:Act)(d:Nat):a.put (some d) (a.tmps.getD d undef)=a:=by
 obtain⟨t,b⟩:=a;show Act.mk (t.setIfInBounds d (t.getD d undef)) b=_;congr 1;apply Array.ext
 .simp
 .intro i e c;rw[Array.getElem_setIfInBounds];split
  .rename_i h
   subst h;simp[c]
  .rfl
theorem Mn:∀(ds:List Nat) (a:Act) (k:Nat),∃b,Bb a ds b k=a
 |[],a,_=>⟨fun _=>undef,rfl⟩
 |d::ds,a,k=>by obtain⟨b,h⟩:=Mn ds a (k+1);refine⟨fun j=>if j=k then a.tmps.getD d undef else b j,?_⟩;show Bb (a.put (some d) (if k=k then _ else _)) ds _ (k+1)=a;rw[if_pos rfl,SP];exact(Gb ds a _ b (k+1) (fun j c=>if_neg Yv)).trans h
def SQ(ops:Array Oper)(ds:List Nat):Bool:=(List.range ds.length).all fun i=>((ops[i]?).map (fun o=>decide (o.dst=ds[i]?))).getD false
theorem BS{b:Array Oper}{Q:Exit->Act->Zh->Prop}{a:Act}(d:List Nat)(last:Nat)(hlen:d.length=last)(B:Oper)(D:b[last]?=some B)(R:P.follows .mixedOrders=true)(F:b.size=last+1)(x:Hj b=true)(O:Nw b last=true)(k:SQ b d=true)(S:d.Nodup)(q:b.all (·.guard.isNone)=true)(n:List (Nat×Nat))(C:Vr b last n=true)(J:(Nat->Bool)->Zh->Prop)(T:Nat->Zh->Value->Prop)(E:Nat->Zh->Zh->Prop)(I:∀j i w g v,j≠i->(j,i)∉n->Ha b i j=false->E j w g->T i w v->T i g v)(H:J (fun _=>false) w.drew)(U:∀i o L c w,i<last->b[i]?=some o->L i=false->(∀e∈o.after,Region.binds .any e=true->L e.on=true)->J L w->(∀e∈o.after,LG e=true->T e.on w (c e.on))->∀K:Act->Zh->Prop,Hid (∀v g,T i g v->E i w g->J (Bn L i) g->K ((Bb a d c 0).put o.dst v) g)->Oper.wp P o (Bb a d c 0) w K Q)(N:∀L c w,(∀i,i<last->L i=true)->J L w->(∀i,i<last->(∀j,(j,i)∉n)->T i w (c i))->∀K:Act->Zh->Prop,Hid (∀a w,Q .normal a w->K a w)->Oper.wp P B (Bb a d c 0) w K Q):
 (Code.region id b true).wp P Q a w:=by
 subst hlen;have A:∀i o t,b[i]?=some o->Region.wanted o t=true:=fun i o t f=>by rw[Array.all_eq_true_iff_forall_mem]at q;have h:=q o (Array.mem_of_getElem? f);simp[Region.wanted,Option.isNone_iff_eq_none.1 h]
 obtain⟨G,l⟩:=Mn d a 0;have:=IL (id:=id) (w:=w) (Q:=Q) d.length R F x O n C (fun c=>Bb a d c 0) G J T E I ?_ H (fun i o L c w m f M k r u K s=>by rw[if_pos (A i o _ f)];exact U i o L c w m f M k r u K s) (fun o L c w f x r u K s=>by rw[if_pos (A _ o _ f)];rw[D]at f;cases f;exact N L c w x r u K s)
 .rw[<-l];rw[l]at this;rw[l];exact this
 .intro i o c v m f;unfold SQ at k;rw[List.all_eq_true]at k;have h:=k i (List.mem_range.2 m);rw[f]at h;simp only[Option.map_some,Option.getD_some,decide_eq_true_eq]at h;have y:=Zv m;rw[h,y];have z:=Pg d a c 0 i _ v S y;rw[Nat.zero_add]at z;exact z
theorem DN{b:Array Oper}{Q:Exit->Act->Zh->Prop}{R:Nat}{a:Act}(f:List Nat)(last:Nat)(hlen:f.length=last)(n:Oper)(s:b[last]?=some n)(H:P.follows .mixedOrders=true)(t:b.size=last+1)(m:Hj b=true)(G:Nw b last=true)(C:SQ b f=true)(I:f.Nodup)(r:b.all (·.guard.isNone)=true)(J:Nat->Zh->Prop)(T:Nat->Zh->Value->Prop)(E:Zh->Zh->Prop)(A:∀i w c v,E w c->T i w v->T i c v)(u:J 0 w.drew)(N:∀i o k d w,i<last->b[i]?=some o->k<last->J k w->(∀e∈o.after,LG e=true->T e.on w (d e.on))->∀K:Act->Zh->Prop,Hid (∀v c,T i c v->E w c->J (k+1) c->K ((Bb a f d 0).put o.dst v) c)->Oper.wp P o (Bb a f d 0) w K Q)(F:∀d w,J last w->(∀i,i<last->T i w (d i))->∀K:Act->Zh->Prop,Hid (∀a w,Q .normal a w->K a w)->Oper.wp P n (Bb a f d 0) w K Q):
 (Code.region R b true).wp P Q a w:=
 BS f last hlen n s H t m G C I r [] rfl (Jg last J) T (fun _=>E) (fun _ i w c v _ _ _ D O=>A i w c v D O) (Ue u) (fun i o L d w g M q _ j l K B=>N i o _ d w g M (Rj g q) j l K (fun v c x y z=>B.out v c x y (Uf g q z))) (fun L d w m j l=>F d w (Pf m j) (fun i g=>l i g (fun _ h=>by cases h)))
structure AE (w:Zh) (b:Nat) (a:Zk) (n c:Nat) (p:Int):Prop where
 c0:w.cell? (Zd b 0)=some (.slice a n c)
 c1:w.cell? (Zd b 1)=some (Zg p)
 f1:w.frozen? ⟨b,1,none⟩=false
 lt:b<w.heap.size
 n2:n<=2000
 bytes:n=0\/∃q off,a=some ⟨q,off,none⟩/\q<b/\∀j,j<n->∃x:Int,w.cell? (Zd q (off+j))=some (.int .u8 x)/\0<=x/\x<256
theorem AE.next(h:AE w b a n c p)(d:Int):AE (w.setCell (Zd b 1) (Zg d)) b a n c d:=by
 obtain⟨l,m,o,g,i,f⟩:=h;refine⟨by simp[go_sem,l],by simp[go_sem,m],by simpa [go_sem]using o,by simpa using g,i,?_⟩;rcases f with h|⟨q,off,t,k,y⟩
 .exact .inl h
 .refine .inr ⟨q,off,t,k,fun j v=> ?_⟩;obtain⟨x,u,r,s⟩:=y j v;exact⟨x,by rw[World.cell?_setCell_other _ _ _ _ (by intro e;injection e;omega)];exact u,r,s⟩
theorem AE.drew(h:AE w b a n c p):AE w.drew b a n c p:=⟨h.c0,h.c1,h.f1,h.lt,h.n2,h.bytes⟩
theorem AE.drewN(h:AE w b a n c p)(k:Nat):AE (w.drewN k) b a n c p:=⟨h.c0,h.c1,h.f1,h.lt,h.n2,h.bytes⟩
theorem OC{a:Zh}{r:Option Nat}(h:w.grownBy a r)(k:Nat):w.grownBy (a.drewN k) r:=⟨h.os,h.tape,h.output,h.size,h.block⟩
theorem SR{h:Zh}(a:w.grownBy f (some b))(c:f.grownBy h (some g))(j:w.heap.size<=g):w.grownBy h (some b):=
 ⟨c.os.trans a.os,c.tape.trans a.tape,c.output.trans a.output,Zm a.size c.size,fun k d i=>(c.block k (Zr d a.size) (by intro e;cases e;omega)).trans (a.block k d i)⟩
theorem Nz(w:Zh)(g p:Nat)(v:Value):w.grownBy (w.setCell (Zd g p) v) (some g):=
 ⟨rfl,rfl,rfl,Yu,fun i _ a=>Below.heap_setCell _ _ _ _ (fun e=>a (by rw[e]))⟩
theorem AE.grown{e:Zh}(h:AE w b a n c p)(d:w.grownBy e (some g))(t:b<g):AE e b a n c p:=by
 have u:=d.size;have r:=h.lt;refine⟨d.cell h.c0 Yt,d.cell h.c1 Yt,(d.frozen_far ⟨b,1,none⟩ r Yt).trans h.f1,Yv,h.n2,?_⟩;rcases h.bytes with h|⟨q,off,l,f,s⟩
 .exact .inl h
 .refine .inr ⟨q,off,l,f,fun j o=> ?_⟩;obtain⟨x,m,i,k⟩:=s j o;exact⟨x,d.cell m Yt,i,k⟩
theorem AE.below(h:AE w b a n c p)(d:Zz w f):AE f b a n c p:=by
 have e:=h.lt;refine⟨(d.cell (p:=⟨b,0,none⟩) e).trans h.c0,(d.cell (p:=⟨b,1,none⟩) e).trans h.c1,(d.frozen (p:=⟨b,1,none⟩) e).trans h.f1,Zr e d.size,h.n2,?_⟩;rcases h.bytes with h|⟨q,off,l,g,r⟩
 .exact .inl h
 .refine .inr ⟨q,off,l,g,fun j o=> ?_⟩;obtain⟨x,m,i,k⟩:=r j o;exact⟨x,(d.cell (p:=⟨q,off+j,none⟩) Yt).trans m,i,k⟩
theorem Bs{a:Int}(b:0<=a)(c:a<=2000000000):IntKind.i64.wrap a=a:=by unfold IntKind.wrap;simp[IntKind.signed,IntKind.bits];omega
theorem SW(a b:Nat)(d:a<2^30)(e:b<2^30):∃z:Nat,bits .xor .i64 (a:Int) (b:Int)=(z:Int):=by
 refine⟨a^^^b,?_⟩;have f:a^^^b<2^30:=Nat.xor_lt_two_pow d e;have c:(BitVec.ofInt 64 (a:Int)^^^BitVec.ofInt 64 (b:Int)).toNat=a^^^b:=by rw[BitVec.toNat_xor,BitVec.ofInt_natCast,BitVec.ofInt_natCast,BitVec.toNat_ofNat,BitVec.toNat_ofNat,Nat.mod_eq_of_lt Yv,Nat.mod_eq_of_lt Yv]
 show IntKind.i64.wrap ((BitVec.ofInt 64 (a:Int)^^^BitVec.ofInt 64 (b:Int)).toNat:Int)=_;rw[c];exact Bs Yv Yv
theorem AU(b:Nat)(a:Zk)(n c:Nat)(p m:Int)(w:Zh)(h:AE w b a n c p)(hp:0<=p)(O:p<=1000000)(hm:1<=m)(L:m<=10000):
 Calls prog 43 #[Yy b,Zg m] w fun e t=>∃r:Int,e=.returned (Zg r)/\0<=r/\r<m/\AE t b a n c (p+1)/\w.grownBy t (some b):=by
 have HN:Hid (AE (w.setCell (Zd b 1) (Zg (p+1))) b a n c (p+1)/\w.grownBy (w.setCell (Zd b 1) (Zg (p+1))) (some b)):=⟨h.next _,Nz _ _ _ _⟩;obtain⟨T,U,Y,I,M,j⟩:=h;have w1:IntKind.i64.wrap (p+1)=p+1:=Bs Yv Yv;have K:decide (m<1)=false:=Yt
 have J:(m==0)=false:=beq_eq_false_iff_ne.2 Yv;by_cases hn:n=0
 .subst hn;go_enter func43,ntmps43;go_wp2;go_ret;exact⟨0,rfl,Yv,Yv,HN.o.1,HN.o.2⟩
 .obtain⟨q,off,F,P,g⟩:=j.resolve_left hn;subst F;have N:((n:Int)==0)=false:=beq_eq_false_iff_ne.2 Yv;go_enter func43,ntmps43;by_cases hk:p<n
  .obtain⟨x,s,C,D⟩:=g p.toNat Yv;obtain⟨k,rfl⟩:∃k:Nat,p=k:=⟨p.toNat,Yv⟩;simp only[Int.toNat_natCast]at s;go_wp2;go_ret;exact⟨_,rfl,Int.emod_nonneg _ Yv,Int.emod_lt_of_pos _ Yv,HN.o.1,HN.o.2⟩
  .obtain⟨k,rfl⟩:∃k:Nat,p=k:=⟨p.toNat,Yv⟩;have H:decide ((k:Int)<(n:Int))=false:=Yt
   have A:k%n<n:=Nat.mod_lt _ Yv;have B:(k *7+3)%n<n:=Nat.mod_lt _ Yv;obtain⟨x,s,C,D⟩:=g _ A;obtain⟨y,hd,Q,R⟩:=g _ B;have V:(k:Int)%(n:Int)=((k%n:Nat):Int):=Yu
   have W:((k:Int) *7+3)%(n:Int)=(((k *7+3)%n:Nat):Int):=Yu
   have v:k/n<=k:=Nat.div_le_self _ _;have E:(k:Int)/(n:Int)=((k/n:Nat):Int):=Yu
   have u:k/n<=1000000:=Yv
   obtain⟨d,l⟩:∃d,d=k/n:=⟨_,rfl⟩;rw[<-l]at E v u;clear l;have Z:IntKind.i64.wrap ((k:Int) *7)=(k:Int) *7:=Bs Yv Yv;have g2:IntKind.i64.wrap ((k:Int) *7+3)=(k:Int) *7+3:=Bs Yv Yv;have g3:IntKind.i64.wrap (x *131)=x *131:=Bs Yv Yv;have g4:IntKind.i64.wrap (y *1117)=y *1117:=Bs Yv Yv
   have g5:IntKind.i64.wrap (x *131+y *1117)=x *131+y *1117:=Bs Yv Yv;have g6:IntKind.i64.wrap ((k:Int) *29)=(k:Int) *29:=Bs Yv Yv;have g7:IntKind.i64.wrap (x *131+y *1117+(k:Int) *29)=x *131+y *1117+(k:Int) *29:=Bs Yv Yv;have g8:IntKind.i64.wrap ((d:Int) *53)=(d:Int) *53:=Bs Yv Yv
   have g9:IntKind.i64.wrap (x *131+y *1117+(k:Int) *29+(d:Int) *53)=x *131+y *1117+(k:Int) *29+(d:Int) *53:=Bs Yv Yv;generalize k%n=i1 at *
   generalize (k *7+3)%n=i2 at *
   clear g j;go_wp2;go_quiet (fail);obtain⟨X,o⟩:∃X:Nat,x *131+y *1117+(k:Int) *29+(d:Int) *53=X:=⟨(x *131+y *1117+(k:Int) *29+(d:Int) *53).toNat,Yv⟩;have i:X<2^30:=Yv
   have f:(X:Int)/64=((X/64:Nat):Int):=Yu
   obtain⟨z,G⟩:=SW X (X/64) i Yv;rw[<-f,<-o]at G;have S:(z:Int).tmod m=(z:Int)%m:=Int.tmod_eq_emod_of_nonneg Yv;clear f o i X;go_wp2;go_ret;exact⟨(z:Int)%m,Yq,Int.emod_nonneg _ Yv,Int.emod_lt_of_pos _ Yv,AE.drewN HN.o.1 _,OC HN.o.2 _⟩
theorem PY(a:Zk)(n c:Nat)(w:Zh)(z:n<=maxLen)(r:n=0\/∃q off,a=some ⟨q,off,none⟩/\q<w.heap.size/\∀j,j<n->∃x:Int,w.cell? (Zd q (off+j))=some (.int .u8 x)/\0<=x/\x<256)(B:n<=c):
 Calls prog 16 #[.slice a n c] w fun e s=>∃b d,e=.returned (Yy w.heap.size)/\AE s w.heap.size a b d 0/\Zz w s:=by
 have f:∀o,Zz w (w.alloc o):=fun o=>Zy;unfold maxLen at z;have m:∀b d,b<=n->b<=2000->AE (w.alloc (.cells #[.slice a b d,Ze] 86)) w.heap.size a b d 0:=fun b d A t=>by
  refine⟨by simp[go_sem],by simp[go_sem],by simp[go_sem],Yu,t,?_⟩;rcases r with h|⟨q,off,g,i,k⟩
  .exact .inl Yv
  .refine .inr ⟨q,off,g,i,fun j C=> ?_⟩;obtain⟨x,u,v⟩:=k j Yv;exact⟨x,((f _).cell (p:=⟨q,off+j,none⟩) i).trans u,v⟩
 have l:=Yw m;clear m;by_cases h:n<=2000
 .have y:decide ((2000:Int)<(n:Int))=false:=Yt
  go_enter func16,ntmps16;go_wp2;go_ret;exact⟨n,c,rfl,l.o n c (Zx) h,f _⟩
 .have y:decide ((2000:Int)<(n:Int))=true:=Yt
  obtain⟨q,off,g,i,k⟩:=r.resolve_left Yv;subst g;clear k;go_enter func16,ntmps16;go_wp2;go_ret;exact⟨2000,_,rfl,l.o 2000 _ Yv (Zx),f _⟩
theorem JM{a:Int}(b:0<=a)(c:a<256):IntKind.u8.wrap a=a:=by unfold IntKind.wrap;simp[IntKind.signed,IntKind.bits];omega
theorem DT(l:List Int):(strOfNums l).size=l.length:=by unfold strOfNums;simp[ByteArray.size]
theorem Rk:(prog.info? 5).map (fun i=>(i.zero,i.size,i.bytes))=some (some (.int .u8 0),1,1):=Ys
structure GN (w w':Zh) (b:Nat) (a:Zk) (n c:Nat) (p:Int) (k:Int):Prop where
 N:∃p',AE w' b a n c p'/\p<=p'/\p'<=p+k
 gr:w.grownBy w' (some b)
theorem PZ(b:Nat)(a:Zk)(n c:Nat)(p:Int)(w:Zh)(h:AE w b a n c p)(hp:0<=p)(zH:p<=900000):
 Calls prog 100 #[Yy b] w fun e w'=>∃s,e=.returned (.string s)/\s.size<=16/\GN w w' b a n c p 10:=by
 obtain⟨i0,R,V,W,X⟩:=info_parts Rk;go_enter func100,ntmps100;go_wp2_with fail;refine(AU b a n c p 9 w h hp Yv Yv Yv).mono ?_;rintro e U ⟨r,rfl,r0,r1,L,J⟩;have B:Hid (GN w U b a n c p 10):=⟨⟨_,L,Yv,Yv⟩,J⟩;by_cases q0:r=0
 .have Y:(r==0)=true:=by simpa using q0
  clear q0;go_wp2;go_ret;exact⟨_,rfl,Yr,B.o⟩
 have Y:(r==0)=false:=by simpa using q0
 by_cases q1:r=1
 .have Z:(r==1)=true:=by simpa using q1
  clear q0 q1;go_wp2;go_ret;exact⟨_,rfl,Yr,B.o⟩
 have Z:(r==1)=false:=by simpa using q1
 by_cases q2:r=2
 .have zA:(r==2)=true:=by simpa using q2
  clear q0 q1 q2;go_wp2;go_ret;exact⟨_,rfl,Yr,B.o⟩
 have zA:(r==2)=false:=by simpa using q2
 by_cases q3:r=3
 .have zB:(r==3)=true:=by simpa using q3
  clear q0 q1 q2 q3;go_wp2;go_ret;exact⟨_,rfl,Yr,B.o⟩
 have zB:(r==3)=false:=by simpa using q3
 clear B;go_wp2_with fail;refine(AU b a n c (p+1) 4 U L Yv Yv Yv Yv).mono ?_;rintro e d ⟨k,rfl,k0,k1,M,O⟩;have C:=Am J O;have zE:=C.size;have zF:=M.lt;have q:Below d.heap.size d (d.alloc (.cells #[] 5)):=Zy;have z:=Yw (M.below q);have x:=Yw (Am C (Ae (some b) q))
 have o:Hid ((d.alloc (.cells #[] 5)).ownsRow d.heap.size 5 1 (Yz d.heap.size 0 0) 0 (([]:List Int).map (Value.int .u8))):=World.ownsRow_lit d #[] 0 (Zx) Yp rfl;clear J O C L M q h;go_wp2
 go_loopw [4,5] (fun v i wr=>∃(j g cap:Nat) (f:List Int),(j:Int)<=k+1/\f.length=j/\i=Zg j/\v=Yz g j cap/\Hid (wr.ownsRow d.heap.size 5 1 (Yz g j cap) j (f.map (Value.int .u8)))/\Hid (AE wr b a n c (p+1+1+j))/\Hid (w.grownBy wr (some b))) (fun _ i _=>(k+1).toNat -(intOf i).toNat)
 case atStart=>exact⟨0,_,_,[],Yv,rfl,rfl,rfl,o,by simpa using z,x⟩
 case round=>
  clear z x o;obtain⟨j,g,cap,f,hj,I,rfl,rfl,o,z,x⟩:=hrel;have lg:=o.o.lt g rfl;by_cases hlt:(j:Int)<=k
  .have hd:decide ((j:Int)<=k)=true:=by simpa using hlt
   go_wp2_with fail;refine(AU b a n c (p+1+1+j) 6 wr z.o Yv Yv Yv Yv).mono ?_;rintro e t ⟨y,rfl,y0,y1,Q,D⟩;have wy:IntKind.i64.wrap (97+y)=97+y:=Bs Yv Yv;have wu:IntKind.u8.wrap (97+y)=97+y:=JM Yv Yv;have N:=Yw (World.ownsRow.kept o.o D (.inr (by simp[Value.ownBlock];omega)));have zJ:=D.size;go_wp2_with (first
    |(at_builtin;refine wpList_append_lies _ rfl _ _ 22 rfl d.heap.size 5 i0 (.int .u8 0) 1 1 underlying22 R V W X rfl Yr _ j (f.map (Value.int .u8)) rfl ?d0 ⟨t.heap.size,0,none⟩ 1 1 [.int .u8 (97+y)] rfl rfl ?d1 ?d2 Yr ?d3 ?d4 ?d5 _ rfl ?_)
    |go_in)
   case d0=>exact World.ownsRow.alloc N.o _
   case d1=>exact cell_one_new t _ 5
   case d2=>intro u S;simp at S;subst S;rfl
   case d3=>unfold maxLen;omega
   case d4=>omega
   case d5=>simp;omega
   intro K l A H G E zC;have q:Below t.heap.size t (t.alloc (.cells #[.int .u8 (97+y)] 5)):=Zy;have m:(t.alloc (.cells #[.int .u8 (97+y)] 5)).grownBy A (some g):=by simpa [Value.ownBlock]using G
   have H4:Hid (AE A b a n c (p+1+1+((j+1:Nat):Int))):=by have:=(Q.below q).grown m Yv;rw[show p+1+1+((j+1:Nat):Int)=p+1+1+(j:Int)+1 by omega];exact this
   have F:(t.alloc (.cells #[.int .u8 (97+y)] 5)).grownBy A (some g):=m;have G4:Hid (w.grownBy A (some b)):=SR (Am x.o (Am D (Ae _ q))) F Yv;have O5:Hid (A.ownsRow d.heap.size 5 1 (Yz K (j+1) l) (j+1) ((f++[97+y]).map (Value.int .u8))):=by
    have h9:A.ownsRow d.heap.size 5 1 (Yz K (j+1) l) (j+1) ((f++[97+y]).map (Value.int .u8)):=by simpa using H
    exact h9
   clear H G m F q Q D o N z x E;go_wp2;exact⟨⟨j+1,K,l,f++[97+y],Yv,by simp[I],Yo,Yu,O5,H4,G4⟩,by simp[intOf];omega⟩
  .have hd:decide ((j:Int)<=k)=false:=by simpa using hlt
   have zG:=run_convert_bytes_arg (P:=prog) wr 22 5 underlying22 underlying5 g 0 j cap f I (fun i R=>by
    rw[Nat.zero_add,o.o.cellAt i Yt,List.getElem?_map,Zv Yv];simp[List.getD,Zv (show i<f.length by omega)]) 9 underlying9
   have zI:=DT f;generalize strOfNums f=T at *
   go_wp2;go_ret;exact⟨T,rfl,Yv,⟨_,z.o,Yv,Yv⟩,x.o⟩
theorem Qa(s:Zi)(n:Nat)(w:Zh)(h:1<=s.size)(A:s.size *n<=100000):
 Calls prog 102 #[.string s,Zg n] w fun e l=>∃T:Zi,e=.returned (.string T)/\T.size=s.size *n/\l=w:=by
 go_enter func102,ntmps102;go_wp2
 go_loop [0,1,5] (fun u m o=>∃(S T:Zi) (k:Nat),u=.string S/\m=Zg k/\o=.string T/\1<=S.size/\T.size+S.size *k=s.size *n) (fun _ m _=>(intOf m).toNat)
 case atStart=>exact⟨s,⟨#[]⟩,n,rfl,rfl,rfl,h,by show 0+_=_;omega⟩
 case round=>
  obtain⟨S,T,k,rfl,rfl,rfl,i,a⟩:=hrel;by_cases hk:0<k
  .have z:decide ((0:Int)<(k:Int))=true:=Yt
   have q:S.size<=S.size *k:=Nat.le_mul_of_pos_right _ hk;have r:S.size<=100000:=Yv
   have t:T.size<=100000:=Yv
   have c:=Nat.div_add_mod k 2;have x:k/2<k:=Nat.div_lt_self hk Yv;have v:k<=100000:=by have:=Nat.le_mul_of_pos_left k i;omega
   have g:wrap64 ((k:Int)/2)=(k:Int)/2:=by unfold wrap64;omega
   rcases Nat.mod_two_eq_zero_or_one k with d|d
   .have j:((k:Int)%2==1)=false:=by rw[show(k:Int)%2=((k%2:Nat):Int) by simp,d];rfl
    have f:Hid (T.size+(S++S).size *(k/2)=s.size *n):=by
     show _=_;rw[<-a,ByteArray.size_append];have:k=2 *(k/2):=Yv
     conv=>rhs;rw[this]
     rw[<-Nat.mul_assoc];congr 2;omega
    have b:1<=(S++S).size:=by rw[ByteArray.size_append];omega
    clear c a;go_wp2;exact⟨⟨S++S,T,k/2,rfl,Yu,rfl,b,f.o⟩,by simp[intOf];omega⟩
   .have j:((k:Int)%2==1)=true:=by rw[show(k:Int)%2=((k%2:Nat):Int) by simp,d];rfl
    have f:Hid ((T++S).size+(S++S).size *(k/2)=s.size *n):=by
     show _=_;rw[<-a,ByteArray.size_append,ByteArray.size_append];have e:k=2 *(k/2)+1:=Yv
     have y:S.size *k=S.size+(S.size+S.size) *(k/2):=by
      conv=>lhs;rw[e]
      rw[Nat.mul_add,Nat.mul_one,<-Nat.mul_assoc,Nat.add_comm];congr 2;omega
     omega
    have b:1<=(S++S).size:=by rw[ByteArray.size_append];omega
    clear c a;go_wp2;exact⟨⟨S++S,T++S,k/2,rfl,Yu,rfl,b,f.o⟩,by simp[intOf];omega⟩
  .obtain rfl:k=0:=Yv
   go_wp2;go_ret;exact⟨T,rfl,by simpa using a,rfl⟩
theorem Qb(w:Zh)(g:Nat)(y:Int)(h:w.cell? (Zd g 0)=some (.int .u8 y)):∃s,(convert 22 9 (Yz g 1 1)).run prog w=.ok (.string s) w/\s.size=1:=
 ⟨_,run_convert_bytes_arg (P:=prog) w 22 5 underlying22 underlying5 g 0 1 1 [y] rfl (fun i a=>by
  obtain rfl:i=0:=Yv
  simpa using h) 9 underlying9,DT [y]⟩
theorem Rl{n:Int}(h:n<10^N)(d:N<=9):n<1000000000:=by
 have a:(10:Nat)^N<=10^9:=Nat.pow_le_pow_right Yv d;have b:((10^N:Nat):Int)<=((10^9:Nat):Int):=Int.ofNat_le.2 a;have c:((10^N:Nat):Int)=(10:Int)^N:=Yu
 rw[c]at b;have e:((10^9:Nat):Int)=1000000000:=rfl;omega
theorem UD:∀(N:Nat) (n:Int) (w:Zh),0<=n->n<10^N->N<=9->
 Calls prog 66 #[Zg n] w fun e q=>∃s,e=.returned (.string s)/\s.size<=N+1/\Zz w q:=by
 intro N;induction N with
 |zero=>
  intro n w l d _;obtain rfl:n=0:=by simp at d;omega
  obtain⟨s,h,m⟩:=Qb (w.alloc (.cells #[.int .u8 48] 5)) w.heap.size 48 Yu;go_enter func66,ntmps66;go_wp2;go_ret;exact⟨s,rfl,Yv,Zy⟩
 |succ N ih=>
  intro n w l d O;have T:=Rl d O;by_cases hc:n<10
  .have Q:IntKind.u8.wrap (48+n)=48+n:=JM Yv Yv;obtain⟨s,h,m⟩:=Qb (w.alloc (.cells #[.int .u8 (48+n)] 5)) w.heap.size (48+n) Yu;go_enter func66,ntmps66;go_wp2;go_ret;exact⟨s,rfl,Yv,Zy⟩
  .have hq:n.tdiv 10=n/10:=Int.tdiv_eq_ediv_of_nonneg l;have hm:n.tmod 10=n%10:=Int.tmod_eq_emod_of_nonneg l;have U:IntKind.i64.wrap (n/10)=n/10:=Bs Yv Yv;have V:IntKind.i64.wrap (48+n%10)=48+n%10:=Bs Yv Yv;have Q:IntKind.u8.wrap (48+n%10)=48+n%10:=JM Yv Yv
   have M:Hid (∀X,Calls prog 66 #[Zg (n/10)] X fun e q=>∃s,e=.returned (.string s)/\s.size<=N+1/\Zz X q):=fun X=>ih (n/10) X Yv (by rw[Int.pow_succ]at d;omega) Yv;clear ih;go_enter func66,ntmps66;go_upto_region 3 with fail
   refine DN [10,11,12,13,14,15,16,17,18,19] 10 rfl _ rfl Ys Ys Ys Ys Ys Yr Ys (fun _ X=>Zz w X) (fun i X v=>match i with
    |0=>v=Zg n
    |1=>v=Zg (n/10)
    |2=>∃s,v=.string s/\s.size<=N+1
    |3=>v=Zg n
    |4=>v=Zg (n%10)
    |5=>v=Zg (48+n%10)
    |6=>v=.int .u8 (48+n%10)
    |7=>∃g,v=Yz g 1 1/\g<X.heap.size/\X.cell? (Zd g 0)=some (.int .u8 (48+n%10))
    |8=>∃s,v=.string s/\s.size=1
    |9=>∃s,v=.string s/\s.size<=N+1+1
    |_=>True) (fun X Y=>Zz X Y) ?_ (Below.refl _ _).drew ?_ ?_
   .intro i X Y v j f;rcases i with _|_|_|_|_|_|_|_|_|_|_<;>first
     |exact f
     |(obtain⟨g,d,r,L⟩:=f;exact⟨g,d,Zr r j.size,(j.cell (p:=⟨g,0,none⟩) r).trans L⟩)
   .intro i o k x X Z P hk b c K a;rcases(show i=0\/i=1\/i=2\/i=3\/i=4\/i=5\/i=6\/i=7\/i=8\/i=9 by omega)with rfl|rfl|rfl|rfl|rfl|rfl|rfl|rfl|rfl|rfl<;>cases P<;>simp only[Bb,Act.put,Zq,Zp,Zo]at a |-
    .go_simp;exact a.out _ X rfl (Below.refl _ _) b
    .have A:=c ⟨0,.data⟩ Yu Yq;rw[show x 0=Zg n from A]at a |-;go_simp;exact a.out _ X rfl (Below.refl _ _) b
    .have B:=c ⟨1,.data⟩ Yu Yq;rw[show x 1=Zg (n/10)from B]at a |-;go_simp;refine(M.o X).mono ?_;rintro e z ⟨s,rfl,h,u⟩;exact a.out _ z ⟨s,rfl,h⟩ u (b.trans (u.mono b.size))
    .go_simp;exact a.out _ X rfl (Below.refl _ _) b
    .have C:=c ⟨3,.data⟩ Yu Yq;rw[show x 3=Zg n from C]at a |-;go_simp;exact a.out _ X rfl (Below.refl _ _) b
    .have D:=c ⟨4,.data⟩ Yu Yq;rw[show x 4=Zg (n%10)from D]at a |-;go_simp;exact a.out _ X rfl (Below.refl _ _) b
    .have E:=c ⟨5,.data⟩ Yu Yq;rw[show x 5=Zg (48+n%10)from E]at a |-;go_simp;exact a.out _ X rfl (Below.refl _ _) b
    .have F:=c ⟨6,.data⟩ Yu Yq;rw[show x 6=.int .u8 (48+n%10)from F]at a |-;have t:Below X.heap.size X (X.alloc (.cells #[.int .u8 (48+n%10)] 5)):=Zy;go_simp;exact a.out _ _ ⟨X.heap.size,rfl,Yu,Yu⟩ t (b.trans (t.mono b.size))
    .obtain⟨g,H,W,c7⟩:=c ⟨7,.data⟩ Yu Yq;obtain⟨s,h,m⟩:=Qb X g _ c7;rw[H]at a |-;go_simp;exact a.out _ X ⟨s,rfl,m⟩ (Below.refl _ _) b
    .obtain⟨y,G,z2⟩:=c ⟨2,.data⟩ Yu Yq;obtain⟨R,I,z8⟩:=c ⟨8,.data⟩ Yu Yq;rw[G,I]at a |-;have hl:¬9223372036854775807<y.size+1:=Yv
     go_simp;exact a.out _ X ⟨y++R,rfl,by rw[ByteArray.size_append];omega⟩ (Below.refl _ _) b
   .intro x X b f K a;simp only[Bb,Act.put,Zq,Zp,Zo];obtain⟨s,J,S⟩:=f 9 Yr;rw[J];go_simp;refine a.out _ _ ?_;clear a K f;go_wp2;go_ret;exact⟨s,rfl,S,b⟩
theorem Dr.low{d m:Nat}{O P L:Value}{l now f a:Int}{i:List Kd}{k:List Pd}{j:List Ld}(g:Dr w c d m O P L l now f a i k j):∀b∈vB d m O P L,c<=b:=by
 intro b h;unfold vB at h;simp only[List.mem_cons,List.mem_append,Option.mem_toList]at h;rcases h with rfl|rfl|e|e|e
 .exact g.bd
 .exact g.bm
 .exact(Ad g.ord e).1
 .exact(Ad g.du e).1
 .exact(Ad g.gi e).1
theorem Ug{c:Zl}(h:∀(j:Nat) p q,c[j]?=some p->c[j+1]?=some q->less p q=true):c.Pairwise (fun a b=>less a b=true):=by
 have k:∀(d i:Nat) u v,c[i]?=some u->c[i+d+1]?=some v->less u v=true:=by
  intro d;induction d with
  |zero=>intro i u v f e;exact h i u v f e
  |succ d ih=>intro i u v f e;have o:=(Zw e).1;have g:c[i+d+1]?=some c[i+d+1]:=Zv Yv;exact Cm (ih i u _ f g) (h _ _ _ g (by rw[show i+d+1+1=i+(d+1)+1 by omega];exact e))
 rw[List.pairwise_iff_getElem];intro i j l m n;exact k (j -i -1) i _ _ (Zv l) (by rw[show i+(j -i -1)+1=j by omega];exact Zv m)
theorem JX(h:d.Pairwise (fun a b=>less a b=true)):d.Nodup:=by refine List.Pairwise.imp ?_ h;intro a b c e;rw[e,BU]at c;cases c
theorem Mo{g:Int}(h:Dn g d=true):d.Pairwise (fun a b=>less a b=true):=by refine Ug (fun j p q f c=> ?_);have e:=(Zw c).1;unfold Dn at h;rw[List.all_eq_true]at h;have:=h (j+1) (by simpa using e);rw[DE c f]at this;simp at this;exact this.2
structure Rs where
 sm:Zi
 le:Int
 D:Int
 G:Int
 C:Int
 ks:List Kd
 ps:List Pd
 ls:List Ld
def Ep(wd now given births:Int)(ks:List Kd)(ps:List Pd)(ls:List Ld)(kd:Int)(s nm:Zi)(num:Int)(text:Zi)(refs:Zl)(r:Rs):Prop:=
 (kd=1/\(∀r∈refs,Aw ks r)/\ls.length<200/\given<1000000000/\∃ks1 ak,Cz wd births ks text refs ks1 ak/\r=⟨Cb text refs wd,given+1,now,given+1,ak,ks1,ps,ls++[⟨given+1,Cb text refs wd,now+num⟩]⟩)\/
 (kd=2/\Aw ks s/\((∃x∈ps,x.name=nm)\/ps.length<100)/\r=⟨⟨#[]⟩,0,now,given,births,ks,BC ps nm s,ls⟩)\/
 (kd=3/\(∃x∈ps,x.name=nm)/\r=⟨⟨#[]⟩,0,now,given,births,ks,Bk ps nm,ls⟩)\/
 (kd=4/\Aw ks s/\ls.length<200/\given<1000000000/\r=⟨⟨#[]⟩,given+1,now,given+1,births,ks,ps,ls++[⟨given+1,s,now+num⟩]⟩)\/
 (kd=5/\(∃x∈ls,x.H=num)/\r=⟨⟨#[]⟩,0,now,given,births,ks,ps,Bt ls num⟩)\/
 (kd=6/\now+num<=1000000000/\r=⟨⟨#[]⟩,0,now+num,given,births,ks,ps,BH ls (now+num)⟩)\/
 (kd=7/\Aw ks s/\¬GI ps ls ks s/\r=⟨⟨#[]⟩,0,now,given,births,Eg ks s,ps,ls⟩)
def FW(wd now given births:Int)(ks:List Kd)(ps:List Pd)(ls:List Ld)(kd:Int)(s nm:Zi)(num:Int)(text:Zi)(refs:Zl)(c:Int)(a b:Zi):Prop:=
 (kd=1/\GK wd given births ks ls text refs c a b)\/
 (a=⟨#[]⟩/\b=⟨#[]⟩/\(
   (kd=2/\((¬Aw ks s/\c=2)\/(Aw ks s/\(¬∃x∈ps,x.name=nm)/\ps.length=100/\c=4)))\/
   (kd=3/\(¬∃x∈ps,x.name=nm)/\c=5)\/
   (kd=4/\((¬Aw ks s/\c=2)\/(Aw ks s/\(ls.length=200\/given=1000000000)/\c=4)))\/
   (kd=5/\(¬∃x∈ls,x.H=num)/\c=5)\/
   (kd=6/\1000000000<now+num/\c=4)\/
   (kd=7/\((¬Aw ks s/\c=2)\/(Aw ks s/\GI ps ls ks s/\c=6)))))
structure IM (wd now given births:Int) (ks:List Kd) (ps:List Pd) (ls:List Ld) (kd num:Int) (text:Zi) (refs:Zl):Prop where
 cf:Gs wd ks
 w1:1<=wd
 np:ps.length<=100
 nl:ls.length<=200
 cg:ps.Pairwise (fun a b=>less a.name b.name=true)
 dh:ls.Pairwise (fun a b=>a.H<b.H)
 db:0<=now
 ci:now<=1000000000
 bx:0<=given
 bk:given<=1000000000
 bj:0<=births
 ak:births<=1000000000
 kd1:1<=kd
 kd7:kd<=7
 ic:0<=num
 ie:num<=1000000000
 cj:∀k∈ks,k.E.size<=maxLen
 txl:text.size<=maxLen
 rfn:refs.length<=1000
theorem FJ(b:Zi)(a:Zl)(c:Int)(h:1<=c):((Cb b a c).size:Int)=c:=EY ⟨⟨#[]⟩,0,b,a⟩ c h
def Mp(base d m:Nat)(wd:Int)(r:Rs)(w:Zh):Prop:=∃O P L,Dr w base d m O P L wd r.D r.G r.C r.ks r.ps r.ls
def Kt(k:Nat):Bool:=k==2||k==4||k==7
def Nf(k:Nat):Bool:=k==2||k==3
def Hk(k:Nat):Bool:=k==1
def Gc(k:Nat):Int:=if k=1\/k=4\/k=6 then 100000 else if k=5 then 1000000000 else 0
def Eh(u:Bool)(s:Zi)(wd:Int):Bool:=if u then decide ((s.size:Int)=wd)else decide (s.size=0)
def Fb(u:Bool)(s:Zi):Bool:=if u then BZ s else decide (s.size=0)
def FB(m n:Int):Bool:=if m=0 then decide (n=0)else decide (1<=n/\n<=m)
def Ku(u:Bool)(t:Zi)(ss:Zl)(wd:Int):Bool:=if u then Ay t ss wd else decide (t.size=0/\ss.length=0)
theorem GO{s:Zi}:s.toList.isEmpty=decide (s.size=0):=by
 have:s.toList.length=s.size:=by rw[ByteArray.toList_eq];simp
 rw[<-this];cases s.toList<;>simp
def Ei(k:Nat)(sum name:Zi)(n:Int)(t:Zi)(ss:Zl)(wd:Int):Bool:=
 decide (1<=wd/\wd<=8)&&(Eh (Kt k) sum wd&&(Fb (Nf k) name&&(FB (Gc k) n&&Ku (Hk k) t ss wd)))
abbrev Ik(k:Int)(sum name:Zi)(n:Int)(t:Zi)(ad:Zk)(len cap:Nat):Array Value:= #[Zg k,.string sum,.string name,Zg n,.string t,.slice ad len cap]
structure EB (W:Zh) (B P:Nat) (sum name:Zi) (n:Int) (t:Zi) (v:Value) (a b c:Bool) (m:Int):Prop where
 x1:W.cell? (Zd B 1)=some (.string sum)
 x2:W.cell? (Zd B 2)=some (.string name)
 x3:W.cell? (Zd B 3)=some (Zg n)
 x4:W.cell? (Zd B 4)=some (.string t)
 x5:W.cell? (Zd B 5)=some v
 y0:W.cell? (Zd P 0)=some (.bool a)
 y1:W.cell? (Zd P 1)=some (.bool b)
 y2:W.cell? (Zd P 2)=some (.bool c)
 y3:W.cell? (Zd P 3)=some (Zg m)
theorem EB.below{W j:Zh}{B P:Nat}{i:Zi}{n:Int}{a b c:Bool}{m:Int}(h:EB W B P i e n t v a b c m)(d:Zz W j):EB j B P i e n t v a b c m:=by
 have f:=World.block_lt_of_cell? W _ h.x1;have g:=World.block_lt_of_cell? W _ h.y0;exact⟨(d.cell (p:=⟨B,1,none⟩) f).trans h.x1,(d.cell (p:=⟨B,2,none⟩) f).trans h.x2,(d.cell (p:=⟨B,3,none⟩) f).trans h.x3,(d.cell (p:=⟨B,4,none⟩) f).trans h.x4,(d.cell (p:=⟨B,5,none⟩) f).trans h.x5,
  (d.cell (p:=⟨P,0,none⟩) g).trans h.y0,(d.cell (p:=⟨P,1,none⟩) g).trans h.y1,(d.cell (p:=⟨P,2,none⟩) g).trans h.y2,(d.cell (p:=⟨P,3,none⟩) g).trans h.y3⟩
def Jh(k:Nat):Int:=if k=1\/k=4\/k=6 then 1 else if k=5 then 2 else 0
theorem SX(k:Nat)(w:Zh)(a:1<=k)(b:k<=7):
 Calls prog 136 #[Zg k] w fun e c=>e=.returned (.tuple #[.bool (Kt k),.bool (Nf k),Zg (Jh k),.bool (Hk k)])/\c=w:=by
 match k,a,b with
 |1,_,_|2,_,_|3,_,_|4,_,_|5,_,_|6,_,_|7,_,_=>
  go_enter func136,ntmps136;go_wp2;refine bodyPost_ret ?_ rfl ⟨rfl,rfl⟩;simp[results,results136,go_sem,Kt,Nf,Jh,Hk]
theorem SY(k:Nat)(n:Int)(w:Zh):
 Calls prog 137 #[Zg n,Zg (Jh k)] w fun e f=>e=.returned (.bool (FB (Gc k) n))/\f=w:=by
 have d:(Jh k=1/\Gc k=100000)\/(Jh k=2/\Gc k=1000000000)\/(Jh k=0/\Gc k=0):=by
  unfold Jh Gc;split
  .exact .inl ⟨rfl,rfl⟩
  .split
   .exact .inr (.inl ⟨rfl,rfl⟩)
   .exact .inr (.inr ⟨rfl,rfl⟩)
 rcases d with⟨a,b⟩|⟨a,b⟩|⟨a,b⟩<;>rw[a,b]
 .by_cases hn:1<=n
  .go_enter func137,ntmps137;go_wp2;go_ret;exact⟨AH (by unfold FB;rw[if_neg Yr];simp[hn]),rfl⟩
  .have c:decide (1<=n)=false:=by simpa using hn
   go_enter func137,ntmps137;go_wp2;go_ret;exact⟨AH (by unfold FB;rw[if_neg Yr,decide_eq_false Yv]),rfl⟩
 .by_cases hn:1<=n
  .go_enter func137,ntmps137;go_wp2;go_ret;exact⟨AH (by unfold FB;rw[if_neg Yr];simp[hn]),rfl⟩
  .have c:decide (1<=n)=false:=by simpa using hn
   go_enter func137,ntmps137;go_wp2;go_ret;exact⟨AH (by unfold FB;rw[if_neg Yr,decide_eq_false Yv]),rfl⟩
 .go_enter func137,ntmps137;go_wp2;go_ret;exact⟨AH (by unfold FB;rw[if_pos rfl];rfl),rfl⟩
theorem SZ(k:Int)(f b:Zi)(n:Int)(t:Zi)(g:Zk)(cap:Nat)(i:Zl)(a:Int)(w:Zh)(m:¬(1<=k/\k<=7)):
 Calls prog 122 #[.agg (Ik k f b n t g i.length cap),Zg a] w fun e j=>e=.returned (.bool false)/\Zz w j:=by
 by_cases hw:1<=a/\a<=8
 .obtain⟨c,d⟩:=hw;by_cases h1:k<1
  .have h:decide (k<1)=true:=by simpa using h1
   go_enter func122,ntmps122;go_wp2;go_ret;exact⟨rfl,Zy⟩
  .have h:decide (k<1)=false:=by simpa using h1
   have l:decide (7<k)=true:=Yt
   go_enter func122,ntmps122;go_wp2;go_ret;exact⟨rfl,Zy⟩
 .by_cases c:1<=a
  .have d:decide (a<=8)=false:=Yt
   go_enter func122,ntmps122;go_wp2;go_ret;exact⟨rfl,Zy⟩
  .go_enter func122,ntmps122;go_wp2;go_ret;exact⟨rfl,Zy⟩
theorem Rm(k:Nat)(d b:Zi)(n:Int)(t:Zi)(g:Zk)(cap:Nat)(f:Zl)(a:Int)(w:Zh)(h:¬(1<=a/\a<=8)):
 Calls prog 122 #[.agg (Ik k d b n t g f.length cap),Zg a] w fun e i=>e=.returned (.bool (Ei k d b n t f a))/\Zz w i:=by
 have c:Hid (decide (1<=a/\a<=8)=false):=by show _=_;simpa using h
 by_cases hw1:1<=a
 .have j:decide (a<=8)=false:=Yt
  go_enter func122,ntmps122;go_wp2;go_ret;exact⟨AH (by unfold Ei;rw[c.o];rfl),Zy⟩
 .go_enter func122,ntmps122;go_wp2;go_ret;exact⟨AH (by unfold Ei;rw[c.o];rfl),Zy⟩
theorem Il{a:Zl}{c:Int}(b:t.size=0):((a.length:Int)==0)=(true&&(true&&(true&&Ku false t a c))):=by
 unfold Ku;rw[if_neg Yr];by_cases hs0:a.length=0
 .rw[decide_eq_true ⟨b,hs0⟩];simp[hs0]
 .rw[decide_eq_false (fun h=>hs0 h.2)];simp;intro h;exact hs0 (by rw[h];rfl)
theorem Im{b:Zl}{c:Int}(a:¬t.size=0):false=(true&&(true&&(true&&Ku false t b c))):=by unfold Ku;rw[if_neg Yr,decide_eq_false (fun h=>a h.1)];rfl
theorem Ph(k:Nat)(d a:Zi)(n:Int)(t:Zi)(o:Zk)(cap:Nat)(l:Zl)(g:Int)(w:Zh)(E:1<=k)(F:k<=7)(C:1<=g)(D:g<=8)(i:Ab w w.heap.size o l)(s:l.length<=1048576)(u:t.size<=maxLen)(z:a.size<=maxLen):
 Calls prog 122 #[.agg (Ik k d a n t o l.length cap),Zg g] w fun e G=>e=.returned (.bool (Ei k d a n t l g))/\Zz w G:=by
 have b:Below w.heap.size w (w.alloc (.cells (Ik k d a n t o l.length cap) 162)):=Zy;have B:Hid (decide (1<=g/\g<=8)=true):=by show _=_;simp[C,D]
 have J:decide ((k:Int)<1)=false:=Yt
 have K:decide ((7:Int)<k)=false:=Yt
 have HU:=SX k;have x:=SY k n;unfold Ei;rw[B.o,Bool.true_and];generalize Jh k=kn at *
 generalize FB (Gc k) n=nu at *
 generalize hks:Kt k=us at *
 generalize hkn:Nf k=un at *
 generalize hkt:Hk k=ut at *
 have A:=Yw HU;have v:=Yw x;clear HU x hks hkn hkt;go_enter func122,ntmps122;go_wp2_with (go_at_call 22;go_in);refine(A.o _ E F).mono ?_;rintro e L ⟨rfl,rfl⟩;cases us with
 |true=>
  by_cases hs:(d.size:Int)=g
  .have r:((d.size:Int) !=g)=false:=by simpa using hs
   have f:Hid (Eh true d g=true):=by show _=_;simpa [Eh]using hs
   clear hs;go_wp2_with fail;refine(v.o _).mono ?_;rintro e H ⟨rfl,rfl⟩;cases nu with
   |false=>go_wp2;go_ret;exact⟨AH Yu,b⟩
   |true=>
    cases un with
    |true=>
     go_wp2_with fail;refine(GD a _ z).mono ?_;rintro e I ⟨rfl,rfl⟩;cases hno:BZ a with
     |false=>go_wp2;go_ret;exact⟨AH (by simp[Fb,hno]),b⟩
     |true=>
      have c:Hid (Fb true a=true):=hno;clear hno;cases ut with
      |true=>go_wp2_with fail;refine(Cl t o cap l g _ (i.M b) s u).mono ?_;rintro e y ⟨rfl,j⟩;go_wp2;go_ret;exact⟨AH (by rw[f.o,c.o];rfl),b.trans (j.mono Yu)⟩
      |false=>
       by_cases h0:t.size=0
       .have q:t.toList.isEmpty=true:=by rw[GO];simpa using h0
        have h:=Yw h0;clear h0;go_wp2;go_ret;exact⟨AH (by rw[f.o,c.o];exact Il h.o),b⟩
       .have q:t.toList.isEmpty=false:=by rw[GO];simpa using h0
        have h:=Yw h0;clear h0;go_wp2;go_ret;exact⟨AH (by rw[f.o,c.o];exact Im h.o),b⟩
    |false=>
     by_cases hno:a.size=0
     .have m:a.toList.isEmpty=true:=by rw[GO];simpa using hno
      have c:Hid (Fb false a=true):=by show _=_;simpa [Fb]using hno
      clear hno;cases ut with
      |true=>go_wp2_with fail;refine(Cl t o cap l g _ (i.M b) s u).mono ?_;rintro e y ⟨rfl,j⟩;go_wp2;go_ret;exact⟨AH (by rw[f.o,c.o];rfl),b.trans (j.mono Yu)⟩
      |false=>
       by_cases h0:t.size=0
       .have q:t.toList.isEmpty=true:=by rw[GO];simpa using h0
        have h:=Yw h0;clear h0;go_wp2;go_ret;exact⟨AH (by rw[f.o,c.o];exact Il h.o),b⟩
       .have q:t.toList.isEmpty=false:=by rw[GO];simpa using h0
        have h:=Yw h0;clear h0;go_wp2;go_ret;exact⟨AH (by rw[f.o,c.o];exact Im h.o),b⟩
     .have m:a.toList.isEmpty=false:=by rw[GO];simpa using hno
      have c:Hid (Fb false a=false):=by show _=_;simpa [Fb]using hno
      clear hno;go_wp2;go_ret;exact⟨AH (by rw[c.o];simp),b⟩
  .have r:((d.size:Int) !=g)=true:=by simpa using hs
   have f:Hid (Eh true d g=false):=by show _=_;simpa [Eh]using hs
   clear hs;go_wp2;go_ret;exact⟨AH (by rw[f.o];rfl),b⟩
 |false=>
  by_cases hs:d.size=0
  .have r:d.toList.isEmpty=true:=by rw[GO];simpa using hs
   have f:Hid (Eh false d g=true):=by show _=_;simpa [Eh]using hs
   clear hs;go_wp2_with fail;refine(v.o _).mono ?_;rintro e H ⟨rfl,rfl⟩;cases nu with
   |false=>go_wp2;go_ret;exact⟨AH Yu,b⟩
   |true=>
    cases un with
    |true=>
     go_wp2_with fail;refine(GD a _ z).mono ?_;rintro e I ⟨rfl,rfl⟩;cases hno:BZ a with
     |false=>go_wp2;go_ret;exact⟨AH (by simp[Fb,hno]),b⟩
     |true=>
      have c:Hid (Fb true a=true):=hno;clear hno;cases ut with
      |true=>go_wp2_with fail;refine(Cl t o cap l g _ (i.M b) s u).mono ?_;rintro e y ⟨rfl,j⟩;go_wp2;go_ret;exact⟨AH (by rw[f.o,c.o];rfl),b.trans (j.mono Yu)⟩
      |false=>
       by_cases h0:t.size=0
       .have q:t.toList.isEmpty=true:=by rw[GO];simpa using h0
        have h:=Yw h0;clear h0;go_wp2;go_ret;exact⟨AH (by rw[f.o,c.o];exact Il h.o),b⟩
       .have q:t.toList.isEmpty=false:=by rw[GO];simpa using h0
        have h:=Yw h0;clear h0;go_wp2;go_ret;exact⟨AH (by rw[f.o,c.o];exact Im h.o),b⟩
    |false=>
     by_cases hno:a.size=0
     .have m:a.toList.isEmpty=true:=by rw[GO];simpa using hno
      have c:Hid (Fb false a=true):=by show _=_;simpa [Fb]using hno
      clear hno;cases ut with
      |true=>go_wp2_with fail;refine(Cl t o cap l g _ (i.M b) s u).mono ?_;rintro e y ⟨rfl,j⟩;go_wp2;go_ret;exact⟨AH (by rw[f.o,c.o];rfl),b.trans (j.mono Yu)⟩
      |false=>
       by_cases h0:t.size=0
       .have q:t.toList.isEmpty=true:=by rw[GO];simpa using h0
        have h:=Yw h0;clear h0;go_wp2;go_ret;exact⟨AH (by rw[f.o,c.o];exact Il h.o),b⟩
       .have q:t.toList.isEmpty=false:=by rw[GO];simpa using h0
        have h:=Yw h0;clear h0;go_wp2;go_ret;exact⟨AH (by rw[f.o,c.o];exact Im h.o),b⟩
     .have m:a.toList.isEmpty=false:=by rw[GO];simpa using hno
      have c:Hid (Fb false a=false):=by show _=_;simpa [Fb]using hno
      clear hno;go_wp2;go_ret;exact⟨AH (by rw[c.o];simp),b⟩
  .have r:d.toList.isEmpty=false:=by rw[GO];simpa using hs
   have f:Hid (Eh false d g=false):=by show _=_;simpa [Eh]using hs
   clear hs;go_wp2;go_ret;exact⟨AH (by rw[f.o];rfl),b⟩
def u8(x:Int):UInt8:=UInt8.ofNat x.toNat
theorem Gk(x:Int)(a:0<=x)(h:x<256):Value.int .u8 x=.int .u8 ((u8 x).toNat:Int):=by
 have:(u8 x).toNat=x.toNat:=by simp[u8];omega
 rw[this];congr 1;omega
def CS(k n m:Int):List UInt8:=[u8 k,u8 (n/16777216),u8 (n/65536%256),u8 (n/256%256),u8 (n%256),u8 m]
def DF(k:Nat)(sum name:Zi)(n:Int)(t:Zi)(ss:Zl):List UInt8:=
 CS k n name.size++name.data.toList++sum.data.toList++(if k=1 then BG t ss else [])
theorem GP(w:Zh){l:Array Oper}{a:Act}{K:Act->Zh->Prop}{Q:Exit->Act->Zh->Prop}{E:Prop}(z:o.guard=none)(q x:Operand)(t u:TypeId)(D:o.op=.call {callee:=.builtin .append,args:= #[q,x],argTypes:= #[t,u]})(b:Nat)(e:TypeId)(i:TypeInfo)(H:P.underlying t=some (.slice e))(I:P.underlying u=some .string)(C:P.info? e=some i)(M:i.zero=some (.int .u8 0))(f:i.size=1)(y:i.bytes=1)(v:Value)(n:Nat)(m:Zj)(G:a.eval q=v)(k:w.ownsRow b e 1 v n m)(s:Zi)(L:a.eval x=.string s)(r:n+s.size<=maxLen)(c:n+s.size<=140737488355328)(d:b<=w.heap.size)(h:∀j g,g.ownsRow b e 1 j (n+s.size) (m++Lib.strCells s)->w.grownBy g v.ownBlock->K (a.put o.dst j) g):
 if Region.wanted o (yielded l a.tmps)=true then Oper.wp P o a w K Q else E:=by
 have J:Region.wanted o (yielded l a.tmps)=true:=by simp[Region.wanted,z]
 rw[if_pos J];obtain⟨j,g,F,A,B,_⟩:=Lib.run_append_own_string (P:=P) w b t u o.type e i H I C M f y v n m k s r c d;unfold Oper.wp execOp;simp only[D,resolve,invoke,builtin,Sem.run_bind,Sem.run_pure,Result.andThen_ok,List.map_toArray,List.map_cons,List.map_nil,G,L,F];exact h j g A B
structure Uh (k:Nat) (sum name:Zi) (n:Int) (t:Zi) (ss:Zl) (wd:Int):Prop where
 w1:1<=wd
 w2:wd<=8
 sum:sum.size<=8
 name:name.size<=40
 n0:0<=n
 n1:n<=1000000000
 dv:k=1->Ay t ss wd=true
theorem FC{a:Zi}{n:Int}{f:Zl}{g:Int}(h:Ei k e a n t f g=true):Uh k e a n t f g:=by
 unfold Ei at h;simp only[Bool.and_eq_true,decide_eq_true_eq]at h;obtain⟨⟨i,j⟩,d,b,c,m⟩:=h;refine⟨i,j,?_,?_,?_,?_,?_⟩
 .unfold Eh at d;split at d<;>simp at d
  .omega
  .simp[d]
 .unfold Fb at b;split at b
  .unfold BZ at b;simp at b;omega
  .simp at b;simp[b]
 .unfold FB at c;split at c<;>simp at c<;>omega
 .have o:Gc k<=1000000000:=by
   unfold Gc;split
   .omega
   .split<;>omega
  unfold FB at c;split at c<;>simp at c<;>omega
 .intro l;subst l;exact m
theorem Rn:(prog.info? 5).map (fun i=>(i.zero,i.size,i.bytes))=some (some (.int .u8 0),1,1):=Ys
theorem Ro(k n m:Int)(a:0<=k)(c:k<256)(e:0<=n)(f:n<=1000000000)(b:0<=m)(d:m<256):
 [Value.int .u8 k,.int .u8 (n/16777216),.int .u8 (n/65536%256),.int .u8 (n/256%256),.int .u8 (n%256),.int .u8 m]=Lib.byteCells (CS k n m):=by
 rw[Gk k a c,Gk (n/16777216) Yv Yv,Gk (n/65536%256) Yv Yv,Gk (n/256%256) Yv Yv,Gk (n%256) Yv Yv,Gk m b d];rfl
theorem Pj{a:Nat}{e:TypeId}{d:Zj}(h:w.ownsRow a e 1 v n d)(f:b<a):some b≠v.ownBlock:=by intro c;have:=(h.lt b c.symm).1;omega
theorem Rp(k:Nat)(c b:Zi)(n:Int)(t:Zi)(A:Zk)(cap:Nat)(d:Zl)(T:Int)(w:Zh)(h1:1<=k)(h7:k<=7)(u:Ab w w.heap.size A d)(hl:d.length<=1048576)(ht:t.size<=maxLen)(G:Ei k c b n t d T=true):
 Calls prog 118 #[.agg (Ik k c b n t A d.length cap),Zg T] w fun e w'=>e=.returned (.string ⟨(DF k c b n t d).toArray⟩)/\Zz w w':=by
 have hp:=FC G;obtain⟨zP,zR,zV,zE,zK,zM,H⟩:=hp;obtain⟨i0,hi,R,S,v⟩:=info_parts Rn;have N:Below w.heap.size w (w.alloc (.cells (Ik k c b n t A d.length cap) 162)):=Zy;go_enter func118,ntmps118;go_wp2_with fail;refine(Ph k c b n t A cap d T _ h1 h7 zP zR (u.M N) hl ht Yp).mono ?_;rintro e g ⟨rfl,i⟩;rw[G];have hz:=i.size;simp at hz;have f:w.heap.size<g.heap.size:=Yv
 have L:=N.trans (i.mono Yu);have U:g.cell? (Zd (w.heap.size) 0)=some (Zg k):=by rw[i.cell (p:=⟨w.heap.size,0,none⟩) Yu];simp
 have V:g.cell? (Zd (w.heap.size) 1)=some (.string c):=by rw[i.cell (p:=⟨w.heap.size,1,none⟩) Yu];simp
 have x2:g.cell? (Zd (w.heap.size) 2)=some (.string b):=by rw[i.cell (p:=⟨w.heap.size,2,none⟩) Yu];simp
 have x3:g.cell? (Zd (w.heap.size) 3)=some (Zg n):=by rw[i.cell (p:=⟨w.heap.size,3,none⟩) Yu];simp
 have X:g.cell? (Zd (w.heap.size) 4)=some (.string t):=by rw[i.cell (p:=⟨w.heap.size,4,none⟩) Yu];simp
 have Y:g.cell? (Zd (w.heap.size) 5)=some (.slice A d.length cap):=by rw[i.cell (p:=⟨w.heap.size,5,none⟩) Yu];simp
 have I:=u.below L;have zF:=Yw G;clear G H u i N;obtain⟨z,C⟩:∃W,W=g.alloc (.cells #[.int .u8 k,.int .u8 (n/16777216),.int .u8 (n/65536%256),.int .u8 (n/256%256),.int .u8 (n%256),.int .u8 b.size] 5):=⟨_,rfl⟩;have D:z.ownsRow g.heap.size 5 1 (Yz g.heap.size 6 6) 6 (Lib.byteCells (CS k n b.size)):=by rw[C,<-Ro k n b.size Yv Yv zK zM Yv Yv];exact World.ownsRow_lit g _ 6 (Zx) (by simp[maxLen]) rfl
 have l:Below g.heap.size g z:=by rw[C];exact Zy
 have zC:=l.size;have HW:=Yw C;clear C;go_wp2;rw[<-HW.o];have U:z.cell? (Zd (w.heap.size) 0)=some (Zg k):=(l.cell (p:=⟨w.heap.size,0,none⟩) f).trans U;have V:z.cell? (Zd (w.heap.size) 1)=some (.string c):=(l.cell (p:=⟨w.heap.size,1,none⟩) f).trans V;have x2:z.cell? (Zd (w.heap.size) 2)=some (.string b):=(l.cell (p:=⟨w.heap.size,2,none⟩) f).trans x2
 have X:z.cell? (Zd (w.heap.size) 4)=some (.string t):=(l.cell (p:=⟨w.heap.size,4,none⟩) f).trans X;have Y:z.cell? (Zd (w.heap.size) 5)=some (.slice A d.length cap):=(l.cell (p:=⟨w.heap.size,5,none⟩) f).trans Y;have h:=Pj D f
 go_region_law (first
  |(refine GP _ rfl (.tmp 35) (.tmp 37) 22 9 rfl g.heap.size 5 i0 underlying22 underlying9 hi R S v _ 6 (Lib.byteCells (CS k n b.size)) rfl (by exact D) b rfl Yp Yv (by exact zC) ?_;intro v3 w3 E m;have y1:=m.cell (a:=⟨w.heap.size,1,none⟩) (by exact V) h)
  |(refine GP _ rfl (.tmp 38) (.tmp 40) 22 9 rfl g.heap.size 5 i0 underlying22 underlying9 hi R S v _ (6+b.size) (Lib.byteCells (CS k n b.size)++Lib.strCells b) rfl E c rfl Yp Yv (by have:=m.size;simp at this;omega) ?_;intro v4 w4 s r))
 all_goals
  have o:=Pj E f;have zS:=m.size;have yD:=r.size;simp at zS;have z0:=r.cell (a:=⟨w.heap.size,0,none⟩) (m.cell (a:=⟨w.heap.size,0,none⟩) (by exact U) h) o;have z4:=r.cell (a:=⟨w.heap.size,4,none⟩) (m.cell (a:=⟨w.heap.size,4,none⟩) (by exact X) h) o;have z5:=r.cell (a:=⟨w.heap.size,5,none⟩) (m.cell (a:=⟨w.heap.size,5,none⟩) (by exact Y) h) o
  have Z:Below g.heap.size g w4:=((l.drew).grown m (by exact zC) (fun k B=>(D.lt k B).1)).grown r Yv (fun k B=>(E.lt k B).1);obtain⟨g4,c4,zN,zY,zZ⟩:=s.form Yv;subst zN;have x:Lib.byteCells (CS k n b.size)++Lib.strCells b++Lib.strCells c=Lib.byteCells (CS k n b.size++b.data.toList++c.data.toList):=by rw[Lib.strCells_eq,Lib.strCells_eq,<-Lib.byteCells_append,<-Lib.byteCells_append]
  rw[x]at s;have M:=L.trans (Z.mono L.size);have J:=I.below (Z.mono Yv);clear x m r E U V x2 X Y y1 D l h o;by_cases hk1:k=1
  .subst hk1;have H:=(FC zF.o).dv rfl;have Q:=AX H;have zX:=Q.bp;have yC:=Q.E;have yB:=Q.B;go_wp2_with fail;refine(Mc t A cap d T w4 (J.mono Yv) H).mono ?_;rintro e w5 ⟨rfl,q⟩;have O:=s.kept (row:=none) ⟨q.os,q.tape,q.output,q.size,fun k B _=>q.block k B⟩ (.inr (by simp[Value.ownBlock]));have yE:=q.size;have zI:(BG t d).length<=3000:=by have:=Dh d;simp[BG,this];omega
   have zB:(ByteArray.mk (BG t d).toArray).size=(BG t d).length:=by simp[ByteArray.size]
   have K:=Yw zB;clear zB;obtain⟨F,hF⟩:∃F,F=ByteArray.mk (BG t d).toArray:=⟨_,rfl⟩;rw[<-hF]at K |-;have zW:F.size<=3000:=by rw[K.o];exact zI
   have HF:=Yw hF;clear hF;go_wp2_with (at_builtin;refine Lib.wpList_append_own_string _ rfl _ _ 22 9 rfl g.heap.size 5 i0 underlying22 underlying9 hi R S v _ _ _ rfl O F rfl ?c3 ?c4 ?c5 ?_)
   case c3=>unfold maxLen;omega
   case c4=>omega
   case c5=>omega
   intro v6 w6 y zJ _;obtain⟨g6,c6,zO,zT,zU⟩:=y.form Yv;subst zO;have zG:=(q.mono M.size).grown zJ Yv (fun k B=>by have:=(O.lt k B).1;omega);have x:Lib.byteCells (CS 1 n b.size++(b.data.toList++c.data.toList))++Lib.strCells F=Lib.byteCells (DF 1 c b n t d):=by rw[Lib.strCells_eq,<-Lib.byteCells_append,HF.o];unfold DF;rw[if_pos rfl];simp[List.append_assoc]
   rw[x]at y;have hlen:6+b.size+c.size+F.size=(DF 1 c b n t d).length:=by rw[K.o];simp[DF,CS];omega
   rw[hlen]at y |-;have zH:=run_convert_bytes_back (P:=prog) w6 22 9 5 ⟨g6,0,none⟩ c6 (DF 1 c b n t d) underlying22 underlying5 underlying9 (fun j hj=>y.cells rfl j _ (by simp[Lib.byteCells,hj]));clear y O x;go_wp2;go_ret;exact⟨rfl,M.trans zG⟩
  .have yA:((k:Int)==1)=false:=beq_eq_false_iff_ne.2 Yv;have hlen:6+b.size+c.size=(DF k c b n t d).length:=by unfold DF;rw[if_neg hk1];simp[CS];omega
   have zA:CS k n b.size++b.data.toList++c.data.toList=DF k c b n t d:=by unfold DF;rw[if_neg hk1,List.append_nil]
   rw[zA,hlen]at s;rw[hlen];have zH:=run_convert_bytes_back (P:=prog) w4 22 9 5 ⟨g4,0,none⟩ c4 (DF k c b n t d) underlying22 underlying5 underlying9 (fun j hj=>s.cells rfl j _ (by simp[Lib.byteCells,hj]));clear s zA;go_wp2;go_ret;exact⟨rfl,M⟩
def Ci(k:Int)(sum name:Zi)(n:Int)(t:Zi)(ss:Zl)(wd:Int):Bool:=decide (1<=k/\k<=7)&&Ei k.toNat sum name n t ss wd
theorem Ta(k:Int)(b a:Zi)(n:Int)(t:Zi)(f:Zk)(cap:Nat)(c:Zl)(d:Int)(w:Zh)(g:Ab w w.heap.size f c)(h:c.length<=1048576)(j:t.size<=maxLen)(i:a.size<=maxLen):
 Calls prog 122 #[.agg (Ik k b a n t f c.length cap),Zg d] w fun e l=>e=.returned (.bool (Ci k b a n t c d))/\Zz w l:=by
 unfold Ci;by_cases hk:1<=k/\k<=7
 .obtain⟨m,rfl⟩:∃m:Nat,k=m:=⟨k.toNat,Yv⟩;rw[decide_eq_true hk,Bool.true_and,Int.toNat_natCast];by_cases hw:1<=d/\d<=8
  .exact Ph m b a n t f cap c d w Yv Yv hw.1 hw.2 g h j i
  .exact Rm m b a n t f cap c d w hw
 .rw[decide_eq_false hk,Bool.false_and];exact SZ k b a n t f cap c d w hk
def CI(k:Int)(sum name:Zi)(n:Int)(t:Zi)(ss:Zl)(wd:Int):Zi:=if Ci k sum name n t ss wd=true then ⟨(DF k.toNat sum name n t ss).toArray⟩else ByteArray.empty
end Go.Proofs.YtmjlkgpekcnacaaGreat
