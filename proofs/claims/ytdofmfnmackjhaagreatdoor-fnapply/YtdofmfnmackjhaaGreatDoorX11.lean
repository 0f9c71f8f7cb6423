import Derived.Test.YtdofmfnmackjhaaGreatDoorX05
import Derived.Test.YtdofmfnmackjhaaGreatDoorX07
import Derived.Test.YtdofmfnmackjhaaGreatDoorX06
import Derived.Orders
import Derived.Laws.BytesArg
import Derived.Deep.LoopGhost
import Derived.RegionTactic
set_option maxRecDepth 100000
set_option maxHeartbeats 16000000
namespace Go.Proofs.YtdofmfnmackjhaaGreatDoor
open ChangeShapes WideShapes ChangeAt RowKit _root_.Go.Proofs.Tryz List World Value
variable{k b a i c id last n B g q:Nat}{P:Program}{w W X Y:Zh}{e d:Int}{f Q:Zl}{M v:Value}{ks:Dj}{s:Zi}{V:List Nat}{K:TypeId}
def BJ(L:Nat->Bool)(i:Nat):Nat->Bool:=fun j=>if j=i then true else L j
theorem JL{k:Region.Mode}{b:Array Oper}{a:Array Bool}:i∈Region.ready k b a↔i<b.size/\a.getD i true=false/\∃o,b[i]?=some o/\∀e∈o.after,Region.binds k e=true->a.getD e.on false=true:=by
 unfold Region.ready;rw[Bb,mem_range];constructor
 .rintro⟨f,c⟩;rw[Bool.and_eq_true,Bool.not_eq_true']at c;have g:b[i]?=some b[i]:=Cf f;refine⟨f,c.1,_,g,λe j h=> ?_⟩;have d:=c.2;rw[g]at d;simp only[Option.map_some,Option.getD_some,Array.all_eq_true_iff_forall_mem]at d;have l:=d e j;rw[h]at l;simpa using l
 .rintro⟨f,c,o,g,d⟩;refine⟨f,?_⟩;rw[c,g];simp only[Option.map_some,Option.getD_some,Bool.not_false,Bool.true_and,Array.all_eq_true_iff_forall_mem];intro e j;cases h:Region.binds k e with
  |false=>rfl
  |true=>simpa using d e j h
theorem Rw:∀(l:List Bool) (i:Nat),l[i]?=some false->((l.set i true).filter (! ·)).length+1=(l.filter (! ·)).length
 |[],i,h=>by simp at h
 |x::l,0,h=>by simp at h;simp[h]
 |x::l,i+1,h=>by have:=Rw l i (D2 h);cases x<;>simp at this |-<;>omega
theorem YD{c:Array Oper}{Q:Exit->Act->Zh->Prop}(I:(Nat->Bool)->Act->Zh->Prop)(B:∀L a w i o,I L a w->c[i]?=some o->L i=false->(∀e∈o.after,Region.binds .any e=true->L e.on=true)->wpOp P c Q i (I (BJ L i)) a w)(v:∀L a w,I L a w->(∀i,i<c.size->L i=true)->Q .normal a w)(z:∀i o,c[i]?=some o->∀e∈o.after,Region.binds .any e=true->e.on<i):
 ∀(d:Nat) (b:Array Bool) (a:Act) (w:Zh),b.size=c.size->(b.toList.filter (! ·)).length<=d->I (λj=>b.getD j false) a w->wpAny P .any c Q d b a w:=by
 have s:∀b:Array Bool,b.size=c.size->Region.ready .any c b=[]->∀i,i<c.size->b.getD i false=true:=by
  intro b r t i;induction i using Nat.strongRecOn with
  |_ i ih=>
   intro q;cases hv:b.getD i false with
   |true=>rfl
   |false=>
    have l:i∈Region.ready .any c b:=by
     refine JL.2 ⟨q,?_,_,Cf q,λe g f=> ?_⟩
     .rw[Array.getD_eq_getD_getElem?,Cf Yv]at hv |-;simpa using hv
     .have n:=z i _ (Cf q) e g f;exact ih e.on n Yv
    rw[t]at l;cases l
 intro d;induction d with
 |zero=>
  intro b a w r A p;have n:∀i,i<c.size->b.getD i false=true:=by
   intro i q;cases hv:b.getD i false with
   |true=>rfl
   |false=>exfalso;have m:(b.toList.filter (! ·))=[]:=Bl Yv;rw[filter_eq_nil_iff]at m;rw[Array.getD_eq_getD_getElem?,Cf Yv]at hv;have:=m (b[i]'(by omega)) Yu;simp at hv;simp[hv]at this
  refine⟨?_,v _ a w p n⟩;rw[eq_nil_iff_forall_not_mem];intro i l;have⟨m,f,_⟩:=JL.1 l;have g:=n i m;rw[Array.getD_eq_getD_getElem?,Cf Yv]at f g;simp at f g;rw[f]at g;cases g
 |succ d ih=>
  intro b a w r A p;refine⟨λt=>v _ a w p (s b r t),λi l=> ?_⟩;have⟨m,f,o,g,y⟩:=JL.1 l;have k:i<b.size:=Yv
  have u:b[i]=false:=by rw[Array.getD_eq_getD_getElem?,Cf k]at f;simpa using f
  refine wpOp_mono (λx C h=>ih _ x C (D2 r) ?_ ?_) (B _ a w i o p g ?_ y)
  .have x:((b.setIfInBounds i true).toList.filter (! ·)).length+1=(b.toList.filter (! ·)).length:=by rw[Array.toList_setIfInBounds];exact Rw _ i (by rw[Array.getElem?_toList,Cf k,u])
   omega
  .have e:(λj=>(b.setIfInBounds i true).getD j false)=BJ (λj=>b.getD j false) i:=by
    funext j
    unfold BJ;by_cases hj:j=i
    .subst hj;simp[k]
    .simp[hj,Array.getD_eq_getD_getElem?,Array.getElem?_setIfInBounds_ne (Ne.symm hj)]
   rw[e];exact h
  .show b.getD i false=false;rw[Array.getD_eq_getD_getElem?,Cf k];simpa using u
theorem Sq{b:Array Oper}{Q:Exit->Act->Zh->Prop}{a:Act}(g:P.follows .mixedOrders=true)(I:(Nat->Bool)->Act->Zh->Prop)(d:∀i o,b[i]?=some o->∀e∈o.after,Region.binds .any e=true->e.on<i)(c:I (λ_=>false) a w.drew)(h:∀L a w i o,I L a w->b[i]?=some o->L i=false->(∀e∈o.after,Region.binds .any e=true->L e.on=true)->wpOp P b Q i (I (BJ L i)) a w)(f:∀L a w,I L a w->(∀i,i<b.size->L i=true)->Q .normal a w):(Code.region k b true).wp P Q a w:=by
 refine wp_region_any g (YD I h f d b.size _ a _ Yu Yu ?_);have e:(λj=>(Array.replicate b.size false).getD j false)=λ_=>false:=by
  funext j
  rw[Array.getD_eq_getD_getElem?];by_cases hj:j<b.size
  .simp[hj]
  .simp[hj]
 rw[e];exact c
theorem Px(L:Nat->Bool)(i:Nat):∀n,i<n->L i=false->((range n).filter (BJ L i)).length=((range n).filter L).length+1
 |0,h,_=>absurd h (Nat.not_lt_zero _)
 |n+1,h,hL=>by
  rw[range_succ,filter_append,filter_append,Ak,Ak];by_cases hn:i=n
  .subst hn;have a:(range i).filter (BJ L i)=(range i).filter L:=filter_congr (λx b=>by have:=mem_range.1 b;unfold BJ;rw[if_neg Yv]);rw[a];simp[BJ,hL]
  .have a:=Px L i n Yv hL;have b:BJ L i n=L n:=by unfold BJ;rw[if_neg (Ne.symm hn)]
   rw[a];simp only[filter_cons,b,filter_nil];omega
def ID(ops:Array Oper):Bool:=(List.range ops.size).all fun i=>((ops[i]?).map (·.after.all fun e=>decide (e.on<i))).getD true
theorem KK{a:Array Oper}(h:ID a=true):∀i o,a[i]?=some o->∀e∈o.after,Region.binds .any e=true->e.on<i:=by intro i o c e d _;unfold ID at h;rw[all_eq_true]at h;have b:=h i (mem_range.2 (A2.1 c).1);rw[c]at b;simp only[Option.map_some,Option.getD_some,Array.all_eq_true_iff_forall_mem]at b;simpa using b e d
def It(ops:Array Oper)(i j:Nat):Bool:=((ops[i]?).map (·.after.any fun e=>e.on==j&&Region.binds .any e)).getD false
theorem Ie{a:Array Oper}{j:Nat}{o:Oper}(d:a[i]?=some o)(h:It a i j=true):∃e∈o.after,e.on=j/\Region.binds .any e=true:=by unfold It at h;rw[d]at h;simp only[Option.map_some,Option.getD_some,Array.any_eq_true']at h;obtain⟨e,c,b⟩:=h;rw[Bool.and_eq_true]at b;exact⟨e,c,eq_of_beq b.1,b.2⟩
def Py(ops:Array Oper)(last:Nat):Bool:=(List.range last).all fun i=>It ops last i||(List.range last).any fun m=>It ops last m&&It ops m i
def FV(e:Edge):Bool:=match e.ground with
 |.data=>Region.binds .any e
 |_=>false
theorem LZ{e:Edge}(h:FV e=true):Region.binds .any e=true:=by
 unfold FV at h;split at h
 .exact h
 .cases h
def YC(ops:Array Oper)(last:Nat)(kl:List (Nat×Nat)):Bool:=kl.all fun p=>(List.range last).all fun m=>m==p.1||(p.1<last&&It ops p.1 m)||((ops[m]?).map (·.after.all fun e=>e.on !=p.2|| !FV e)).getD true
theorem Jm{b:Array Oper}{Q:Exit->Act->Zh->Prop}(last:Nat)(Y:P.follows .mixedOrders=true)(zG:b.size=last+1)(ha:ID b=true)(X:Py b last=true)(z:List (Nat×Nat))(I:YC b last z=true)(F:(Nat->Value)->Act)(R:Nat->Value)(J:(Nat->Bool)->Zh->Prop)(T:Nat->Zh->Value->Prop)(E:Nat->Zh->Zh->Prop)(hE:∀j i w q v,j≠i->(j,i)∉z->It b i j=false->E j w q->T i w v->T i q v)(hF:∀i o d v,i<last->b[i]?=some o->(F d).put o.dst v=F (λj=>if j=i then v else d j))(h0:J (λ_=>false) w.drew)(hs:∀i o L d w,i<last->b[i]?=some o->L i=false->(∀e∈o.after,Region.binds .any e=true->L e.on=true)->J L w->(∀e∈o.after,FV e=true->T e.on w (d e.on))->∀K:Act->Zh->Prop,Hid (∀v q,T i q v->E i w q->J (BJ L i) q->K ((F d).put o.dst v) q)->if Region.wanted o (yielded b (F d).tmps)=true then Oper.wp P o (F d) w K Q else K ((F d).put o.dst undef) w)(hf:∀o L d w,b[last]?=some o->(∀i,i<last->L i=true)->J L w->(∀i,i<last->(∀j,(j,i)∉z)->T i w (d i))->∀K:Act->Zh->Prop,Hid (∀a w,Q .normal a w->K a w)->if Region.wanted o (yielded b (F d).tmps)=true then Oper.wp P o (F d) w K Q else K ((F d).put o.dst undef) w):
 (Code.region id b true).wp P Q (F R) w:=by
 refine Sq Y (λL a w=>if L last=true then (∀i,i<last->L i=true)/\Q .normal a w else ∃d,a=F d/\J L w/\(∀j o,j<last->b[j]?=some o->L j=true->∀e∈o.after,Region.binds .any e=true->L e.on=true)/\∀i,i<last->L i=true->(∀j,(j,i)∈z->L j=false)->T i w (d i)) (KK ha) ?_ ?_ ?_
 .rw[if_neg Yu];exact⟨R,rfl,h0,λj o _ _ h=>by simp at h,λi _ h=>by simp at h⟩
 .intro L a w i o r l x y;have hi:i<b.size:=(A2.1 l).1;by_cases hil:i=last
  .subst hil;rw[if_neg (by rw[x];simp)]at r;obtain⟨d,rfl,V,D,G⟩:=r;have k:∀j,j<i->L j=true:=by
    intro j g;unfold Py at X;rw[all_eq_true]at X;have c:=X j (mem_range.2 g);rw[Bool.or_eq_true]at c;rcases c with c|c
    .obtain⟨e,p,U,n⟩:=Ie l c;rw[<-U];exact y e p n
    .obtain⟨m,Y,t⟩:=any_eq_true.1 c;rw[Bool.and_eq_true]at t;have⟨e,p,U,n⟩:=Ie l t.1;have zE:=mem_range.1 Y;have O:b[m]?=some b[m]:=Cf Yv;have⟨S,A,e2,zB⟩:=Ie O t.2;rw[<-e2];exact D m _ zE O (by rw[<-U];exact y e p n) S A zB
   refine wpOp_step l (λK W=>hf o L d w l k V (λj g hn=>G j g (k j g) (λZ B=>absurd B (hn Z))) K (λa w h=>W a w ?_));show if BJ L i i=true then _ else _
   rw[if_pos (by unfold BJ;rw[if_pos rfl])];exact⟨λj g=>by unfold BJ;rw[if_neg Yv];exact k j g,h⟩
  .have s:i<last:=Yv
   have H:L last=false:=by
    cases h:L last with
    |false=>rfl
    |true=>rw[if_pos h]at r;have:=r.1 i s;rw[x]at this;cases this
   rw[if_neg (by rw[H];simp)]at r;obtain⟨d,rfl,V,D,G⟩:=r;have M:∀j,j<last->L j=true->It b j i=false:=λj g f=>by
    cases c:It b j i with
    |false=>rfl
    |true=>have N:b[j]?=some b[j]:=Cf Yv;have⟨S,A,t,h4⟩:=Ie N c;have u:=D j _ g N f S A h4;rw[t,x]at u;cases u
   refine wpOp_step l (λK W=>hs i o L d w s l x y V (λe p n=>G e.on (Dz (KK ha i o l e p (LZ n))) (y e p (LZ n)) (λj g=> ?_)) K (λv q hv hw zA=>W _ q ?_))
   .unfold YC at I;have c:=all_eq_true.1 (all_eq_true.1 I _ g) i (mem_range.2 s);rw[l]at c;simp only[Option.map_some,Option.getD_some,Bool.or_eq_true,beq_iff_eq,Array.all_eq_true_iff_forall_mem]at c;rcases c with(c|c)|c
    .rw[<-c];exact x
    .rw[Bool.and_eq_true]at c;cases f:L j with
     |false=>rfl
     |true=>have zC:j<last:=of_decide_eq_true c.1;have u:=M j zC f;rw[c.2]at u;cases u
    .have:=c e p;rw[n]at this;simp at this
   show if BJ L i last=true then _ else _
   rw[if_neg (by unfold BJ;rw[if_neg (Ne.symm hil),H];simp),hF i o d v s l];refine⟨_,rfl,zA,λj o' g C f e p n=> ?_,λj g f hN=> ?_⟩
   .have c:L e.on=true:=by
     by_cases hji:j=i
     .subst hji;rw[l]at C;cases C;exact y e p n
     .unfold BJ at f;rw[if_neg hji]at f;exact D j o' g C f e p n
    unfold BJ;rw[c];simp
   by_cases hji:j=i
   .subst hji;rw[if_pos rfl];exact hv
   .rw[if_neg hji];have zF:(i,j)∉z:=λh=>by have:=hN i h;unfold BJ at this;rw[if_pos rfl]at this;cases this
    unfold BJ at f;rw[if_neg hji]at f;refine hE i j w q _ (λe=>hji e.symm) zF (M j g f) hw (G j g f (λZ B=> ?_));have:=hN Z B;unfold BJ at this;split at this
    .cases this
    .exact this
 .intro L a w r k;rw[if_pos (k last Yv)]at r;exact r.2
def JM(last:Nat)(J:Nat->Zh->Prop):(Nat->Bool)->Zh->Prop:=fun L w=>J ((List.range last).filter L).length w
theorem WV{J:Nat->Zh->Prop}(h:J 0 w):JM last J (λ_=>false) w:=by unfold JM;rw[show(range last).filter (λ_=>false)=[]from by simp];exact h
theorem Uk{L:Nat->Bool}(c:i<last)(b:L i=false):((range last).filter L).length<last:=by have d:=Px L i last c b;have a:((range last).filter (BJ L i)).length<=(range last).length:=length_filter_le _ _;rw[length_range]at a;omega
theorem WW{J:Nat->Zh->Prop}{L:Nat->Bool}(b:i<last)(a:L i=false)(h:J (((range last).filter L).length+1) w):JM last J (BJ L i) w:=by unfold JM;rw[Px L i last b a];exact h
theorem Rx{J:Nat->Zh->Prop}{L:Nat->Bool}(a:∀i,i<last->L i=true)(h:JM last J L w):J last w:=by have b:(range last).filter L=range last:=filter_eq_self.2 (λx c=>a x (mem_range.1 c));unfold JM at h;rw[b,length_range]at h;exact h
theorem Pz{c:Array Oper}{Q:Exit->Act->Zh->Prop}{H:Nat}(last:Nat)(D:P.follows .mixedOrders=true)(r:c.size=last+1)(n:ID c=true)(C:Py c last=true)(F:(Nat->Value)->Act)(g:Nat->Value)(J:Nat->Zh->Prop)(T:Nat->Zh->Value->Prop)(E:Zh->Zh->Prop)(y:∀i w d v,E w d->T i w v->T i d v)(z:∀i o b v,i<last->c[i]?=some o->(F b).put o.dst v=F (λj=>if j=i then v else b j))(s:J 0 w.drew)(G:∀i o k b w,i<last->c[i]?=some o->k<last->J k w->(∀e∈o.after,FV e=true->T e.on w (b e.on))->∀K:Act->Zh->Prop,Hid (∀v d,T i d v->E w d->J (k+1) d->K ((F b).put o.dst v) d)->if Region.wanted o (yielded c (F b).tmps)=true then Oper.wp P o (F b) w K Q else K ((F b).put o.dst undef) w)(B:∀o b w,c[last]?=some o->J last w->(∀i,i<last->T i w (b i))->∀K:Act->Zh->Prop,Hid (∀a w,Q .normal a w->K a w)->if Region.wanted o (yielded c (F b).tmps)=true then Oper.wp P o (F b) w K Q else K ((F b).put o.dst undef) w):
 (Code.region H c true).wp P Q (F g) w:=
 Jm last D r n C [] rfl F g (JM last J) T (λ_=>E) (λ_ i w d v _ _ _ f l=>y i w d v f l) z (WV s) (λi o L b w f p q _ l m K A=>G i o _ b w f p (Uk f q) l m K (λv d t u x=>A.out v d t u (WW f q x))) (λo L b w p n l m=>B o b w p (Rx n l) (λi f=>m i f (λ_ h=>by cases h)))
def Bk(a:Act):List Nat->(Nat->Value)->Nat->Act
 |[],_,_=>a
 |d::ds,xs,k=>Bk (a.put (some d) (xs k)) ds xs (k+1)
theorem YE(a:Act)(d:Nat)(v u:D4):(a.put (some d) v).put (some d) u=a.put (some d) u:=by simp[Act.put]
theorem PA:∀(ds:List Nat) (a:Act) (xs:Nat->Value) (k d:Nat) (v:D4),d∉ds->(Bk a ds xs k).put (some d) v=Bk (a.put (some d) v) ds xs k
 |[],_,_,_,_,_,_=>rfl
 |e::ds,a,xs,k,d,v,h=>by have b:d≠e:=λx=>h (by rw[x];exact mem_cons_self);show(Bk (a.put (some e) (xs k)) ds xs (k+1)).put (some d) v=Bk ((a.put (some d) v).put (some e) (xs k)) ds xs (k+1);rw[PA ds _ xs (k+1) d v (λx=>h (mem_cons_of_mem _ x)),Act.put_comm a (xs k) v (D2 b)]
theorem GK:∀(ds:List Nat) (a:Act) (xs ys:Nat->Value) (k:Nat),(∀j,k<=j->xs j=ys j)->Bk a ds xs k=Bk a ds ys k
 |[],_,_,_,_,_=>rfl
 |d::ds,a,xs,ys,k,h=>by show Bk (a.put (some d) (xs k)) ds xs (k+1)=Bk (a.put (some d) (ys k)) ds ys (k+1);rw[h k (Zx)];exact GK ds _ xs ys (k+1) (λj b=>h j Yv)
theorem Rz:∀(ds:List Nat) (a:Act) (xs:Nat->Value) (k i d:Nat) (v:D4),ds.Nodup->ds[i]?=some d->(Bk a ds xs k).put (some d) v=Bk a ds (λj=>if j=k+i then v else xs j) k
 |[],_,_,_,_,_,_,_,h=>by simp at h
 |e::ds,a,xs,k,0,d,v,hn,h=>by
  obtain rfl:e=d:=D2 h
  show(Bk (a.put (some e) (xs k)) ds xs (k+1)).put (some e) v=Bk (a.put (some e) (if k=k+0 then v else xs k)) ds _ (k+1);rw[PA ds _ xs (k+1) e v (nodup_cons.1 hn).1,YE,if_pos (Nat.add_zero k).symm];exact GK ds _ _ _ (k+1) (λj b=>by rw[if_neg Yv])
 |e::ds,a,xs,k,i+1,d,v,hn,h=>by show(Bk (a.put (some e) (xs k)) ds xs (k+1)).put (some d) v=Bk (a.put (some e) (if k=k+(i+1)then v else xs k)) ds _ (k+1);rw[Rz ds _ xs (k+1) i d v (nodup_cons.1 hn).2 (D2 h),if_neg Yv];exact GK ds _ _ _ (k+1) (λj b=>by rw[show k+1+i=k+(i+1) by omega])
theorem VC(a:Act)(d:Nat):a.put (some d) (a.tmps.getD d undef)=a:=by
 obtain⟨t,b⟩:=a;show Act.mk (t.setIfInBounds d (t.getD d undef)) b=_;congr 1;apply Array.ext
 .simp
 .intro i e c;rw[Array.getElem_setIfInBounds];split
  .rename_i h
   subst h;simp[c]
  .rfl
theorem NJ:∀(ds:List Nat) (a:Act) (k:Nat),∃b,Bk a ds b k=a
 |[],a,_=>⟨λ_=>undef,rfl⟩
 |d::ds,a,k=>by have⟨b,h⟩:=NJ ds a (k+1);refine⟨λj=>if j=k then a.tmps.getD d undef else b j,?_⟩;show Bk (a.put (some d) (if k=k then _ else _)) ds _ (k+1)=a;rw[if_pos rfl,VC];exact(GK ds a _ b (k+1) (λj c=>if_neg Yv)).ah h
def VD(ops:Array Oper)(ds:List Nat):Bool:=(List.range ds.length).all fun i=>((ops[i]?).map (fun o=>decide (o.dst=ds[i]?))).getD false
theorem Co{b:Array Oper}{Q:Exit->Act->Zh->Prop}{a:Act}(d:List Nat)(last:Nat)(hlen:d.length=last)(x:Oper)(z:b[last]?=some x)(I:P.follows .mixedOrders=true)(A:b.size=last+1)(s:ID b=true)(H:Py b last=true)(h:VD b d=true)(M:d.Nodup)(n:b.all (·.guard.isNone)=true)(m:List (Nat×Nat))(y:YC b last m=true)(J:(Nat->Bool)->Zh->Prop)(T:Nat->Zh->Value->Prop)(E:Nat->Zh->Zh->Prop)(D:∀j i w f v,j≠i->(j,i)∉m->It b i j=false->E j w f->T i w v->T i f v)(C:J (λ_=>false) w.drew)(N:∀i o L c w,i<last->b[i]?=some o->L i=false->(∀e∈o.after,Region.binds .any e=true->L e.on=true)->J L w->(∀e∈o.after,FV e=true->T e.on w (c e.on))->∀K:Act->Zh->Prop,Hid (∀v f,T i f v->E i w f->J (BJ L i) f->K ((Bk a d c 0).put o.dst v) f)->Oper.wp P o (Bk a d c 0) w K Q)(G:∀L c w,(∀i,i<last->L i=true)->J L w->(∀i,i<last->(∀j,(j,i)∉m)->T i w (c i))->∀K:Act->Zh->Prop,Hid (∀a w,Q .normal a w->K a w)->Oper.wp P x (Bk a d c 0) w K Q):
 (Code.region id b true).wp P Q a w:=by
 subst hlen;have u:∀i o t,b[i]?=some o->Region.wanted o t=true:=λi o t f=>by rw[Array.all_eq_true_iff_forall_mem]at n;have g:=n o (Array.mem_of_getElem? f);simp[Region.wanted,Option.isNone_iff_eq_none.1 g]
 have⟨B,k⟩:=NJ d a 0;have:=Jm (id:=id) (w:=w) (Q:=Q) d.length I A s H m y (λc=>Bk a d c 0) B J T E D ?_ C (λi o L c w l f F h p r K q=>by rw[if_pos (u i o _ f)];exact N i o L c w l f F h p r K q) (λo L c w f s p r K q=>by rw[if_pos (u _ o _ f)];rw[z]at f;cases f;exact G L c w s p r K q)
 .rw[<-k];rw[k]at this;rw[k];exact this
 .intro i o c v l f;unfold VD at h;rw[all_eq_true]at h;have g:=h i (mem_range.2 l);rw[f]at g;simp only[Option.map_some,Option.getD_some,decide_eq_true_eq]at g;have p:=Zv l;rw[g,p];have q:=Rz d a c 0 i _ v M p;rw[A0]at q;exact q
theorem Es{b:Array Oper}{Q:Exit->Act->Zh->Prop}{I:Nat}{a:Act}(f:List Nat)(last:Nat)(hlen:f.length=last)(n:Oper)(r:b[last]?=some n)(F:P.follows .mixedOrders=true)(s:b.size=last+1)(m:ID b=true)(D:Py b last=true)(B:VD b f=true)(G:f.Nodup)(q:b.all (·.guard.isNone)=true)(J:Nat->Zh->Prop)(T:Nat->Zh->Value->Prop)(E:Zh->Zh->Prop)(z:∀i w c v,E w c->T i w v->T i c v)(t:J 0 w.drew)(H:∀i o k d w,i<last->b[i]?=some o->k<last->J k w->(∀e∈o.after,FV e=true->T e.on w (d e.on))->∀K:Act->Zh->Prop,Hid (∀v c,T i c v->E w c->J (k+1) c->K ((Bk a f d 0).put o.dst v) c)->Oper.wp P o (Bk a f d 0) w K Q)(C:∀d w,J last w->(∀i,i<last->T i w (d i))->∀K:Act->Zh->Prop,Hid (∀a w,Q .normal a w->K a w)->Oper.wp P n (Bk a f d 0) w K Q):
 (Code.region I b true).wp P Q a w:=
 Co f last hlen n r F s m D B G q [] rfl (JM last J) T (λ_=>E) (λ_ i w c v _ _ _ g j=>z i w c v g j) (WV t) (λi o L d w g u p _ j l K A=>H i o _ d w g u (Uk g p) j l K (λv c u x y=>A.out v c u x (WW g p y))) (λL d w m j l=>C d w (Rx m j) (λi g=>l i g (λ_ h=>by cases h)))
theorem Sr(w:Zh)(g:Nat)(y:Int)(h:w.cell? (Zd g 0)=some (.int .u8 y)):∃s,(convert 22 9 (Yz g 1 1)).run prog w=.ok (C4 s) w/\s.size=1:=
 ⟨_,run_convert_bytes_arg (P:=prog) w 22 5 underlying22 underlying5 g 0 1 1 [y] rfl (λi a=>by
  obtain rfl:i=0:=Yv
  simpa using h) 9 underlying9,ED [y]⟩
theorem Ul{N:Nat}{n:Int}(h:n<10^N)(d:N<=9):n<1000000000:=by
 have a:(10:Nat)^N<=10^9:=Nat.pow_le_pow_right Yv d;have b:((10^N:Nat):Int)<=((10^9:Nat):Int):=Int.ofNat_le.2 a;have c:((10^N:Nat):Int)=(10:Int)^N:=Yu
 rw[c]at b;have e:((10^9:Nat):Int)=1000000000:=rfl;omega
theorem YF:∀(N:Nat) (n:Int) (w:Zh),0<=n->n<10^N->N<=9->
 D8 88 #[Zg n] w λe a=>∃s,e=C5 (C4 s)/\s.size<=N+1/\Zz w a:=by
 intro N;induction N with
 |zero=>
  intro n w l d _;obtain rfl:n=0:=by simp at d;omega
  have⟨s,h,m⟩:=Sr (w.alloc (.cells #[.int .u8 48] 5)) w.1.size 48 Yu;go_enter func88,ntmps88;go_wp2;go_ret;exact⟨s,rfl,Yv,Zy⟩
 |succ N ih=>
  intro n w l d O;have T:=Ul d O;by_cases hc:n<10
  .have Q:IntKind.u8.wrap (48+n)=48+n:=Ku Yv Yv;have⟨s,h,m⟩:=Sr (w.alloc (.cells #[.int .u8 (48+n)] 5)) w.1.size (48+n) Yu;go_enter func88,ntmps88;go_wp2;go_ret;exact⟨s,rfl,Yv,Zy⟩
  .have hq:n.tdiv 10=n/10:=Int.tdiv_eq_ediv_of_nonneg l;have hm:n.tmod 10=n%10:=Int.tmod_eq_emod_of_nonneg l;have U:IntKind.i64.wrap (n/10)=n/10:=BM Yv Yv;have V:IntKind.i64.wrap (48+n%10)=48+n%10:=BM Yv Yv;have Q:IntKind.u8.wrap (48+n%10)=48+n%10:=Ku Yv Yv
   have M:Hid (∀X,D8 88 #[Zg (n/10)] X λe a=>∃s,e=C5 (C4 s)/\s.size<=N+1/\Zz X a):=λX=>ih (n/10) X Yv (by rw[Int.pow_succ]at d;omega) Yv;clear ih;go_enter func88,ntmps88;go_upto_region 3 with fail
   refine Es [10,11,12,13,14,15,16,17,18,19] 10 rfl _ rfl Yr Yr Yr Yr Yr Yq Yr (λ_ X=>Zz w X) (λi X v=>match i with
    |0=>v=Zg n
    |1=>v=Zg (n/10)
    |2=>∃s,v=C4 s/\s.size<=N+1
    |3=>v=Zg n
    |4=>v=Zg (n%10)
    |5=>v=Zg (48+n%10)
    |6=>v=.int .u8 (48+n%10)
    |7=>∃g,v=Yz g 1 1/\g<X.1.size/\X.cell? (Zd g 0)=some (.int .u8 (48+n%10))
    |8=>∃s,v=C4 s/\s.size=1
    |9=>∃s,v=C4 s/\s.size<=N+1+1
    |_=>True) (λX Y=>Zz X Y) ?_ Ad.drew ?_ ?_
   .intro i X Y v j f;rcases i with _|_|_|_|_|_|_|_|_|_|_<;>first
     |exact f
     |(obtain⟨g,d,q,L⟩:=f;exact⟨g,d,Zr q j.size,(j.cell (p:=⟨g,0,none⟩) q).ah L⟩)
   .intro i o k x X Z P hk b c K a;rcases(show i=0\/i=1\/i=2\/i=3\/i=4\/i=5\/i=6\/i=7\/i=8\/i=9 by omega)with rfl|rfl|rfl|rfl|rfl|rfl|rfl|rfl|rfl|rfl<;>cases P<;>simp only[Bk,Act.put,Zq,Zp,Zo]at a |-
    .go_simp;exact a.out _ X rfl Ad b
    .have A:=c ⟨0,.data⟩ Yu Yp;rw[show x 0=Zg n from A]at a |-;go_simp;exact a.out _ X rfl Ad b
    .have B:=c ⟨1,.data⟩ Yu Yp;rw[show x 1=Zg (n/10)from B]at a |-;go_simp;refine(M X).aj ?_;rintro e y ⟨s,rfl,h,t⟩;exact a.out _ y ⟨s,rfl,h⟩ t (b.ah (t.aj b.size))
    .go_simp;exact a.out _ X rfl Ad b
    .have C:=c ⟨3,.data⟩ Yu Yp;rw[show x 3=Zg n from C]at a |-;go_simp;exact a.out _ X rfl Ad b
    .have D:=c ⟨4,.data⟩ Yu Yp;rw[show x 4=Zg (n%10)from D]at a |-;go_simp;exact a.out _ X rfl Ad b
    .have E:=c ⟨5,.data⟩ Yu Yp;rw[show x 5=Zg (48+n%10)from E]at a |-;go_simp;exact a.out _ X rfl Ad b
    .have F:=c ⟨6,.data⟩ Yu Yp;rw[show x 6=.int .u8 (48+n%10)from F]at a |-;have r:Below X.1.size X (X.alloc (.cells #[.int .u8 (48+n%10)] 5)):=Zy;go_simp;exact a.out _ _ ⟨X.1.size,rfl,Yu,Yu⟩ r (b.ah (r.aj b.size))
    .obtain⟨g,H,W,z⟩:=c ⟨7,.data⟩ Yu Yp;obtain⟨s,h,m⟩:=Sr X g _ z;rw[H]at a |-;go_simp;exact a.out _ X ⟨s,rfl,m⟩ Ad b
    .obtain⟨u,G,z2⟩:=c ⟨2,.data⟩ Yu Yp;have⟨R,I,z8⟩:=c ⟨8,.data⟩ Yu Yp;rw[G,I]at a |-;have hl:¬9223372036854775807<u.size+1:=Yv
     go_simp;exact a.out _ X ⟨u++R,rfl,by rw[ByteArray.size_append];omega⟩ Ad b
   .intro x X b f K a;simp only[Bk,Act.put,Zq,Zp,Zo];have⟨s,J,S⟩:=f 9 Yq;rw[J];go_simp;refine a.out _ _ ?_;clear a K f;go_wp2;go_ret;exact⟨s,rfl,S,b⟩
def CH(w:Zh)(b:Nat)(ph:Int)(Q M:Value)(top at_ ro:Int):Prop:=
 w.cell? ⟨b,0,none⟩=some (.int .i64 ph)/\w.cell? ⟨b,1,none⟩=some Q/\w.cell? ⟨b,2,none⟩=some M/\w.cell? ⟨b,3,none⟩=some (.int .i64 top)/\
  w.cell? ⟨b,4,none⟩=some (.int .i64 at_)/\w.cell? ⟨b,5,none⟩=some (.int .i64 ro)/\b<w.1.size
theorem CH.new(w:Zh)(c b a d:Int)(Q M:D4)(t:TypeId):CH (w.alloc (.cells #[Zg c,Q,M,Zg b,Zg a,Zg d] t)) w.1.size c Q M b a d:=
 ⟨Yu,Yu,Yu,Yu,Yu,Yu,Yu⟩
theorem CH.ag{i:Zh}{f g:Int}{Q:D4}(h:CH w b f Q M e d g)(a:Below B w i)(c:b<B):CH i b f Q M e d g:=by
 obtain⟨j,k,l,m,n,o,q⟩:=h;exact⟨(a.cell (p:=⟨b,0,none⟩) c).ah j,(a.cell (p:=⟨b,1,none⟩) c).ah k,(a.cell (p:=⟨b,2,none⟩) c).ah l,(a.cell (p:=⟨b,3,none⟩) c).ah m,
  (a.cell (p:=⟨b,4,none⟩) c).ah n,(a.cell (p:=⟨b,5,none⟩) c).ah o,Zr q a.size⟩
theorem CH.A{f:Zh}{c a:Int}{Q:D4}(h:CH w b d Q M c a e)(g:Zz w f):CH f b d Q M c a e:=h.ag g h.2.2.2.2.2.2
structure Ss (qs ms:Zl):Prop where
 q:qs.length<=1048576
 m:ms.length<=1048576
structure Hf (ks:List Kd) (ps:List Pd) (ls:List Ld):Prop where
 k:Iq ks
 p:IP ps
 l:La ls
 b:∀k∈ks,(Lit.int .i64 k.born).wf=true
 n:ks.length<=600/\ps.length<=100/\ls.length<=200
def IE(k:Kd):Prop:=k.J.size<=2000/\k.B.length<=30/\(∀s∈k.B,s.size<=8)/\k.sum.size<=8
theorem Ma(t u:Zi)(a b:Zk)(c d:Nat)(f g:Zl)(w:Zh)(r:Af w w.1.size a f)(q:Af w w.1.size b g)(hl:f.length<=100000)(T:g.length<=1048576):
 D8 173 #[.agg #[C4 t,C3 a f.length c],.agg #[C4 u,C3 b g.length d]] w λe j=>Ay (t=u/\f=g) w j e:=by
 have⟨W,j⟩:=Ae ((w.alloc (.cells #[C4 t,C1 a f c] 30)).alloc (.cells #[C4 u,C1 b g d] 30));have A:=(Bi j).1;have m:=(Bi j).2.2.1;have n:Aa W (w.1.size+1) [C4 u,C1 b g d]:=by have B:=Aa.new (w.alloc (.cells #[C4 t,C1 a f c] 30)) [C4 u,C1 b g d] 30;rw[Al]at B;rw[j];exact B
 have Q:Hid (∀X,Zz W X->Aa X w.1.size [C4 t,C1 a f c]/\Aa X (w.1.size+1) [C4 u,C1 b g d]/\Af X w.1.size a f/\Af X w.1.size b g/\Zz w X):=λX l=>by have s:=A.ah (l.aj A.size);exact⟨Aa.A m l,Aa.A n l,r.A s,q.A s,s⟩
 obtain⟨l,F⟩:=Aa.c2 m 0 1;obtain⟨p,G⟩:=Aa.c2 n 0 1;have z:=Yw j;clear j r q m n;by_cases ht:t=u
 .subst ht;have D:(t.toList !=t.toList)=false:=Yu
  by_cases hlen:f.length=g.length
  .have L:((f.length:Int) !=(g.length:Int))=false:=Yt
   have o:=Yw hlen;clear hlen;go_enter func173,ntmps173;go_upto_region 1 with fail;rw[<-z.o];clear z;go_wp2
   go_loopw [5] (λi wr=>∃k:Nat,k<=f.length/\i=Zg k/\Hid (f.take k=g.take k/\Zz W wr)) (λi _=>f.length -(intOf i).toNat)
   case atStart=>exact⟨0,Az _,rfl,⟨Yu,Ad⟩⟩
   case round=>
    clear l F p G;obtain⟨k,i,rfl,v⟩:=hrel;have⟨m,n,r,q,l⟩:=Q wr v.2;obtain⟨F,_⟩:=m 1 _ rfl;obtain⟨G,_⟩:=n 1 _ rfl;by_cases hlt:k<f.length
    .have j:k<g.length:=Dz o.o
     have⟨rb,ro,R,N,C⟩:=r.at hlt;have⟨X,qo,s,M,p⟩:=q.at j;subst R s;have Y:=C k _ (Zv hlt);have Z:=p k _ (Zv j);have V:=Zr N l.size;have U:=Zr M l.size;have J:=Yw (Zu hlt);have K:=Yw (Zu j);have HN:Hid (∀x y,f[k]?=some x->g[k]?=some y->x≠y->f≠g):=λx y B E H e=>by subst e;rw[B]at E;exact H (A4 E)
     have H:=Yw (Zv hlt);have I:=Yw (Zv j);have S:(k:Int)<g.length:=Yv
     clear C p;generalize f[k]=x at *
     generalize g[k]=y at *
     have P:=Yw v.2;have E:=Yw l;clear m n r q l;by_cases hxy:x=y
     .subst hxy;have C:(x.toList !=x.toList)=false:=Yu
      go_wp2
      go_region
      all_goals go_wp2
      all_goals exact⟨⟨k+1,Yv,Yn,⟨by rw[J.o,K.o,v.1],P.drew⟩⟩,Ys⟩
     .have C:=Br hxy;have O:(x.toList !=y.toList)=true:=by simp[bne,C]
      go_wp2
      go_region
      all_goals go_wp2
      all_goals go_ret
      all_goals exact Ay.no (λh=>HN x y H I hxy h.2) E.drew
    .obtain rfl:k=f.length:=Yv
     have p:=v.1;rw[Zt (Zx),Zt (Dz o.o)]at p;clear m n r q;go_wp2;go_ret;exact Ay.yes ⟨by trivial,p⟩ l
  .have L:((f.length:Int)==(g.length:Int))=false:=Yt
   have m:((f.length:Int) !=(g.length:Int))=true:=Yt
   go_enter func173,ntmps173;go_upto_region 1 with fail;rw[<-z.o];go_wp2;go_ret;exact Ay.no (λh=>hlen (by rw[h.2])) A
 .have D:=Br ht;have n:(t.toList !=u.toList)=true:=by simp[bne,D]
  go_enter func173,ntmps173;go_upto_region 1 with fail;rw[<-z.o];go_wp2;go_ret;exact Ay.no (λh=>ht h.1) A
theorem Um(a b:Zk)(c d:Nat)(f g:Zl)(w:Zh)(p:Af w w.1.size a f)(o:Af w w.1.size b g)(O:f.length<=1048576)(I:g.length<=1048576):
 D8 78 #[C3 a f.length c,C3 b g.length d] w λe j=>Ay (f=g) w j e:=by
 by_cases hlen:f.length=g.length
 .have z:((f.length:Int) !=(g.length:Int))=false:=Yt
  have n:=Yw hlen;have E:Hid (∀X,Zz w X->Af X w.1.size a f/\Af X w.1.size b g):=λX j=>⟨p.A j,o.A j⟩;clear hlen p o;go_enter func78,ntmps78;go_wp2
  go_loopw [5] (λi wr=>∃k:Nat,k<=f.length/\i=Zg k/\Hid (f.take k=g.take k/\Zz w wr)) (λi _=>f.length -(intOf i).toNat)
  case atStart=>exact⟨0,Az _,rfl,⟨Yu,Ad⟩⟩
  case round=>
   obtain⟨k,N,rfl,m⟩:=hrel;have⟨p,o⟩:=E wr m.2;by_cases hlt:k<f.length
   .have j:k<g.length:=Dz n.o
    have⟨R,S,F,B,q⟩:=p.at hlt;have⟨P,Q,G,A,l⟩:=o.at j;subst F G;have L:=q k _ (Zv hlt);have M:=l k _ (Zv j);have K:=Zr B m.2.size;have J:=Zr A m.2.size;have u:=Yw (Zu hlt);have v:=Yw (Zu j);have HN:Hid (∀x y,f[k]?=some x->g[k]?=some y->x≠y->f≠g):=λx y t r s e=>by subst e;rw[t]at r;exact s (A4 r)
    have s:=Yw (Zv hlt);have t:=Yw (Zv j);have H:(k:Int)<g.length:=Yv
    clear q l p o;generalize f[k]=x at *
    generalize g[k]=y at *
    have q:=Yw m.2;by_cases hxy:x=y
    .subst hxy;have r:(x.toList !=x.toList)=false:=Yu
     go_wp2
     go_region
     all_goals go_wp2
     all_goals exact⟨⟨k+1,Yv,Yn,⟨by rw[u.o,v.o,m.1],q.drew⟩⟩,Ys⟩
    .have r:=Br hxy;have C:(x.toList !=y.toList)=true:=by simp[bne,r]
     go_wp2
     go_region
     all_goals go_wp2
     all_goals go_ret
     all_goals exact Ay.no (λh=>HN x y s t hxy h) q.drew
   .obtain rfl:k=f.length:=Yv
    have l:=m.1;have q:=Yw m.2;rw[Zt (Zx),Zt (Dz n.o)]at l;have D:=Yw l;clear p o l;go_wp2;go_ret;exact Ay.yes D q
 .have z:((f.length:Int)==(g.length:Int))=false:=Yt
  have l:((f.length:Int) !=(g.length:Int))=true:=Yt
  go_enter func78,ntmps78;go_wp2;go_ret;exact Ay.no (λh=>hlen (by rw[h])) Ad
theorem St(t u:Zi)(a b:Zk)(c d:Nat)(f g:Zl)(w:Zh)(n:Af w w.1.size a f)(m:Af w w.1.size b g)(q:f.length<=1048576)(o:g.length<=1048576):
 D8 32 #[.agg #[C4 t,C3 a f.length c],.agg #[C4 u,C3 b g.length d]] w λe i=>Ay (t=u/\f=g) w i e:=by
 have⟨W,i⟩:=Ae ((w.alloc (.cells #[C4 t,C1 a f c] 30)).alloc (.cells #[C4 u,C1 b g d] 30));have k:=(Bi i).1;obtain⟨s,v⟩:=Aa.c2 (Bi i).2.2.1 0 1;obtain⟨x,y⟩:=Aa.c2 (Bi i).2.2.2 0 1;have p:=Yw (Um a b c d f g W (n.T k) (m.T k) q o);have j:=Yw i;have l:=Yw k;clear i n m k;by_cases ht:t=u
 .subst ht;have m:(t.toList==t.toList)=true:=Yu
  go_enter func32,ntmps32;go_upto_region 1 with fail;rw[<-j.o];clear j;go_wp2_with (go_at_call 78;refine p.Ai ?_;rintro e r ⟨n,rfl,k,i⟩);go_ret;exact⟨n,Yu,D2 k,l.ah (i.aj l.size)⟩
 .have m:=Br ht;go_enter func32,ntmps32;go_upto_region 1 with fail;rw[<-j.o];clear j;go_wp2;go_ret;exact Ay.no (λh=>by first|exact h|exact ht h.1) l
theorem YG(a:Zk)(c:Nat)(b:Zl)(x:Zi)(w:Zh)(d:Af w w.1.size a b)(t:b.length<=1048576)(o:x∈b):
 D8 12 #[C3 a b.length c,C4 x] w λe f=>e=C5 (.bool true)/\Zz w f:=by
 have⟨i,g⟩:=A5 o;have m:Hid (Af w w.1.size a b):=d;clear d;go_enter func12,ntmps12;go_wp2
 go_loopw [5] (λj wr=>∃k:Nat,k<=i/\j=Zg k/\wr=w) (λj _=>b.length -(intOf j).toNat)
 case atStart=>exact⟨0,Az _,rfl,rfl⟩
 case round=>
  obtain⟨k,s,rfl,rfl⟩:=hrel;have p:=(Zw g).1;have d:k<b.length:=Yv
  have⟨u,v,n,q,f⟩:=m.at d;subst n;have r:=f k _ (Zv d);have l:Hid (b[k]?=some b[k]):=Zv d;clear f;generalize b[k]=y at *
  by_cases hxy:y=x
  .subst hxy;have b:(y.toList==y.toList)=true:=Yu
   go_wp2;go_ret;exact⟨rfl,Ad⟩
  .have b:=Br hxy;have f:k≠i:=λe=>by have h:=l.o;rw[e,g]at h;exact hxy (A4 h).symm
   go_wp2;exact⟨⟨k+1,Yv,Yn,trivial⟩,Ys⟩
theorem NK(a b:Zk)(c d:Nat)(f h:Zl)(w:Zh)(p:Af w w.1.size a f)(o:Af w w.1.size b h)(R:a=none->f.length=0/\c=0)(S:b=none->h.length=0/\d=0)(hl:f.length<=1048576)(Z:h.length<=1048576):
 D8 105 #[.agg #[C3 a f.length c,C3 b h.length d]] w λe j=>∃g i,e=C5 (Yz g (f++h).length i)/\j.ownsRow w.1.size 9 1 (Yz g (f++h).length i) (f++h).length ((f++h).map string)/\Zz w j:=by
 have⟨H,G,v,x,y⟩:=info_parts CC;have⟨W,i⟩:=D6 w #[C1 a f c,C1 b h d] 96;have n:=(AE i).1;have Y:=(AE i).2.1;have j:=(AE i).2.2;have z:Below W.1.size W (W.alloc (.cells #[] 9)):=Zy;have J:(W.alloc (.cells #[] 9)).drew.ownsRow (w.1.size+1) 9 1 (Yz (w.1.size+1) 0 0) 0 (([]:Zl).map string):=by have F:=ownsRow_lit (base:=w.1.size+1) (e:=9) (size:=1) W #[] 0 Yv Yo rfl;rw[Y]at F;exact F
 have K:=(Af.A p (n.ah (z.drew.aj n.size))).bk;have l:=Aa.A j z;obtain⟨T,U⟩:=Aa.c2 j 0 1;obtain⟨V,X⟩:=Aa.c2 l 0 1;have m:=Yw i;have E:=Yw (Zn l (n.ah (z.aj n.size)));have O:Hid (Af w w.1.size b h):=o;clear i j l p o;go_enter func105,ntmps105;go_upto_region 1 with fail;rw[<-m.o];clear m
 go_region_law (first
  |(refine AA (W.alloc (.cells #[] 9)).drew rfl (.tmp 3) (.tmp 5) 28 rfl (w.1.size+1) 9 H Zc 16 underlying28 G v x y rfl (w.1.size+1) 0 0 [] rfl J a f.length c f rfl rfl R K Yo Yv Ym ?_;intro B o C l j p r;simp only[A0,nil_append]at l;have D:Aa C w.1.size [C1 a f c,C1 b h d]:=(Aa.same E.1 (j.block _ Ym Ym));have m:Below w.1.size w C:=(E.2.drew.grown j Ym (λk A=>by cases A;omega));have P:=(D 0 _ rfl).1;have Q:=(D 1 _ rfl).1;have r6:=(Af.A O m).bk;have M:=j.size;simp at M)
  |(refine AA C rfl (.tmp 6) (.tmp 8) 28 rfl (w.1.size+1) 9 H Zc 16 underlying28 G v x y rfl B f.length o f rfl l b h.length d h rfl rfl S r6 Yo Yv Yv ?_;intro I i L u t q s))
 all_goals
  have e:w.1.size+1<=B:=(l.lt B rfl).1;have N:Hid (L.ownsRow w.1.size 9 1 (Yz I (f.length+h.length) i) (f.length+h.length) ((f++h).map string)/\Zz w L):=⟨u.aj Yv,m.grown t m.size (λk A=>by cases A;omega)⟩;clear l j p r D m P Q r6 M u t q s J K T U V X;go_wp2;go_ret;rw[Ak];exact⟨I,i,rfl,N⟩
section
attribute [local go_sem↓] Go.wp_at_zero Go.wp_at_succ
def ZJ(ks:List Kd):List (Zi×Zi):=ks.flatMap (fun u=>u.B.map (fun r=>(u.sum,r)))
def Fa(ks:List Kd):List (Zi×Zi):=ks.flatMap (fun u=>u.B.map (fun r=>(r,u.sum)))
theorem VE{x:Kd}(h:ks[k]?=some x):Fa (ks.take (k+1))=Fa (ks.take k)++x.B.map (λr=>(r,x.sum)):=by obtain⟨a,rfl⟩:=Zw h;unfold Fa;rw[Zu a,flatMap_append];simp
theorem PB(g:Kd->List (Zi×Zi))(a:∀u∈ks,(g u).length<=30):(ks.flatMap g).length<=30 *ks.length:=by
 induction ks with
 |nil=>simp
 |cons k ks ih=>have c:=ih (λk b=>a k (by simp[b]));have b:=a k Yu;rw[flatMap_cons,Ak,length_cons];omega
theorem Lk.entry{d:Nat}{k:Int}{E:List (Zi×Zi)}{i:List Nat}{f:Lit->Option Value}(h:Lk w d b n k E i f)(l:n<=1000000)(s:Zi):
 ∃(c:Int) (a:Zh),(Instr.mapEntry 89 (.map (some b)) (.agg (Yk (kB s)))).run prog w=.ok (.tuple #[rowV f s,Zg c]) a/\w.grownBy a (some b)/\
  ∀W,W.1[b]?=a.1[b]? ->∀e,∃g,(Instr.entryStore 89 (.map (some b)) (goInt c) e).run prog W=.ok () g/\AN g 75 b (n+1) (upd f (keyL s) e)/\W.grownBy g (some b):=by
 have⟨c,a,e,g,j⟩:=h.map.entry keyed underlying89 Yo OY (CE s);exact⟨c,a,e,g,j⟩
theorem Lk.more{j:Int}{E:List (Zi×Zi)}{d:List Nat}{f:Lit->Option Value}(h:Lk w a b n j E d f)(k:w.1.size<=q):Lk w a b n j E (q::d) f:=
 ⟨h.map,h.row,h.apart,λt i g e c=>by
  rcases Bv.1 c with rfl|c
  .have:=((h.row t i).g e).2;omega
  .exact h.dh t i g e c⟩
theorem Lk.less{E:List (Zi×Zi)}{c:List Nat}{f:Lit->Option Value}(h:Lk w a b n d E (q::c) f):Lk w a b n d E c f:=
 ⟨h.map,h.row,h.apart,λt j g i e=>h.dh t j g i (mem_cons_of_mem _ e)⟩
theorem sk9{a:Zh}{l:Zj}(h:a.1[B]?=w.1[B]? /\a.1[b]?=w.1[b]?)(d:Aa w b (v::l))(c:Aa w B (Yj (kB s))):
 a.cell? (Zd b 0)=some v/\a.cell? (Zd B 0)=some (.int .u8 (kB s 0))/\a.cell? (Zd B 1)=some (.int .u8 (kB s 1))/\a.cell? (Zd B 2)=some (.int .u8 (kB s 2))/\a.cell? (Zd B 3)=some (.int .u8 (kB s 3))/\a.cell? (Zd B 4)=some (.int .u8 (kB s 4))/\a.cell? (Zd B 5)=some (.int .u8 (kB s 5))/\a.cell? (Zd B 6)=some (.int .u8 (kB s 6))/\a.cell? (Zd B 7)=some (.int .u8 (kB s 7)):=
 ⟨(Aa.same d h.2 0 _ rfl).1,ZX h.1 c⟩
def Hg:Obj->Bool
 |.cells _ t _=> !(t==9)
 |_=>true
inductive ReachE (E:List (Zi×Zi)) (fr:Zl):Zi->Prop
 |here {x:Zi}:x∈fr->ReachE E fr x
 |step {x y:Zi}:ReachE E fr y->x∈Cq E y->ReachE E fr x
structure Wk (ks:List Kd) (E:List (Zi×Zi)) (fr vs Q:Zl):Prop where
 nd:vs.Nodup
 vr:∀s∈vs,ReachE E fr s
 qr:∀s∈Q,ReachE E fr s
 base:∀s∈fr,s∈vs\/s∈Q
 shut:∀s∈vs,∀t∈Cq E s,t∈vs\/t∈Q
 there:∀s∈vs,Am ks s
theorem Wk.done{d:Dj}{E:List (Zi×Zi)}{a b:Zl}(h:Wk d E a b []):s∈b↔ReachE E a s:=by
 refine⟨h.vr s,λc=> ?_⟩;induction c with
 |here hx=>exact(h.base _ hx).resolve_right Yu
 |step _ hx ih=>exact(h.shut _ ih _ hx).resolve_right Yu
theorem Wk.skip{e:Dj}{E:List (Zi×Zi)}{c b:Zl}(h:Wk e E c b (s::Q))(f:s∈b):Wk e E c b Q:=by
 have d:∀{t:Zi},t∈b\/t∈s::Q->t∈b\/t∈Q:=λ{t} h=>by
  rcases h with h|h
  .exact .inl h
  .rcases Bv.1 h with rfl|h
   .exact .inl f
   .exact .inr h
 exact⟨h.nd,h.vr,λt a=>h.qr t (mem_cons_of_mem _ a),λt a=>d (h.base t a),λu g t a=>d (h.shut u g t a),h.there⟩
theorem Wk.visit{j:Dj}{E:List (Zi×Zi)}{i:Zl}(h:Wk j E i f (s::Q))(n:s∉f)(o:Am j s):Wk j E i (f++[s]) (Q++Cq E s):=by
 have g:ReachE E i s:=h.qr s Yu;have l:∀{t:Zi},t∈f\/t∈s::Q->t∈f++[s]\/t∈Q++Cq E s:=λ{t} h=>by
  rcases h with h|h
  .exact .inl (by simp[h])
  .rcases Bv.1 h with rfl|h
   .exact .inl Yu
   .exact .inr (by simp[h])
 refine⟨?_,λt c=> ?_,λt c=> ?_,λt c=>l (h.base t c),λu d t c=> ?_,λt c=> ?_⟩
 .refine nodup_append.2 ⟨h.nd,Yu,λa m b k e=> ?_⟩;simp at k;subst k;subst e;exact n m
 .rcases A7.1 c with c|c
  .exact h.vr t c
  .simp at c;subst c;exact g
 .rcases A7.1 c with c|c
  .exact h.qr t (mem_cons_of_mem _ c)
  .exact .step g c
 .rcases A7.1 d with d|d
  .exact l (h.shut u d t c)
  .simp at d;subst d;exact .inr (by simp[c])
 .rcases A7.1 c with c|c
  .exact h.there t c
  .simp at c;subst c;exact o
theorem KL{E:List (Zi×Zi)}{a:Zl}(c:∀s∈a,Am ks s)(b:∀p∈E,Am ks p.2)(h:ReachE E a s):Am ks s:=by
 cases h with
 |here hx=>exact c _ hx
 |step _ hx=>
  unfold Cq at hx;rw[mem_filterMap]at hx;obtain⟨p,d,e⟩:=hx;split at e
  .cases e;exact b p d
  .cases e
theorem Su{i:Dj}{d:Zl}(g:d.Nodup)(m:∀s∈d,Am i s):d.length<=i.length:=by
 have h:∀(l:Zl),l.Nodup->∀(u:Zl),(∀x∈l,x∈u)->l.length<=u.length:=by
  intro l;induction l with
  |nil=>intro _ u _;simp
  |cons x xs ih=>
   intro h u c;have⟨n,g⟩:=nodup_cons.1 h;obtain⟨a,b,rfl⟩:=append_of_mem (c x Yu);have:=ih g (a++b) (λy j=>by
    have f:=c y (by simp[j]);have k:y≠x:=λe=>n (by rw[<-e];exact j);simp only[A7,Bv]at f |-;rcases f with h|h|h
    .exact .inl h
    .exact absurd h k
    .exact .inr h)
   simp only[length_cons,Ak]at this |-;omega
 have:=h d g (i.map (·.sum)) (λs c=>by
  have⟨u,j,e⟩:=m s c;exact mem_map.2 ⟨u,j,e⟩)
 simpa using this
theorem Holds.get{f:Lit->Option Value}(h:Holds W B d ks f)(i:(s.size:Int)=d)(j:Am ks s):∃u b c,u∈ks/\u.sum=s/\f (keyL s)=some (CW u b c):=by
 rcases h s i with⟨_,a⟩|⟨u,b,c,e,a,g,_⟩
 .exact absurd j a
 .exact⟨u,b,c,e,a,g⟩
structure DR (n0:Nat) (V:List Nat) (W W':Zh):Prop where
 os:W'.os=W.os
 tape:W'.tape=W.tape
 output:W'.output=W.output
 size:W.1.size<=W'.1.size
 old:∀q,q<n0->q∉V->W'.1[q]?=W.1[q]?
 own:∀q o,n0<=q->W.1[q]?=some o->Hg o=true->W'.1[q]?=some o
theorem DR.refl(a:Nat)(V:List Nat)(W:Zh):DR a V W W:=⟨rfl,rfl,rfl,Zx,λ_ _ _=>rfl,λ_ _ _ h _=>h⟩
theorem DR.trans{Z:Zh}(h:DR b V X Y)(k:DR b V Y Z):DR b V X Z:=
 ⟨k.os.ah h.os,k.tape.ah h.tape,k.output.ah h.output,Zm h.size k.size,λq a c=>(k.old q a c).ah (h.old q a c),λq o a d c=>k.own q o a (h.own q o a d c) c⟩
abbrev DR.ah:=@DR.trans
def Abides(n0:Nat)(J:Zl->Zh->Prop):Prop:=
 ∀vs W W',J vs W->W'.os=W.os->W'.tape=W.tape->W'.output=W.output->W.1.size<=W'.1.size->(∀q,q<n0->W'.1[q]?=W.1[q]?)->(∀q o,n0<=q->W.1[q]?=some o->Hg o=false->W'.1[q]?=some o)->J vs W'
theorem Abides.A{e:Nat}{J:Zl->Zh->Prop}(h:Abides e J){c:Zl}{b:Zh}(f:J c W)(a:Zz W b)(g:e<=W.1.size):J c b:=
 h c W b f a.os a.tape a.output a.size (λq d=>a.block q Yv) (λq o _ d _=>(a.block q (A2.1 d).1).ah d)
theorem Abides.grown{f:Nat}{J:Zl->Zh->Prop}(h:Abides f J){g:Zl}{d:Zh}(j:J g W)(a:W.grownBy d (some b))(m:f<=W.1.size)(l:f<=b)(k:∀o,W.1[b]?=some o->Hg o=true):J g d:=
 h g W d j a.os a.tape a.output a.size (λq c=>a.block q Yv (λe=>Dz (A4 e))) (λq o _ c i=>by
  by_cases e:q=b
  .subst e;rw[k o c]at i;cases i
  .exact(a.block q (A2.1 c).1 (λh=>e (A4 h))).ah c)
theorem BC.nil0(w:Zh)(a:Nat)(h:a<=w.1.size):BC (w.alloc (.cells #[] 75)) a (Yz w.1.size 0 0) []:=
 .inr ⟨w.1.size,0,0,rfl,h,⟨_,_,heap_alloc_new w _⟩,Zx,Az _,λj b=>Yv,λi s b=>by simp at b⟩
theorem BC.tail1(h:BC w a (C3 (some ⟨g,b,none⟩) (s::Q).length 1) (s::Q)):Q=[]/\BC w a (C3 (some ⟨g,b,none⟩) 0 0) []:=by
 rcases h with⟨c,_⟩|⟨n,f,e,c,k,l,d,o,p,q⟩
 .cases c
 .cases c;simp at d;refine⟨D2 d,.inr ⟨g,b,0,rfl,k,l,Zx,Az _,λj m=>Yv,λi s m=>by simp at m⟩⟩
theorem BC.tail(h:BC w b (C3 (some ⟨g,a,none⟩) (s::Q).length c) (s::Q)):BC w b (C3 (some ⟨g,a+8,none⟩) Q.length (c -1)) Q:=by
 rcases h with⟨d,_⟩|⟨r,k,f,d,l,p,m,u,n,o⟩
 .cases d
 .cases d;simp at m;refine .inr ⟨g,a+8,c -1,rfl,l,p,Yv,Yv,λj e=> ?_,λi t q j e=> ?_⟩
  .have:=n (8+j) Yv;rw[<-Nat.add_assoc]at this;exact this
  .have:=o (i+1) t (D2 q) j e;rw[show a+8+(i *8+j)=a+((i+1) *8+j) by omega];exact this
theorem Sv(v:D4)(a:Zl)(w:Zh)(h:R8 w w.1.size v a)(q:a.length<=1000):
 D8 80 #[v] w λe b=>∃c,e=C5 c/\BC b w.1.size c a/\Zz w b:=by
 have m:=h;rcases h with⟨rfl,rfl⟩|⟨g,l,i,rfl,s,r⟩
 .have b:∀u:Zh,(binOp .eql 87 Zb Zb).run prog u=.ok (.bool true) u:=λ_=>by first|rfl|kernel_rfl
  go_enter func80,ntmps80;go_wp2;go_ret;exact⟨_,rfl,.inl ⟨rfl,rfl⟩,Ad⟩
 .have f:Below w.1.size w (w.alloc (.cells #[] 75)):=Zy;have b:∀u:Zh,(binOp .eql 87 (C1 (some ⟨g,l,none⟩) a i) Zb).run prog u=.ok (.bool false) u:=λ_=>by first|rfl|kernel_rfl
  obtain⟨c,t,p,o,j,_⟩:=MJ (w.alloc (.cells #[] 75)) w.1.size _ [] (BC.nil0 w _ (Zx)) _ a _ (m.A f) Yt Yu 87;have n:=f.grown j Yu (λk d=>by cases d;exact Zx);have d:=Yw (Zn o n);go_enter func80,ntmps80;go_wp2_with (first
   |(at_builtin;refine wpList_append_run rfl _ _ _ _ rfl rfl rfl p ?_)
   |go_in)
  go_ret;exact⟨_,rfl,D2 d.1,d.2⟩
theorem RC{f:Lit->Option Value}(h:BR w K b n c f):∃o,w.1[b]?=some o/\Hg o=true:=by obtain⟨D,⟨d,clock,a,_⟩,_⟩:=h;exact⟨_,a,rfl⟩
theorem BR.same{a:Zh}{f:Lit->Option Value}(h:BR w K b n c f)(j:a.1[b]?=w.1[b]?):BR a K b n c f:=by obtain⟨D,⟨d,clock,e,g⟩,i⟩:=h;exact⟨D,⟨d,clock,j.ah e,g⟩,i⟩
theorem Fw.not(h:Fw w g):∃o,w.1[g]?=some o/\Hg o=true:=by obtain⟨c,f,h⟩:=h;exact⟨_,h,rfl⟩
theorem BC.jc{d:Zl}(h:BC w a v d)(b:Ap v=some g):Fw w g:=by
 rcases h with⟨rfl,_⟩|⟨i,f,e,rfl,_,c,_⟩
 .cases b
 .cases b;exact c
theorem BC.vis{i:Zh}{e:Nat}(h:BC w a v f)(d:DR e V w i)(k:e<=a):BC i a v f:=
 h.stays d.size (λg b=>by
  have⟨o,c,j⟩:=(h.jc b).not;rw[d.own g o (Dz (h.g b).1) c j,c])
theorem Un{a:Zh}(h:Zz W a)(d:c<=W.1.size):DR c V W a:=
 ⟨h.os,h.tape,h.output,h.size,λq b _=>h.block q Yv,λq o _ b _=>(h.block q (A2.1 b).1).ah b⟩
theorem Sw{E:List (Zi×Zi)}{b:Zl}{a:Int}(d:∀s∈b,(s.size:Int)=a)(c:∀p∈E,(p.2.size:Int)=a)(h:ReachE E b s):(s.size:Int)=a:=by
 cases h with
 |here hx=>exact d _ hx
 |step _ hx=>
  unfold Cq at hx;rw[mem_filterMap]at hx;obtain⟨p,f,e⟩:=hx;split at e
  .cases e;exact c p f
  .cases e
theorem DR.after(h:DR w.1.size V w X)(a:Below w.1.size X Y):DR w.1.size V w Y:=
 ⟨a.os.ah h.os,a.tape.ah h.tape,a.output.ah h.output,Zm h.size a.size,λq b c=>(a.block q b).ah (h.old q b c),λq o b b _=>Dz (A2.1 b).1⟩
theorem Abides.ie{J:Zl->Zh->Prop}(h:Abides i J){j:Zl}{g:Zh}{f:Option Nat}(n:J j W)(a:W.grownBy g f)(p:i<=W.1.size)(k:∀b,f=some b->i<=b/\∃o,W.1[b]?=some o/\Hg o=true):J j g:=
 h j W g n a.os a.tape a.output a.size (λq c=>a.block q Yv (λe=>Dz (k q e.symm).1)) (λq o _ c l=>by
  refine(a.block q (A2.1 c).1 (λe=> ?_)).ah c;have⟨_,r,d,m⟩:=k q e.symm;rw[c]at d;cases d;rw[m]at l;cases l)
structure Aak (E:List (Zi×Zi)) (fr:Zl) (J:Zl->Zh->Prop) (V:List Nat) (w:Zh) (e:Ending) (w':Zh):Prop where
 ex:∃vs,(∃v,e=.returned v)/\J vs w'/\vs.Nodup/\(∀s,s∈vs↔ReachE E fr s)/\DR w.1.size V w w'
theorem PC(vf:FuncId)(cv:D4)(eg:∀args w,(callFunc vf args).run prog w=.ok (.enter vf args) w)(j:Int)(m nm:Nat)(fm:Lit->Option Value)(X:List Kd)(W0:Zh)(B0:Nat)(fv:D4)(r:Zl)(zF b n:Nat)(E:List (Zi×Zi))(fl:Lit->Option Value)(V:List Nat)(J:Zl->Zh->Prop)(w:Zh)(Y:AN w 75 m nm fm)(T:Holds W0 B0 j X fm)(S:R8 w w.1.size fv r)(U:Lk w zF b n j E [] fl)(N:m∉V)(H:b∉V)(O:∀t:Zi,(t.size:Int)=j->∀g,Ap (rowV fl t)=some g->g∉V)(yR:X.length<=600)(yP:r.length<=300)(yM:E.length<=18000)(h8:j<=8)(L:∀s∈r,(s.size:Int)=j)(l:∀p∈E,(p.2.size:Int)=j)(M:∀s∈r,Am X s)(z:∀p∈E,Am X p.2)(C:J [] w)(R:Abides w.1.size J)(Z:∀d W u ra rc,d.length<600->u∈X->J d W->w.1.size<=W.1.size->D8 vf #[CW u ra rc,cv] W λe P=>(∃v,e=.returned v)/\J (d++[u.sum]) P/\DR w.1.size V W P):
 D8 38 #[.agg #[Zg j,.map (some m)],fv,.map (some b),.func (.func vf) #[] #[cv]] w λe a=>Aak E r J V w e a:=by
 have yT:= @run_makeMap prog;have⟨a,i⟩:=Ae ((w.alloc (.cells #[Zg j,.map (some m)] 81)).alloc (.map #[] 0));have zT:a.1.size=w.1.size+2:=by rw[i];simp
 have f:Below w.1.size w a:=by rw[i];exact(Zy).alloc Yu _
 have F:BR a 75 (w.1.size+1) 0 0 (λ_=>none):=by have:=BR.new (w.alloc (.cells #[Zg j,.map (some m)] 81)) 75;rw[Al]at this;rw[i];exact this
 have G:a.1[w.1.size]?=some (.cells #[Zg j,.map (some m)] 81):=by rw[i];exact(Below.heap_alloc _ _ _ Yu).ah (heap_alloc_new w _)
 have A:R8 a w.1.size fv r:=S.A f;have D:J [] a:=R.A C f (Zx);have I:=Yw (Zn Y (Zn T (Zn U (Zn N (Zn H O)))));have HQ:=Yw (Zn L (Zn l (Zn M z)));have HV:=Yw (Zn R Z);have HI:=Yw (Zn F (Zn G (Zn D (Zn f A))));have K:=Yw i;clear Y T U N H O L l M z R Z F G D f A C S i;go_enter func38,ntmps38;go_upto_region 2 with fail;rw[<-K.o];go_wp2_with fail
 refine(Sv fv r a (HI.2.2.2.2.aj Yv) Yv).aj ?_;rintro e w2 ⟨v2,rfl,zO,Z⟩;have yW:=Z.size;have C2:BR w2 75 (w.1.size+1) 0 0 (λ_=>none):=HI.1.ag Z Yv;have X2:w2.1[w.1.size]?=some (.cells #[Zg j,.map (some m)] 81):=(Z.block _ Yv).ah HI.2.1;have J2:J [] w2:=HV.1.A HI.2.2.1 Z Yv
 have B2:Below w.1.size w w2:=HI.2.2.2.1.ah (Z.aj Yv);have V2:DR w.1.size V w w2:=⟨B2.os,B2.tape,B2.output,B2.size,λq A _=>B2.block q A,λq o A ho _=>Dz (A2.1 ho).1⟩;have K2:Wk X E r [] r:=⟨nodup_nil,λs f=>(by cases f),λs f=> .here f,λs f=> .inr f,λs f=>(by cases f),λs f=>(by cases f)⟩
 have Q2:BC w2 (w.1.size+2) v2 r:=by rw[zT]at zO;exact zO
 have f:=Yw (Zn C2 (Zn X2 (Zn J2 (Zn V2 (Zn K2 Q2)))));go_wp2
 go_loopg [9] 20000000 (λk v wr=>∃(d Q:Zl) (c L:Nat) (g:Lit->Option Value),(601 -d.length) *20000+Q.length<=k/\Q.length<=300+d.length *18000/\d.length<=600/\Hid (BR wr 75 (w.1.size+1) L c g/\L<=d.length/\MK d g c)/\Hid (wr.1[w.1.size]?=some (.cells #[Zg j,.map (some m)] 81))/\Hid (J d wr)/\Hid (DR w.1.size V w wr)/\Hid (Wk X E r d Q)/\Hid (BC wr (w.1.size+2) v Q)/\w.1.size+2<=wr.1.size)
 case atStart=>exact⟨[],r,0,0,_,Yt,Yt,Yu,⟨f.1,Zx,MK.nil⟩,f.2.1,f.2.2.1,f.2.2.2.1,f.2.2.2.2.1,f.2.2.2.2.2,by have:=(A2.1 f.2.1).1;have:=f.1.lt;omega⟩
 case round=>
  obtain⟨d,Q,c,L,g,hk,zE,yI,k,HX,HJ,zK,U,O,yZ⟩:=hrel;cases Q with
  |nil=>
   have C:=Yw (Zn HJ (Zn U.nd (Zn (λs=>U.done (s:=s)) zK)));rcases O.o with⟨rfl,_⟩|⟨F,l,Y,rfl,_⟩
   .go_wp2
    go_end0
    exact⟨d,⟨_,rfl⟩,C⟩
   .go_wp2
    go_end0
    exact⟨d,⟨_,rfl⟩,C⟩
  |cons s Q=>
   have zJ:Hid (∀{x:Zi},ReachE E r x->(x.size:Int)=j):=λ{x} h=>Sw HQ.1 HQ.2.1 h;have zS:ReachE E r s:=U.qr s Yu;have S:=zJ zS;have zA:Am X s:=KL HQ.2.2.1 HQ.2.2.2 zS;have zW:=O.o;rcases zW with⟨_,h⟩|⟨F,l,Y,rfl,yN,yB,yC,yL,yH,z⟩
   .cases h
   have yQ:=yB.lt;have d0:wr.cell? (Zd F l)=some (.int .u8 (kB s 0)):=D2 (z 0 s rfl 0 Yv)
   have d1:wr.cell? (Zd F (l+1))=some (.int .u8 (kB s 1)):=D2 (z 0 s rfl 1 Yv)
   have d2:wr.cell? (Zd F (l+2))=some (.int .u8 (kB s 2)):=D2 (z 0 s rfl 2 Yv)
   have d3:wr.cell? (Zd F (l+3))=some (.int .u8 (kB s 3)):=D2 (z 0 s rfl 3 Yv)
   have d4:wr.cell? (Zd F (l+4))=some (.int .u8 (kB s 4)):=D2 (z 0 s rfl 4 Yv)
   have d5:wr.cell? (Zd F (l+5))=some (.int .u8 (kB s 5)):=D2 (z 0 s rfl 5 Yv)
   have d6:wr.cell? (Zd F (l+6))=some (.int .u8 (kB s 6)):=D2 (z 0 s rfl 6 Yv)
   have d7:wr.cell? (Zd F (l+7))=some (.int .u8 (kB s 7)):=D2 (z 0 s rfl 7 Yv)
   have zU:1<=Y:=by simp at yC;omega
   rw[length_cons];have⟨a,i⟩:=Ae (wr.alloc (Cx s));have G:Below wr.1.size wr a:=by rw[i];exact Zy
   have D:Aa a wr.1.size (Yj (kB s)):=by rw[i];exact Aa.new wr _ _
   have zT:a.1.size=wr.1.size+1:=by rw[i];simp
   have O1:a.1[wr.1.size]?=some (Cx s):=by rw[i];exact heap_alloc_new wr _
   have B:BR a 75 (w.1.size+1) L c g:=k.1.ag G k.1.lt;have W:J d a:=HV.1.A HJ G Yv;have V1:DR w.1.size V w a:=zK.ah (Un G Yv);have X1:a.1[w.1.size]?=some (.cells #[Zg j,.map (some m)] 81):=(G.block _ Yv).ah HX;have T1:∃M,(M=.slice (if Y=1 then some ⟨F,l,none⟩else some ⟨F,l+8,none⟩) Q.length (Y -1))/\BC a (w.1.size+2) M Q:=by
    refine⟨_,rfl,?_⟩;by_cases hc1:Y=1
    .subst hc1;obtain⟨rfl,h⟩:=O.tail1;rw[if_pos rfl];exact h.A G
    .rw[if_neg hc1];exact O.tail.A G
   obtain⟨H,hn,yE,yF,R⟩:=k.2.2.get (keyL s);have N:=B.map.look keyed underlying84 (GQ a) (CE s);rw[hn]at N;have yU:IntKind.i64.wrap (H+1)=H+1:=Lc Yv Yv;obtain⟨M,t,T⟩:=T1;have HT:Hid (BC a (w.1.size+2) M Q):=T;have f:=Yw (Zn B (Zn W (Zn V1 (Zn X1 (Zn D O1)))));have K:=Yw i;unfold Cx at K;have p:(0<H)↔s∈d:=by
    rw[R];constructor
    .intro h;have⟨y,hy,e⟩:=mem_map.1 h;have yV:=zJ (U.vr y hy);exact key_inj e Yv Yv▸hy
    .intro h;exact mem_map.2 ⟨s,h,rfl⟩
   clear i B W V1 X1 O1 T z yH O R G;unfold Ca Cy at N;go_upto_region 5 with fail;rw[<-K.o];clear K d0 d1 d2 d3 d4 d5 d6 d7;have⟨B,i⟩:=Ae wr.1.size;rw[<-i]at f D |-;have zH:=Yw i;clear i;obtain⟨y0,_⟩:=D 0 _ rfl;obtain⟨y1,_⟩:=D 1 _ rfl;obtain⟨y2,_⟩:=D 2 _ rfl;obtain⟨y3,_⟩:=D 3 _ rfl;obtain⟨y4,_⟩:=D 4 _ rfl;obtain⟨y5,_⟩:=D 5 _ rfl;obtain⟨y6,_⟩:=D 6 _ rfl;obtain⟨y7,_⟩:=D 7 _ rfl;clear D
   go_upto_region 6 with fail;rw[<-t];clear t;by_cases hpos:0<H
   .have yA:=p.1 hpos;go_wp2
    go_roundg ((601 -d.length) *20000+Q.length)
    case measure=>simp at hk;omega
    case rel=>exact⟨d,Q,c,L,g,Zx,by simp at zE;omega,yI,⟨f.1,k.2.1,k.2.2⟩,f.2.2.2.1,f.2.1,f.2.2.1,U.skip yA,HT,Yv⟩
   .have R:s∉d:=λh=>hpos (p.2 h);have zV:decide (0<H)=false:=D2 hpos
    have T:(d++[s]).length<=600:=Dz (Su (U.visit R zA).nd (U.visit R zA).there)
    have yO:=k.2.1;have kD:Below a.1.size a a.drew:=Ad.drew;have⟨st,w3,w4,W,K,G,zR,O,zM,z⟩:=(f.1.ag kD Yv).jd keyed underlying84 Yo GQ (CE s) (Zg (H+1));rw[hn]at W K G;unfold goInt at W zR;unfold Ca Cy at W K G;go_upto_region 7 with fail
    go_cut [] (λi=>∃t,Hid (BR i 75 (w.1.size+1) (L+1) t (upd g (keyL s) (Zg (H+1)))/\MK (d++[s]) (upd g (keyL s) (Zg (H+1))) t)/\a.grownBy i (some (w.1.size+1)))
    case first=>
     have D:a.grownBy w4 (some (w.1.size+1)):=(Ag _ kD).ah z;have i:=k.2.2.snoc s yE yF;have C:=Yw (Zn O (Zn i D));clear O i D zM z N
     go_region
     all_goals
      go_wp2_with fail;go_meet;exact⟨_,⟨C.1,C.2.1⟩,C.2.2⟩
    case rest=>
    revert wc;intro D hcut;obtain⟨t,zB,i⟩:=hcut;clear W K G zR O zM z N y0 y1 y2 y3 y4 y5 y6 y7 w3 w4 kD;have z:w.1.size+2<=B:=Dz zH.o
    have zZ:B<a.1.size:=Dz zH.o
    have yJ:=i.size;have O:D.1[B]?=some (Cx s):=(i.block B zZ (λe=>Dz (A4 e))).ah f.2.2.2.2.2;have X5:D.1[w.1.size]?=some (.cells #[Zg j,.map (some m)] 81):=(i.block _ Yv (λe=>Dz (A4 e))).ah f.2.2.2.1;have J5:J d D:=HV.1.ie f.2.1 i Yv (λq e=>by cases e;exact⟨Yv,RC f.1⟩)
    have V5:DR w.1.size V w D:=f.2.2.1.after (Ad.grown i Yv (λq e=>by cases e;omega));have z:Aa D B (Yj (kB s)):=Aa.same f.2.2.2.2.1 (O.ah f.2.2.2.2.2.symm);have Q5:BC D (w.1.size+2) M Q:=BC.stays HT yJ (λq A=>i.block q (BC.g HT A).2 (λe=>by have:=A4 e;have:=(BC.g HT A).1;omega))
    have M5:AN D 75 m nm fm:=I.1.block (V5.old m I.1.lt I.2.2.2.1);have⟨u,ra,rc,hu,K,G⟩:=I.2.1.get S zA;have W:=M5.look keyed underlying79 (IQ D) (CE s);rw[G]at W;have yK:D.cell? (Zd (w.1.size) 1)=some (.map (some m)):=by unfold cell?;simp[X5]
    have N:=Yw (Zn O (Zn X5 (Zn J5 (Zn V5 Q5))));obtain⟨y0,_⟩:=z 0 _ rfl;obtain⟨y1,_⟩:=z 1 _ rfl;obtain⟨y2,_⟩:=z 2 _ rfl;obtain⟨y3,_⟩:=z 3 _ rfl;obtain⟨y4,_⟩:=z 4 _ rfl;obtain⟨y5,_⟩:=z 5 _ rfl;obtain⟨y6,_⟩:=z 6 _ rfl;obtain⟨y7,_⟩:=z 7 _ rfl;have zY:=Yw z;have zI:=Yw (Zn hu (Zn K G));clear O X5 J5 V5 Q5 M5 z i hu K G;unfold Ca Cy CW at W;simp only[Option.getD_some]at W
    have zX:Hid (D8 vf #[.agg #[.string u.sum,Zg u.born,.string u.J,.slice ra u.B.length rc],cv] D λe P=>(∃v,e=.returned v)/\J (d++[u.sum]) P/\DR w.1.size V D P):=HV.2 d D u ra rc (by simp at T;omega) zI.1 N.2.2.1 Yv;go_wp2_with fail;refine zX.Ai ?_;rintro e i ⟨⟨rv,rfl⟩,zC,G⟩;rw[zI.2.1]at zC;have yX:=G.size
    have O6:i.1[B]?=some (Cx s):=G.own B _ Yv N.1 rfl;have X6:i.1[w.1.size]?=some (.cells #[Zg j,.map (some m)] 81):=G.own _ _ (Zx) N.2.1 rfl;have C6:BR i 75 (w.1.size+1) (L+1) t (upd g (keyL s) (Zg (H+1))):=zB.1.same (by
     have⟨o,ho,yD⟩:=RC zB.1;rw[G.own _ o Yv ho yD,ho])
    have V6:DR w.1.size V w i:=N.2.2.2.1.ah G;have v:BC i (w.1.size+2) M Q:=N.2.2.2.2.vis G Yv;have K:Aa i B (Yj (kB s)):=Aa.same zY (O6.ah N.1.symm);have L6:AN i 75 b n fl:=I.2.2.1.map.block (V6.old b I.2.2.1.map.lt I.2.2.2.2.1);have R6:R8 i i.1.size (rowV fl s) (Cq E s):=by have hr:=I.2.2.1.row s S;refine(hr.read.stays (λq A=> ?_)).aj V6.size;exact V6.old q (hr.g A).2 (I.2.2.2.2.2 s S q A)
    have yS:=Ny E s;obtain⟨xA,w7,yG,zP,O,_⟩:=MJ i (w.1.size+2) M Q v (rowV fl s) (Cq E s) _ R6 (by simp at zE;omega) Yv 87;have zN:=L6.look keyed underlying89 (OY i) (CE s);have zG:(Instr.lookup 89 (.map (some b)) (Ca s) false).run prog i=.ok (rowV fl s) i:=zN;unfold Ca Cy at zG
    have z:∀q,Ap M=some q->w.1.size<=q/\∃o,i.1[q]?=some o/\Hg o=true:=λq A=>⟨Dz (v.g A).1,(v.jc A).not⟩;have P:∀q,Ap M=some q->w.1.size+2<=q:=λq A=>(v.g A).1;have J7:J (d++[s]) w7:=HV.1.ie zC O Yv z;have V7:DR w.1.size V w w7:=V6.after (Ad.grown O Yv (λq e=>(z q e).1))
    have q:w7.1[w.1.size]?=some (.cells #[Zg j,.map (some m)] 81):=(O.block _ Yv (λe=>Dz (P _ e.symm))).ah X6;have A:BR w7 75 (w.1.size+1) (L+1) t (upd g (keyL s) (Zg (H+1))):=C6.same (O.block _ Yv (λe=>Dz (P _ e.symm)));have yY:=O.size;have C:=Yw (Zn A (Zn q (Zn J7 (Zn V7 zP))));clear y0 y1 y2 y3 y4 y5 y6 y7 W yK zN;obtain⟨y0,_⟩:=K 0 _ rfl
    obtain⟨y1,_⟩:=K 1 _ rfl;obtain⟨y2,_⟩:=K 2 _ rfl;obtain⟨y3,_⟩:=K 3 _ rfl;obtain⟨y4,_⟩:=K 4 _ rfl;obtain⟨y5,_⟩:=K 5 _ rfl;obtain⟨y6,_⟩:=K 6 _ rfl;obtain⟨y7,_⟩:=K 7 _ rfl;clear O6 X6 C6 V6 v K L6 R6 O z P J7 V7 q A zP zC G;go_wp2_with (at_builtin;refine wpList_append_run rfl _ _ _ _ rfl rfl rfl yG ?_)
    go_roundg ((601 -(d.length+1)) *20000+(Q++Cq E s).length)
    case measure=>
     simp at hk T |-;omega
    case rel=>
     refine⟨d++[s],Q++Cq E s,t,L+1,_,Yu,?_,T,⟨C.1,Yt,zB.2⟩,C.2.1,C.2.2.1,C.2.2.2.1,U.visit R zA,C.2.2.2.2,Yv⟩;simp at zE |-;omega
def Hi(l c:Nat)(vs:Zl)(W:Zh):Prop:=
 ∃(n cc:Nat) (f:Lit->Option Value),BR W 75 l n cc f/\n<=vs.length/\MK vs f cc/\W.cell? (Zd c 0)=some (.map (some l))/\c≠l
theorem KM(b l c:Nat)(o:l<b)(m:c<b):Abides b (Hi l c):=by rintro q W p ⟨n,e,f,g,h,i,j,k⟩ _ _ _ _ d _;exact⟨n,e,f,g.same (d l o),h,i,(cell?_of_block (a:=⟨c,0,none⟩) (d c m)).ah j,k⟩
theorem NL{l:Nat}{g:Zl}{a:Zh}(h:Hi l c g W)(e:Zz W a):Hi l c g a:=by obtain⟨n,i,f,b,j,k,d,m⟩:=h;exact⟨n,i,f,b.ag e b.lt,j,k,(e.cell (p:=⟨c,0,none⟩) (A6 W _ d)).ah d,m⟩
def SV(c l:Nat)(B:Nat)(s:Value)(w':Zh):Prop:=w'.cell? (Zd c 0)=some (.map (some l))/\w'.cell? (Zd B 0)=some s
theorem KN(l p g c:Int)(a:Zk)(y:Nat)(P L:D4)(ks:Dj)(w:Zh)(Z:AW w w.1.size a ks)(hl:ks.length<=600)(Y:∀k∈ks,k.B.length<=30)(zS:∀k∈ks,(k.sum.size:Int)=l)(zR:∀k∈ks,∀r∈k.B,(r.size:Int)=l)(h8:l<=8):
 D8 40 #[.agg #[Zg l,Zg p,Zg g,Zg c,C3 a ks.length y,P,L]] w λe t=>∃b n f,e=C5 (.map (some b))/\w.1.size<b/\Lk t (b+1) b n l (Fa ks) [] f/\Zz w t:=by
 have h:= @run_makeMap prog;have zB:=Yw Z;have J:=Yw (Zn Y (Zn zS zR));have zA:Below w.1.size w (w.alloc (.cells #[Zg l,Zg p,Zg g,Zg c,C1 a ks y,P,L] 27)):=Zy;have hx:=Aw.new w l p g c (C1 a ks y) P L 27;have⟨M,d⟩:=Ae ((w.alloc (.cells #[Zg l,Zg p,Zg g,Zg c,C1 a ks y,P,L] 27)).alloc (.map #[] 0));have yF:M.1.size=w.1.size+2:=by rw[d];simp
 have zI:Below w.1.size w M:=by rw[d];exact zA.alloc zA.size _
 have zJ:AN M 75 (w.1.size+1) 0 (λ_=>none):=by have:=AN.new (w.alloc (.cells #[Zg l,Zg p,Zg g,Zg c,C1 a ks y,P,L] 27)) 75;rw[Al]at this;rw[d];exact this
 have zK:Aw M w.1.size l p g c (C1 a ks y) P L:=by rw[d];exact hx.ag (Zy) hx.2.2.2.2.2.2.2
 have zC:Hid (Lk M (w.1.size+1+1) (w.1.size+1) 0 l [] [] (λ_=>none)):=Lk.new zJ;obtain⟨q0,q1,q2,q3,q4,q5,q6,q7⟩:=zK;go_enter func40,ntmps40;go_upto_region 2 with fail;rw[<-d];clear d h;go_wp2
 go_loopw [13] (λi wr=>∃(k:Nat) (f:Lit->Option Value),k<=ks.length/\i=Zg k/\Hid (Lk wr (w.1.size+1+1) (w.1.size+1) (Fa (ks.take k)).length l (Fa (ks.take k)) [] f)/\Zz w wr/\Hid (Aw wr w.1.size l p g c (C1 a ks y) P L)/\w.1.size+2<=wr.1.size) (λi _=>ks.length -(intOf i).toNat)
 case atStart=>exact⟨0,_,Az _,rfl,by rw[take_zero];exact zC,zI,⟨q0,q1,q2,q3,q4,q5,q6,q7⟩,Yv⟩
 case round=>
  rename Zh=>wo
  obtain⟨k,f,hk,rfl,v,s,I,yG⟩:=hrel;by_cases hlt:k<ks.length
  .obtain⟨b,R,ha,hb,hc⟩:=(AW.A zB s).at hlt;subst ha;have HG:Hid (ks[k]?=some ks[k]):=Zv hlt;obtain⟨c0,c1,c2,ra,U,c3,zP⟩:=hc k _ HG;have H:ks[k]∈ks:=getElem_mem hlt;have zX:=J.1 _ H;have yE:=J.2.1 _ H;have zG:=Yw (J.2.2 _ H);have yD:b<wo.1.size:=Yv
   have HE:=Yw (VE HG);have yB:(Fa (ks.take k)).length<=18000:=by
    have:=PB (ks:=ks.take k) (λu=>u.B.map (λr=>(r,u.sum))) (λu d=>D2 (J.1 u (mem_of_mem_take d)));have h2:(ks.take k).length<=600:=Yt
    unfold Fa;omega
   have zF:=Yw zP;generalize ks[k]=x at *
   generalize Fa (ks.take k)=E0 at *
   have⟨B,d⟩:=D6 wo #[C4 x.sum,Zg x.born,C4 x.J,C1 ra x.B U] 68;have h:Below wo.1.size wo B:=by rw[d];exact Zy
   have z:Aa B wo.1.size [C4 x.sum,Zg x.born,C4 x.J,C1 ra x.B U]:=by rw[d];exact Aa.new wo _ _
   have E:B.1.size=wo.1.size+1:=by rw[d];simp
   obtain⟨D,_⟩:=z 3 _ rfl;have C:Aw B w.1.size l p g c (C1 (some ⟨b,R,none⟩) ks y) P L:=Aw.ag I h I.2.2.2.2.2.2.2;have A:Below w.1.size wo B:=h.aj s.size;have L1:Lk B (w.1.size+1+1) (w.1.size+1) E0.length l E0 [wo.1.size] f:=Lk.ag (Lk.avoid v _ (by intro q S;simp at S;omega)) h;have j:=Yw (Zn L1 (Zn A (Zn C z)));have o:=Yw d;clear d L1 A C z h
   have⟨d,h,z,A,C,F,G,K⟩:=I.o;go_upto_region 5 with fail;rw[<-o.o];clear o d h z A C F G K;have⟨h,d⟩:=Ae wo.1.size;rw[<-d]at j D |-;have zV:w.1.size+2<=h:=Yv
   have V:h<B.1.size:=Yv
   clear d E;go_wp2
   go_loopw [21] (λi wr=>∃(m:Nat) (N:Lit->Option Value),m<=x.B.length/\i=Zg m/\Hid (Lk wr (w.1.size+1+1) (w.1.size+1) (E0.length+m) l (E0++(x.B.take m).map (λr=>(r,x.sum))) [h] N)/\Below w.1.size wo wr/\Hid (Aw wr w.1.size l p g c (C1 (some ⟨b,R,none⟩) ks y) P L)/\Hid (Aa wr h [C4 x.sum,Zg x.born,C4 x.J,C1 ra x.B U])/\h<wr.1.size) (λi _=>x.B.length -(intOf i).toNat)
   case atStart=>exact⟨0,f,Az _,rfl,(show Lk _ _ _ _ _ _ _ _ from by simpa using j.1),j.2.1,j.2.2.1,j.2.2.2,V⟩
   case round=>
    clear j D v;obtain⟨m,N,hm,rfl,v,o,I,X,zY⟩:=hrel;by_cases hmlt:m<x.B.length
    .obtain⟨b',u,zM,yC,d⟩:=(Af.A zF o).at hmlt;subst zM;have Q:Hid (x.B[m]?=some x.B[m]):=Zv hmlt;have n:=d m _ Q;have zE:=Yw (Vo (λr=>(r,x.sum)) Q);clear d;generalize x.B[m]=r at *
     have i:(r.size:Int)=l:=zG r (Zs Q);have zW:b'<wr.1.size:=Dz o.size
     go_wp2_with fail;refine(GR r wr).aj ?_;rintro e C ⟨rfl,D⟩;have⟨d,A⟩:=Ae (C.alloc (Cx r));have K:Below C.1.size C d:=by rw[A];exact Zy
     have W:Hid (Aa d C.1.size (Yj (kB r))):=by rw[A];exact Aa.new C _ _
     have z:Below wr.1.size wr d:=D.ah (K.aj D.size);have T:wr.1.size<=C.1.size:=D.size;have G:C.1.size<d.1.size:=W.lt;have L2:Hid (Lk d (w.1.size+1+1) (w.1.size+1) (E0.length+m) l (E0++(x.B.take m).map (λr=>(r,x.sum))) [C.1.size,h] N):=Lk.ag (Lk.more v T) z
     have X2:Hid (Aw d w.1.size l p g c (C1 (some ⟨b,R,none⟩) ks y) P L):=Aw.ag I z I.2.2.2.2.2.2.2;have Z2:Hid (Aa d h [C4 x.sum,Zg x.born,C4 x.J,C1 (some ⟨b',u,none⟩) x.B U]):=Aa.A X z;have B2:Hid (Below w.1.size wo d):=o.ah (z.aj (by have:=s.size;have:=o.size;omega));have⟨j,O⟩:=Ae C.1.size;have F:=Yw A;unfold Cx at F
     have zU:h<j:=Yv
     have E:j<d.1.size:=Yv
     clear A K z D v I X n;go_upto_region 9 with fail;rw[<-F.o];rw[<-O]at W L2 |-;clear F O G T;have z:(E0++(x.B.take m).map (λr=>(r,x.sum))).length<=18030:=Yt
     have zT:w.1.size+1<w.1.size+1+1:=Nat.lt_succ_self _;have n:w.1.size+1+1<=d.1.size:=Yv
     have X:∀q∈[j,h],q<d.1.size:=by intro q S;simp at S;rcases S with rfl|rfl<;>omega
     have kD:Below d.1.size d d.drew:=Ad.drew;have G:j≠w.1.size+1:=Yv
     have F:h≠w.1.size+1:=Yv
     have eD:d.drew.1[j]?=d.1[j]? /\d.drew.1[h]?=d.1[h]?:=⟨rfl,rfl⟩;have A:j∈[j,h]:=Yu
     have z:h∈[j,h]:=Yu
     have D:h<d.1.size:=Yv
     go_region_held3 (λt=>t.cell? (Zd h 0)=some (C4 x.sum)/\t.cell? (Zd j 0)=some (.int .u8 (kB r 0))/\t.cell? (Zd j 1)=some (.int .u8 (kB r 1))/\t.cell? (Zd j 2)=some (.int .u8 (kB r 2))/\t.cell? (Zd j 3)=some (.int .u8 (kB r 3))/\t.cell? (Zd j 4)=some (.int .u8 (kB r 4))/\t.cell? (Zd j 5)=some (.int .u8 (kB r 5))/\t.cell? (Zd j 6)=some (.int .u8 (kB r 6))/\t.cell? (Zd j 7)=some (.int .u8 (kB r 7)))
      (exact sk9 (by assumption) Z2 W)
      (first
        |(go_at_call 39;refine(GR x.sum d.drew).aj ?_;rintro e t ⟨rfl,zN⟩;have O:Below d.1.size d t:=kD.ah (zN.aj (Zx));have T:Below d.1.size d (t.alloc (Cx x.sum)):=O.alloc O.size _;have⟨stC,wC,hEC,hgC,hsC⟩:=(L2.ag T).entry Yv r;have gC:d.grownBy wC (some (w.1.size+1)):=(Ag _ T).ah hgC;have l3:w.1.size+1<t.1.size:=(Dz O.size);have⟨vC,w4C,w5C,hrC,htC,hLC,hbC,haC,hzC⟩:=L2.add zT n X gC i h8 hsC (R8.one_stay x.sum hgC Yv) Yv 87;have e3:t.1[j]?=d.1[j]? /\t.1[h]?=d.1[h]?:=⟨O.block j E,O.block h D⟩;have zH:(t.alloc (Cx x.sum)).1[j]?=d.1[j]? /\(t.alloc (Cx x.sum)).1[h]?=d.1[h]?:=⟨T.block j E,T.block h D⟩;have eC:wC.1[j]?=d.1[j]? /\wC.1[h]?=d.1[h]?:=⟨gC.block j E (λe=>G (A4 e)),gC.block h D (λe=>F (A4 e))⟩;have zZ:w4C.1[j]?=d.1[j]? /\w4C.1[h]?=d.1[h]?:=⟨(haC j A G).2,(haC h z F).2⟩;have yA:w5C.1[j]?=d.1[j]? /\w5C.1[h]?=d.1[h]?:=⟨(haC j A G).1,(haC h z F).1⟩;unfold Cx at hEC zH;unfold goInt at htC)
        |(refine Bt Yp (.tmp 29) (.tmp 33) 87 87 Yp Yp Yp hrC ?_;have K:=Yw (Zn hLC (Zn hbC (Zn haC hzC)))))
     all_goals
      have hlen:E0.length+(m+1)=E0.length+m+1:=Yv
      go_wp2;refine⟨⟨m+1,upd N (keyL r) vC,Yv,Yn,?_,?_,?_,?_,?_⟩,Ys⟩
      .rw[zE.o,<-append_assoc,hlen];exact Lk.less K.1
      .exact B2.ah (K.2.1.aj Yv)
      .exact Aw.ag X2 K.2.1 Yv
      .exact Aa.same Z2 (K.2.2.1 h Yu Yv).1
      .have:=K.2.2.2;omega
    .obtain rfl:m=x.B.length:=Yv
     rw[Zt (Zx),<-HE.o]at v;have zO:(Fa (ks.take (k+1))).length=E0.length+x.B.length:=by rw[HE.o];simp
     rw[<-zO]at v;have r:=Yw (Lk.free v);clear v;go_wp2;exact⟨⟨k+1,N,Yv,Yn,r,s.ah o,I,Yv⟩,Ys⟩
  .rw[Zt Yv]at v;obtain rfl:k=ks.length:=Yv
   go_wp2;go_ret;exact⟨_,_,f,rfl,Yv,v,s⟩
