import Derived.Test.YtcfjcdpkpiidkaaGreatX16
import Derived.Test.YtcfjcdpkpiidkaaGreatX08
import Derived.Test.YtcfjcdpkpiidkaaGreatX12
set_option maxRecDepth 100000
set_option maxHeartbeats 16000000
namespace Go.Proofs.YtcfjcdpkpiidkaaGreat
open ChangeShapes WideShapes ChangeAt RowKit _root_.Go.Proofs.Tryz
variable{w w' d:Zh}{b g base base' off n:Nat}{v f T P L:Value}{c e:Zl}{a x:Zk}{k:List Ld}{now:Int}
def Ah(w:Zh)(base:Nat)(v:Value)(ss:Zl):Prop:=
 (v=Zb/\ss=[])\/∃g off cap,v=.slice (some ⟨g,off,none⟩) ss.length cap/\base<=g/\g<w.heap.size/\ss.length<=cap/\cap<=maxLen/\
   (∀j,j<cap->(w.cell? (Zd g (off+j))).isSome=true/\w.frozen? ⟨g,off+j,none⟩=false)/\
   ∀i s,ss[i]?=some s->w.cell? (Zd g (off+i))=some (.string s)
theorem Ah.nil(w:Zh)(a:Nat):Ah w a Zb []:=.inl ⟨rfl,rfl⟩
theorem Ah.own(h:w.ownsRow b 9 1 v c.length (c.map Value.string)):Ah w b v c:=by
 rcases h.2 with⟨rfl,q⟩|⟨g,cap,d,rfl,l,e,m,o,f,r⟩
 .exact .inl ⟨rfl,List.eq_nil_of_length_eq_zero q⟩
 .have n:=(Array.getElem?_eq_some_iff.1 e).1;have a:∀j,w.cell? (Zd g (0+j))=d[j]?:=fun j=>by rw[Nat.zero_add];simp[World.cell?,e]
  refine .inr ⟨g,0,cap,rfl,l,n,m,o,fun j u=>⟨?_,?_⟩,fun i s f=> ?_⟩
  .rw[a,Array.getElem?_eq_getElem Yv];rfl
  .simp[World.frozen?,e]
  .have t:=(Zw f).1;rw[a];have k:(d.toList.take (c.length *1))[i]?=some (.string s):=by rw[r];simp[f]
   rw[List.getElem?_take_of_lt Yv]at k;simpa using k
theorem Ah.row(h:Ah w b v c):∃a cap,v=.slice a c.length cap/\Ab w w.heap.size a c:=by
 rcases h with⟨rfl,rfl⟩|⟨g,off,cap,rfl,f,d,_,_,_,e⟩
 .exact⟨none,0,rfl,.inl rfl⟩
 .exact⟨_,cap,rfl,.inr ⟨g,off,rfl,d,e⟩⟩
theorem Ah.stays{a:Nat}(h:Ah w a v e)(q:w.heap.size<=w'.heap.size)(b:∀g,Aj v=some g->w'.heap[g]?=w.heap[g]?):Ah w' a v e:=by
 rcases h with h|⟨g,off,cap,rfl,f,o,k,l,c,m⟩
 .exact .inl h
 .exact .inr ⟨g,off,cap,rfl,f,Yv,k,l,fun j d=>⟨by rw[World.cell?_of_block (b g rfl)];exact(c j d).1,by rw[World.frozen?_of_block (b g rfl)];exact(c j d).2⟩,fun i s n=>(World.cell?_of_block (b g rfl)).trans (m i s n)⟩
theorem Ah.V{a:Nat}(h:Ah w a v e)(b:Aj v=some g):a<=g/\g<w.heap.size:=by
 rcases h with⟨rfl,_⟩|⟨f,off,cap,rfl,c,d,_⟩
 .cases b
 .cases b;exact⟨c,d⟩
theorem Ah.below{c:Zh}{b:Zl}(h:Ah w base v b)(a:Zz w c):Ah c base v b:=
 h.stays a.size (fun g e=>a.block g (h.V e).2)
theorem Ah.J{V:List Nat}{a:Nat}(h:Ah w a v c)(b:Tn V w d)(f:∀g,Aj v=some g->g∉V):Ah d a v c:=
 h.stays b.size (fun g e=>b.block g (h.V e).2 (f g e))
theorem Ah.mono{a:Zl}(h:Ah w base v a)(c:base'<=base):Ah w base' v a:=by
 rcases h with h|⟨g,off,cap,rfl,b,rest⟩
 .exact .inl h
 .exact .inr ⟨g,off,cap,rfl,Yv,rest⟩
theorem Ah.tail{a cap:Nat}{s:Zi}{b:Zl}(h:Ah w a (.slice (some ⟨g,off,none⟩) n cap) (s::b)):Ah w a (.slice (some ⟨g,off+1,none⟩) b.length (cap -1)) b/\n=b.length+1/\n<=cap/\w.cell? (Zd g off)=some (.string s):=by
 rcases h with⟨h,_⟩|⟨r,k,f,c,l,o,d,t,m,e⟩
 .cases h
 .simp only[List.length_cons]at c d;cases c;refine⟨.inr ⟨g,off+1,cap -1,rfl,l,o,Yv,Yv,fun j u=> ?_,fun i s q=> ?_⟩,rfl,d,by simpa using e 0 s rfl⟩
  .have:=m (j+1) Yv;rw[show off+(j+1)=off+1+j by omega]at this;exact this
  .have:=e (i+1) s (by simpa using q);rw[show off+(i+1)=off+1+i by omega]at this;exact this
theorem Ah.fresh(w:Zh)(c:Nat)(b:Zl)(cap:Nat)(z:Array Value)(g:c<=w.heap.size)(e:b.length<=cap)(f:cap<=maxLen)(k:z.size=cap -b.length):
 Ah (w.drew.alloc (.cells ((b.map Value.string).toArray++z) 9)) c (Yz w.heap.size b.length cap) b:=by
 have a:∀j,(w.drew.alloc (.cells ((b.map Value.string).toArray++z) 9)).cell? (Zd (w.heap.size) (0+j))=((b.map Value.string).toArray++z)[j]?:=fun j=>by rw[Nat.zero_add];show(w.drew.alloc (.cells ((b.map Value.string).toArray++z) 9)).cell? (Zd (w.drew.heap.size) j)=_;rw[World.cell?_alloc_at _ _ _ _ rfl]
 refine .inr ⟨w.heap.size,0,cap,rfl,g,Yu,e,f,fun j l=>⟨?_,?_⟩,fun i s d=> ?_⟩
 .rw[a,Array.getElem?_eq_getElem (by simp[k];omega)];rfl
 .simp[go_sem]
 .have h:=(Zw d).1;rw[a,Array.getElem?_append_left (by simpa using h)];simp[d]
theorem Ek(w:Zh)(b:Nat)(v:Value)(a:Zl)(T:Ah w b v a)(p:Addr)(cp:Nat)(t:Zi)(z:w.cell? p=some (.string t))(V:a.length<=100000000)(q:b<=w.heap.size)(A:TypeId):
 ∃c d,(Builtin.append_ #[29,29] A #[v,.slice (some p) 1 cp]).run prog w=.ok c d/\Ah d b c (a++[t])/\w.grownBy d (Aj v)/\(Aj c=Aj v\/Aj c=some w.heap.size):=by
 obtain⟨i,I,O,n,P⟩:=info_parts BO;have o:Src prog i.size 29 (.slice (some p) 1 cp) 1 [.string t] w:=by
  rw[n];exact Src.ofSlice w underlying29 p 1 cp [.string t] rfl (fun j u l=>by
   match j,l with
   |0,l=>cases l;rw[show p.add 0=p from by cases p;simp[Addr.add]];exact z) (by simp[Value.oneCell'])
 have grow:∀(y:Zk) (cap:Nat),cap<a.length+1->(Builtin.firstCells i.size a.length (.slice y a.length cap)).run prog w.drew=.ok (a.map Value.string).toArray w.drew->
  ∃c d,(Builtin.append_ #[29,29] A #[.slice y a.length cap,.slice (some p) 1 cp]).run prog w=.ok c d/\Ah d b c (a++[t])/\(∀row,w.grownBy d row)/\Aj c=some w.heap.size:=by
  intro y cap C hold;have h:=run_append_grow_src w _ _ A _ i _ underlying29 I O y a.length cap (a.map Value.string) hold _ 1 [.string t] o C Yv (by
   have:=nextslicecap_le C;rw[P];omega)
  rw[show a.map Value.string++[.string t]=(a++[t]).map Value.string by simp]at h;have J:=grownCap_ge w (a.length+1) cap 9;have M:=grownCap_le_maxLen w (a.length+1) cap 9 Yo
  have B:=Ah.fresh w b (a++[t]) (grownCap w (a.length+1) cap 9) (Builtin.zeroCells (Value.string ⟨#[]⟩).cells (grownCap w (a.length+1) cap 9 -(a.length+1))) q (by simpa using J) M (by rw[size_zeroCells,List.length_append];simp[Value.cells]);rw[List.length_append]at B;exact⟨_,_,h,B,fun row=>⟨rfl,rfl,rfl,Yu,fun k H _=>heap_alloc_old w.drew _ H⟩,rfl⟩
 rcases T with⟨rfl,rfl⟩|⟨g,off,cap,rfl,Q,S,U,R,r,z⟩
 .obtain⟨c,d,h,E,F,G⟩:=grow none 0 Yu (run_firstCells_none w.drew _ _ _ _);exact⟨c,d,h,E,F _,.inr G⟩
 .by_cases hroom:a.length+1<=cap
  .have x:∀j,j<[Value.string t].length->(a.length *1+j)<cap:=fun j f=>by simp at f;omega
   have h:=run_append_room_src w _ _ A _ i underlying29 I g off a.length cap _ 1 [.string t] o hroom (fun j f=>by rw[n,Nat.add_assoc];exact(r _ (x j f)).1) (fun j f=>by rw[n,Nat.add_assoc];exact(r _ (x j f)).2);rw[n]at h
   refine⟨_,_,h,.inr ⟨g,off,cap,by rw[List.length_append];rfl,Q,by rw[Gy];exact S,by rw[List.length_append];exact hroom,R,fun j f=>⟨?_,?_⟩,fun k s m=> ?_⟩,⟨World.os_setCells _ _ _ _,LW _ _ _ _,World.output_setCells _ _ _ _,by rw[Gy];exact Zx,fun k H N=>World.heap_setCells_other _ _ _ _ H (fun e=>N (by rw[e];rfl))⟩,.inl rfl⟩
   .exact JC _ _ _ _ _ (r j f).1
   .rw[World.frozen?_setCells];exact(r j f).2
   .rcases Nat.lt_or_ge k a.length with D|D
    .rw[List.getElem?_append_left D]at m;rw[World.cell?_setCells_out _ _ _ _ _ (fun _ _=> .inl Yt)];exact z k s m
    .rw[List.getElem?_append_right D]at m;have L:k=a.length:=by have:=(Zw m).1;simp at this;omega
     subst L;simp at m;subst m;have K:=World.cell?_setCells_in g [.string t] (off+a.length *1) w (fun j f=>by rw[Nat.add_assoc];exact(r _ (x j f)).1) 0 Yu;simpa using K
  .obtain⟨c,d,h,E,F,G⟩:=grow (some ⟨g,off,none⟩) cap Yv (run_firstCells_some w.drew _ _ _ _ _ _ (by rw[n];simp) (by
    intro j u l;obtain⟨s,m,rfl⟩:∃s,a[j]?=some s/\u=.string s:=by
     rw[List.getElem?_map]at l;cases e:a[j]? with
     |none=>rw[e]at l;cases l
     |some s=>rw[e]at l;cases l;exact⟨s,rfl,rfl⟩
    rw[Go.WideShapes.add_plain];exact z j s m))
   exact⟨c,d,h,E,F _,.inr G⟩
theorem Bb.J{f:Zh}{a:Nat}{q:Zj}{l:List Kd}{o:List Pd}{m:List Ld}(h:Bb w a T P L q l o m){V:List Nat}(x:Tn V w f)(s:∀b∈V,b<a):Bb f a T P L q l o m:=by have c:∀{e:TypeId} {size:Nat} {v:Value} {n:Nat} {xs:Zj},w.ownsRow a e size v n xs->f.ownsRow a e size v n xs:=fun d=>Aw d (fun g j=>x.block g (Ac d j).2 (fun e=>by have:=s g e;have:=(Ac d j).1;omega));exact⟨h.len,c h.aj,fun i k r t u=>c (h.B i k r t u),c h.pins,c h.aq,h.nd⟩
theorem Bb.mono{rs:Zj}{ks:List Kd}{c:List Pd}{b:List Ld}(h:Bb w base T P L rs ks c b)(a:base'<=base):Bb w base' T P L rs ks c b:=
 ⟨h.len,h.aj.mono a,fun i k r d e=>(h.B i k r d e).mono a,h.pins.mono a,h.aq.mono a,h.nd⟩
theorem Bb.y{e:Zj}{j:List Kd}{l:List Pd}(h:Bb w b T P L e j l k):∀g∈BS T P L e,b<=g:=by
 intro g a;unfold BS at a;simp only[List.mem_append,Option.mem_toList,List.mem_filterMap]at a;rcases a with a|a|a|⟨r,f,a⟩
 .exact(Ac h.aj a).1
 .exact(Ac h.pins a).1
 .exact(Ac h.aq a).1
 .obtain⟨i,c⟩:=List.getElem?_of_mem f;have d:=(Zw c).1;rw[h.len]at d;exact(Ac (h.B i _ r (Zv d) c) a).1
def Df:Zj:=[Ze,Ze,Ze,Ze,Ze,Zb,Zb,Zb,Ze,Zb,Zb,Ze,Ze,Ze,Zb]
theorem Gs{g i j k l m n o q r a c d e:Value}(h:Aa w b [g,i,j,k,l,m,n,o,q,r,a,c,d,e,f]):(w.cell? (Zd b 0)=some g/\w.frozen? ⟨b,0,none⟩=false)/\(w.cell? (Zd b 1)=some i/\w.frozen? ⟨b,1,none⟩=false)/\(w.cell? (Zd b 2)=some j/\w.frozen? ⟨b,2,none⟩=false)/\(w.cell? (Zd b 3)=some k/\w.frozen? ⟨b,3,none⟩=false)/\(w.cell? (Zd b 4)=some l/\w.frozen? ⟨b,4,none⟩=false)/\(w.cell? (Zd b 5)=some m/\w.frozen? ⟨b,5,none⟩=false)/\(w.cell? (Zd b 6)=some n/\w.frozen? ⟨b,6,none⟩=false)/\(w.cell? (Zd b 7)=some o/\w.frozen? ⟨b,7,none⟩=false)/\(w.cell? (Zd b 8)=some q/\w.frozen? ⟨b,8,none⟩=false)/\(w.cell? (Zd b 9)=some r/\w.frozen? ⟨b,9,none⟩=false)/\(w.cell? (Zd b 10)=some a/\w.frozen? ⟨b,10,none⟩=false)/\(w.cell? (Zd b 11)=some c/\w.frozen? ⟨b,11,none⟩=false)/\(w.cell? (Zd b 12)=some d/\w.frozen? ⟨b,12,none⟩=false)/\(w.cell? (Zd b 13)=some e/\w.frozen? ⟨b,13,none⟩=false)/\(w.cell? (Zd b 14)=some f/\w.frozen? ⟨b,14,none⟩=false):=
 ⟨h 0 _ rfl,h 1 _ rfl,h 2 _ rfl,h 3 _ rfl,h 4 _ rfl,h 5 _ rfl,h 6 _ rfl,h 7 _ rfl,h 8 _ rfl,h 9 _ rfl,h 10 _ rfl,h 11 _ rfl,h 12 _ rfl,h 13 _ rfl,h 14 _ rfl⟩
theorem FI(w:Zh)(R:Nat)(f g h i j k l m n o a b c d e:Value):Tn [R] w (((((((((((((((w.setCell (Zd R 0) f).setCell (Zd R 1) g).setCell (Zd R 2) h).setCell (Zd R 3) i).setCell (Zd R 4) j).setCell (Zd R 5) k).setCell (Zd R 6) l).setCell (Zd R 7) m).setCell (Zd R 8) n).setCell (Zd R 9) o).setCell (Zd R 10) a).setCell (Zd R 11) b).setCell (Zd R 12) c).setCell (Zd R 13) d).setCell (Zd R 14) e):=
 (((((((((((((((AS w R 0 f).trans (AS _ R 1 g)).trans (AS _ R 2 h)).trans (AS _ R 3 i)).trans (AS _ R 4 j)).trans (AS _ R 5 k)).trans (AS _ R 6 l)).trans (AS _ R 7 m)).trans (AS _ R 8 n)).trans (AS _ R 9 o)).trans (AS _ R 10 a)).trans (AS _ R 11 b)).trans (AS _ R 12 c)).trans (AS _ R 13 d)).trans (AS _ R 14 e))
def fresh(ms rs:Zl):Zl:=rs.filter (fun r=> !(ms.any (fun x=>decide (x=r))))
def Lb(ks:List Kd)(s:Zi)(qs ms qs' ms':Zl):Prop:=
 ((¬Ay ks s\/s∈ms)/\qs'=qs/\ms'=ms)\/∃k∈ks,k.sum=s/\s∉ms/\ms'=ms++[s]/\qs'=qs++fresh (ms++[s]) k.B
theorem Lc{ms a:Zl}{k:Nat}{x:Zi}(c:a[k]?=some x):(x∈ms->fresh ms (a.take (k+1))=fresh ms (a.take k))/\(x∉ms->fresh ms (a.take (k+1))=fresh ms (a.take k)++[x]):=by
 obtain⟨h,rfl⟩:=Zw c;unfold fresh;rw[Zu h,List.filter_append];refine⟨fun b=> ?_,fun b=> ?_⟩
 .have:(ms.any (fun x=>decide (x=a[k])))=true:=by simpa using b
  simp[this]
 .have:(ms.any (fun x=>decide (x=a[k])))=false:=by simp;exact fun x c e=>b (e▸c)
  simp[this]
def Ey(ks:List Kd)(at_:Int)(u:Kd):Prop:=u∈ks/\u.born<at_/\∀y∈ks,y.born<at_->y.born<=u.born
structure UR where
 ks:List Kd
 H:Int
 O:Int
 M:Int
 ro:Int
 D:Zl
 ms:Zl
 S:Zl
inductive UTo (ks:List Kd) (ps:List Pd) (ls:List Ld) (births ph top at_ ro:Int) (qs ms:Zl):UR->Prop
 |begin (h:ph=0):UTo ks ps ls births ph top at_ ro qs ms ⟨ks,1,births,births+1,ro,Br ps ls,ms,[]⟩
 |mark (h:ph≠0) (s:Zi) (q0 qs' ms':Zl) (hq:qs=s::q0) (hm:Lb ks s q0 ms qs' ms'):UTo ks ps ls births ph top at_ ro qs ms ⟨ks,ph,top,at_,ro,qs',ms',[]⟩
 |rest (h:ph≠0) (hq:qs=[]) (hn:∀y∈ks,¬y.born<at_):UTo ks ps ls births ph top at_ ro qs ms ⟨ks,0,0,0,ro+1,[],[],[]⟩
 |ah (h:ph≠0) (hq:qs=[]) (u:Kd) (hu:Ey ks at_ u) (hk:u.sum∈ms\/Cz ps ls ks u.sum):UTo ks ps ls births ph top at_ ro qs ms ⟨ks,2,top,u.born,ro,[],ms,[]⟩
 |drop (h:ph≠0) (hq:qs=[]) (u:Kd) (hu:Ey ks at_ u) (hm:u.sum∉ms) (hk:¬Cz ps ls ks u.sum):UTo ks ps ls births ph top at_ ro qs ms ⟨Bt ks u.sum,2,top,u.born,ro,[],ms,[u.sum]⟩
structure Sm (wd births:Int) (ks:List Kd) (ps:List Pd) (ls:List Ld) (ph ro:Int) (qs ms:Zl):Prop where
 ok:DR wd ks
 born:∀k∈ks,1<=k.born
 B:∀k∈ks,k.B.length<=30/\∀r∈k.B,(r.size:Int)=wd
 pl:ps.length<=100
 ll:ls.length<=200
 fg:∀p∈ps,(p.sum.size:Int)=wd
 fv:∀l∈ls,(l.sum.size:Int)=wd
 b0:0<=births
 b1:births<=1000000000
 je:ph=0\/ph=1\/ph=2
 r0:0<=ro
 r1:ro<=1000000000
 jf:∀x∈qs,(x.size:Int)=wd
 gx:∀x∈ms,(x.size:Int)=wd
 ql:qs.length<=1048576
 ml:ms.length<=1048576
theorem UTo.sub{a g d c k:Int}{b:List Kd}{i:List Pd}{e:List Ld}{j f:Zl}{r:UR}(h:UTo b i e a g d c k j f r):r.ks.Sublist b:=by
 cases h with
 |begin h=>exact List.Sublist.refl _
 |mark h s q0 q1 m1 hq hm=>exact List.Sublist.refl _
 |rest h hq hn=>exact List.Sublist.refl _
 |ah h hq u hu hk=>exact List.Sublist.refl _
 |drop h hq u hu hm hk=>exact List.filter_sublist
theorem r6{a c d e g:Value}(h:Aa w b [a,c,d,e,f,g]):(w.cell? (Zd b 0)=some a/\w.frozen? ⟨b,0,none⟩=false)/\(w.cell? (Zd b 1)=some c/\w.frozen? ⟨b,1,none⟩=false)/\(w.cell? (Zd b 2)=some d/\w.frozen? ⟨b,2,none⟩=false)/\(w.cell? (Zd b 3)=some e/\w.frozen? ⟨b,3,none⟩=false)/\(w.cell? (Zd b 4)=some f/\w.frozen? ⟨b,4,none⟩=false)/\(w.cell? (Zd b 5)=some g/\w.frozen? ⟨b,5,none⟩=false):=
 ⟨h 0 _ rfl,h 1 _ rfl,h 2 _ rfl,h 3 _ rfl,h 4 _ rfl,h 5 _ rfl⟩
def Ev(a:Zk)(n c:Nat):Prop:=n<=c/\(a=none->n=0/\c=0)
theorem Ah.cap{c:Nat}{ss:Zl}(h:Ah w base (.slice a n c) ss):Ev a ss.length c:=by
 rcases h with⟨e,rfl⟩|⟨g,off,cap,e,_,_,h,_⟩
 .cases e;exact⟨Zx,fun _=>⟨rfl,rfl⟩⟩
 .cases e;exact⟨h,fun e=>by cases e⟩
def Lt(w:Zh)(a:Zk):Prop:=∀p,a=some p->p.block<w.heap.size
theorem Lt.mono{b:Zh}(h:Lt w a)(c:w.heap.size<=b.heap.size):Lt b a:=fun p e=>Zr (h p e) c
theorem Lt.no:Lt w none:=fun _ e=>by cases e
theorem Ah.im{c:Nat}{d:Zl}(h:Ah w b (.slice a n c) d):Lt w a:=fun p e=>(h.V (g:=p.block) (by rw[e];rfl)).2
def CJ(b:Nat)(x y:Zk)(n:Nat)(a:Zk):Prop:=∀p,a=some p->p.block=b\/(∃q,x=some q/\p.block=q.block)\/(∃q,y=some q/\p.block=q.block)\/n<=p.block
theorem CJ.no{y:Zk}:CJ b x y n none:=fun _ e=>by cases e
theorem CJ.new{o:Nat}{y:Zk}(h:n<=g):CJ b x y n (some ⟨g,o,none⟩):=fun p e=>by cases e;exact .inr (.inr (.inr h))
theorem CJ.own{d:Nat}{y:Zk}{k c:Nat}{i:Zl}(h:Ah w d (.slice a k c) i)(f:n<=d):CJ b x y n a:=by intro p e;subst e;exact .inr (.inr (.inr (Zm f (h.V (g:=p.block) rfl).1)))
structure LU (w w':Zh) (e:Ending) (wd now given births:Int) (P L:Value) (ks:List Kd) (ps:List Pd) (ls:List Ld) (ph top at_ ro:Int) (qs ms:Zl) (b0:Nat) (x0 y0:Zk) (zs0:List (Kd×Value)):Prop where
 o:∃(r:UR) (b c:Nat) (zs:List (Kd×Value)) (qa ma da:Zk) (qc mc dc:Nat),e=.returned (.agg #[Ze,Zg wd,Zg now,Zg given,Zg births,.slice (some ⟨b,0,none⟩) zs.length c,P,L,Zg r.H,.slice qa r.D.length qc,.slice ma r.ms.length mc,Zg r.O,Zg r.M,Zg r.ro,.slice da r.S.length dc])/\UTo ks ps ls births ph top at_ ro qs ms r/\zs.map (·.1)=r.ks/\Bg w' b 0 zs/\b<w'.heap.size/\Ab w' w'.heap.size qa r.D/\Ab w' w'.heap.size ma r.ms/\Ab w' w'.heap.size da r.S/\(CJ b0 x0 y0 w.heap.size (some ⟨b,0,none⟩)/\CJ b0 x0 y0 w.heap.size qa/\CJ b0 x0 y0 w.heap.size ma/\CJ b0 x0 y0 w.heap.size da)/\(∀z∈zs,z∈zs0)/\Ev qa r.D.length qc/\Ev ma r.ms.length mc/\Lt w' qa/\Lt w' ma
 low:Below w.heap.size w w'
theorem LU.from{X c:Zh}{e:Ending}{q b a:Int}{i:List Kd}{m:List Pd}{j:List Ld}{l f d o:Int}{n k:Zl}{h:Nat}{r s:Zk}{g:List (Kd×Value)}(V:List Nat)(H:∀c,Tn V X c->LU w c e q now b a P L i m j l f d o n k h r s g)(t:Tn V X c):LU w c e q now b a P L i m j l f d o n k h r s g:=H c t
theorem NR(W:Zh)(a:Zk)(cap:Nat)(b:Zl)(h:Ab W W.heap.size a b)(C:a=none->b.length=0/\cap=0)(G:b.length<=100000000)(n:TypeId):
 ∃x g d,(Builtin.append_ #[29,29] n #[Yz W.heap.size 0 0,.slice a b.length cap]).run prog (W.alloc (.cells #[] 9))=.ok (Yz x b.length g) d/\d.ownsRow W.heap.size 9 1 (Yz x b.length g) b.length (b.map Value.string)/\Zz W d:=by
 obtain⟨q,o,t,v,y⟩:=info_parts BO;have c:(W.alloc (.cells #[] 9)).ownsRow W.heap.size 9 1 (Yz W.heap.size 0 0) 0 (([]:Zl).map Value.string):=World.ownsRow_lit (base:=W.heap.size) (e:=9) (size:=1) W #[] 0 (Zx) Yo rfl;have l:Below W.heap.size W (W.alloc (.cells #[] 9)):=Zy;cases a with
 |none=>obtain⟨z,rfl⟩:=C rfl;have B:=List.eq_nil_of_length_eq_zero z;subst B;exact⟨_,_,_,run_append_owned_none (P:=prog) (W.alloc (.cells #[] 9)) W.heap.size 29 n 9 q 1 underlying29 o _ 0 _ c,c,l⟩
 |some A=>
 obtain⟨H,d,F,m,r,E⟩:=run_append_own (P:=prog) (w:=W.alloc (.cells #[] 9)) W.heap.size 29 n 9 q Zc 1 16 underlying29 o t v y rfl Yq _ 0 _ c A b.length cap (b.map Value.string) Yu (fun j u f=>by
  rw[List.getElem?_map]at f;cases hs:b[j]? with
  |none=>rw[hs]at f;cases f
  |some s=>
   rw[hs]at f;cases f;exact(h.below l).ay A rfl j s hs) (PQ b) Yo Yv Yu
 simp only[Nat.zero_add,List.map_nil,List.nil_append]at m;obtain⟨x,g,rfl⟩:=JU m (fun e=>by have:=E.1 e;cases this.1);have i:(W.alloc (.cells #[] 9)).grownBy d (some W.heap.size):=by simpa [Value.ownBlock]using r
 exact⟨x,g,d,F,m,l.grown i Yu (fun k D=>by cases D;exact Zx)⟩
theorem Sn(W:Zh)(a:Zk)(cap:Nat)(b:Zl)(h:Ab W W.heap.size a b)(j:a=none->b.length=0/\cap=0)(k:b.length<=100000000)(e:TypeId):
 ∃x d c,(Builtin.append_ #[29,29] e #[Yz W.heap.size 0 0,.slice a b.length cap]).run prog (W.alloc (.cells #[] 9))=.ok (Yz x b.length d) c/\Ah c W.heap.size (Yz x b.length d) b/\Zz W c:=by
 obtain⟨x,d,c,f,g,i⟩:=NR W a cap b h j k e;exact⟨x,d,c,f,Ah.own g,i⟩
theorem NT(o now f d:Int)(b q:Nat)(P L:Value)(i:List (Kd×Value))(n:List Pd)(m:List Ld)(M K:Zk)(pc Z:Nat)(hP:P=.slice M n.length pc)(hL:L=.slice K m.length Z)(x t r:Int)(A l:Zk)(D s:Nat)(y k:Zl)(w:Zh)(R:Bg w b 0 i)(U:b<w.heap.size)(hp:AM w w.heap.size M n)(hl:AN w w.heap.size K m)(hm:Ab w w.heap.size l k)(zA:Ev l k.length s)(zE:Lt w l)(zC:n.length<=100)(zB:m.length<=200)(zN:0<=d)(zO:d<=1000000000):
 Calls prog 104 #[.agg #[Zg o,Zg now,Zg f,Zg d,Yz b i.length q,P,L],.agg (Ye 0 A y.length D l k.length s x t r)] w fun e w'=>LU w w' e o now f d P L (i.map (·.1)) n m 0 x t r y k b A l i:=by
 obtain⟨W,E⟩:=Af (((w.alloc (.cells #[Zg o,Zg now,Zg f,Zg d,Yz b i.length q,P,L] 27)).alloc (.cells (Ye 0 A y.length D l k.length s x t r) 31)).alloc (.cells Xw 34));have Q:Below w.heap.size w W:=by rw[E];exact((Zy).alloc Yu _).alloc Yt _
 have Y:W.heap.size=w.heap.size+3:=by rw[E];simp
 have x2:Aa W (w.heap.size+2) Df:=by have H:=Aa.new ((w.alloc (.cells #[Zg o,Zg now,Zg f,Zg d,Yz b i.length q,P,L] 27)).alloc (.cells (Ye 0 A y.length D l k.length s x t r) 31)) Df 34;rw[E];simpa [Df]using H
 have x1:Aa W (w.heap.size+1) (Xv 0 A y.length D l k.length s x t r):=by have H:=Aa.new (w.alloc (.cells #[Zg o,Zg now,Zg f,Zg d,Yz b i.length q,P,L] 27)) (Xv 0 A y.length D l k.length s x t r) 31;rw[World.size_alloc]at H;rw[E];exact Aa.below H (Zy)
 have x0:Aa W w.heap.size [Zg o,Zg now,Zg f,Zg d,Yz b i.length q,P,L]:=by have H:=Aa.new w [Zg o,Zg now,Zg f,Zg d,Yz b i.length q,P,L] 27;rw[E];exact Aa.below (Aa.below H (Zy)) (Zy)
 have HW:=Yw E;have zM:Hid (W.heap.size=w.heap.size+3):=Y;have zK:w.heap.size+3<=W.heap.size:=Yv
 clear E Y;obtain⟨j,I⟩:=Af (((W.setCell (Zd (w.heap.size+1) 0) (Zg 1)).setCell (Zd (w.heap.size+1) 3) (Zg d)).setCell (Zd (w.heap.size+1) 4) (Zg (d+1)));have C:Tn [w.heap.size+1] W j:=by rw[I];exact((AS _ _ _ _).trans (AS _ _ _ _)).trans (AS _ _ _ _)
 have zP:W.heap.size<=j.heap.size:=C.size;have h:Below w.heap.size w j:=Q.trans (C.below Q.size Yu);have u0:Aa j w.heap.size [Zg o,Zg now,Zg f,Zg d,Yz b i.length q,P,L]:=Aa.same x0 (C.block _ Yv Yu);have u2:Aa j (w.heap.size+2) Df:=Aa.same x2 (C.block _ Yv Yu)
 have u1:Aa j (w.heap.size+1) (Xv 1 A y.length D l k.length s d (d+1) r):=by rw[I];exact((x1.set 0 _).set 3 _).set 4 _
 have S:=Yw I;have G:=Yw (Za u0 (Za u1 u2));have F:=Yw (Za R (Za hp (Za hl hm)));obtain⟨⟨r0,f0⟩,⟨r1,f1⟩,⟨r2,f2⟩,⟨r3,f3⟩,⟨r4,f4⟩,⟨r5,f5⟩⟩:=r6 x1;obtain⟨s3,_⟩:=x0 3 _ rfl;subst hP hL;clear I u0 u1 u2 R hp hl hm x0 x1 x2 C Q;go_enter func104,ntmps104;go_upto_region 1 with fail;rw[<-HW.o];clear HW;go_upto_region 5 with fail;rw[<-S.o];clear S r0 r1 r2 r3 r4 r5 f0 f1 f2 f3 f4 f5 s3
 obtain⟨t0,t1,t2,t3,t4,t5,t6⟩:=EP (AP G.o.1);go_wp2_with fail;refine(KQ o now f d _ M K pc Z n m j (AM.mono (AM.below F.o.2.1 h) h.size) (AN.mono (AN.below F.o.2.2.1 h) h.size) zC zB).mono ?_;rintro e N ⟨g,c,rfl,V,u⟩;have k0:=EP (AP (Aa.below G.o.1 u));have k1:=r6 (Aa.below G.o.2.1 u);have k2:=Gs (Aa.below G.o.2.2 u);obtain⟨i0,i1,i2,i3,i4,i5,i6⟩:=k0
 obtain⟨⟨r0,f0⟩,⟨r1,f1⟩,⟨r2,f2⟩,⟨r3,f3⟩,⟨r4,f4⟩,⟨r5,f5⟩⟩:=k1;obtain⟨⟨y0,q0⟩,⟨y1,q1⟩,⟨y2,q2⟩,⟨y3,q3⟩,⟨y4,q4⟩,⟨y5,q5⟩,⟨y6,q6⟩,⟨y7,q7⟩,⟨y8,q8⟩,⟨y9,q9⟩,⟨zF,zS⟩,⟨zG,zT⟩,⟨zH,zU⟩,⟨zI,zV⟩,zJ,zW⟩:=k2;have T:Below w.heap.size w N:=h.trans (u.mono h.size);have zR:w.heap.size+3<=N.heap.size:=by have:=u.size;omega
 have J:Hid (Ah N (j.heap.size+1) (Yz g (Br n m).length c) (Br n m)):=Ah.own V;clear V t0 t1 t2 t3 t4 t5 t6 u;go_wp2;refine bodyPost_ret (v:=.agg #[Ze,Zg o,Zg now,Zg f,Zg d,Yz b i.length q,.slice M n.length pc,.slice K m.length Z,Zg 1,Yz g (Br n m).length c,.slice l k.length s,Zg d,Zg (d+1),Zg r,Zb]) (by simp[results,results104,go_sem,y0,y1,y2,y3,y4,y5,y6,y7,y8,y9,zF,zG,zH,zI,zJ]) rfl ?_
 have hT:=(AS N (w.heap.size+1) 1 (Yz g (Br n m).length c)).mono (V':=[w.heap.size+1,w.heap.size+2]) Yu;refine LU.from (X:=N) [w.heap.size+1,w.heap.size+2] ?_ (hT.trans ((FI _ (w.heap.size+2) _ _ _ _ _ _ _ _ _ _ _ _ _ _ _).mono Yu));intro wf O;have B:=T.trans (O.below T.size Yu);obtain⟨a,cc,e1,hS⟩:=(J.o.J O (fun g hg e=>by have:=(J.o.V hg).1;simp at e;omega)).row;cases e1
 exact⟨⟨⟨i.map (·.1),1,d,d+1,r,Br n m,k,[]⟩,b,q,i,_,_,none,_,_,0,rfl,.begin rfl,rfl,F.o.1.below B U,Zr U B.size,hS,F.o.2.2.2.L B,.inl rfl,⟨(fun p e=>by cases e;exact .inl rfl),CJ.own J.o Yv,(fun p e=> .inr (.inr (.inl ⟨p,e,rfl⟩))),CJ.no⟩,fun z R=>R,J.o.cap,zA,J.o.im.mono O.size,zE.mono B.size⟩,B⟩
theorem OZ(Q now d c:Int)(b F:Nat)(j:List (Kd×Value))(K:List Pd)(J:List Ld)(O M:Zk)(P N:Nat)(D u o L:Int)(xa G:Zk)(V cy:Nat)(s:Zi)(f ms:Zl)(w:Zh)(yU:D≠0)(hz:Bg w b 0 j)(zH:b<w.heap.size)(hq:Ab w w.heap.size xa (s::f))(hm:Ab w w.heap.size G ms)(xE:Ev G ms.length cy)(vF:Lt w G)(tC:f.length+1<=V)(tI:j.length<=600)(yM:∀z∈j,z.1.B.length<=30)(tG:f.length<=1048576)(tF:ms.length<=100000):
 Calls prog 104 #[.agg (Yg Q now d c (some ⟨b,0,none⟩) j.length F O K.length P M J.length N),.agg (Ye D xa (f.length+1) V G ms.length cy u o L)] w fun e w'=>LU w w' e Q now d c (.slice O K.length P) (.slice M J.length N) (j.map (·.1)) K J D u o L (s::f) ms b xa G j:=by
 have vY:(D==0)=false:=by simpa using yU
 obtain⟨x,E,rfl,xG,xF⟩:=hq.at (k:=0) (by simp);obtain⟨o1,vS,xZ⟩:∃o1,((if V=1 then some ⟨x,E,none⟩else some ⟨x,E+1,none⟩:Zk)=some ⟨x,o1,none⟩)/\∀i t,f[i]?=some t->w.cell? (Zd x (o1+i))=some (.string t):=by
  by_cases h1c:V=1
  .have:f=[]:=List.eq_nil_of_length_eq_zero (by omega);subst this;exact⟨E,if_pos h1c,fun i t h=>by simp at h⟩
  .refine⟨E+1,if_neg h1c,fun i t h=> ?_⟩;have:=xF (i+1) t (by simpa using h);rw[show E+(i+1)=E+1+i by omega]at this;exact this
 obtain⟨W,hW⟩:=Af (((w.alloc (.cells (Yg Q now d c (some ⟨b,0,none⟩) j.length F O K.length P M J.length N) 27)).alloc (.cells (Ye D (some ⟨x,E,none⟩) (f.length+1) V G ms.length cy u o L) 31)).alloc (.cells Xw 34));have zG:Below w.heap.size w W:=by rw[hW];exact((Zy).alloc (by simp) _).alloc (by simp;omega) _
 have vH:W.heap.size=w.heap.size+3:=by rw[hW];simp
 have x2:Aa W (w.heap.size+2) Df:=by have h1:=Aa.new ((w.alloc (.cells (Yg Q now d c (some ⟨b,0,none⟩) j.length F O K.length P M J.length N) 27)).alloc (.cells (Ye D (some ⟨x,E,none⟩) (f.length+1) V G ms.length cy u o L) 31)) Df 34;rw[hW];simpa [Df]using h1
 have x1:Aa W (w.heap.size+1) (Xv D (some ⟨x,E,none⟩) (f.length+1) V G ms.length cy u o L):=by have h1:=Aa.new (w.alloc (.cells (Yg Q now d c (some ⟨b,0,none⟩) j.length F O K.length P M J.length N) 27)) (Xv D (some ⟨x,E,none⟩) (f.length+1) V G ms.length cy u o L) 31;rw[World.size_alloc]at h1;rw[hW];exact Aa.below h1 (Zy)
 have x0:Aa W w.heap.size (Yh Q now d c (some ⟨b,0,none⟩) j.length F O K.length P M J.length N):=by have h1:=Aa.new w (Yh Q now d c (some ⟨b,0,none⟩) j.length F O K.length P M J.length N) 27;rw[hW];exact Aa.below (Aa.below h1 (Zy)) (Zy)
 have HW:=Yw hW;have vZ:Hid (W.heap.size=w.heap.size+3):=vH;have yA:w.heap.size+3<=W.heap.size:=by omega
 clear hW vH;have U:Hid (∀X,Below (w.heap.size+3) W X->Aa X w.heap.size (Yh Q now d c (some ⟨b,0,none⟩) j.length F O K.length P M J.length N)/\Aa X (w.heap.size+1) (Xv D (some ⟨x,E,none⟩) (f.length+1) V G ms.length cy u o L)/\Aa X (w.heap.size+2) Df):=fun X hX=>⟨Aa.same x0 (hX.block _ (by omega)),Aa.same x1 (hX.block _ (by omega)),Aa.same x2 (hX.block _ (by omega))⟩
 have c0:W.cell? (Zd x E)=some (.string s):=(zG.cell (p:=⟨x,E,none⟩) xG).trans (by simpa using xF 0 s rfl);obtain⟨xn,H,w1,vA,xV,yE⟩:=Sn W (some ⟨x,o1,none⟩) (V -1) f (.inr ⟨x,o1,rfl,Zr xG zG.size,fun i t h=>(zG.cell (p:=⟨x,o1+i,none⟩) xG).trans (xZ i t h)⟩) (fun e=>by cases e) (by omega) 29
 have rA:(W.alloc (.cells #[] 9)).cell? (Zd (w.heap.size+1) 1)=some (.slice (some ⟨x,E,none⟩) (f.length+1) V):=((Aa.below x1 (Zy)) 1 _ rfl).1;have zP:=Ck Q now d c (some ⟨b,0,none⟩) F (.slice O K.length P) (.slice M J.length N) (j.map (·.1)) s w1 w.heap.size (AQ.below (hz.cu zH) (zG.trans (yE.mono zG.size))) (Zm zG.size yE.size) (by rw[List.length_map];omega);rw[List.length_map]at zP
 have HF:=Yw zP;have T:=Yw (Za hz (Za hq hm));have yC:Hid (Below (w.heap.size+3) W w1):=yE.mono yA;have vM:Hid (Zz w W):=zG;have n:Hid (Ah w1 (w.heap.size+3) (Yz xn f.length H) f):=xV.mono yA;have yH:Hid (∀z∈j,z.1.B.length<=30):=yM;have xH:w.heap.size+3<=w1.heap.size:=Zm yA yE.size;have yR:Below (w.heap.size+3) W W:=Below.refl _ _;obtain⟨i0,i1,i2,i3,i4,i5,i6⟩:=EP (AP (U.o _ yR).1)
 obtain⟨⟨r0,f0⟩,⟨r1,f1⟩,⟨r2,f2⟩,⟨r3,f3⟩,⟨r4,f4⟩,⟨r5,f5⟩⟩:=r6 (U.o _ yR).2.1;obtain⟨⟨u0,j0⟩,⟨u1,j1⟩,⟨u2,j2⟩,⟨u3,j3⟩,⟨u4,j4⟩,⟨u5,j5⟩,⟨u6,j6⟩,⟨u7,j7⟩,⟨u8,j8⟩,⟨u9,j9⟩,⟨Z,zS⟩,⟨zA,zT⟩,⟨zB,zU⟩,⟨zC,zV⟩,zE,zW⟩:=Gs (U.o _ yR).2.2;clear hz hq hm x0 x1 x2 zG xV yE xF xZ yM zP;go_enter func104,ntmps104;go_upto_region 1 with fail;rw[<-HW.o];clear HW
 go_upto_region 10 with(at_builtin;refine wpList_append_run rfl _ _ 29 29 rfl rfl rfl vA ?_);clear i0 i1 i2 i3 i4 i5 i6 r0 r1 r2 r3 r4 r5 f0 f1 f2 f3 f4 f5 u0 j0 u1 j1 u2 j2 u3 j3 u4 j4 u5 j5 u6 j6 u7 j7 u8 j8 u9 j9 Z zS zA zT zB zU zC zV zE zW vA yR c0 vS rA;obtain⟨i0,i1,i2,i3,i4,i5,i6⟩:=EP (AP (U.o _ yC.o).1);obtain⟨⟨r0,f0⟩,⟨r1,f1⟩,⟨r2,f2⟩,⟨r3,f3⟩,⟨r4,f4⟩,⟨r5,f5⟩⟩:=r6 (U.o _ yC.o).2.1
 obtain⟨⟨u0,j0⟩,⟨u1,j1⟩,⟨u2,j2⟩,⟨u3,j3⟩,⟨u4,j4⟩,⟨u5,j5⟩,⟨u6,j6⟩,⟨u7,j7⟩,⟨u8,j8⟩,⟨u9,j9⟩,⟨Z,zS⟩,⟨zA,zT⟩,⟨zB,zU⟩,⟨zC,zV⟩,zE,zW⟩:=Gs (U.o _ yC.o).2.2;go_wp2_with fail;refine HF.Am ?_;rintro e C ⟨rfl,yS⟩;have zK:Hid (Below (w.heap.size+3) W C):=yC.o.trans (yS.mono xH);have xP:Hid (Ah C (w.heap.size+3) (Yz xn f.length H) f):=n.o.below yS;have xI:w.heap.size+3<=C.heap.size:=Zm xH yS.size
 have S:Hid (Zz w C):=vM.o.trans (zK.o.mono (by omega));clear i0 i1 i2 i3 i4 i5 i6 r0 r1 r2 r3 r4 r5 f0 f1 f2 f3 f4 f5 u0 j0 u1 j1 u2 j2 u3 j3 u4 j4 u5 j5 u6 j6 u7 j7 u8 j8 u9 j9 Z zS zA zT zB zU zC zV zE zW n yC yS HF xH;have n:=Yw xP.o;clear xP;obtain⟨i0,i1,i2,i3,i4,i5,i6⟩:=EP (AP (U.o _ zK.o).1);obtain⟨⟨r0,f0⟩,⟨r1,f1⟩,⟨r2,f2⟩,⟨r3,f3⟩,⟨r4,f4⟩,⟨r5,f5⟩⟩:=r6 (U.o _ zK.o).2.1
 obtain⟨⟨u0,j0⟩,⟨u1,j1⟩,⟨u2,j2⟩,⟨u3,j3⟩,⟨u4,j4⟩,⟨u5,j5⟩,⟨u6,j6⟩,⟨u7,j7⟩,⟨u8,j8⟩,⟨u9,j9⟩,⟨Z,zS⟩,⟨zA,zT⟩,⟨zB,zU⟩,⟨zC,zV⟩,zE,zW⟩:=Gs (U.o _ zK.o).2.2;rcases BM (j.map (·.1)) s with⟨yG,xY⟩|⟨fi,fu,yG,xW,zP⟩
 .rw[yG];have HN:Hid (¬Ay (j.map (·.1)) s):=xY;clear xY yG;go_wp2;refine bodyPost_ret (v:=.agg #[Ze,Zg Q,Zg now,Zg d,Zg c,Yz b j.length F,.slice O K.length P,.slice M J.length N,Zg D,Yz xn f.length H,.slice G ms.length cy,Zg u,Zg o,Zg L,Zb]) (by simp[results,results104,go_sem,u0,u1,u2,u3,u4,u5,u6,u7,u8,u9,Z,zA,zB,zC,zE]) rfl ?_
  have hT:=(AS C (w.heap.size+1) 1 (Yz xn f.length H)).mono (V':=[w.heap.size+1,w.heap.size+2]) (by simp);refine LU.from (X:=C) [w.heap.size+1,w.heap.size+2] ?_ (hT.trans ((FI _ (w.heap.size+2) _ _ _ _ _ _ _ _ _ _ _ _ _ _ _).mono (by simp)));intro wf A;have r:=S.o.trans (A.below S.o.size (by simp));obtain⟨a,cc,e1,hS⟩:=(n.o.J A (fun g m e=>by have:=(n.o.V m).1;simp at e;omega)).row;cases e1
  have yD:=Ab.L T.o.2.2 r;exact⟨⟨⟨j.map (·.1),D,u,o,L,f,ms,[]⟩,b,F,j,_,_,none,_,_,0,rfl,.mark yU s f _ _ rfl (.inl ⟨.inl HN.o,rfl,rfl⟩),rfl,T.o.1.below r zH,Zr zH r.size,hS,yD,.inl rfl,⟨(fun p e=>by cases e;exact .inl rfl),CJ.own n.o (by omega),(fun p e=> .inr (.inr (.inl ⟨p,e,rfl⟩))),CJ.no⟩,fun z hz=>hz,n.o.cap,xE,n.o.im.mono A.size,vF.mono r.size⟩,r⟩
 .rw[yG];have xL:decide ((fi:Int)<0)=false:=by simp
  have vR:decide ((0:Int)<=fi)=true:=by simp
  have yZ:Hid ((j.map (·.1))[fi]?=some fu/\fu.sum=s):=⟨xW,zP⟩;have HC:=Yw (Dq G cy ms s C C.heap.size (Ab.L T.o.2.2 S.o) (by omega));clear yG xW zP;go_wp2_with fail;refine HC.Am ?_;rintro e w9 ⟨rfl,vE⟩;rw[vE];clear vE HC w9;by_cases I:s∈ms
  .have R:ms.any (fun x=>decide (x=s))=true:=List.any_eq_true.2 ⟨s,I,by simp⟩;rw[R];clear R;go_wp2;refine bodyPost_ret (v:=.agg #[Ze,Zg Q,Zg now,Zg d,Zg c,Yz b j.length F,.slice O K.length P,.slice M J.length N,Zg D,Yz xn f.length H,.slice G ms.length cy,Zg u,Zg o,Zg L,Zb]) (by simp[results,results104,go_sem,u0,u1,u2,u3,u4,u5,u6,u7,u8,u9,Z,zA,zB,zC,zE]) rfl ?_
   have hT:=(AS C (w.heap.size+1) 1 (Yz xn f.length H)).mono (V':=[w.heap.size+1,w.heap.size+2]) (by simp);refine LU.from (X:=C) [w.heap.size+1,w.heap.size+2] ?_ (hT.trans ((FI _ (w.heap.size+2) _ _ _ _ _ _ _ _ _ _ _ _ _ _ _).mono (by simp)));intro wf A;have r:=S.o.trans (A.below S.o.size (by simp));obtain⟨a,cc,e1,hS⟩:=(n.o.J A (fun g m e=>by have:=(n.o.V m).1;simp at e;omega)).row;cases e1
   have yD:=Ab.L T.o.2.2 r;exact⟨⟨⟨j.map (·.1),D,u,o,L,f,ms,[]⟩,b,F,j,_,_,none,_,_,0,rfl,.mark yU s f _ _ rfl (.inl ⟨.inr I,rfl,rfl⟩),rfl,T.o.1.below r zH,Zr zH r.size,hS,yD,.inl rfl,⟨(fun p e=>by cases e;exact .inl rfl),CJ.own n.o (by omega),(fun p e=> .inr (.inr (.inl ⟨p,e,rfl⟩))),CJ.no⟩,fun z hz=>hz,n.o.cap,xE,n.o.im.mono A.size,vF.mono r.size⟩,r⟩
  .have R:ms.any (fun x=>decide (x=s))=false:=by simp;exact fun x hx e=>I (e▸hx)
   rw[R];have xK:Hid (s∉ms):=I;clear R I;obtain⟨y2,tB,w3,vC,xC,yF⟩:=Sn C G cy ms (Ab.L T.o.2.2 S.o) xE.2 (by omega) 29;have bA:Below w3.heap.size w3 (w3.alloc (.cells #[.string s] 9)):=Zy;obtain⟨M',w4,vD,yQ,xX,vT⟩:=Ek (w3.alloc (.cells #[.string s] 9)) C.heap.size _ ms (xC.below bA) ⟨w3.heap.size,0,none⟩ 1 s (by simp[go_sem]) (by omega) (by have:=yF.size;simp;omega) 29;obtain⟨y,l,xU,_⟩:=yQ.row
   rw[List.length_append,List.length_cons,List.length_nil,Nat.zero_add]at xU;subst xU;have zM:Below C.heap.size C w4:=(yF.trans (bA.mono yF.size)).grown xX (by have:=yF.size;simp;omega) (fun k hk=>((xC.below bA).V hk).1);have xB:Hid (Below (w.heap.size+3) W w4):=zK.o.trans (zM.mono xI);have xA:Hid (Ah w4 (w.heap.size+3) (Yz xn f.length H) f):=n.o.below zM
   have yL:∀g,Aj (Yz xn f.length H)=some g->g<C.heap.size:=fun g m=>(n.o.V m).2;have zZ:∀g,Aj (.slice y (ms.length+1) l)=some g->C.heap.size<=g:=fun g m=>(yQ.V m).1;obtain⟨X,hX⟩:=Af (w4.setCell (Zd (w.heap.size+1) 2) (.slice y (ms.length+1) l));have zN:Tn [w.heap.size+1] w4 X:=by rw[hX];exact AS _ _ _ _
   have yV:Hid (Ah X (w.heap.size+3) (Yz xn f.length H) f/\Ah X (w.heap.size+3) (.slice y (ms.length+1) l) (ms++[s])/\(∀g,Aj (Yz xn f.length H)=some g->Aj (.slice y (ms.length+1) l)≠some g)):=
    ⟨xA.o.J zN (fun g m e=>by have:=(xA.o.V m).1;simp at e;omega),(yQ.J zN (fun g m e=>by have:=zZ g m;simp at e;omega)).mono xI,fun g m yT=>by have:=yL g m;have:=zZ g yT;omega⟩
   have yB:Hid (∀Y,Below (w.heap.size+3) X Y->Aa Y w.heap.size (Yh Q now d c (some ⟨b,0,none⟩) j.length F O K.length P M J.length N)/\Aa Y (w.heap.size+1) (Xv D (some ⟨x,E,none⟩) (f.length+1) V y (ms.length+1) l u o L)/\Aa Y (w.heap.size+2) Df):=fun Y hY=>by
    have h4:=U.o _ xB.o;have tE:w.heap.size+3<=w4.heap.size:=Zm xI zM.size;have e0:Aa X w.heap.size (Yh Q now d c (some ⟨b,0,none⟩) j.length F O K.length P M J.length N):=Aa.same h4.1 (zN.block _ (by omega) (by simp));have e2:Aa X (w.heap.size+2) Df:=Aa.same h4.2.2 (zN.block _ (by omega) (by simp))
    have e1:Aa X (w.heap.size+1) (Xv D (some ⟨x,E,none⟩) (f.length+1) V y (ms.length+1) l u o L):=by rw[hX];exact h4.2.1.set 2 _
    exact⟨Aa.same e0 (hY.block _ (by omega)),Aa.same e1 (hY.block _ (by omega)),Aa.same e2 (hY.block _ (by omega))⟩
   have yY:Hid (Zz w X):=(S.o.trans (zM.mono S.o.size)).trans (zN.below (Zm S.o.size zM.size) (by simp));obtain⟨⟨n0,m0⟩,⟨n1,m1⟩,⟨n2,m2⟩,⟨n3,m3⟩,⟨n4,m4⟩,⟨n5,m5⟩⟩:=r6 (U.o _ xB.o).2.1;have xR:=Yw hX;have vI:w.heap.size+3<=X.heap.size:=by have:=zN.size;have:=zM.size;omega
   have rB:(C.alloc (.cells #[] 9)).cell? (Zd (w.heap.size+1) 2)=some (.slice G ms.length cy):=((Aa.below (U.o _ zK.o).2.1 (Zy)) 2 _ rfl).1;clear hX zN xA yL zZ zM bA xC yQ xX vT yF;go_upto_region 13 with(first
    |(at_builtin;refine wpList_append_run rfl _ _ 29 29 rfl rfl rfl vC ?_)
    |(at_builtin;refine wpList_append_run rfl _ _ 29 29 rfl rfl rfl vD ?_))
   clear rB vC vD i0 i1 i2 i3 i4 i5 i6 r0 r1 r2 r3 r4 r5 f0 f1 f2 f3 f4 f5 u0 j0 u1 j1 u2 j2 u3 j3 u4 j4 u5 j5 u6 j6 u7 j7 u8 j8 u9 j9 Z zS zA zT zB zU zC zV zE zW;rw[<-xR.o];clear xR n0 n1 n2 n3 n4 n5 m0 m1 m2 m3 m4 m5 xB U zK n S;obtain⟨z,zR,vJ⟩:∃z,j[fi]?=some z/\z.1=fu:=by have:=yZ.o.1;rw[List.getElem?_map]at this;obtain⟨z,h1,h2⟩:=Option.map_eq_some_iff.1 this;exact⟨z,h1,h2⟩
   have vX:fi<j.length:=(Zw zR).1;have tH:z.1.B.length<=30:=yH.o z (Zs zR);obtain⟨⟨_,_,_,vG⟩,ad,rc,xJ,vW⟩:=(T.o.1.below yY.o zH) fi z zR;rw[xJ,Nat.zero_add]at vG;have vO:Hid (∀Y,Below (w.heap.size+3) X Y->Ab Y Y.heap.size (some ad) z.1.B):=fun Y hY=>Ab.L (w:=w) (by
    obtain⟨_,tA,tJ,yN,xN⟩:=T.o.1 fi z zR;rw[xJ]at yN;cases yN;exact xN) (yY.o.trans (hY.mono (by omega)))
   have xQ:Hid (z.1∈j.map (·.1)/\z.1.sum=s):=⟨List.mem_map.2 ⟨z,Zs zR,rfl⟩,by rw[vJ];exact yZ.o.2⟩;have yJ:Below (w.heap.size+3) X X:=Below.refl _ _;obtain⟨i0,i1,i2,i3,i4,i5,i6⟩:=EP (AP (yB.o _ yJ).1);clear xJ vW zR vJ yZ yH vR xL
   have vN:Hid (∀Y v,Ah Y (w.heap.size+3) (.slice y (ms.length+1) l) (ms++[s])->Calls prog 27 #[.slice y (ms.length+1) l,.string v] Y fun e w'=>e=.returned (.bool ((ms++[s]).any (fun x=>decide (x=v))))/\w'=Y):=fun Y v hY=>by obtain⟨a2,c2,e2,vU⟩:=hY.row;rw[List.length_append,List.length_cons,List.length_nil,Nat.zero_add]at e2;cases e2;have:=Dq y l (ms++[s]) v Y Y.heap.size vU (by rw[List.length_append];simp;omega);rw[List.length_append,List.length_cons,List.length_nil,Nat.zero_add]at this;exact this
   go_wp2
   go_loopw [6,9] (fun v i wr=>∃(k:Nat) (Qk:Value),k<=z.1.B.length/\i=Zg k/\v=Qk/\Hid (Ah wr (w.heap.size+3) Qk (f++fresh (ms++[s]) (z.1.B.take k))/\Ah wr (w.heap.size+3) (.slice y (ms.length+1) l) (ms++[s])/\(∀g,Aj Qk=some g->Aj (.slice y (ms.length+1) l)≠some g)/\Below (w.heap.size+3) X wr)) (fun _ i _=>z.1.B.length -(intOf i).toNat)
   case atStart=>exact⟨0,_,Nat.zero_le _,rfl,rfl,by simpa [fresh]using yV.o.1,yV.o.2.1,yV.o.2.2,yJ⟩
   case round=>
    clear yV i0 i1 i2 i3 i4 i5 i6 vG;obtain⟨k,Qk,hk,rfl,hv,B⟩:=hrel;have vV:=hv.symm;subst vV;clear hv;by_cases hlt:k<z.1.B.length
    .obtain⟨rb,vL,ha,hb,hc⟩:=(vO.o _ B.o.2.2.2).at hlt;cases ha;have HG:Hid (z.1.B[k]?=some z.1.B[k]):=Zv hlt;have c0:=hc k _ HG.o;have xO:=Yw (Lc (ms:=ms++[s]) HG.o);have vQ:(f++fresh (ms++[s]) (z.1.B.take k)).length<=1048606:=by have:(fresh (ms++[s]) (z.1.B.take k)).length<=(z.1.B.take k).length:=List.length_filter_le _ _;simp at this |-;omega
     clear hc;generalize z.1.B[k]=v at *
     generalize hO:f++fresh (ms++[s]) (z.1.B.take k)=qk at *
     have HO:=Yw hO;clear hO;obtain⟨⟨_,_⟩,⟨_,_⟩,⟨r2,_⟩,_⟩:=r6 (yB.o _ B.o.2.2.2).2.1;have S0:wr.drew.cell? (Zd (w.heap.size+1) 2)=some (.slice y (ms.length+1) l)/\wr.drew.cell? (Zd rb (vL+k))=some (.string v):=⟨r2,c0⟩;have HD:Hid (Ah wr.drew (w.heap.size+3) (.slice y (ms.length+1) l) (ms++[s])):=B.o.2.1.below (Ad.drew);have tD:(k:Int)<z.1.B.length:=by omega
     obtain⟨bb,xD⟩:∃bb,(ms++[s]).any (fun x=>decide (x=v))=bb:=⟨_,rfl⟩;have zF:=vN.o wr.drew v HD.o;rw[xD]at zF;have zO:=Yw zF;have yO:Hid ((ms++[s]).any (fun x=>decide (x=v))=bb):=xD;clear r2 c0 xD zF;go_upto_region 17 with fail;go_region_held3 (fun Y=>Y.cell? (Zd (w.heap.size+1) 2)=some (.slice y (ms.length+1) l)/\Y.cell? (Zd rb (vL+k))=some (.string v))
      (first|with_reducible exact S0)
      (first
        |(go_at_call 27;refine zO.Am ?_;rintro e zI ⟨rfl,xM⟩;subst xM))
     have bD:Below wr.heap.size wr wr.drew:=Ad.drew;have zY:Hid (Ah wr.drew (w.heap.size+3) Qk qk):=B.o.1.below bD;have zX:Hid (Below (w.heap.size+3) X wr.drew):=B.o.2.2.2.drew;have yX:=Yw B.o.2.2.1;have vK:w.heap.size+3<=wr.drew.heap.size:=Zm vI zX.o.size;obtain⟨_,c0⟩:=S0;clear B bD zO;generalize wr.drew=zI at *
     cases bb with
     |true=>
      have I:v∈ms++[s]:=by obtain⟨x,hx,e⟩:=List.any_eq_true.1 yO.o;simp at e;exact e▸hx
      have HE:Hid (f++fresh (ms++[s]) (z.1.B.take (k+1))=qk):=by show _=_;rw[xO.o.1 I];exact HO.o
      clear yO I c0;go_wp2;exact⟨⟨k+1,Qk,by omega,by go_num,rfl,⟨by rw[HE.o];exact zY.o,HD.o,yX.o,zX.o⟩⟩,by simp[intOf];omega⟩
     |false=>
      have I:¬v∈ms++[s]:=fun e=>by have:=List.any_eq_false.1 yO.o v e;simp at this
      have HE:Hid (f++fresh (ms++[s]) (z.1.B.take (k+1))=qk++[v]):=by show _=_;rw[xO.o.2 I,<-List.append_assoc,HO.o]
      have bA:Below zI.heap.size zI (zI.alloc (.cells #[.string v] 9)):=Zy;obtain⟨Q',yW,hr,yI,zJ,yK⟩:=Ek (zI.alloc (.cells #[.string v] 9)) (w.heap.size+3) Qk qk (zY.o.below bA) ⟨zI.heap.size,0,none⟩ 1 v (by simp[go_sem]) (by omega) (by simp;omega) 29;have xS:Below (w.heap.size+3) zI yW:=(bA.mono vK).grown zJ (by simp;omega) (fun q e=>(zY.o.V e).1)
      have xT:∀g,Aj (.slice y (ms.length+1) l)=some g->g<zI.heap.size:=fun g m=>(HD.o.V m).2;have yP:Hid (Ah yW (w.heap.size+3) Q' (qk++[v])/\Ah yW (w.heap.size+3) (.slice y (ms.length+1) l) (ms++[s])/\(∀g,Aj Q'=some g->Aj (.slice y (ms.length+1) l)≠some g)/\Below (w.heap.size+3) X yW):=by
       refine⟨yI,(HD.o.below bA).stays zJ.size (fun g m=>zJ.block g (by have:=xT g m;simp;omega) (fun e=>yX.o g e.symm m)),fun g m yT=> ?_,zX.o.trans xS⟩;rcases yK with e|e
       .exact yX.o g (e▸m) yT
       .rw[e]at m;cases m;have:=xT _ yT;simp only[World.size_alloc]at this;omega
      clear yO I yI zJ yK xS bA;go_wp2_with (at_builtin;refine wpList_append_run rfl _ _ 29 29 rfl rfl rfl hr ?_);clear hr;go_wp2;exact⟨⟨k+1,Q',by omega,by go_num,rfl,⟨by rw[HE.o];exact yP.o.1,yP.o.2.1,yP.o.2.2.1,yP.o.2.2.2⟩⟩,by simp[intOf];omega⟩
    .obtain rfl:k=z.1.B.length:=by omega
     have hE:=B.o.1;rw[Zt (Zx)]at hE;have HE:=Yw hE;obtain⟨qa,qc,vP,_⟩:=hE.row;have vQ:(f++fresh (ms++[s]) z.1.B).length<=1048606:=by have:(fresh (ms++[s]) z.1.B).length<=z.1.B.length:=List.length_filter_le _ _;simp at this |-;omega
     subst vP;have S:Hid (Zz w wr):=yY.o.trans (B.o.2.2.2.mono (by omega));obtain⟨i0,i1,i2,i3,i4,i5,i6⟩:=EP (AP (yB.o _ B.o.2.2.2).1);obtain⟨⟨r0,f0⟩,⟨r1,f1⟩,⟨r2,f2⟩,⟨r3,f3⟩,⟨r4,f4⟩,⟨r5,f5⟩⟩:=r6 (yB.o _ B.o.2.2.2).2.1;obtain⟨⟨u0,j0⟩,⟨u1,j1⟩,⟨u2,j2⟩,⟨u3,j3⟩,⟨u4,j4⟩,⟨u5,j5⟩,⟨u6,j6⟩,⟨u7,j7⟩,⟨u8,j8⟩,⟨u9,j9⟩,⟨Z,zS⟩,⟨zA,zT⟩,⟨zB,zU⟩,⟨zC,zV⟩,zE,zW⟩:=Gs (yB.o _ B.o.2.2.2).2.2
     have vK:w.heap.size+3<=wr.heap.size:=Zm vI B.o.2.2.2.size;generalize hqq:f++fresh (ms++[s]) z.1.B=qq at *
     clear hE;go_wp2;refine bodyPost_ret (v:=.agg #[Ze,Zg Q,Zg now,Zg d,Zg c,Yz b j.length F,.slice O K.length P,.slice M J.length N,Zg D,.slice qa qq.length qc,.slice y (ms.length+1) l,Zg u,Zg o,Zg L,Zb]) (by simp[results,results104,go_sem,u0,u1,u2,u3,u4,u5,u6,u7,u8,u9,Z,zA,zB,zC,zE]) rfl ?_
     have hT:=(AS wr (w.heap.size+1) 1 (.slice qa qq.length qc)).mono (V':=[w.heap.size+1,w.heap.size+2]) (by simp);refine LU.from (X:=wr) [w.heap.size+1,w.heap.size+2] ?_ (hT.trans ((FI _ (w.heap.size+2) _ _ _ _ _ _ _ _ _ _ _ _ _ _ _).mono (by simp)));intro wf A;have r:=S.o.trans (A.below S.o.size (by simp));obtain⟨a,cc,e1,hS⟩:=(HE.o.J A (fun g m e=>by have:=(HE.o.V m).1;simp at e;omega)).row
     cases e1;obtain⟨ma,mc,e2,yD⟩:=(B.o.2.1.J A (fun g m e=>by have:=(B.o.2.1.V m).1;simp at e;omega)).row;rw[List.length_append,List.length_cons,List.length_nil,Nat.zero_add]at e2;cases e2
     exact⟨⟨⟨j.map (·.1),D,u,o,L,qq,(ms++[s]),[]⟩,b,F,j,_,_,none,qc,l,0,(by simp),.mark yU s f _ _ rfl (.inr ⟨z.1,xQ.o.1,xQ.o.2,xK.o,rfl,hqq.symm⟩),rfl,T.o.1.below r zH,Zr zH r.size,hS,yD,.inl rfl,⟨(fun p e=>by cases e;exact .inl rfl),CJ.own HE.o (by omega),CJ.own B.o.2.1 (by omega),CJ.no⟩,fun z hz=>hz,HE.o.cap,B.o.2.1.cap,HE.o.im.mono A.size,B.o.2.1.im.mono A.size⟩,r⟩
theorem JN{c:Zh}{d:List (Kd×Value)}(h:Bg w b off d)(a:c.heap[b]?=w.heap[b]?)(m:∀z∈d,∃e n,z.2=.slice (some e) z.1.B.length n/\Ab c c.heap.size (some e) z.1.B):Bg c b off d:=by intro i z f;obtain⟨⟨g,j,k,l⟩,_⟩:=h i z f;exact⟨⟨(World.cell?_of_block a).trans g,(World.cell?_of_block a).trans j,(World.cell?_of_block a).trans k,(World.cell?_of_block a).trans l⟩,m z (Zs f)⟩
theorem NU(F now d a:Int)(b G:Nat)(f:List (Kd×Value))(t:List Pd)(o:List Ld)(B A:Zk)(E D:Nat)(ph u K C:Int)(I H:Zk)(R Q:Nat)(q:Zl)(w:Zh)(zW:ph≠0)(hz:Bg w b 0 f)(V:b<w.heap.size)(yG:Ev I 0 R)(yH:Lt w I)(hp:AM w w.heap.size B t)(hl:AN w w.heap.size A o)(hm:Ab w w.heap.size H q)(yF:Ev H q.length Q)(yI:Lt w H)(xK:f.length<=600)(xH:t.length<=100)(xG:o.length<=200)(zX:∀z∈f,z.1.B.length<=30)(xT:q.length<=100000)(xN:0<=C)(xO:C<=1000000000):
 Calls prog 104 #[.agg (Yg F now d a (some ⟨b,0,none⟩) f.length G B t.length E A o.length D),.agg (Ye ph I 0 R H q.length Q u K C)] w fun e w'=>LU w w' e F now d a (.slice B t.length E) (.slice A o.length D) (f.map (·.1)) t o ph u K C [] q b I H f:=by
 have xM:(ph==0)=false:=by simpa using zW
 obtain⟨W,hW⟩:=Af (((w.alloc (.cells (Yg F now d a (some ⟨b,0,none⟩) f.length G B t.length E A o.length D) 27)).alloc (.cells (Ye ph I 0 R H q.length Q u K C) 31)).alloc (.cells Xw 34));have yE:Below w.heap.size w W:=by rw[hW];exact((Zy).alloc (by simp) _).alloc (by simp;omega) _
 have yY:W.heap.size=w.heap.size+3:=by rw[hW];simp
 have x2:Aa W (w.heap.size+2) Df:=by have h1:=Aa.new ((w.alloc (.cells (Yg F now d a (some ⟨b,0,none⟩) f.length G B t.length E A o.length D) 27)).alloc (.cells (Ye ph I 0 R H q.length Q u K C) 31)) Df 34;rw[hW];simpa [Df]using h1
 have x1:Aa W (w.heap.size+1) (Xv ph I 0 R H q.length Q u K C):=by have h1:=Aa.new (w.alloc (.cells (Yg F now d a (some ⟨b,0,none⟩) f.length G B t.length E A o.length D) 27)) (Xv ph I 0 R H q.length Q u K C) 31;rw[World.size_alloc]at h1;rw[hW];exact Aa.below h1 (Zy)
 have x0:Aa W w.heap.size (Yh F now d a (some ⟨b,0,none⟩) f.length G B t.length E A o.length D):=by have h1:=Aa.new w (Yh F now d a (some ⟨b,0,none⟩) f.length G B t.length E A o.length D) 27;rw[hW];exact Aa.below (Aa.below h1 (Zy)) (Zy)
 have HW:=Yw hW;have xQ:Hid (W.heap.size=w.heap.size+3):=yY;have xP:w.heap.size+3<=W.heap.size:=by omega
 clear hW yY;obtain⟨W1,zY⟩:=Af (W.setCell (Zd (w.heap.size+1) 0) (Zg 2));have zU:Tn [w.heap.size+1] W W1:=by rw[zY];exact AS _ _ _ _
 have xU:W.heap.size<=W1.heap.size:=zU.size;have zV:Below w.heap.size w W1:=yE.trans (zU.below yE.size (by simp))
 have H1:Hid (Aa W1 w.heap.size (Yh F now d a (some ⟨b,0,none⟩) f.length G B t.length E A o.length D)/\Aa W1 (w.heap.size+1) (Xv 2 I 0 R H q.length Q u K C)/\Aa W1 (w.heap.size+2) Df):=⟨Aa.same x0 (zU.block _ (by omega) (by simp)),(by rw[zY];exact x1.set 0 _),Aa.same x2 (zU.block _ (by omega) (by simp))⟩;have yN:=Yw zY;have J:=Yw (Za hz (Za hp (Za hl (Za zX hm))))
 have yC:Hid (Ab w w.heap.size I []):=.inl rfl;have HN:=Qy F now d a K (some ⟨b,0,none⟩) G (.slice B t.length E) (.slice A o.length D) (f.map (·.1)) W1 (AQ.mono (AQ.below (hz.cu V) zV) zV.size) (by rw[List.length_map];omega);rw[List.length_map]at HN;have yZ:=Yw HN
 have H0:(Aa W w.heap.size (Yh F now d a (some ⟨b,0,none⟩) f.length G B t.length E A o.length D)/\Aa W (w.heap.size+1) (Xv ph I 0 R H q.length Q u K C)/\Aa W (w.heap.size+2) Df):=⟨x0,x1,x2⟩;obtain⟨i0,i1,i2,i3,i4,i5,i6⟩:=EP (AP H0.1);obtain⟨⟨r0,f0⟩,⟨r1,f1⟩,⟨r2,f2⟩,⟨r3,f3⟩,⟨r4,f4⟩,⟨r5,f5⟩⟩:=r6 H0.2.1
 obtain⟨⟨y0,q0⟩,⟨y1,q1⟩,⟨y2,q2⟩,⟨y3,q3⟩,⟨y4,q4⟩,⟨y5,q5⟩,⟨y6,q6⟩,⟨y7,q7⟩,⟨y8,q8⟩,⟨y9,q9⟩,⟨L,zE⟩,⟨M,zF⟩,⟨N,zG⟩,⟨O,zH⟩,P,zI⟩:=Gs H0.2.2;clear zY hz hp hl hm x0 x1 x2 zU yE zX HN H0;go_enter func104,ntmps104;go_upto_region 1 with fail;rw[<-HW.o];clear HW;go_upto_region 22 with fail;rw[<-yN.o]
 clear yN i0 i1 i2 i3 i4 i5 i6 r0 r1 r2 r3 r4 r5 f0 f1 f2 f3 f4 f5 y0 q0 y1 q1 y2 q2 y3 q3 y4 q4 y5 q5 y6 q6 y7 q7 y8 q8 y9 q9 L zE M zF N zG O zH P zI;obtain⟨i0,i1,i2,i3,i4,i5,i6⟩:=EP (AP H1.o.1);obtain⟨⟨r0,f0⟩,⟨r1,f1⟩,⟨r2,f2⟩,⟨r3,f3⟩,⟨r4,f4⟩,⟨r5,f5⟩⟩:=r6 H1.o.2.1;obtain⟨⟨y0,q0⟩,⟨y1,q1⟩,⟨y2,q2⟩,⟨y3,q3⟩,⟨y4,q4⟩,⟨y5,q5⟩,⟨y6,q6⟩,⟨y7,q7⟩,⟨y8,q8⟩,⟨y9,q9⟩,⟨L,zE⟩,⟨M,zF⟩,⟨N,zG⟩,⟨O,zH⟩,P,zI⟩:=Gs H1.o.2.2
 go_wp2_with fail;refine yZ.Am ?_;rintro e w2 ⟨r,rfl,yV,zP⟩;have H2:=Yw (Za (Aa.below H1.o.1 zP) (Za (Aa.below H1.o.2.1 zP) (Aa.below H1.o.2.2 zP)));have zK:Hid (Zz w w2):=zV.trans (zP.mono zV.size);have xV:w.heap.size+3<=w2.heap.size:=by have:=zP.size;omega
 have yB:Hid (CH (f.map (·.1)) K r):=yV;clear i0 i1 i2 i3 i4 i5 i6 r0 r1 r2 r3 r4 r5 f0 f1 f2 f3 f4 f5 y0 q0 y1 q1 y2 q2 y3 q3 y4 q4 y5 q5 y6 q6 y7 q7 y8 q8 y9 q9 L zE M zF N zG O zH P zI H1 zP yV zV;obtain⟨i0,i1,i2,i3,i4,i5,i6⟩:=EP (AP H2.o.1);obtain⟨⟨r0,f0⟩,⟨r1,f1⟩,⟨r2,f2⟩,⟨r3,f3⟩,⟨r4,f4⟩,⟨r5,f5⟩⟩:=r6 H2.o.2.1
 obtain⟨⟨y0,q0⟩,⟨y1,q1⟩,⟨y2,q2⟩,⟨y3,q3⟩,⟨y4,q4⟩,⟨y5,q5⟩,⟨y6,q6⟩,⟨y7,q7⟩,⟨y8,q8⟩,⟨y9,q9⟩,⟨L,zE⟩,⟨M,zF⟩,⟨N,zG⟩,⟨O,zH⟩,P,zI⟩:=Gs H2.o.2.2;rcases yB.o with⟨rfl,yU⟩|⟨i,k,rfl,yA,yS,yT⟩
 .have xA:Hid (∀y∈f.map (·.1),¬y.born<K):=yU;clear yU yB;go_wp2;refine bodyPost_ret (v:=.agg #[Ze,Zg F,Zg now,Zg d,Zg a,Yz b f.length G,.slice B t.length E,.slice A o.length D,Ze,Zb,Zb,Ze,Ze,Zg (C+1),Zb]) (by simp[results,results104,go_sem,y0,y1,y2,y3,y4,y5,y6,y7,y8,y9,L,M,N,O,P]) rfl ?_;refine LU.from (X:=w2) [w.heap.size+2] ?_ (FI w2 (w.heap.size+2) _ _ _ _ _ _ _ _ _ _ _ _ _ _ _);intro wf S
  have l:=zK.o.trans (S.below zK.o.size (by simp));exact⟨⟨⟨f.map (·.1),0,0,0,C+1,[],[],[]⟩,b,G,f,_,_,none,_,_,0,rfl,.rest zW rfl (fun y hy=>Int.not_lt.2 (xA.o y hy)),rfl,J.o.1.below l V,Zr V l.size,.inl rfl,.inl rfl,.inl rfl,⟨(fun p e=>by cases e;exact .inl rfl),CJ.no,CJ.no,CJ.no⟩,fun z hz=>hz,⟨Zx,fun _=>⟨rfl,rfl⟩⟩,⟨Zx,fun _=>⟨rfl,rfl⟩⟩,Lt.no,Lt.no⟩,l⟩
 .obtain⟨z,yJ,xJ⟩:∃z,f[i]?=some z/\z.1=k:=by rw[List.getElem?_map]at yA;obtain⟨z,h1,h2⟩:=Option.map_eq_some_iff.1 yA;exact⟨z,h1,h2⟩
  subst xJ;have HY:Hid (Ey (f.map (·.1)) K z.1):=⟨Zs yA,yS,yT⟩;have xS:i<f.length:=(Zw yJ).1;have xL:¬((i:Int)<0):=by omega
  obtain⟨⟨d0,d1,_,_⟩,_⟩:=(J.o.1.below zK.o V) i z yJ;rw[Nat.zero_add]at d0 d1;obtain⟨T,zZ⟩:=Af (w2.setCell (Zd (w.heap.size+1) 4) (Zg z.1.born));have zN:Tn [w.heap.size+1] w2 T:=by rw[zZ];exact AS _ _ _ _
  have yD:Below w.heap.size w T:=zK.o.trans (zN.below zK.o.size (by simp));have H3:Hid (Aa T w.heap.size (Yh F now d a (some ⟨b,0,none⟩) f.length G B t.length E A o.length D)/\Aa T (w.heap.size+1) (Xv 2 I 0 R H q.length Q u z.1.born C)/\Aa T (w.heap.size+2) Df):=⟨Aa.same H2.o.1 (zN.block _ (by omega) (by simp)),(by rw[zZ];exact H2.o.2.1.set 4 _),Aa.same H2.o.2.2 (zN.block _ (by omega) (by simp))⟩
  have e0:T.cell? (Zd b (i *4))=some (.string z.1.sum):=(World.cell?_of_block (zN.block b (by have:=zK.o.size;omega) (by simp;omega))).trans d0;have yO:=Yw zZ;have yX:w.heap.size+3<=T.heap.size:=by have:=zN.size;omega
  clear zZ zN yA yS yT yB yJ;go_upto_region 26 with fail;rw[<-yO.o];clear yO d0 d1 i0 i1 i2 i3 i4 i5 i6 r0 r1 r2 r3 r4 r5 f0 f1 f2 f3 f4 f5 y0 q0 y1 q1 y2 q2 y3 q3 y4 q4 y5 q5 y6 q6 y7 q7 y8 q8 y9 q9 L zE M zF N zG O zH P zI;obtain⟨i0,i1,i2,i3,i4,i5,i6⟩:=EP (AP H3.o.1);obtain⟨⟨r0,f0⟩,⟨r1,f1⟩,⟨r2,f2⟩,⟨r3,f3⟩,⟨r4,f4⟩,⟨r5,f5⟩⟩:=r6 H3.o.2.1
  obtain⟨⟨y0,q0⟩,⟨y1,q1⟩,⟨y2,q2⟩,⟨y3,q3⟩,⟨y4,q4⟩,⟨y5,q5⟩,⟨y6,q6⟩,⟨y7,q7⟩,⟨y8,q8⟩,⟨y9,q9⟩,⟨L,zE⟩,⟨M,zF⟩,⟨N,zG⟩,⟨O,zH⟩,P,zI⟩:=Gs H3.o.2.2;have HC:=Yw (Dq H Q q z.1.sum T T.heap.size (Ab.L J.o.2.2.2.2 yD) (by omega));have U:Hid (Zz w T):=yD;go_wp2_with fail;refine HC.Am ?_;rintro e w9 ⟨rfl,yW⟩;rw[yW];clear yW HC w9 yD e0;by_cases hin:z.1.sum∈q
  .have zA:q.any (fun x=>decide (x=z.1.sum))=true:=List.any_eq_true.2 ⟨z.1.sum,hin,by simp⟩;rw[zA];clear zA;go_wp2;refine bodyPost_ret (v:=.agg #[Ze,Zg F,Zg now,Zg d,Zg a,Yz b f.length G,.slice B t.length E,.slice A o.length D,Zg 2,.slice I 0 R,.slice H q.length Q,Zg u,Zg z.1.born,Zg C,Zb]) (by simp[results,results104,go_sem,y0,y1,y2,y3,y4,y5,y6,y7,y8,y9,L,M,N,O,P]) rfl ?_
   refine LU.from (X:=T) [w.heap.size+2] ?_ (FI T (w.heap.size+2) _ _ _ _ _ _ _ _ _ _ _ _ _ _ _);intro wf S;have l:=U.o.trans (S.below U.o.size (by simp))
   exact⟨⟨⟨f.map (·.1),2,u,z.1.born,C,[],q,[]⟩,b,G,f,_,_,none,_,_,0,rfl,.ah zW rfl z.1 HY.o (.inl hin),rfl,J.o.1.below l V,Zr V l.size,yC.o.L l,J.o.2.2.2.2.L l,.inl rfl,⟨(fun p e=>by cases e;exact .inl rfl),(fun p e=> .inr (.inl ⟨p,e,rfl⟩)),(fun p e=> .inr (.inr (.inl ⟨p,e,rfl⟩))),CJ.no⟩,fun z hz=>hz,yG,yF,yH.mono l.size,yI.mono l.size⟩,l⟩
  .have zA:q.any (fun x=>decide (x=z.1.sum))=false:=by simp;exact fun x hx e=>hin (e▸hx)
   rw[zA];have yK:Hid (z.1.sum∉q):=hin;have HD:=KO F now d a b 0 G E D B A f t o z.1.sum T (J.o.1.below U.o V) (Zr V U.o.size) (AM.mono (AM.below J.o.2.1 U.o) U.o.size) (AN.mono (AN.below J.o.2.2.1 U.o) U.o.size) xK xH xG (fun z hz=>Zm (J.o.2.2.2.1 z hz) (by omega)) ⟨z.1,HY.o.1,rfl⟩;have yM:=Yw HD;clear zA hin HD;go_wp2_with fail;refine yM.Am ?_;rintro e Z ⟨zJ,yL⟩
   have zM:Below w.heap.size w Z:=U.o.trans (zJ.mono U.o.size);have H4:=Yw (Za (Aa.below H3.o.1 zJ) (Za (Aa.below H3.o.2.1 zJ) (Aa.below H3.o.2.2 zJ)));have xI:w.heap.size+3<=Z.heap.size:=Zm yX zJ.size;clear i0 i1 i2 i3 i4 i5 i6 r0 r1 r2 r3 r4 r5 f0 f1 f2 f3 f4 f5 y0 q0 y1 q1 y2 q2 y3 q3 y4 q4 y5 q5 y6 q6 y7 q7 y8 q8 y9 q9 L zE M zF N zG O zH P zI yM H3
   rcases yL with⟨zB,rfl⟩|⟨zB,g,c,rfl,yP,xD,yR⟩
   .have zR:Hid (Cz t o (f.map (·.1)) z.1.sum):=zB;obtain⟨m,zC⟩:=Af (Z.alloc (.cells (Yb 6) 115));have Y:Below Z.heap.size Z m:=by rw[zC];exact Zy
    have H5:(Aa m w.heap.size (Yh F now d a (some ⟨b,0,none⟩) f.length G B t.length E A o.length D)/\Aa m (w.heap.size+1) (Xv 2 I 0 R H q.length Q u z.1.born C)/\Aa m (w.heap.size+2) Df):=⟨Aa.below H4.o.1 Y,Aa.below H4.o.2.1 Y,Aa.below H4.o.2.2 Y⟩;have n0:m.cell? (Zd (Z.heap.size) 0)=some (Zg 6):=by rw[zC];simp[go_sem]
    have zS:Hid (Zz w m):=zM.trans (Y.mono zM.size);have zT:=Yw zC;clear zC zB zM zJ Y;go_upto_region 30 with fail;rw[<-zT.o];clear zT H4;obtain⟨i0,i1,i2,i3,i4,i5,i6⟩:=EP (AP H5.1);obtain⟨⟨r0,f0⟩,⟨r1,f1⟩,⟨r2,f2⟩,⟨r3,f3⟩,⟨r4,f4⟩,⟨r5,f5⟩⟩:=r6 H5.2.1;obtain⟨⟨y0,q0⟩,⟨y1,q1⟩,⟨y2,q2⟩,⟨y3,q3⟩,⟨y4,q4⟩,⟨y5,q5⟩,⟨y6,q6⟩,⟨y7,q7⟩,⟨y8,q8⟩,⟨y9,q9⟩,⟨L,zE⟩,⟨M,zF⟩,⟨N,zG⟩,⟨O,zH⟩,P,zI⟩:=Gs H5.2.2;go_wp2
    refine bodyPost_ret (v:=.agg #[Ze,Zg F,Zg now,Zg d,Zg a,Yz b f.length G,.slice B t.length E,.slice A o.length D,Zg 2,.slice I 0 R,.slice H q.length Q,Zg u,Zg z.1.born,Zg C,Zb]) (by simp[results,results104,go_sem,y0,y1,y2,y3,y4,y5,y6,y7,y8,y9,L,M,N,O,P]) rfl ?_;refine LU.from (X:=m) [w.heap.size+2] ?_ (FI m (w.heap.size+2) _ _ _ _ _ _ _ _ _ _ _ _ _ _ _);intro wf S
    have l:=zS.o.trans (S.below zS.o.size (by simp));exact⟨⟨⟨f.map (·.1),2,u,z.1.born,C,[],q,[]⟩,b,G,f,_,_,none,_,_,0,rfl,.ah zW rfl z.1 HY.o (.inr zR.o),rfl,J.o.1.below l V,Zr V l.size,yC.o.L l,J.o.2.2.2.2.L l,.inl rfl,⟨(fun p e=>by cases e;exact .inl rfl),(fun p e=> .inr (.inl ⟨p,e,rfl⟩)),(fun p e=> .inr (.inr (.inl ⟨p,e,rfl⟩))),CJ.no⟩,fun z hz=>hz,yG,yF,yH.mono l.size,yI.mono l.size⟩,l⟩
   .have zR:Hid (¬Cz t o (f.map (·.1)) z.1.sum):=zB;obtain⟨m,zC⟩:=Af (Z.alloc (.cells #[Ze,Zg F,Zg now,Zg d,Zg a,Yz g (By f z.1.sum).length c,.slice B t.length E,.slice A o.length D,Zc,Ze,Zc,Zc] 115));have Y:Below Z.heap.size Z m:=by rw[zC];exact Zy
    have H5:=Yw (Za (Aa.below H4.o.1 Y) (Za (Aa.below H4.o.2.1 Y) (Aa.below H4.o.2.2 Y)));have n:Aa m Z.heap.size [Ze,Zg F,Zg now,Zg d,Zg a,Yz g (By f z.1.sum).length c,.slice B t.length E,.slice A o.length D,Zc,Ze,Zc,Zc]:=by rw[zC];exact Aa.new Z _ _
    obtain⟨n0,_⟩:=n 0 _ rfl;obtain⟨n1,_⟩:=n 1 _ rfl;obtain⟨n2,_⟩:=n 2 _ rfl;obtain⟨n3,_⟩:=n 3 _ rfl;obtain⟨n4,_⟩:=n 4 _ rfl;obtain⟨n5,_⟩:=n 5 _ rfl;obtain⟨n6,_⟩:=n 6 _ rfl;obtain⟨n7,_⟩:=n 7 _ rfl;have zS:Hid (Zz w m):=zM.trans (Y.mono zM.size);have xC:Hid (Bg m g 0 (By f z.1.sum)):=yP.below Y yR;have xR:w.heap.size+3<=g:=Zm yX xD;have xE:g<m.heap.size:=Zr yR Y.size
    have xW:w.heap.size+3<=m.heap.size:=Zm xI Y.size;have zT:=Yw zC;clear zC zB zM zJ Y n yP;go_upto_region 30 with fail;rw[<-zT.o];clear zT H4;obtain⟨i0,i1,i2,i3,i4,i5,i6⟩:=EP (AP H5.o.1);obtain⟨⟨r0,f0⟩,⟨r1,f1⟩,⟨r2,f2⟩,⟨r3,f3⟩,⟨r4,f4⟩,⟨r5,f5⟩⟩:=r6 H5.o.2.1;obtain⟨W6,zO⟩:=Af (m.alloc (.cells #[.string z.1.sum] 9));have b6:Below m.heap.size m W6:=by rw[zO];exact Zy
    have p0:W6.cell? (Zd (m.heap.size) 0)=some (.string z.1.sum):=by rw[zO];simp[go_sem]
    have xF:m.heap.size<W6.heap.size:=by rw[zO];simp
    have H6:Aa (m.alloc (.cells #[.string z.1.sum] 9)) (w.heap.size+1+1) Df:=by rw[<-zO];exact Aa.below (v:=Ze) H5.o.2.2 b6
    have xB:=Yw zO;obtain⟨⟨y0,q0⟩,⟨y1,q1⟩,⟨y2,q2⟩,⟨y3,q3⟩,⟨y4,q4⟩,⟨y5,q5⟩,⟨y6,q6⟩,⟨y7,q7⟩,⟨y8,q8⟩,⟨y9,q9⟩,⟨L,zE⟩,⟨M,zF⟩,⟨N,zG⟩,⟨O,zH⟩,P,zI⟩:=Gs H6;have HH:=Yw (Za b6 p0);clear zO b6 p0;go_wp2
    refine bodyPost_ret (v:=.agg #[Ze,Zg F,Zg now,Zg d,Zg a,Yz g (By f z.1.sum).length c,.slice B t.length E,.slice A o.length D,Zg 2,.slice I 0 R,.slice H q.length Q,Zg u,Zg z.1.born,Zg C,Yz m.heap.size 1 1]) (by simp[results,results104,go_sem,y0,y1,y2,y3,y4,y5,y6,y7,y8,y9,L,M,N,O,P]) rfl ?_;rw[<-xB.o]
    refine LU.from (X:=W6) [w.heap.size+2] ?_ (FI W6 (w.heap.size+2) _ _ _ _ _ _ _ _ _ _ _ _ _ _ _);intro wf S;have yQ:=zS.o.trans (HH.o.1.mono zS.o.size);have l:=yQ.trans (S.below yQ.size (by simp))
    refine⟨⟨⟨Bt (f.map (·.1)) z.1.sum,2,u,z.1.born,C,[],q,[z.1.sum]⟩,g,c,By f z.1.sum,_,_,_,_,_,1,rfl,.drop zW rfl z.1 HY.o yK.o zR.o,IV _ _,JN (xC.o.below HH.o.1 xE) (S.block _ (by omega) (by simp;omega)) (fun v hv=> ?_),by have:=S.size;omega,yC.o.L l,J.o.2.2.2.2.L l,.inr ⟨_,0,rfl,by have:=S.size;omega,fun i s h=> ?_⟩,⟨CJ.new (by omega),(fun p e=> .inr (.inl ⟨p,e,rfl⟩)),(fun p e=> .inr (.inr (.inl ⟨p,e,rfl⟩))),CJ.new (by omega)⟩,fun v hv=>(List.mem_filter.1 hv).1,yG,yF,yH.mono l.size,yI.mono l.size⟩,l⟩
    .obtain⟨j,hj⟩:=List.getElem?_of_mem ((List.mem_filter.1 hv).1);obtain⟨_,ad,rc,h1,h2⟩:=J.o.1 j v hj;exact⟨ad,rc,h1,h2.L l⟩
    .match i,h with
     |0,h=>cases h;exact(World.cell?_of_block (S.block _ xF (by simp;omega))).trans HH.o.2
structure LV (w w':Zh) (e:Ending) (wd now given births:Int) (P L:Value) (ks:List Kd) (ps:List Pd) (ls:List Ld) (ph top at_ ro:Int) (qs ms:Zl) (b0:Nat) (x0 y0:Zk) (zs0:List (Kd×Value)) (r:UR) (b c:Nat) (zs:List (Kd×Value)) (qa ma da:Zk) (qc mc dc:Nat):Prop where
 e:e=.returned (.agg #[Ze,Zg wd,Zg now,Zg given,Zg births,.slice (some ⟨b,0,none⟩) r.ks.length c,P,L,Zg r.H,.slice qa r.D.length qc,.slice ma r.ms.length mc,Zg r.O,Zg r.M,Zg r.ro,.slice da r.S.length dc])
 uto:UTo ks ps ls births ph top at_ ro qs ms r
 zk:zs.map (·.1)=r.ks
 z:Bg w' b 0 zs
 lt:b<w'.heap.size
 q:Ab w' w'.heap.size qa r.D
 m:Ab w' w'.heap.size ma r.ms
 d:Ab w' w'.heap.size da r.S
 fb:CJ b0 x0 y0 w.heap.size (some ⟨b,0,none⟩)
 fq:CJ b0 x0 y0 w.heap.size qa
 fm:CJ b0 x0 y0 w.heap.size ma
 fd:CJ b0 x0 y0 w.heap.size da
 sub:∀z∈zs,z∈zs0
 cq:Ev qa r.D.length qc
 cm:Ev ma r.ms.length mc
 lq:Lt w' qa
 lm:Lt w' ma
 low:Below w.heap.size w w'
theorem LU.lv{e:Ending}{C d a:Int}{u:List Kd}{z:List Pd}{v:List Ld}{y g f B:Int}{A x:Zl}{s:Nat}{D E:Zk}{i:List (Kd×Value)}(h:LU w w' e C now d a P L u z v y g f B A x s D E i):∃r b c q n l j o m k,LV w w' e C now d a P L u z v y g f B A x s D E i r b c q n l j o m k:=by obtain⟨⟨r,b,c,q,n,l,j,o,m,k,O,Q,t,R,S,T,U,V,⟨W,X,F,G⟩,H,J,K,M,N⟩,I⟩:=h;refine⟨r,b,c,q,n,l,j,o,m,k,?_,Q,t,R,S,T,U,V,W,X,F,G,H,J,K,M,N,I⟩;rw[O,<-t,List.length_map]
theorem QM(y now d a:Int)(b K:Nat)(m:List (Kd×Value))(G:List Kd)(j:List Pd)(g:List Ld)(u t:Zk)(C B:Nat)(v o n x:Int)(k l:Zk)(D E:Nat)(q i:Zl)(w:Zh)(U:m.map (·.1)=G)(F:Bg w b 0 m)(H:b<w.heap.size)(S:AM w w.heap.size u j)(Q:AN w w.heap.size t g)(Z:Ab w w.heap.size k q)(P:Ab w w.heap.size l i)(M:Ev k q.length D)(I:Ev l i.length E)(T:Lt w k)(J:Lt w l)(f:Sm y a G j g v x q i)(N:i.length<=100000):
 Calls prog 104 #[.agg (Yg y now d a (some ⟨b,0,none⟩) G.length K u j.length C t g.length B),.agg (Ye v k q.length D l i.length E o n x)] w fun e L=>∃r W c V qa ma X qc mc Y,LV w L e y now d a (.slice u j.length C) (.slice t g.length B) G j g v o n x q i b k l m r W c V qa ma X qc mc Y:=by
 refine Calls.mono (R:=fun e L=>LU w L e y now d a (.slice u j.length C) (.slice t g.length B) G j g v o n x q i b k l m) ?_ (fun e L h=>h.lv);subst U;have O:m.length<=600:=by have:=f.ok.len;rw[List.length_map]at this;exact this
 have A:∀z∈m,z.1.B.length<=30:=fun z F=>(f.B z.1 (List.mem_map.2 ⟨z,F,rfl⟩)).1;rw[List.length_map];by_cases h0:v=0
 .subst h0;exact NT y now d a b K _ _ m j g u t C B rfl rfl o n x k l D E q i w F H S Q P I J f.pl f.ll f.b0 f.b1
 .cases q with
  |nil=>exact NU y now d a b K m j g u t C B v o n x k l D E i w h0 F H M T S Q P I J O f.pl f.ll A N f.r0 f.r1
  |cons s q0=>exact OZ y now d a b K m j g u t C B v o n x k l D E s q0 i w h0 F H Z P I J M.1 O A (by have:=f.ql;simp at this;omega) N
theorem Ab.J{V:List Nat}{f:Zl}(h:Ab w w.heap.size a f)(e:Tn V w d)(g:∀p,a=some p->p.block<w.heap.size->p.block∉V):Ab d d.heap.size a f:=by
 rcases h with h|⟨b,off,rfl,c,j⟩
 .exact .inl h
 .exact .inr ⟨b,off,rfl,Zr c e.size,fun i s k=>(World.cell?_of_block (e.block b c (g _ rfl c))).trans (j i s k)⟩
theorem AM.J{V:List Nat}{k:List Pd}(h:AM w w.heap.size a k)(j:Tn V w d)(l:∀p,a=some p->p.block<w.heap.size->p.block∉V):AM d d.heap.size a k:=by
 rcases h with h|⟨b,off,rfl,c,e⟩
 .exact .inl h
 .have f:=j.block b c (l _ rfl c);exact .inr ⟨b,off,rfl,Zr c j.size,fun i s g=>⟨(World.cell?_of_block f).trans (e i s g).1,(World.cell?_of_block f).trans (e i s g).2⟩⟩
theorem AN.J{g:Zh}{V:List Nat}(h:AN w w.heap.size a k)(j:Tn V w g)(l:∀p,a=some p->p.block<w.heap.size->p.block∉V):AN g g.heap.size a k:=by
 rcases h with h|⟨b,off,rfl,c,d⟩
 .exact .inl h
 .have e:=j.block b c (l _ rfl c);exact .inr ⟨b,off,rfl,Zr c j.size,fun i s f=>⟨(World.cell?_of_block e).trans (d i s f).1,(World.cell?_of_block e).trans (d i s f).2.1,(World.cell?_of_block e).trans (d i s f).2.2⟩⟩
theorem Pa(l f d m:Int)(j h:Zk)(k i:Nat)(a c:Zl)(w:Zh)(Q:Ab w w.heap.size j a)(P:Ab w w.heap.size h c)(Y:Ev j a.length k)(X:Ev h c.length i)(zA:a.length<=100000000)(Z:c.length<=100000000):
 Calls prog 133 #[.agg (Ye l j a.length k h c.length i f d m)] w fun e H=>∃x q y s,e=.returned (.agg (Ye l (some ⟨x,0,none⟩) a.length q (some ⟨y,0,none⟩) c.length s f d m))/\
  H.ownsRow w.heap.size 9 1 (Yz x a.length q) a.length (a.map Value.string)/\H.ownsRow w.heap.size 9 1 (Yz y c.length s) c.length (c.map Value.string)/\x≠y/\Zz w H:=by
 obtain⟨W,r⟩:=Af (((w.alloc (.cells (Ye l j a.length k h c.length i f d m) 31)).alloc (.cells Xx 31)).alloc (.cells (Ye l j a.length k h c.length i f d m) 31));have A:Below w.heap.size w W:=by rw[r];exact((Zy).alloc Yu _).alloc Yt _
 have zC:w.heap.size+3<=W.heap.size:=by rw[r];simp
 have L:Aa W (w.heap.size+1+1) (Xv l j a.length k h c.length i f d m):=by rw[r];simpa using Aa.new ((w.alloc (.cells (Ye l j a.length k h c.length i f d m) 31)).alloc (.cells Xx 31)) (Xv l j a.length k h c.length i f d m) 31
 have R:Aa W (w.heap.size+1) Xu:=by have O:=Aa.new (w.alloc (.cells (Ye l j a.length k h c.length i f d m) 31)) Xu 31;rw[World.size_alloc]at O;rw[r];exact Aa.below O (Zy)
 have K:Aa W w.heap.size (Xv l j a.length k h c.length i f d m):=by rw[r];exact Aa.below (Aa.below (Aa.new w _ _) (Zy)) (Zy)
 obtain⟨x,q,I,G,B,n⟩:=NR W j k a (Q.L A) Y.2 zA 29;have rA:(W.alloc (.cells #[] 9)).cell? (Zd (w.heap.size) 1)=some (.slice j a.length k):=((Aa.below K (Zy)) 1 _ rfl).1;obtain⟨V,E⟩:=Af (I.setCell (Zd (w.heap.size+1+1) 1) (Yz x a.length q));have zE:=n.size;have u:Tn [w.heap.size+1+1] I V:=by rw[E];exact AS _ _ _ _
 have zG:=u.size;have z:Below w.heap.size w I:=A.trans (n.mono A.size);have t:Below w.heap.size w V:=z.trans (u.below z.size Yt);have S:Aa V w.heap.size (Xv l j a.length k h c.length i f d m):=Aa.same (Aa.below K n) (u.block _ Yv Yt);have T:Aa V (w.heap.size+1) Xu:=Aa.same (Aa.below R n) (u.block _ Yv Yu)
 have U:Aa V (w.heap.size+1+1) (Xv l (some ⟨x,0,none⟩) a.length q h c.length i f d m):=by rw[E];exact(Aa.below L n).set 1 _
 have lx:=Ac B (g:=x) rfl;have F:=NQ B u (fun b hb=>by simp at hb;omega);obtain⟨y,s,J,zB,C,o⟩:=NR V h i c (P.L t) X.2 Z 29;have rB:(V.alloc (.cells #[] 9)).cell? (Zd (w.heap.size) 2)=some (.slice h c.length i):=((Aa.below S (Zy)) 2 _ rfl).1;have ly:=Ac C (g:=y) rfl;obtain⟨⟨k0,g0⟩,⟨k1,g1⟩,⟨k2,g2⟩,⟨k3,g3⟩,⟨k4,g4⟩,⟨k5,g5⟩⟩:=r6 (Aa.below T o)
 obtain⟨⟨n0,m0⟩,⟨n1,m1⟩,⟨n2,m2⟩,⟨n3,m3⟩,⟨n4,m4⟩,⟨n5,m5⟩⟩:=r6 (Aa.below U o);obtain⟨_,⟨p1,q1⟩,_⟩:=r6 (Aa.below L n);have zF:=o.size;have D:Hid (J.ownsRow (w.heap.size+3) 9 1 (Yz x a.length q) a.length (a.map Value.string)/\J.ownsRow (w.heap.size+3) 9 1 (Yz y c.length s) c.length (c.map Value.string)/\x≠y/\Zz w J):=⟨(Al F o).mono zC,C.mono Yv,Yv,t.trans (o.mono t.size)⟩;have N:=Yw r
 have M:=Yw E;clear r E K R L S T U F B C n o u t z Q P;go_enter func133,ntmps133;go_upto_region 2 with fail;rw[<-N.o];clear N;go_upto_region 3 with(at_builtin;refine wpList_append_run rfl _ _ 29 29 rfl rfl rfl G ?_);rw[<-M.o];clear M rA p1 q1 G;go_wp2_with (first
  |(at_builtin;refine wpList_append_run rfl _ _ 29 29 rfl rfl rfl zB ?_)
  |go_in)
 refine bodyPost_ret (v:=.agg (Ye l (some ⟨x,0,none⟩) a.length q (some ⟨y,0,none⟩) c.length s f d m)) (by simp[results,results133,go_sem,k0,k1,k2,k3,k4,k5]) rfl ⟨x,q,y,s,rfl,?_,?_,D.o.2.2.1,?_⟩
 .refine World.ownsRow.mono ?_ (show w.heap.size<=w.heap.size+3 by omega)
  iterate 7 (refine ownsRow_setCell_below ?_ Yu _)
  exact D.o.1
 .refine World.ownsRow.mono ?_ (show w.heap.size<=w.heap.size+3 by omega)
  iterate 7 (refine ownsRow_setCell_below ?_ Yu _)
  exact D.o.2.1
 .iterate 7 (refine Below.setCell ?_ Ym _)
  exact D.o.2.2.2
end Go.Proofs.YtcfjcdpkpiidkaaGreat
