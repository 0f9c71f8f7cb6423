import Derived.Test.YtoglnpagihdhpaaGreatDoorX01
import Derived.Test.YtoglnpagihdhpaaGreatDoorRows
import Derived.OpenShut
import Derived.ShutString
import Derived.RangeFuncNested
import Derived.Shelf.Abstract
import Derived.Shelf.RegionOpen
import Derived.RangeFuncBound
import Derived.RangeFuncCalls
import Derived.RangeFuncLeaves
import Derived.OwnWalkIn
import Derived.TacticsInMore
import Derived.LoopNIn
import Derived.LoopIn
import Derived.Maps.AppendAt
import Derived.Lib.OwnKind
import Derived.Deep.Slices
set_option maxRecDepth 100000
set_option maxHeartbeats 16000000
namespace Go.Proofs.YtoglnpagihdhpaaGreatDoor
open ChangeShapes WideShapes ChangeAt RowKit _root_.Go.Proofs.Tryz
variable{w X Y W e:Zh}{c b B B' k n g gf n0:Nat}{u v:Value}{a:Zk}{P:Program}{xs:Zl}{p:Int}
theorem own:ownKnob prog.godebug=none:=Yr
theorem laidOut:laidOutB prog=true:=Yr
def Ct(ss tt:Zl):Bool:=decide (ss.length+tt.length<=4000)&&(ss++tt).all (fun s=>decide (s.size<=5000))
def Ek(ss:Zl):Bool:=ss.all (fun s=>decide (s.size<=5000))
theorem KX(a b:Zl):Ct a b=(decide (a.length+b.length<=4000)&&(Ek a&&Ek b)):=by simp[Ct,Ek]
theorem Ni(a:Zl)(k:Nat)(s:Zi)(h:a[k]?=some s):Ek (a.take (k+1))=(Ek (a.take k)&&decide (s.size<=5000)):=by obtain⟨b,rfl⟩:=Zw h;unfold Ek;rw[Zu b,List.all_append,List.all_cons,List.all_nil,Bool.and_true]
theorem LG(a:Zl)(k:Nat)(s:Zi)(h:a[k]?=some s)(b:5000<s.size):Ek a=false:=by simp only[Ek,List.all_eq_false];exact⟨s,Zs h,Yt⟩
theorem Ef(a b:Zk)(c d:Nat)(f g:Zl)(w:Zh)(B:Nat)(G:B<=w.heap.size)(C:Ad w B a f)(A:Ad w B b g)(I:f.length<=1048576)(F:g.length<=1048576)(v:∀s∈f,s.size<=1048576)(r:∀s∈g,s.size<=1048576):
 Calls prog 81 #[.agg #[.slice a f.length c,.slice b g.length d]] w fun e D=>e=.returned (.bool (Ct f g))/\Zz w D:=by
 have l:Below w.heap.size w (w.alloc (.cells #[.slice a f.length c,.slice b g.length d] 47)):=Zy;go_enter func81,ntmps81;go_wp2
 go_loop [3] (fun i=>∃k:Nat,k<=f.length/\i=Zg k/\Ek (f.take k)=true) (fun i=>f.length -(intOf i).toNat)
 case atStart=>exact⟨0,Nat.zero_le _,rfl,by simp[Ek]⟩
 case round=>
  obtain⟨k,H,rfl,q⟩:=hrel;by_cases hlt:k<f.length
  .obtain⟨p,t,u,z,m⟩:=C.at hlt;subst u;have x:=(l.cell (p:=⟨p,t+k,none⟩) Yt).trans (m k f[k] (Zv hlt));have n:Hid (Ek (f.take (k+1))=(Ek (f.take k)&&decide (f[k].size<=5000))):=Ni f k _ (Zv hlt);have o:Hid (5000<f[k].size->Ek f=false):=LG f k _ (Zv hlt);have y:=v f[k] (List.getElem_mem hlt);clear m v r;generalize f[k]=s at *
   by_cases hbig:5000<s.size
   .go_wp2;go_ret;exact⟨by rw[KX,o.o hbig];simp,l⟩
   .go_wp2;refine⟨⟨k+1,Yv,Yn,?_⟩,Ys⟩;rw[n.o,q];simp;omega
  .rw[Zt Yv]at q;go_wp2
   go_loop [4] (fun i=>∃k:Nat,k<=g.length/\i=Zg k/\Ek (g.take k)=true) (fun i=>g.length -(intOf i).toNat)
   case atStart=>exact⟨0,Nat.zero_le _,rfl,by simp[Ek]⟩
   case round=>
    obtain⟨h,E,rfl,j⟩:=hrel;by_cases hlt2:h<g.length
    .obtain⟨p,t,u,z,m⟩:=A.at hlt2;subst u;have x:=(l.cell (p:=⟨p,t+h,none⟩) Yt).trans (m h g[h] (Zv hlt2));have n:Hid (Ek (g.take (h+1))=(Ek (g.take h)&&decide (g[h].size<=5000))):=Ni g h _ (Zv hlt2);have o:Hid (5000<g[h].size->Ek g=false):=LG g h _ (Zv hlt2);have y:=r g[h] (List.getElem_mem hlt2);clear m v r;generalize g[h]=s at *
     by_cases hbig:5000<s.size
     .go_wp2;go_ret;exact⟨by rw[KX,o.o hbig];simp,l⟩
     .go_wp2;refine⟨⟨h+1,Yv,Yn,?_⟩,Ys⟩;rw[n.o,j];simp;omega
    .rw[Zt Yv]at j;go_wp2;go_ret;refine⟨?_,l⟩;rw[KX,q,j];simp;omega
def JC(w:Zh)(b:Nat)(u v:Value):Prop:=w.cell? (Zd b 0)=some u/\w.cell? (Zd b 1)=some v/\b<w.heap.size
theorem JC.new(w:Zh)(u v:Value)(t:TypeId):JC (w.alloc (.cells #[u,v] t)) w.heap.size u v:=⟨Yu,Yu,Yu⟩
theorem JC.below{c:Zh}(h:JC w b u v)(a:Zz w c):JC c b u v:=
 ⟨(a.cell (p:=⟨b,0,none⟩) h.2.2).trans h.1,(a.cell (p:=⟨b,1,none⟩) h.2.2).trans h.2.1,Zr h.2.2 a.size⟩
theorem JC.alloc(h:JC w b u v)(o:Obj):JC (w.alloc o) b u v:=h.below (Zy)
section
open Go.RowKit
def Bs:Obj->Bool
 |.cells _ t _=> !(t==9||t==111||t==69||t==71)
 |_=>true
structure BK (B:Nat) (W W':Zh):Prop where
 size:W.heap.size<=W'.heap.size
 same:∀b o,B<=b->W.heap[b]?=some o->Bs o=true->W'.heap[b]?=some o
theorem BK.refl(B:Nat)(W:Zh):BK B W W:=⟨Zx,fun _ _ _ h _=>h⟩
theorem BK.trans{Z:Zh}(h:BK B X Y)(k:BK B Y Z):BK B X Z:=⟨Zm h.size k.size,fun b o a d c=>k.same b o a (h.same b o a d c) c⟩
theorem BK.mono{a:Zh}(h:BK B W a)(c:B<=B'):BK B' W a:=⟨h.size,fun b o d=>h.same b o Yv⟩
def CE(B:Nat)(J:Nat->Zh->Prop):Prop:=
 ∀k W W' row,J k W->W.grownBy W' row->(∀r,row=some r->B<=r/\∃o,W.heap[r]?=some o/\Bs o=true)->J k W'
theorem CE.mono{J:Nat->Zh->Prop}(h:CE B J)(c:B<=B'):CE B' J:=
 fun k W b row f d a=>h k W b row f d (fun r e=>⟨Zm c (a r e).1,(a r e).2⟩)
theorem CE.putObj{J:Nat->Zh->Prop}(h:CE B J){l:Nat}{o:Obj}(a:Obj)(c:J k W)(b:B<=l)(d:W.heap[l]?=some o)(f:Bs o=true):J k (W.putObj l a):=
 h k W _ (some l) c (grownBy_putObj' W l a) (fun r e=>by cases e;exact⟨b,o,d,f⟩)
theorem CE.alloc{J:Nat->Zh->Prop}(h:CE B J)(o:Obj)(b:J k W):J k (W.alloc o):=
 h k W _ none b ⟨rfl,rfl,rfl,Yu,fun i a _=>Below.heap_alloc W o i a⟩ (fun r e=>by cases e)
def Iv(P:Program)(gf:Nat)(ar:Nat->Array Value)(xs:Zl)(n0:Nat)(w:Zh):Prop:=
 ∀(l:Nat) (J Jx:Nat->Zh->Prop) (W:Zh),Zz w W->CE W.heap.size J->CE W.heap.size Jx->
  (∀k W1 s,xs[k]?=some s->J k W1->W.heap.size<=W1.heap.size->∀m,YieldAt Fence.wide m P l #[.string s] W1 fun e W'=>
    BK W.heap.size W1 W'/\((e=.returned (.bool true)/\J (k+1) W'/\Below n0 W1 W')\/(e=.returned (.bool false)/\Jx (k+1) W')))->
  J 0 W->∀m,CallsIn Fence.wide m P gf (ar l) W fun e W'=>(∃v,e=.returned v)/\(J xs.length W'\/∃k,Jx k W')
def YY(n0 B:Nat)(I:Nat->Zh->Prop)(Ix:Nat->Zh->Prop)(k:Nat)(W:Zh):Exit->Act->Zh->Prop
 |.normal,_,W'=>BK B W W'/\I (k+1) W'/\Below n0 W W'
 |.ret,_,W'=>BK B W W'/\Ix (k+1) W'
 |_,_,_=>False
theorem UO{g:Operand}{ps:Array Tmp}{assign body:Code}{Q:Exit->Act->Zh->Prop}{a:Act}{pre lb:Array Value}(hg:a.eval g=.func (.func gf) pre lb)(eg:∀args w,(callFunc gf args).run P w=.ok (.enter gf args) w)(zA:Iv P gf (fun l=>pre++ #[.func (.yield l) #[] #[]]++lb) xs n0 w)(zU:n0<=w.heap.size)(zP:ps.size=1)(I Y:Nat->Zh->Prop)(G:CE w.heap.size I)(R:CE w.heap.size Y)(h0:I 0 w)(a1:Zi->Act)(C:∀(l m:Nat) (s:Zi) (W:Zh) (K:Act->Zh->Prop),K (a1 s) W->
   assign.wpIn (Fence.wide.inRound l) m P (Exit.then K (fun _ _ _=>False)) {tmps:=(ps.zip #[.string s]).foldl (fun t (p,v)=>t.setIfInBounds p v) a.tmps,defers:=[]} W)(M:∀(l m k:Nat) (s:Zi) (W:Zh),xs[k]?=some s->I k W->w.heap.size+2<=W.heap.size->body.wpIn (Fence.wide.inRound l) m P (YY n0 w.heap.size I Y k W) (a1 s) W)(N:∀(D:Nat) (W:Zh),w.heap.size<=D->I xs.length W->W.heap[D]?=some (.deferred (some []))->Q .normal {a with defers:={target:=.collected D,args:= #[]}::a.defers} W)(O:∀(D k:Nat) (W:Zh),w.heap.size<=D->Y k W->W.heap[D]?=some (.deferred (some []))->Code.ret.wpIn Fence.wide n P Q {a with defers:={target:=.collected D,args:= #[]}::a.defers} W):
 (Code.rangeFunc g ps assign body).wpIn Fence.wide n P Q a w:=by
 refine wpIn_rangeFunc ?_;intro fn zK;obtain⟨c,d⟩:∃c:LoopState->Option Code->Loop,c=fun st pe=>{state:=st,pending:=pe,fn,tmps:=a.tmps,params:=ps,assign,body,defers:=w.heap.size}:=⟨_,rfl⟩;obtain⟨V,H⟩:=Af ((w.alloc (.deferred (some []))).alloc (.loop (c .ready none)));have zT:V.heap.size=w.heap.size+2:=by rw[H];simp
 have zH:V.heap[w.heap.size+1]?=some (.loop (c .ready none)):=by have:=World.alloc_heap_new (w.alloc (.deferred (some []))) (.loop (c .ready none));rw[World.size_alloc]at this;rw[H];exact this
 have zG:V.heap[w.heap.size]?=some (.deferred (some [])):=by rw[H];exact(Below.heap_alloc _ _ _ Yu).trans (World.alloc_heap_new w _)
 have zF:Below w.heap.size w V:=by rw[H];exact((Below.refl _ w).alloc (Zx) _).alloc Yu _
 have zE:I 0 V:=by rw[H];exact G.alloc _ (G.alloc _ h0)
 refine⟨w.heap.size+1,[{target:=.collected w.heap.size,args:= #[]}],V,{target:=.fn (.func gf) lb,args:=pre++ #[.func (.yield (w.heap.size+1)) #[] #[]]},V,gf,
  pre++ #[.func (.yield (w.heap.size+1)) #[] #[]]++lb,V,?_,?_,fun _ _=>trivial,?_,fun h=>by simp[Fence.wide]at h,?_⟩
 .rw[H,d];exact run_enterLoop_outer _ _ _ _ _
 .simp only[resolve,hg];simp[go_sem]
 .simp[invoke,go_sem,eg]
 .have zB:∀{A:Zh} {row:Option Nat},(∀r,row=some r->V.heap.size<=r/\∃o:Obj,A.heap[r]?=some o/\Bs o=true)->(∀r,row=some r->w.heap.size<=r/\∃o:Obj,A.heap[r]?=some o/\Bs o=true):=
   fun j r e=>⟨by have:=(j r e).1;omega,(j r e).2⟩
  have f:∀{A B:Zh} {row:Option Nat} {k:Nat} {o:Obj},A.grownBy B row->(∀r,row=some r->V.heap.size<=r/\∃o:Obj,A.heap[r]?=some o/\Bs o=true)->k<V.heap.size->A.heap[k]?=some o->B.heap[k]?=some o:=
   fun {A B row k o} q j J Z=>(q.block k (Array.getElem?_eq_some_iff.1 Z).1 (fun e=>by have:=(j k e.symm).1;omega)).trans Z
  refine(zA (w.heap.size+1)
   (fun k W=>I k W/\W.heap[w.heap.size+1]?=some (.loop (c .ready none))/\W.heap[w.heap.size]?=some (.deferred (some [])))
   (fun k W=>Y k W/\W.heap[w.heap.size+1]?=some (.loop (c .done (some .ret)))/\W.heap[w.heap.size]?=some (.deferred (some [])))
   V zF
   (fun s A B row F q j=>⟨G s A B row F.1 q (zB j),f q j Yv F.2.1,f q j Yv F.2.2⟩)
   (fun s A B row F q j=>⟨R s A B row F.1 q (zB j),f q j Yv F.2.1,f q j Yv F.2.2⟩)
   ?_ ⟨zE,zH,zG⟩ _).mono ?_
  .rintro k W s zR ⟨E,z,J⟩ zS m;have zO:w.heap.size+1<W.heap.size:=(Array.getElem?_eq_some_iff.1 z).1;have hy:=run_yield (P:=P) (args:= #[.string s]) z (by rw[d];exact zP.symm);rw[d]at hy;refine⟨fn,_,assign,body,hy,roundIn_of_wpIn zK (C _ _ s W _ ?_)⟩;clear hy;refine⟨_,run_beginRound z (by rw[d]),?_⟩
   have zN:(W.putObj (w.heap.size+1) (.loop {c .ready none with state:=.busy})).heap[w.heap.size+1]?=some (.loop {c .ready none with state:=.busy}):=World.putObj_heap_same zO;have zM:(W.putObj (w.heap.size+1) (.loop {c .ready none with state:=.busy})).heap[w.heap.size]?=some (.deferred (some [])):=(World.putObj_heap_other Yv).trans J
   refine wpIn_mono (M _ _ k s _ zR (G.putObj _ E Yv z rfl) (by rw[World.putObj_size];omega)) ?_;have fin:∀(jump:Option Code) (u:Zh),BK w.heap.size (W.putObj (w.heap.size+1) (.loop {c .ready none with state:=.busy})) u->
    (Instr.endRound (w.heap.size+1) jump).run P u=.ok (.bool jump.isNone) (u.putObj (w.heap.size+1) (.loop (c (if jump.isNone then .ready else .done) jump)))/\
    u.heap[w.heap.size+1]?=some (.loop {c .ready none with state:=.busy})/\
    (u.putObj (w.heap.size+1) (.loop (c (if jump.isNone then .ready else .done) jump))).heap[w.heap.size+1]?=some (.loop (c (if jump.isNone then .ready else .done) jump))/\
    (u.putObj (w.heap.size+1) (.loop (c (if jump.isNone then .ready else .done) jump))).heap[w.heap.size]?=some (.deferred (some []))/\
    BK V.heap.size W (u.putObj (w.heap.size+1) (.loop (c (if jump.isNone then .ready else .done) jump))):=fun jump u x=>by
    have y:=x.same _ _ Yv zN rfl;have:=run_endRound (P:=P) jump y;have zC:BK V.heap.size W (u.putObj (w.heap.size+1) (.loop (c (if jump.isNone then .ready else .done) jump))):=by refine⟨by have:=x.size;rw[World.putObj_size]at this |-;exact this,fun b o hb Z hn=> ?_⟩;rw[World.putObj_heap_other Yv];exact x.same b o Yv ((World.putObj_heap_other Yv).trans Z) hn
    refine⟨?_,y,World.putObj_heap_same (Array.getElem?_eq_some_iff.1 y).1,(World.putObj_heap_other Yv).trans (x.same _ _ (Zx) zM rfl),zC⟩;rw[d]at this |-;exact this
   rintro e a3 u L;have zI:∀o,Below n0 W (W.putObj (w.heap.size+1) o):=fun o=>⟨rfl,rfl,rfl,Yu,fun i E=>World.putObj_heap_other Yv⟩;cases e with
   |normal=>obtain⟨x,S,zJ⟩:=L;obtain⟨j,y,X,T,U⟩:=fin none u x;exact⟨_,_,j,U,.inl ⟨rfl,⟨G.putObj _ S Yv y rfl,X,T⟩,((zI _).trans zJ).trans ⟨rfl,rfl,rfl,Yu,fun i E=>World.putObj_heap_other Yv⟩⟩⟩
   |ret=>obtain⟨x,S⟩:=L;obtain⟨j,y,X,T,U⟩:=fin (some .ret) u x;exact⟨_,_,j,U,.inr ⟨rfl,R.putObj _ S Yv y rfl,X,T⟩⟩
   |exit id=>exact L.elim
   |goto t=>exact L.elim
   |panic ch=>exact L.elim
   |outgrown=>exact L.elim
  .rintro e W2 ⟨⟨v,rfl⟩,(⟨E,z,J⟩|⟨k,E,z,J⟩)⟩
   .exact⟨none,_,by have:=run_endLoop (P:=P) z (by rw[d];simp);rw[d]at this;exact this,N _ _ (Zx) (G.putObj _ E Yv z rfl) ((World.putObj_heap_other Yv).trans J)⟩
   .exact⟨some .ret,_,by have:=run_endLoop (P:=P) z (by rw[d];simp);rw[d]at this;exact this,O _ k _ (Zx) (R.putObj _ E Yv z rfl) ((World.putObj_heap_other Yv).trans J)⟩
end
section
open Go.RowKit
attribute [local go_sem] Oper.semAt_some
end
section
open Go.RowKit
attribute [local go_sem] Oper.semAt_some
theorem CE.and{J K:Nat->Zh->Prop}(h:CE B J)(k:CE B K):CE B (fun n W=>J n W/\K n W):=
 fun n W a row c b d=>⟨h n W a row c.1 b d,k n W a row c.2 b d⟩
theorem JD(w:Zh)(i:c<=w.heap.size)(h:c<=B):CE B (fun _ W=>Below c w W):=
 fun _ W g row a b f=>⟨b.os.trans a.os,b.tape.trans a.tape,b.output.trans a.output,Zm a.size b.size,fun k d=>
  (b.block k (by have:=a.size;omega) (fun e=>by have:=(f k e.symm).1;omega)).trans (a.block k d)⟩
theorem OI(o:Obj)(g:b<B):CE B (fun _ W=>W.heap[b]?=some o):=
 fun _ W f row a c d=>(c.block b (Array.getElem?_eq_some_iff.1 a).1 (fun e=>by have:=(d b e.symm).1;omega)).trans a
end
section
attribute [local go_sem] Oper.semAt_some
end
section
attribute [local go_sem] Oper.semAt_some
theorem Iv.below{a:Nat->Array Value}{c:Zh}(h:Iv P gf a xs n0 w)(b:Zz w c):Iv P gf a xs n0 c:=
 fun l J d W e=>h l J d W (b.trans (e.mono b.size))
end
def Bx(ss tt:Zl)(ag:Int):Zl:=if Ct ss tt then ss++tt.take (min (max ag 0) tt.length).toNat else []
theorem Gq{a:Zh}{L:Zl}(b:Zz w a)(c:a.ownsRow (w.heap.size+2) 9 1 v L.length (L.map Value.string)):
 ((a.setCell (Zd (w.heap.size+1) 0) v).setCell (Zd (w.heap.size+1) 1) Zb).ownsRow w.heap.size 9 1 v L.length (L.map Value.string)/\
   Zz w ((a.setCell (Zd (w.heap.size+1) 0) v).setCell (Zd (w.heap.size+1) 1) Zb):=
 ⟨(ownsRow_setCell_below (ownsRow_setCell_below c Yu _) Yu _).mono Yv,(b.setCell (p:=⟨w.heap.size+1,0,none⟩) Yu _).setCell (p:=⟨w.heap.size+1,1,none⟩) Yu _⟩
structure AT (w:Zh) (b:Nat) (a:Zk) (n c:Nat) (p:Int):Prop where
 c0:w.cell? (Zd b 0)=some (.slice a n c)
 c1:w.cell? (Zd b 1)=some (Zg p)
 f1:w.frozen? ⟨b,1,none⟩=false
 lt:b<w.heap.size
 n2:n<=2000
 bytes:n=0\/∃q off,a=some ⟨q,off,none⟩/\q<b/\∀j,j<n->∃x:Int,w.cell? (Zd q (off+j))=some (.int .u8 x)/\0<=x/\x<256
theorem AT.next(h:AT w b a n c p)(d:Int):AT (w.setCell (Zd b 1) (Zg d)) b a n c d:=by
 obtain⟨m,o,r,g,i,f⟩:=h;refine⟨by simp[go_sem,m],by simp[go_sem,o],by simpa [go_sem]using r,by simpa using g,i,?_⟩;rcases f with h|⟨q,l,u,k,z⟩
 .exact .inl h
 .refine .inr ⟨q,l,u,k,fun j y=> ?_⟩;obtain⟨x,v,s,t⟩:=z j y;exact⟨x,by rw[World.cell?_setCell_other _ _ _ _ (by intro e;injection e;omega)];exact v,s,t⟩
theorem AT.drew(h:AT w b a n c p):AT w.drew b a n c p:=⟨h.c0,h.c1,h.f1,h.lt,h.n2,h.bytes⟩
theorem AT.drewN(h:AT w b a n c p)(k:Nat):AT (w.drewN k) b a n c p:=⟨h.c0,h.c1,h.f1,h.lt,h.n2,h.bytes⟩
theorem KH{a:Zh}{r:Option Nat}(h:w.grownBy a r)(k:Nat):w.grownBy (a.drewN k) r:=⟨h.os,h.tape,h.output,h.size,h.block⟩
theorem UP{f h:Zh}(a:w.grownBy f (some b))(c:f.grownBy h (some g))(j:w.heap.size<=g):w.grownBy h (some b):=
 ⟨c.os.trans a.os,c.tape.trans a.tape,c.output.trans a.output,Zm a.size c.size,fun k d i=>(c.block k (Zr d a.size) (by intro e;cases e;omega)).trans (a.block k d i)⟩
theorem OJ(w:Zh)(g p:Nat)(v:Value):w.grownBy (w.setCell (Zd g p) v) (some g):=
 ⟨rfl,rfl,rfl,Yu,fun i _ a=>Below.heap_setCell _ _ _ _ (fun e=>a (by rw[e]))⟩
theorem AT.grown(h:AT w b a n c p)(d:w.grownBy e (some g))(u:b<g):AT e b a n c p:=by
 have v:=d.size;have s:=h.lt;refine⟨d.cell h.c0 Yt,d.cell h.c1 Yt,(d.frozen_far ⟨b,1,none⟩ s Yt).trans h.f1,Yv,h.n2,?_⟩;rcases h.bytes with h|⟨q,i,m,f,t⟩
 .exact .inl h
 .refine .inr ⟨q,i,m,f,fun j r=> ?_⟩;obtain⟨x,o,k,l⟩:=t j r;exact⟨x,d.cell o Yt,k,l⟩
theorem AT.below{g:Zh}(h:AT w b a n c p)(d:Zz w g):AT g b a n c p:=by
 have e:=h.lt;refine⟨(d.cell (p:=⟨b,0,none⟩) e).trans h.c0,(d.cell (p:=⟨b,1,none⟩) e).trans h.c1,(d.frozen (p:=⟨b,1,none⟩) e).trans h.f1,Zr e d.size,h.n2,?_⟩;rcases h.bytes with h|⟨q,f,m,i,s⟩
 .exact .inl h
 .refine .inr ⟨q,f,m,i,fun j r=> ?_⟩;obtain⟨x,o,k,l⟩:=s j r;exact⟨x,(d.cell (p:=⟨q,f+j,none⟩) Yt).trans o,k,l⟩
theorem Cs{a:Int}(b:0<=a)(c:a<=2000000000):IntKind.i64.wrap a=a:=by unfold IntKind.wrap;simp[IntKind.signed,IntKind.bits];omega
theorem UQ(a b:Nat)(d:a<2^30)(e:b<2^30):∃z:Nat,bits .xor .i64 (a:Int) (b:Int)=(z:Int):=by
 refine⟨a^^^b,?_⟩;have f:a^^^b<2^30:=Nat.xor_lt_two_pow d e;have c:(BitVec.ofInt 64 (a:Int)^^^BitVec.ofInt 64 (b:Int)).toNat=a^^^b:=by rw[BitVec.toNat_xor,BitVec.ofInt_natCast,BitVec.ofInt_natCast,BitVec.toNat_ofNat,BitVec.toNat_ofNat,Nat.mod_eq_of_lt Yv,Nat.mod_eq_of_lt Yv]
 show IntKind.i64.wrap ((BitVec.ofInt 64 (a:Int)^^^BitVec.ofInt 64 (b:Int)).toNat:Int)=_;rw[c];exact Cs Yv Yv
theorem Bq(b:Nat)(a:Zk)(n c:Nat)(p m:Int)(w:Zh)(h:AT w b a n c p)(hp:0<=p)(O:p<=1000000)(hm:1<=m)(L:m<=10000):
 Calls prog 14 #[Yy b,Zg m] w fun e t=>∃r:Int,e=.returned (Zg r)/\0<=r/\r<m/\AT t b a n c (p+1)/\w.grownBy t (some b):=by
 have HN:Hid (AT (w.setCell (Zd b 1) (Zg (p+1))) b a n c (p+1)/\w.grownBy (w.setCell (Zd b 1) (Zg (p+1))) (some b)):=⟨h.next _,OJ _ _ _ _⟩;obtain⟨U,V,Z,I,M,j⟩:=h;have w1:IntKind.i64.wrap (p+1)=p+1:=Cs Yv Yv;have K:decide (m<1)=false:=Yt
 have J:(m==0)=false:=beq_eq_false_iff_ne.2 Yv;by_cases hn:n=0
 .subst hn;go_enter func14,ntmps14;go_wp2;go_ret;exact⟨0,rfl,Yv,Yv,HN.o.1,HN.o.2⟩
 .obtain⟨q,T,F,P,g⟩:=j.resolve_left hn;subst F;have N:((n:Int)==0)=false:=beq_eq_false_iff_ne.2 Yv;go_enter func14,ntmps14;by_cases hk:p<n
  .obtain⟨x,s,C,D⟩:=g p.toNat Yv;obtain⟨k,rfl⟩:∃k:Nat,p=k:=⟨p.toNat,Yv⟩;simp only[Int.toNat_natCast]at s;go_wp2;go_ret;exact⟨_,rfl,Int.emod_nonneg _ Yv,Int.emod_lt_of_pos _ Yv,HN.o.1,HN.o.2⟩
  .obtain⟨k,rfl⟩:∃k:Nat,p=k:=⟨p.toNat,Yv⟩;have H:decide ((k:Int)<(n:Int))=false:=Yt
   have A:k%n<n:=Nat.mod_lt _ Yv;have B:(k *7+3)%n<n:=Nat.mod_lt _ Yv;obtain⟨x,s,C,D⟩:=g _ A;obtain⟨y,hd,Q,R⟩:=g _ B;have W:(k:Int)%(n:Int)=((k%n:Nat):Int):=Yu
   have Y:((k:Int) *7+3)%(n:Int)=(((k *7+3)%n:Nat):Int):=Yu
   have v:k/n<=k:=Nat.div_le_self _ _;have E:(k:Int)/(n:Int)=((k/n:Nat):Int):=Yu
   have u:k/n<=1000000:=Yv
   obtain⟨d,l⟩:=Af (k/n);rw[<-l]at E v u;clear l;have g1:IntKind.i64.wrap ((k:Int) *7)=(k:Int) *7:=Cs Yv Yv;have g2:IntKind.i64.wrap ((k:Int) *7+3)=(k:Int) *7+3:=Cs Yv Yv;have g3:IntKind.i64.wrap (x *131)=x *131:=Cs Yv Yv;have g4:IntKind.i64.wrap (y *1117)=y *1117:=Cs Yv Yv
   have g5:IntKind.i64.wrap (x *131+y *1117)=x *131+y *1117:=Cs Yv Yv;have g6:IntKind.i64.wrap ((k:Int) *29)=(k:Int) *29:=Cs Yv Yv;have g7:IntKind.i64.wrap (x *131+y *1117+(k:Int) *29)=x *131+y *1117+(k:Int) *29:=Cs Yv Yv;have g8:IntKind.i64.wrap ((d:Int) *53)=(d:Int) *53:=Cs Yv Yv
   have g9:IntKind.i64.wrap (x *131+y *1117+(k:Int) *29+(d:Int) *53)=x *131+y *1117+(k:Int) *29+(d:Int) *53:=Cs Yv Yv;generalize k%n=i1 at *
   generalize (k *7+3)%n=i2 at *
   clear g j;go_wp2;go_quiet (fail);obtain⟨X,o⟩:∃X:Nat,x *131+y *1117+(k:Int) *29+(d:Int) *53=X:=⟨(x *131+y *1117+(k:Int) *29+(d:Int) *53).toNat,Yv⟩;have i:X<2^30:=Yv
   have f:(X:Int)/64=((X/64:Nat):Int):=Yu
   obtain⟨z,G⟩:=UQ X (X/64) i Yv;rw[<-f,<-o]at G;have S:(z:Int).tmod m=(z:Int)%m:=Int.tmod_eq_emod_of_nonneg Yv;clear f o i X;go_wp2;go_ret;exact⟨(z:Int)%m,Yp,Int.emod_nonneg _ Yv,Int.emod_lt_of_pos _ Yv,AT.drewN HN.o.1 _,KH HN.o.2 _⟩
theorem Rv(a:Zk)(n c:Nat)(w:Zh)(A:n<=maxLen)(s:n=0\/∃q b,a=some ⟨q,b,none⟩/\q<w.heap.size/\∀j,j<n->∃x:Int,w.cell? (Zd q (b+j))=some (.int .u8 x)/\0<=x/\x<256)(C:n<=c):
 Calls prog 11 #[.slice a n c] w fun e t=>∃d f,e=.returned (Yy w.heap.size)/\AT t w.heap.size a d f 0/\Zz w t:=by
 have g:∀o,Zz w (w.alloc o):=fun o=>Zy;unfold maxLen at A;have r:∀d f,d<=n->d<=2000->AT (w.alloc (.cells #[.slice a d f,Ze] 93)) w.heap.size a d f 0:=fun d f B u=>by
  refine⟨by simp[go_sem],by simp[go_sem],by simp[go_sem],Yu,u,?_⟩;rcases s with h|⟨q,b,i,k,l⟩
  .exact .inl Yv
  .refine .inr ⟨q,b,i,k,fun j D=> ?_⟩;obtain⟨x,v,y⟩:=l j Yv;exact⟨x,((g _).cell (p:=⟨q,b+j,none⟩) k).trans v,y⟩
 have m:=Yw r;clear r;by_cases h:n<=2000
 .have z:decide ((2000:Int)<(n:Int))=false:=Yt
  go_enter func11,ntmps11;go_wp2;go_ret;exact⟨n,c,rfl,m.o n c (Zx) h,g _⟩
 .have z:decide ((2000:Int)<(n:Int))=true:=Yt
  obtain⟨q,b,i,k,l⟩:=s.resolve_left Yv;subst i;clear l;go_enter func11,ntmps11;go_wp2;go_ret;exact⟨2000,_,rfl,m.o 2000 _ Yv (Zx),g _⟩
theorem QL{a:Int}(b:0<=a)(c:a<256):IntKind.u8.wrap a=a:=by unfold IntKind.wrap;simp[IntKind.signed,IntKind.bits];omega
theorem GY(l:List Int):(strOfNums l).size=l.length:=by unfold strOfNums;simp[ByteArray.size]
theorem Tq:(prog.info? 5).map (fun i=>(i.zero,i.size,i.bytes))=some (some (.int .u8 0),1,1):=Yr
structure Hu (w w':Zh) (b:Nat) (a:Zk) (n c:Nat) (p:Int) (k:Int):Prop where
 st:∃p',AT w' b a n c p'/\p<=p'/\p'<=p+k
 gr:w.grownBy w' (some b)
theorem Rw(b:Nat)(a:Zk)(n c:Nat)(p:Int)(w:Zh)(h:AT w b a n c p)(hp:0<=p)(zH:p<=900000):
 Calls prog 95 #[Yy b] w fun e w'=>∃s,e=.returned (.string s)/\s.size<=16/\Hu w w' b a n c p 10:=by
 obtain⟨i0,R,V,W,X⟩:=info_parts Tq;go_enter func95,ntmps95;go_wp2_with fail;refine(Bq b a n c p 9 w h hp Yv Yv Yv).mono ?_;rintro e U ⟨r,rfl,r0,r1,L,J⟩;have B:Hid (Hu w U b a n c p 10):=⟨⟨_,L,Yv,Yv⟩,J⟩;by_cases q0:r=0
 .have Y:(r==0)=true:=by simpa using q0
  clear q0;go_wp2;go_ret;exact⟨_,rfl,Yq,B.o⟩
 have Y:(r==0)=false:=by simpa using q0
 by_cases q1:r=1
 .have Z:(r==1)=true:=by simpa using q1
  clear q0 q1;go_wp2;go_ret;exact⟨_,rfl,Yq,B.o⟩
 have Z:(r==1)=false:=by simpa using q1
 by_cases q2:r=2
 .have zA:(r==2)=true:=by simpa using q2
  clear q0 q1 q2;go_wp2;go_ret;exact⟨_,rfl,Yq,B.o⟩
 have zA:(r==2)=false:=by simpa using q2
 by_cases q3:r=3
 .have zB:(r==3)=true:=by simpa using q3
  clear q0 q1 q2 q3;go_wp2;go_ret;exact⟨_,rfl,Yq,B.o⟩
 have zB:(r==3)=false:=by simpa using q3
 clear B;go_wp2_with fail;refine(Bq b a n c (p+1) 4 U L Yv Yv Yv Yv).mono ?_;rintro e d ⟨k,rfl,k0,k1,M,O⟩;have C:=Ar J O;have zE:=C.size;have zF:=M.lt;have q:Below d.heap.size d (d.alloc (.cells #[] 5)):=Zy;have z:=Yw (M.below q);have x:=Yw (Ar C (Al (some b) q))
 have o:Hid ((d.alloc (.cells #[] 5)).ownsRow d.heap.size 5 1 (Yz d.heap.size 0 0) 0 (([]:List Int).map (Value.int .u8))):=World.ownsRow_lit d #[] 0 (Zx) Yo rfl;clear J O C L M q h;go_wp2
 go_loopw [4,5] (fun v i wr=>∃(j g cap:Nat) (f:List Int),(j:Int)<=k+1/\f.length=j/\i=Zg j/\v=Yz g j cap/\Hid (wr.ownsRow d.heap.size 5 1 (Yz g j cap) j (f.map (Value.int .u8)))/\Hid (AT wr b a n c (p+1+1+j))/\Hid (w.grownBy wr (some b))) (fun _ i _=>(k+1).toNat -(intOf i).toNat)
 case atStart=>exact⟨0,_,_,[],Yv,rfl,rfl,rfl,o,by simpa using z,x⟩
 case round=>
  clear z x o;obtain⟨j,g,cap,f,hj,I,rfl,rfl,o,z,x⟩:=hrel;have lg:=o.o.lt g rfl;by_cases hlt:(j:Int)<=k
  .have hd:decide ((j:Int)<=k)=true:=by simpa using hlt
   go_wp2_with fail;refine(Bq b a n c (p+1+1+j) 6 wr z.o Yv Yv Yv Yv).mono ?_;rintro e t ⟨y,rfl,y0,y1,Q,D⟩;have wy:IntKind.i64.wrap (97+y)=97+y:=Cs Yv Yv;have wu:IntKind.u8.wrap (97+y)=97+y:=QL Yv Yv;have N:=Yw (World.ownsRow.kept o.o D (.inr (by simp[Value.ownBlock];omega)));have zJ:=D.size;go_wp2_with (first
    |(at_builtin;refine wpList_append_lies _ rfl _ _ 22 rfl d.heap.size 5 i0 (.int .u8 0) 1 1 underlying22 R V W X rfl Yq _ j (f.map (Value.int .u8)) rfl ?d0 ⟨t.heap.size,0,none⟩ 1 1 [.int .u8 (97+y)] rfl rfl ?d1 ?d2 Yq ?d3 ?d4 ?d5 _ rfl ?_)
    |go_in)
   case d0=>exact World.ownsRow.alloc N.o _
   case d1=>exact cell_one_new t _ 5
   case d2=>intro u S;simp at S;subst S;rfl
   case d3=>unfold maxLen;omega
   case d4=>omega
   case d5=>simp;omega
   intro K l A H G E zC;have q:Below t.heap.size t (t.alloc (.cells #[.int .u8 (97+y)] 5)):=Zy;have m:(t.alloc (.cells #[.int .u8 (97+y)] 5)).grownBy A (some g):=by simpa [Value.ownBlock]using G
   have H4:Hid (AT A b a n c (p+1+1+((j+1:Nat):Int))):=by have:=(Q.below q).grown m Yv;rw[show p+1+1+((j+1:Nat):Int)=p+1+1+(j:Int)+1 by omega];exact this
   have F:(t.alloc (.cells #[.int .u8 (97+y)] 5)).grownBy A (some g):=m;have G4:Hid (w.grownBy A (some b)):=UP (Ar x.o (Ar D (Al _ q))) F Yv;have O5:Hid (A.ownsRow d.heap.size 5 1 (Yz K (j+1) l) (j+1) ((f++[97+y]).map (Value.int .u8))):=by
    have h9:A.ownsRow d.heap.size 5 1 (Yz K (j+1) l) (j+1) ((f++[97+y]).map (Value.int .u8)):=by simpa using H
    exact h9
   clear H G m F q Q D o N z x E;go_wp2;exact⟨⟨j+1,K,l,f++[97+y],Yv,by simp[I],Yn,Yu,O5,H4,G4⟩,Ys⟩
  .have hd:decide ((j:Int)<=k)=false:=by simpa using hlt
   have zG:=run_convert_bytes_arg (P:=prog) wr 22 5 underlying22 underlying5 g 0 j cap f I (fun i R=>by
    rw[Nat.zero_add,o.o.cellAt i Yt,List.getElem?_map,Zv Yv];simp[List.getD,Zv (show i<f.length by omega)]) 9 underlying9
   have zI:=GY f;generalize strOfNums f=T at *
   go_wp2;go_ret;exact⟨T,rfl,Yv,⟨_,z.o,Yv,Yv⟩,x.o⟩
def QM(w:Zh)(a:Zk)(n:Nat):Prop:=n=0\/∃q off,a=some ⟨q,off,none⟩/\q<w.heap.size/\∀j,j<n->∃x:Int,w.cell? (Zd q (off+j))=some (.int .u8 x)/\0<=x/\x<256
theorem QM.below(h:QM w a n)(c:Zz w e):QM e a n:=by
 rcases h with h|⟨q,b,i,d,l⟩
 .exact .inl h
 .refine .inr ⟨q,b,i,Zr d c.size,fun j k=> ?_⟩;obtain⟨x,f,g⟩:=l j k;exact⟨x,(c.cell (p:=⟨q,b+j,none⟩) d).trans f,g⟩
theorem Ic(h:Zz w X)(a:X.grownBy Y (some b))(d:w.heap.size<=b):Below w.heap.size w Y:=
 h.trans ⟨a.os,a.tape,a.output,a.size,fun i c=>a.block i (Zr c h.size) (fun e=>by injection e with e;omega)⟩
theorem Tr(b:Nat)(a:Zk)(n c:Nat)(p:Int)(w:Zh)(h:AT w b a n c p)(o:0<=p)(j:p<=1000000):
 Calls prog 14 #[Yy b,Ze] w fun e d=>e=.returned Ze/\AT d b a n c (p+1)/\w.grownBy d (some b):=by
 have HN:Hid (AT (w.setCell (Zd b 1) (Zg (p+1))) b a n c (p+1)/\w.grownBy (w.setCell (Zd b 1) (Zg (p+1))) (some b)):=⟨h.next _,OJ _ _ _ _⟩;obtain⟨k,l,m,g,i,f⟩:=h;have q:IntKind.i64.wrap (p+1)=p+1:=Cs Yv Yv;clear f;go_enter func14,ntmps14;go_wp2;go_ret;exact⟨rfl,HN.o.1,HN.o.2⟩
theorem US(b:Nat)(a:Zk)(n c:Nat)(p:Int)(m:Nat)(w:Zh)(h:AT w b a n c p)(j:0<=p)(f:p<=1000000)(k:m<=10000):
 Calls prog 14 #[Yy b,Zg m] w fun e d=>∃r:Nat,e=.returned (Zg r)/\(m=0\/r<m)/\AT d b a n c (p+1)/\w.grownBy d (some b):=by
 by_cases hz:m=0
 .subst hz;refine(Tr b a n c p w h j f).mono ?_;rintro e d ⟨rfl,g,i⟩;exact⟨0,rfl,.inl rfl,g,i⟩
 .refine(Bq b a n c p m w h j f Yv Yv).mono ?_;rintro e d ⟨r,rfl,r0,l,g,i⟩;exact⟨r.toNat,by congr 2;omega,.inr Yv,g,i⟩
theorem YZ:prog.cellsOf 5=1:=Yr
theorem Rx{H:Type}{q:TypeId×Value->H}{W:Zh}{e:Nat}{spare:Nat->Bool}{held:Bool}{f:Nat}{v:Value}{y:DataW H×List MemPlace}
 (h:DataW.trod q prog W e spare held f 22 [v]=some y):
 ∃a n cap,v=.slice a n cap/\QM W a n/\n<=cap/\n<=maxLen:=by
 rcases Go.Deep.open_slice1 underlying22 YZ h with⟨c,_⟩|⟨a,len,cap,m,n,V,D,A,c,_,u,C,r,_,i⟩
 .simp at c;subst c;exact⟨none,0,0,rfl,.inl rfl,Zx,Nat.zero_le _⟩
 .simp at c;subst c;refine⟨some a,len,cap,rfl,?_,u,by omega⟩;have x:len<=m:=by rw[r];split<;>omega
  by_cases h0:len=0
  .exact .inl h0
  .obtain⟨b,g,spot⟩:=a;have d:spot=none:=by simpa [Addr.add]using World.cell?_spot (i 0 (by omega)).1
   subst d;refine .inr ⟨b,g,rfl,?_,fun j B=> ?_⟩
   .exact World.block_lt_of_cell? W ⟨b,g+0,none⟩ (by rw[<-Go.WideShapes.add_plain];exact(i 0 (by omega)).1)
   .obtain⟨k,s⟩:=i j (by omega);obtain⟨z,o,_,w⟩:=DataW.trod_int underlying5 s;simp at o;rw[Go.WideShapes.add_plain,o]at k;refine⟨z,k,?_⟩;have t:=range_u8 (zs:=[z]) (by intro n l;simp at l;subst l;exact w) 0;simp at t;omega
end Go.Proofs.YtoglnpagihdhpaaGreatDoor
