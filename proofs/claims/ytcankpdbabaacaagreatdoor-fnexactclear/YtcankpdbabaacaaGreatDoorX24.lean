import Derived.Test.YtcankpdbabaacaaGreatDoorX23
import Derived.Lib.OwnKind
set_option maxRecDepth 100000
set_option maxHeartbeats 16000000
namespace Go.Proofs.YtcankpdbabaacaaGreatDoor
open Go.ChangeShapes Go.WideShapes Go.ChangeAt Go.RowKit _root_.Go.Proofs.Tryz
variable{B b d m j:Nat}{c V n W w:Zh}{f a u g i:Int}{O P L e:Value}{t:List Pd}{s:List Ld}{row:Option Nat}{r:List Kd}
section
open Go.RowKit
attribute [local go_sem] Oper.semAt_some
theorem Cu.and{J K:Nat->Zh->Prop}(h:Cu B J)(k:Cu B K):Cu B (fun n W=>J n W/\K n W):=
 fun n W a row c b d=>⟨h n W a row c.1 b d,k n W a row c.2 b d⟩
theorem EL{c:Nat}(w:Zh)(i:c<=w.heap.size)(h:c<=B):Cu B (fun _ W=>Below c w W):=
 fun _ W g row a b f=>⟨b.os.trans a.os,b.tape.trans a.tape,b.output.trans a.output,Zm a.size b.size,fun k d=>
  (b.block k (by have:=a.size;omega) (fun e=>by have:=(f k e.symm).1;omega)).trans (a.block k d)⟩
theorem CZ(o:Obj)(g:b<B):Cu B (fun _ W=>W.heap[b]?=some o):=
 fun _ W f row a c d=>(c.block b (Array.getElem?_eq_some_iff.1 a).1 (fun e=>by have:=(d b e.symm).1;omega)).trans a
theorem PA(a i:Zk)(cap b:Nat)(c f:Zl)(n0:Nat)(w:Zh)(I:Ad w n0 a c)(y:Ad w n0 i f)(G:n0<=w.heap.size)(hl:c.length<=maxLen)(zC:f.length<=maxLen):
 GB prog 65 (fun l=> #[.agg #[.slice a c.length cap,.slice i f.length b],.func (.yield l) #[] #[]]) (c++f) n0 w:=by
 intro l J S W P u r T h0 m;refine callsIn_of_wp_marks func65 rfl trivial ?_ rfl;simp only[ntmps65,List.size_toArray,List.length_cons,List.length_nil,Nat.reduceAdd,Nat.reduceSub,Array.replicate_succ,Array.replicate_zero,List.push_toArray,List.append_toArray,List.nil_append,List.cons_append]
 gi_wp2
 have Z:=Zm G P.size;obtain⟨p,o⟩:∃p,p=(W.alloc (.cells #[.slice a c.length cap,.slice i f.length b] 115)).alloc (.cells #[.func (.yield l) #[] #[]] 170):=⟨_,rfl⟩;have zM:p.heap.size=W.heap.size+2:=by rw[o];simp
 have zB:p.heap[W.heap.size]?=some (.cells #[.slice a c.length cap,.slice i f.length b] 115):=by rw[o];exact(Below.heap_alloc _ _ _ Yv).trans (World.alloc_heap_new _ _)
 have zH:p.heap[W.heap.size+1]?=some (.cells #[.func (.yield l) #[] #[]] 170):=by rw[o];have:=World.alloc_heap_new (W.alloc (.cells #[.slice a c.length cap,.slice i f.length b] 115)) (.cells #[.func (.yield l) #[] #[]] 170);rwa[World.size_alloc]at this
 have M:Below n0 W p:=by rw[o];exact((Below.refl _ W).alloc Z _).alloc Yu _
 have Y:J 0 p:=by rw[o];exact u.alloc _ (u.alloc _ h0)
 rw[<-o];clear o;have zE:=(I.below (P.mono G)).below M;have zF:=(y.below (P.mono G)).below M;refine Ji (gf:=105) (pre:= #[.agg #[.slice a c.length cap]]) (lb:= #[]) rfl (enters_of func105 Yt rfl) (xs:=c) (n0:=n0)
  (by simpa using UN a cap c n0 p zE Yw hl) Yw rfl
  (fun k V=>J k V/\Below n0 p V/\V.heap[W.heap.size]?=some (.cells #[.slice a c.length cap,.slice i f.length b] 115)/\V.heap[W.heap.size+1]?=some (.cells #[.func (.yield l) #[] #[]] 170))
  S ((u.mono Yw).and ((EL p Yw Yw).and ((CZ _ Yw).and (CZ _ Yw)))) (r.mono Yw)
  ⟨Y,Below.refl _ _,zB,zH⟩ (fun s=>{tmps:= #[.agg #[.slice a c.length cap,.slice i f.length b],.func (.yield l) #[] #[],Yz W.heap.size,Yz (W.heap.size+1),.string s,undef,
   Yz W.heap.size,.agg #[.slice a c.length cap],.func (.func 105) #[.agg #[.slice a c.length cap]] #[],.string s,undef,undef,undef,undef,undef,undef,undef,undef,undef,undef,undef],defers:=[]}) ?assign ?body ?done ?stop
 case assign=>
  intro z A s V K d
  gi_wp2
  exact d
 case body=>
  rintro z A k s V H ⟨n,C,v,j⟩ zG;obtain⟨fn,tmps,assign,body,hy,O⟩:=T k V s (by rw[List.getElem?_append_left (Zw H).1];exact H) n Yw (A -1);have zA:V.cell? (Ze (W.heap.size+1) 0)=some (.func (.yield l) #[] #[]):=by simp[World.cell?,j]
  gi_wp2
  refine⟨fun h=>by simp[Fence.wide]at h,RoundIn.mono (F:=Fence.wide.inRound z) O ?_⟩;rintro e V3 ⟨g,(⟨rfl,B,x⟩|⟨rfl,q⟩)⟩
  .gi_wp2
   exact⟨g.mono Yw,⟨B,C.trans x,g.same _ _ Yw v rfl,g.same _ _ Yw j rfl⟩,x⟩
  .gi_wp2
   exact⟨g.mono Yw,q⟩
 case done=>
  rintro D V hD ⟨n,C,v,j⟩ d;have zJ:V.cell? (Ze (W.heap.size) 0)=some (.slice a c.length cap):=by simp[World.cell?,v]
  have zK:V.cell? (Ze (W.heap.size) 1)=some (.slice i f.length b):=by simp[World.cell?,v]
  gi_wp2
  have L:=(Array.getElem?_eq_some_iff.1 d).1;have zI:=(Array.getElem?_eq_some_iff.1 j).1;refine Ji (gf:=106) (pre:= #[.agg #[.slice a c.length cap,.slice i f.length b]]) (lb:= #[]) rfl (enters_of func106 Yt rfl) (xs:=f) (n0:=n0)
   (by simpa using UO (.slice a c.length cap) i b f n0 V (zF.below C) Yw zC) Yw rfl
   (fun k X=>J (c.length+k) X/\X.heap[W.heap.size+1]?=some (.cells #[.func (.yield l) #[] #[]] 170)/\X.heap[D]?=some (.deferred (some [])))
   (fun _ X=>(∃k,S k X)/\X.heap[D]?=some (.deferred (some [])))
   (Cu.and (fun k X N row n Q R=>(u.mono Yw) (c.length+k) X N row n Q R) ((CZ _ zI).and (CZ _ L))) (Cu.and (fun _ X N row n Q R=>n.elim fun k hk=>⟨k,(r.mono Yw) k X N row hk Q R⟩) (CZ _ L))
   ⟨n,j,d⟩ (fun s=>{tmps:= #[.agg #[.slice a c.length cap,.slice i f.length b],.func (.yield l) #[] #[],Yz W.heap.size,Yz (W.heap.size+1),undef,.string s,
    Yz W.heap.size,.agg #[.slice a c.length cap],.func (.func 105) #[.agg #[.slice a c.length cap]] #[],undef,undef,undef,undef,undef,
    .agg #[.slice a c.length cap,.slice i f.length b],.func (.func 106) #[.agg #[.slice a c.length cap,.slice i f.length b]] #[],.string s,undef,undef,undef,undef],defers:=[]}) ?assign2 ?body2 ?done2 ?stop2
  case assign2=>
   intro z A s X K d
   gi_wp2
   exact d
  case body2=>
   rintro z A k s X H ⟨n,j,d⟩ zG;obtain⟨fn,tmps,assign,body,hy,O⟩:=T (c.length+k) X s (by rw[List.getElem?_append_right Yw,Nat.add_sub_cancel_left];exact H) n Yw (A -1);have zA:X.cell? (Ze (W.heap.size+1) 0)=some (.func (.yield l) #[] #[]):=by simp[World.cell?,j]
   gi_wp2
   refine⟨fun h=>by simp[Fence.wide]at h,RoundIn.mono (F:=Fence.wide.inRound z) O ?_⟩;rintro e V3 ⟨g,(⟨rfl,B,x⟩|⟨rfl,q⟩)⟩
   .gi_wp2
    exact⟨g.mono Yw,⟨B,g.same _ _ Yw j rfl,g.same _ _ Yw d rfl⟩,x⟩
   .gi_wp2
    exact⟨g.mono Yw,⟨_,q⟩,g.same _ _ Yw d rfl⟩
  case done2=>
   rintro D2 X U ⟨n,j,d⟩ t
   gi_wp2
   refine⟨Yv,.inl ⟨_,_,rfl,run_takeDeferred t,Yv,.inl ⟨_,_,rfl,run_takeDeferred ((World.putObj_heap_other Yw).trans d),?_⟩⟩⟩;refine⟨_,results_none rfl _ _ _,⟨_,rfl⟩,.inl ?_⟩;rw[List.length_append];exact u.putObj _ (u.putObj _ n Yw t rfl) Yw ((World.putObj_heap_other Yw).trans d) rfl
  case stop2=>
   rintro D2 k X U ⟨⟨k2,E⟩,d⟩ t
   gi_wp2
   refine⟨Yv,.inl ⟨_,_,rfl,run_takeDeferred t,Yv,.inl ⟨_,_,rfl,run_takeDeferred ((World.putObj_heap_other Yw).trans d),?_⟩⟩⟩;refine⟨_,results_none rfl _ _ _,⟨_,rfl⟩,.inr ⟨k2,?_⟩⟩;exact r.putObj _ (r.putObj _ E Yw t rfl) Yw ((World.putObj_heap_other Yw).trans d) rfl
 case stop=>
  rintro D k V hD E d
  gi_wp2
  refine⟨Yv,.inl ⟨_,_,rfl,run_takeDeferred d,?_⟩⟩;exact⟨_,results_none rfl _ _ _,⟨_,rfl⟩,.inr ⟨k,r.putObj _ E Yw d rfl⟩⟩
end
theorem Dr.fv{f:Nat}{t k b:Int}{p:List Kd}{s:List Pd}{q:List Ld}(h:Dr V f d m O P L t k b a p s q)(D:d<B)(E:m<B)(C:f<=B)(v:V.grownBy n row)(x:∀r,row=some r->B<=r/\∃o,V.heap[r]?=some o/\Bs o=true):Dr n f d m O P L t k b a p s q:=by
 refine(DU.Y ⟨h⟩ (BV v) (fun r u=> ?_)).I;obtain⟨A,o,i,j⟩:=x r (by simpa using u);refine⟨Yw,fun l=> ?_,fun y z e=> ?_⟩
 .unfold vB at l;simp only[List.mem_cons,List.mem_append,Option.mem_toList]at l;rcases l with e|e|e|e|e
  .omega
  .omega
  .obtain⟨c,g⟩:=Cx h.ord e;rw[i]at g;cases g;simp[Bs]at j
  .obtain⟨c,g⟩:=Cx h.cg e;rw[i]at g;cases g;simp[Bs]at j
  .obtain⟨c,g⟩:=Cx h.ci e;rw[i]at g;cases g;simp[Bs]at j
 .rw[i]at e;cases e;simp[Bs]at j
theorem Dr.bt{k:Nat}{n:Int}(h:Dr V k d m O P L u n g f r t s){o:Obj}(j:V.heap[b]?=some o)(i:Bs o=true)(p:b≠d)(q:b≠m):b∉vB d m O P L/\NS V b:=by
 refine⟨fun l=> ?_,fun v x e=> ?_⟩
 .unfold vB at l;simp only[List.mem_cons,List.mem_append,Option.mem_toList]at l;rcases l with e|e|e|e|e
  .exact p e
  .exact q e
  .obtain⟨c,a⟩:=Cx h.ord e;rw[j]at a;cases a;simp[Bs]at i
  .obtain⟨c,a⟩:=Cx h.cg e;rw[j]at a;cases a;simp[Bs]at i
  .obtain⟨c,a⟩:=Cx h.ci e;rw[j]at a;cases a;simp[Bs]at i
 .rw[j]at e;cases e;simp[Bs]at i
theorem Dr.rebase{e:Nat}{l c:Int}{k:List Pd}{j:List Ld}(h:Dr V e d m O P L l i c a [] k j)(g:b<=e):Dr V b d m O P L l i c a [] k j:=by
 obtain⟨n,f,o,p,q⟩:=h.map;refine⟨h.box,⟨n,f,o,p,fun s r=> ?_⟩,h.ord.mono g,h.cg.mono g,h.ci.mono g,Zm g h.bd,Zm g h.bm,h.ap⟩;rcases q s r with h|⟨u,_,_,hu,_⟩
 .exact .inl h
 .simp at hu
theorem Dr.gp{q:Int}(h:Dr V j d m O P L u q g f r t s)(x:d<B)(y:m<B)(p:Tn (vB d m O P L) V n):Bt B V n:=by
 refine⟨p.size,fun b o v i k=>(p.block b (Array.getElem?_eq_some_iff.1 i).1 (fun l=> ?_)).trans i⟩;unfold vB at l;simp only[List.mem_cons,List.mem_append,Option.mem_toList]at l;rcases l with e|e|e|e|e
 .omega
 .omega
 .obtain⟨c,a⟩:=Cx h.ord e;rw[i]at a;cases a;simp[Bs]at k
 .obtain⟨c,a⟩:=Cx h.cg e;rw[i]at a;cases a;simp[Bs]at k
 .obtain⟨c,a⟩:=Cx h.ci e;rw[i]at a;cases a;simp[Bs]at k
theorem Bt.jb(d:W.grownBy c row)(a:∀j,row=some j->j<B):Bt B W c:=
 ⟨d.size,fun b _ f h _=>(d.block b (Array.getElem?_eq_some_iff.1 h).1 (fun e=>by have:=a b e.symm;omega)).trans h⟩
theorem Bt.below{a:Zh}(h:Zz V a):Bt B V a:=⟨h.size,fun b _ _ c _=>(h.block b (Array.getElem?_eq_some_iff.1 c).1).trans c⟩
section
attribute [local go_sem] Oper.semAt_some
theorem Ri{z:Nat}{T U:TypeId}{v:Value}(g:Boxed V (z+1) T (.pointer none))(d:Boxed V (z+1+1) U v)(h:z+1+1<B)(u:Value):Bt B V ((V.setCell (Ze (z+1) 0) (.pointer none)).setCell (Ze (z+1+1) 0) u)/\Below z V ((V.setCell (Ze (z+1) 0) (.pointer none)).setCell (Ze (z+1+1) 0) u)/\Boxed ((V.setCell (Ze (z+1) 0) (.pointer none)).setCell (Ze (z+1+1) 0) u) (z+1) T (.pointer none)/\Boxed ((V.setCell (Ze (z+1) 0) (.pointer none)).setCell (Ze (z+1+1) 0) u) (z+1+1) U u:=by
 have b:=grownBy_setCell' V (z+1) (.pointer none);have c:=grownBy_setCell' (V.setCell (Ze (z+1) 0) (.pointer none)) (z+1+1) u;have a:=g.set (.pointer none);have f:Boxed (V.setCell (Ze (z+1) 0) (.pointer none)) (z+1+1) U v:=(b.block _ (Array.getElem?_eq_some_iff.1 d).1 (fun e=>by have:=Option.some.inj e;omega)).trans d
 refine⟨(Bt.jb b (fun j e=>by cases e;omega)).trans (Bt.jb c (fun j e=>by cases e;omega)),(Below.setCell (Below.setCell (Below.refl _ _) (show z<=z+1 by omega) _) (show z<=z+1+1 by omega) _),(c.block _ (Array.getElem?_eq_some_iff.1 a).1 (fun e=>by have:=Option.some.inj e;omega)).trans a,f.set u⟩
theorem SM(f:Int)(gf:Nat)(pre lb:Array Value)(xs:Zl)(w:Zh)(h1:1<=f)(h8:f<=8)(hx:xs.length<=100000)(hs:∀s∈xs,s.size<=1048576)(hE:Env w)(eg:∀args w,(callFunc gf args).run prog w=.ok (.enter gf args) w)(yJ:∀W,Zz w W->GB prog gf (fun l=>pre++ #[.func (.yield l) #[] #[]]++lb) xs w.heap.size W):
 Calls prog 63 #[Zg f,.func (.func gf) pre lb] w fun e w'=>Zz w w'/\((∃n:Nat,DA f xs n/\e=.returned (.tuple #[.pointer none,Zg n]))\/(∃r d m O P L zI,Ds f r0 xs r/\e=.returned (.tuple #[Yz d,Zf])/\Dr w' zI d m O P L f r.F r.G r.E r.A r.ps r.ls/\(w.heap.size<=zI/\zI+4<=m))):=by
 refine(callsIn_wide (n:=3)).1 ?_;refine callsIn_of_wp_marks func63 rfl trivial ?_ rfl;simp only[ntmps63,List.size_toArray,List.length_cons,List.length_nil,Nat.reduceAdd,Nat.reduceSub,Array.replicate_succ,Array.replicate_zero,List.push_toArray,List.append_toArray,List.nil_append,List.cons_append]
 obtain⟨W0,N⟩:∃W,W=((w.alloc (.cells #[Zg f] 3)).alloc (.cells #[.pointer none] 108)).alloc (.cells #[Zf] 3):=⟨_,rfl⟩;have b0:=(Bq N).1;have z0:=(Bq N).2.1;have HD:=Yx (OK f 0 0 0 none none none 0 0 0 [] [] [] W0 ⟨.inl rfl,.inl rfl,.inl rfl⟩ Yv Yv Yv Yv h8);have yL:=Yx N
 gi_wp2_with fail
 refine⟨trivial,?_⟩;rw[<-yL.o];refine(callsIn_wide.2 HD.o).mono ?_;rintro e o ⟨d,m,O,P,L,rfl,zB,_,_,zF⟩;have yC:=b0.trans (zF.mono b0.size);obtain⟨u,zE⟩:∃W,W=(o.alloc (.cells #[Yz d] 108)).alloc (.cells #[Zf] 3):=⟨_,rfl⟩;have yM:=Yx zE;have z:=(Bo zE).1;have zM:Below w.heap.size w u:=yC.trans (z.mono yC.size);have z2:=(Bo zE).2.1;have xG:w.heap.size+3<=o.heap.size:=by have:=zF.size;omega
 have x2:Boxed u w.heap.size 3 (Zg f):=by show u.heap[w.heap.size]?=_;rw[z.block _ Yw,zF.block _ Yw,N,Below.heap_alloc _ _ _ Yu,Below.heap_alloc _ _ _ Yv];exact heap_alloc_new w _
 have x4:Boxed u (w.heap.size+1) 108 (.pointer none):=by show u.heap[w.heap.size+1]?=_;rw[z.block _ Yw,zF.block _ Yw,N,Below.heap_alloc _ _ _ Yv];have:=heap_alloc_new (w.alloc (.cells #[Zg f] 3)) (.cells #[.pointer none] 108);rw[World.size_alloc]at this;exact this
 have x5:Boxed u (w.heap.size+1+1) 3 Zf:=by show u.heap[w.heap.size+1+1]?=_;rw[z.block _ Yw,zF.block _ Yw,N];have:=heap_alloc_new ((w.alloc (.cells #[Zg f] 3)).alloc (.cells #[.pointer none] 108)) (.cells #[Zf] 3);rw[World.size_alloc,World.size_alloc]at this;exact this
 have x6:Boxed u o.heap.size 108 (Yz d):=by show u.heap[o.heap.size]?=_;rw[zE,Below.heap_alloc _ _ _ Yv];exact heap_alloc_new o _
 have x7:Boxed u (o.heap.size+1) 3 Zf:=by show u.heap[o.heap.size+1]?=_;rw[zE];have:=heap_alloc_new (o.alloc (.cells #[Yz d] 108)) (.cells #[Zf] 3);rw[World.size_alloc]at this;exact this
 have yE:d<o.heap.size:=zB.cf d (by simp[vB]);have yF:m<o.heap.size:=zB.cf m (by simp[vB]);have xB:=zB.bd;have xD:=zB.bm;have yV:Dr u w.heap.size d m O P L f 0 0 0 [] [] []:=(zB.below z).rebase Yw;have HE:Hid (∀V,Zz w V->Env V):=fun V hV=>hE.below hV;clear HD yL N zE zB zF z yC b0 hE
 gi_wp2_with fail
 rw[<-yM.o];clear yM;have Q:∀(b:Nat) (T:TypeId) (v:Value),b<u.heap.size->Cu u.heap.size (fun _ V=>Boxed V b T v):=fun b T v C=>CZ (.cells #[v] T) C;refine Ji (gf:=gf) (pre:=pre) (lb:=lb) rfl eg (xs:=xs) (n0:=w.heap.size) (yJ u zM) zM.size rfl
  (fun k V=>Zz w V/\Boxed V w.heap.size 3 (Zg f)/\Boxed V (w.heap.size+1) 108 (.pointer none)/\Boxed V (w.heap.size+1+1) 3 Zf/\Boxed V o.heap.size 108 (Yz d)/\Boxed V (o.heap.size+1) 3 (Zg k)/\∃r O P L,Ds f r0 (xs.take k) r/\Dr V w.heap.size d m O P L f r.F r.G r.E r.A r.ps r.ls)
  (fun _ V=>Zz w V/\∃n:Nat,DA f xs n/\Boxed V (w.heap.size+1) 108 (.pointer none)/\Boxed V (w.heap.size+1+1) 3 (Zg n))
  ?stI ?stX ⟨zM,x2,x4,x5,x6,x7,r0,O,P,L,rfl,yV⟩
  (fun s=>{tmps:= #[Zg f,.func (.func gf) pre lb,Yz w.heap.size,undef,Yz (w.heap.size+1),Yz (w.heap.size+1+1),Yz o.heap.size,Yz (o.heap.size+1),.string s,undef,undef,Zg f,.agg #[Zg f,Zf,Zf,Zf,Zc,Zc,Zc],Yz d,.func (.func gf) pre lb,.string s,undef,undef,undef,undef,undef,undef,undef,undef,undef,undef,undef,undef,undef,undef,undef,undef,undef,undef,undef],defers:=[]}) ?assign ?body ?done ?stop
 case stI=>
  refine fun k V S row hJ E M=> ?_;obtain⟨q1,q2,q3,q4,q5,q6,r,O,P,L,q7,q8⟩:=hJ;exact⟨EL w (Zx) zM.size k V S row q1 E M,Q _ _ _ Yw k V S row q2 E M,Q _ _ _ Yw k V S row q3 E M,Q _ _ _ Yw k V S row q4 E M,Q _ _ _ Yw k V S row q5 E M,Q _ _ _ Yw k V S row q6 E M,r,O,P,L,q7,q8.fv (B:=u.heap.size) Yw Yw Yw E M⟩
 case stX=>
  refine fun k V S row hJ E M=> ?_;obtain⟨q1,n,q2,q3,q4⟩:=hJ;exact⟨EL w (Zx) zM.size k V S row q1 E M,n,q2,Q _ _ _ Yw k V S row q3 E M,Q _ _ _ Yw k V S row q4 E M⟩
 case assign=>
  intro l2 m2 s V K hK
  gi_wp2
  exact hK
 case body=>
  rintro l2 m2 k s V zS ⟨zH,y2,y4,y5,y6,y7,r,O,P,L,y,BZ⟩ yS;have yZ:k<xs.length:=(Zw zS).1;obtain⟨F,zC⟩:∃F,F=V.setCell (Ze (o.heap.size+1) 0) (Zg ((k:Int)+1)):=⟨_,rfl⟩;have A:V.grownBy F (some (o.heap.size+1)):=by rw[zC];exact grownBy_setCell' V _ _
  have xL:F.heap.size=V.heap.size:=by rw[zC];simp
  have zX:Below w.heap.size w F:=by rw[zC];exact zH.setCell (p:=⟨o.heap.size+1,0,none⟩) (by show w.heap.size<=o.heap.size+1;omega) _
  have u7:Boxed F (o.heap.size+1) 3 (Zg ((k:Int)+1)):=by rw[zC];exact y7.set _
  have ou:∀{b:Nat} {T:TypeId} {v:Value},Boxed V b T v->b≠o.heap.size+1->Boxed F b T v:=fun {b T v} C hne=>(A.block b (Array.getElem?_eq_some_iff.1 C).1 (fun e=>hne (Option.some.inj e))).trans C;have u2:=ou y2 Yw;have u4:=ou y4 Yw;have u5:=ou y5 Yw;have u6:=ou y6 Yw
  have zV:=BZ.fv (B:=o.heap.size) yE yF Yw A (fun q e=>by cases e;exact⟨Yw,_,y7,by simp[Bs]⟩);have HR:=Yx (Sp s f F (hs s (Zs zS)) (HE.o F zX));have c7:=y7.cell;have f7:=y7.frozen;have c2:=y2.cell;have xF:¬w.heap.size=o.heap.size+1:=Yw
  have yK:=Yx zC;clear zC
  gi_wp2_with fail
  rw[<-yK.o];clear yK;refine⟨trivial,fun h=>by simp[Fence.wide]at h,?_⟩;refine(callsIn_wide.2 HR.o).mono ?_;rintro e V2 ⟨v,rfl,yA,z⟩;obtain⟨ra,rc,rfl⟩:=As yA;obtain⟨J,zZ⟩:∃J,J=V2.alloc (.cells (Yh ((AE s f).k) ((AE s f).sum) ((AE s f).name) ((AE s f).n) ((AE s f).t) ra ((AE s f).ss.length) rc) 66):=⟨_,rfl⟩;have zU:=(AA zZ).1;have zG:Below F.heap.size F J:=z.trans (zU.mono z.size)
  have zK:Below w.heap.size w J:=zX.trans (zG.mono zX.size);have o3:∀{b:Nat} {T:TypeId} {v:Value},Boxed F b T v->Boxed J b T v:=fun {b T v} C=>(zG.block b (Array.getElem?_eq_some_iff.1 C).1).trans C;have t2:=o3 u2;have t4:=o3 u4;have t5:=o3 u5;have t6:=o3 u6;have t7:=o3 u7;have t:=zV.below zG;have e3:=(AA zZ).2.2
  have yH:Bt u.heap.size V J:=(Bt.jb A (fun j e=>by cases e;omega)).trans (Bt.below zG);have yI:Below w.heap.size V J:=(show Below w.heap.size V F from⟨A.os,A.tape,A.output,A.size,fun b C=>A.block b (by have:=zH.size;omega) (fun e=>by have:=Option.some.inj e;omega)⟩).trans (zG.mono zX.size);have yB:=Yx zZ;have xK:w.heap.size+3<=V2.heap.size:=by have h1:=z.size;have h2:=yS;omega
  have xJ:o.heap.size+1<V2.heap.size:=by have h1:=z.size;have h2:=yS;omega
  clear zZ;cases hok:(AE s f).ok with
  |false=>
   have zJ:DA f xs (k+1):=⟨k,r,s,rfl,zS,y,.inl hok⟩;have yU:=t7.cell;have f5:=t5.frozen;have f4:=t4.frozen;have d4:=t4.cell;have d5:=t5.cell;clear c7 c2 f7 e3 HR yA;have HS:=Yx (Ri (B:=u.heap.size) t4 t5 Yw (Zg ((k:Int)+1)))
   gi_wp2_with fail
   rw[<-yB.o];refine⟨trivial,?_⟩
   gi_wp2_with fail
   gi_region
   all_goals gi_wp2_with fail
   all_goals exact⟨yH.trans ⟨HS.o.1.size,HS.o.1.same⟩,zK.trans HS.o.2.1.drew,k+1,zJ,HS.o.2.2.1,HS.o.2.2.2⟩
  |true=>
   have yQ:=(JR hok).1;have zT:Il f r.F r.G r.E r.A r.ps r.ls (AE s f).k (AE s f).n (AE s f).t (AE s f).ss:=Hu.jg (y.ok (GW h1 h8)) yQ (by have:=Pn yQ;unfold maxLen;omega);have yG:=Ae yA zU;have Z:=zV.cf;have zW:DG J w.heap.size (vB d m O P L) ra (AE s f).ss:=by
    rcases yG.2 with⟨_,h0⟩|⟨g,cap,yN,hv,xC,E,_⟩
    .exact .inl (List.eq_nil_of_length_eq_zero h0)
    .cases hv;refine .inr ⟨g,0,rfl,(Array.getElem?_eq_some_iff.1 E).1,fun G=>by have:=Z g G;omega,.inr ⟨Yw,yN,E⟩,fun i x hx=> ?_⟩;rcases Ad.own yG with h|⟨b',xA,e',_,hc⟩
     .rw[h]at hx;simp at hx
     .cases e';exact hc i x hx
   have HA:Hid _:=Qo d (vB d m O P L) (AE s f).k (AE s f).sum (AE s f).name (AE s f).t (AE s f).n ra (AE s f).ss.length rc (fun c a b=>GJ f r.F r.G r.E r.A r.ps r.ls (AE s f).k (AE s f).sum (AE s f).name (AE s f).n (AE s f).t (AE s f).ss c a b) (fun sm le X=>∃r',FO f r.F r.G r.E r.A r.ps r.ls (AE s f).k (AE s f).sum (AE s f).name (AE s f).n (AE s f).t (AE s f).ss r'/\r'.sm=sm/\r'.le=le/\Us w.heap.size d m f r' X) J t.cf (fun sm le X X' R yN q1 q2 q3 q4=>by
    obtain⟨r',A,g2,g3,g4⟩:=q1;have xH:=zG.size;exact⟨r',A,g2,g3,g4.stays q2 Yw Yw q4⟩) (fun X hX=>Sj w.heap.size d m O P L f r.F r.G r.E r.A r.ps r.ls (AE s f).k (AE s f).sum (AE s f).name (AE s f).n (AE s f).t (AE s f).ss ra rc X (DU.below ⟨t⟩ hX) zT (zW.move (U:=[]) (Tn.of hX) Yv (fun b C=> .inl C)))
   have d6:V2.cell? (Ze (o.heap.size) 0)=some (Yz d):=(z.cell (p:=⟨o.heap.size,0,none⟩) (by show o.heap.size<_;omega)).trans u6.cell;have xI:o.heap.size<V2.heap.size:=Yw
   have yT:Hid (xs.take (k+1)=xs.take k++[s]):=by have hq:=Zu yZ;rw[(Zw zS).2]at hq;exact hq
   clear c7 c2 f7 HR yA yG zW zT Z e3
   gi_wp2_with fail
   rw[<-yB.o];clear yB;refine⟨trivial,fun h=>by simp[Fence.wide]at h,?_⟩;refine(callsIn_wide.2 HA.o).mono ?_;intro e Y yW;obtain⟨c,a',b',zR,rfl,H⟩|⟨sm,le,rfl,⟨r',hy,_,_,⟨O',P',L',yO⟩⟩,H⟩:=yW
   .have xE:(c !=0)=true:=by have:=zR.code;simp;omega
    have zJ:DA f xs (k+1):=⟨k,r,s,rfl,zS,y,.inr ⟨c,a',b',zR⟩⟩;have I:=t.gp (B:=o.heap.size) yE yF H;have zP:Below w.heap.size J Y:=H.below zK.size (fun b G=>by
     have:=t;unfold vB at G;simp only[List.mem_cons,List.mem_append,Option.mem_toList]at G;rcases G with h|h|h|h|h
     .rw[h];exact this.bd
     .rw[h];exact this.bm
     .exact(Ac this.ord h).1
     .exact(Ac this.cg h).1
     .exact(Ac this.ci h).1)
    have s7:Boxed Y (o.heap.size+1) 3 (Zg ((k:Int)+1)):=I.same _ _ Yw t7 (by simp[Bs]);have s4:Boxed Y (w.heap.size+1) 108 (.pointer none):=(H.block _ (Array.getElem?_eq_some_iff.1 t4).1 (t.bt t4 (by simp[Bs]) Yw Yw).1).trans t4;have s5:Boxed Y (w.heap.size+1+1) 3 Zf:=(H.block _ (Array.getElem?_eq_some_iff.1 t5).1 (t.bt t5 (by simp[Bs]) Yw Yw).1).trans t5
    have HS:=Yx (Ri (B:=u.heap.size) s4 s5 Yw (Zg ((k:Int)+1)));have yU:=s7.cell;have f5:=s5.frozen;have f4:=s4.frozen;have d4:=s4.cell;have d5:=s5.cell;have K4:=Yx (Zn (I.mono (B':=u.heap.size) Yw) zP);clear I zP H zR d6 HA;have yY:∀X:Zh,(Instr.field 88 (.agg #[Zg c,Zf,Zf,Zf,Zf,Zc,Zc,Zc,Zd,Zf,.string a',.string b']) 0).run prog X=.ok (Zg c) X:=fun _=>by kernel_rfl
    have yR:(Cq c a' b').toArray= #[Zg c,Zf,Zf,Zf,Zf,Zc,Zc,Zc,Zd,Zf,.string a',.string b']:=rfl;rw[yR];clear yR
    gi_wp2_with fail
    gi_region
    all_goals gi_wp2_with fail
    all_goals exact⟨(yH.trans K4.o.1).trans ⟨HS.o.1.size,HS.o.1.same⟩,(zK.trans K4.o.2).trans HS.o.2.1.drew,k+1,zJ,HS.o.2.2.1,HS.o.2.2.2⟩
   .have I:=t.gp (B:=o.heap.size) yE yF H;have zP:Below w.heap.size J Y:=H.below zK.size (fun b G=>by
     have:=t;unfold vB at G;simp only[List.mem_cons,List.mem_append,Option.mem_toList]at G;rcases G with h|h|h|h|h
     .rw[h];exact this.bd
     .rw[h];exact this.bm
     .exact(Ac this.ord h).1
     .exact(Ac this.cg h).1
     .exact(Ac this.ci h).1)
    have s7:Boxed Y (o.heap.size+1) 3 (Zg ((k:Int)+1)):=I.same _ _ Yw t7 (by simp[Bs]);have s6:Boxed Y o.heap.size 108 (Yz d):=I.same _ _ Yw t6 (by simp[Bs]);have s2:Boxed Y w.heap.size 3 (Zg f):=(H.block _ (Array.getElem?_eq_some_iff.1 t2).1 (t.bt t2 (by simp[Bs]) Yw Yw).1).trans t2
    have s4:Boxed Y (w.heap.size+1) 108 (.pointer none):=(H.block _ (Array.getElem?_eq_some_iff.1 t4).1 (t.bt t4 (by simp[Bs]) Yw Yw).1).trans t4;have s5:Boxed Y (w.heap.size+1+1) 3 Zf:=(H.block _ (Array.getElem?_eq_some_iff.1 t5).1 (t.bt t5 (by simp[Bs]) Yw Yw).1).trans t5;have zA:Ds f r0 (xs.take (k+1)) r':=by rw[yT.o];exact y.snoc ⟨hok,hy⟩
    have K4:=Yx (Zn (I.mono (B':=u.heap.size) Yw) zP);have HF:=Yx (Zn s7 (Zn s6 (Zn s2 (Zn s4 (Zn s5 (Zn zA yO))))));clear I zP H d6 HA s7 s6 s2 s4 s5 zA yO hy;have yY:∀X:Zh,(Instr.field 88 (.agg #[Zf,Zf,Zf,Zf,Zf,Zc,Zc,Zc,.string sm,Zg le,Zd,Zd]) 0).run prog X=.ok Zf X:=fun _=>by kernel_rfl
    gi_wp2_with fail
    exact⟨yH.trans K4.o.1,⟨zK.trans K4.o.2,HF.o.2.2.1,HF.o.2.2.2.1,HF.o.2.2.2.2.1,HF.o.2.1,HF.o.1,r',O',P',L',HF.o.2.2.2.2.2.1,HF.o.2.2.2.2.2.2⟩,yI.trans K4.o.2⟩
 case done=>
  rintro D V hD ⟨zH,y2,y4,y5,y6,y7,r,O,P,L,y,BZ⟩ hK;rw[Zt (Zx)]at y;have c6:=y6.cell;have f4:=y4.frozen;have d4:=y4.cell;have f5:=y5.frozen;have d5:=y5.cell;have A:=grownBy_setCell' V (w.heap.size+1) (Yz d);have g2:=grownBy_setCell' (V.setCell (Ze (w.heap.size+1) 0) (Yz d)) (w.heap.size+1+1) Zf;obtain⟨R1,zN⟩:∃R,R=V.setCell (Ze (w.heap.size+1) 0) (Yz d):=⟨_,rfl⟩
  obtain⟨R2,zO⟩:∃R,R=R1.setCell (Ze (w.heap.size+1+1) 0) Zf:=⟨_,rfl⟩;rw[<-zN]at A g2;rw[<-zO]at g2;have p4:Boxed R1 (w.heap.size+1) 108 (Yz d):=by rw[zN];exact y4.set _
  have p5:Boxed R1 (w.heap.size+1+1) 3 Zf:=(A.block _ (Array.getElem?_eq_some_iff.1 y5).1 (fun e=>by have:=Option.some.inj e;omega)).trans y5;have q5:Boxed R2 (w.heap.size+1+1) 3 Zf:=by rw[zO];exact p5.set _
  have q4:Boxed R2 (w.heap.size+1) 108 (Yz d):=(g2.block _ (Array.getElem?_eq_some_iff.1 p4).1 (fun e=>by have:=Option.some.inj e;omega)).trans p4
  have zY:R2.heap[D]?=some (.deferred (some [])):=(g2.block _ (by have:=A.size;have:=(Array.getElem?_eq_some_iff.1 hK).1;omega) (fun e=>by have:=Option.some.inj e;omega)).trans ((A.block _ (Array.getElem?_eq_some_iff.1 hK).1 (fun e=>by have:=Option.some.inj e;omega)).trans hK);have yD:=DU.Y ⟨BZ⟩ (BV A) (fun b C=>by
   obtain rfl:b=w.heap.size+1:=by simpa using C
   exact⟨Yw,BZ.bt y4 (by simp[Bs]) Yw Yw⟩)
  have yP:=DU.Y yD (BV g2) (fun b C=>by
   obtain rfl:b=w.heap.size+1+1:=by simpa using C
   exact⟨Yw,yD.I.bt p5 (by simp[Bs]) Yw Yw⟩)
  have yX:=yP.I.fv (B:=u.heap.size) Yw Yw Yw (grownBy_putObj' R2 D (.deferred none)) (fun r e=>by cases e;exact⟨hD,_,zY,rfl⟩);have e4:=cell_kept q4.cell (grownBy_putObj' _ D (.deferred none)) (fun r e=>by cases e;exact⟨_,zY,rfl⟩);have e5:=cell_kept q5.cell (grownBy_putObj' _ D (.deferred none)) (fun r e=>by cases e;exact⟨_,zY,rfl⟩)
  have bR:Below w.heap.size w R2:=by rw[zO,zN];exact(zH.setCell (p:=⟨w.heap.size+1,0,none⟩) (by show _<=_+1;omega) _).setCell (p:=⟨w.heap.size+1+1,0,none⟩) (by show _<=_+1+1;omega) _
  have HR:=Yx (Zn zN zO);clear A g2 zN zO p4 p5 q4 q5 yD yP BZ
  gi_wp2_with fail
  rw[<-HR.o.1,<-HR.o.2];refine⟨Yv,.inl ⟨_,_,rfl,run_takeDeferred zY,?_⟩⟩;refine⟨.tuple #[Yz d,Zf],by simp[results,results63,go_sem,e4,e5],?_,.inr ⟨r,d,m,O,P,L,w.heap.size,y,rfl,yX,Zx,Yw⟩⟩;exact bR.trans ⟨rfl,rfl,rfl,Yv,fun i hi=>World.putObj_heap_other Yw⟩
 case stop=>
  rintro D k V hD ⟨zH,n,zR,y4,y5⟩ hK;have d4:=cell_kept y4.cell (grownBy_putObj' _ D (.deferred none)) (fun r e=>by cases e;exact⟨_,hK,rfl⟩);have d5:=cell_kept y5.cell (grownBy_putObj' _ D (.deferred none)) (fun r e=>by cases e;exact⟨_,hK,rfl⟩)
  gi_wp2
  refine⟨Yv,.inl ⟨_,_,rfl,run_takeDeferred hK,?_⟩⟩;refine⟨.tuple #[.pointer none,Zg n],by simp[results,results63,go_sem,d4,d5],?_,.inl ⟨n,zR,rfl⟩⟩;exact zH.trans ⟨rfl,rfl,rfl,Yv,fun i hi=>World.putObj_heap_other Yw⟩
end
def Adi(wd:Int)(xs:Zl)(w:Zh)(e:Ending)(w':Zh):Prop:=
 ∃(x:An) (T P L:Value) (rs:Zj),Ps wd xs x/\e=.returned (.agg #[Zg x.code,Zg x.wd,Zg x.F,Zg x.G,Zg x.E,T,P,L,.string x.sm,Zg x.le,.string x.a,.string x.b])/\Bf w' w.heap.size T P L rs x.A x.ps x.ls/\Zz w w'
section
attribute [local go_sem] Oper.semAt_some
theorem KE(p:Nat->Prop):Cu B (fun k _=>p k):=fun _ _ _ _ h _ _=>h
theorem Bt.of_grownBy(d:W.grownBy c row)(a:∀j,row=some j->j<B):Bt B W c:=
 ⟨d.size,fun b _ f h _=>(d.block b (Array.getElem?_eq_some_iff.1 h).1 (fun e=>by have:=a b e.symm;omega)).trans h⟩
theorem Jj(a b:Zk)(n m c d:Nat)(w:Zh):
 Calls prog 64 #[.agg #[.slice a n c,.slice b m d]] w fun e g=>e=.returned (.agg #[.slice a n c,.slice b m d])/\Zz w g:=by
 have f:Below w.heap.size w ((w.alloc (.cells #[.slice a n c,.slice b m d] 35)).alloc (.cells #[.slice a n c,.slice b m d] 115)):=(Zy).alloc Yv _;go_enter func64,ntmps64;go_wp2;refine bodyPost_ret (v:=.agg #[.slice a n c,.slice b m d]) (by simp[results,results64,go_sem]) rfl ⟨rfl,?_⟩;exact f
theorem Nq(a b:Zk)(n m c d:Nat)(w:Zh)(i:n<=1048576)(h:m<=1048576):
 Calls prog 72 #[.agg #[.slice a n c,.slice b m d]] w fun e g=>e=.returned (Zg (n+m))/\Zz w g:=by
 have f:Below w.heap.size w (w.alloc (.cells #[.slice a n c,.slice b m d] 115)):=Zy;go_enter func72,ntmps72;go_wp2;go_ret;exact⟨rfl,f⟩
theorem NW(a b:Zk)(c d:Nat)(f g:Zl)(w:Zh)(Z:Ad w w.heap.size a f)(Y:Ad w w.heap.size b g)(X:f.length<=1048576)(N:g.length<=1048576)(hs:∀s∈f,s.size<=1048576)(O:∀s∈g,s.size<=1048576):
 Calls prog 62 #[.agg #[.slice a f.length c,.slice b g.length d]] w fun e w'=>e=.returned (.bool (Eo f g))/\Zz w w':=by
 refine(callsIn_wide (n:=3)).1 ?_;refine callsIn_of_wp_marks func62 rfl trivial ?_ rfl;simp only[ntmps62,List.size_toArray,List.length_cons,List.length_nil,Nat.reduceAdd,Nat.reduceSub,Array.replicate_succ,Array.replicate_zero,List.push_toArray,List.append_toArray,List.nil_append,List.cons_append]
 gi_wp2_with fail
 refine⟨trivial,?_⟩;have G:Below w.heap.size w ((w.alloc (.cells #[.slice a f.length c,.slice b g.length d] 35)).alloc (.cells #[.bool false] 4)):=(Zy).alloc Yv _;have J:Boxed ((w.alloc (.cells #[.slice a f.length c,.slice b g.length d] 35)).alloc (.cells #[.bool false] 4)) (w.heap.size+1) 4 (.bool false):=by have:=Boxed.new (w.alloc (.cells #[.slice a f.length c,.slice b g.length d] 35)) 4 (.bool false);rwa[World.size_alloc]at this
 have M:((w.alloc (.cells #[.slice a f.length c,.slice b g.length d] 35)).alloc (.cells #[.bool false] 4)).heap.size=w.heap.size+2:=Yv
 refine(callsIn_wide.2 (Jj a b f.length g.length c d _)).mono ?_;rintro e x ⟨rfl,m⟩;have A:=G.trans (m.mono Yu);have I:Boxed x (w.heap.size+1) 4 (.bool false):=(m.block _ Yv).trans J;have P:=m.size;rw[M]at P;clear m J M G
 gi_wp2_with fail
 refine⟨trivial,?_⟩;have H:Below w.heap.size w (x.alloc (.cells #[.slice a f.length c,.slice b g.length d] 115)):=A.alloc A.size _;have L:=I.alloc (.cells #[.slice a f.length c,.slice b g.length d] 115);refine(callsIn_wide.2 (Nq a b f.length g.length c d _ X N)).mono ?_;rintro e z ⟨rfl,q⟩;have l:=H.trans (q.mono Yu)
 have v:Boxed z (w.heap.size+1) 4 (.bool false):=(q.block _ Yu).trans L;have Q:=q.size;simp at Q;have zA:z.cell? (Ze (x.heap.size) 0)=some (.slice a f.length c):=by rw[q.cell (p:=⟨x.heap.size,0,none⟩) Yv];simp
 have zB:z.cell? (Ze (x.heap.size) 1)=some (.slice b g.length d):=by rw[q.cell (p:=⟨x.heap.size,1,none⟩) Yv];simp
 have zF:=v.cell;have zG:=v.frozen;clear q L H I A;by_cases hlen:f.length+g.length<=4000
 .gi_wp2_with fail
  have m:w.heap.size+1<z.heap.size:=v.lt;refine Ji (gf:=65) (pre:= #[.agg #[.slice a f.length c,.slice b g.length d]]) (lb:= #[]) rfl (enters_of func65 Yt rfl) (xs:=f++g) (n0:=w.heap.size)
   (by simpa using PA a b c d f g w.heap.size z (Z.below l) (Y.below l) l.size Yq Yq) l.size rfl
   (fun k V=>Zz w V/\Boxed V (w.heap.size+1) 4 (.bool false)/\DJ ((f++g).take k)=true)
   (fun _ V=>Zz w V/\Boxed V (w.heap.size+1) 4 (.bool false)/\DJ (f++g)=false)
   ((EL w (Zx) l.size).and ((CZ (.cells #[.bool false] 4) m).and (KE _)))
   ((EL w (Zx) l.size).and ((CZ (.cells #[.bool false] 4) m).and (KE _)))
   ⟨l,v,by simp[DJ]⟩ (fun s=>{tmps:= #[.agg #[.slice a f.length c,.slice b g.length d],Yz w.heap.size,Yz (w.heap.size+1),Yz x.heap.size,.string s,
    .agg #[.slice a f.length c,.slice b g.length d],.agg #[.slice a f.length c,.slice b g.length d],.agg #[.slice a f.length c,.slice b g.length d],Zg (f.length+g.length),.bool (decide ((4000:Int)<f.length+g.length)),
    .agg #[.slice a f.length c,.slice b g.length d],.func (.func 65) #[.agg #[.slice a f.length c,.slice b g.length d]] #[],.string s,undef,undef,undef],defers:=[]}) ?assign ?body ?done ?stop
  case assign=>
   intro l2 m2 s V K y
   gi_wp2
   exact y
  case body=>
   rintro l2 m2 k s V C ⟨t,o,u⟩ zE;have T:=o.cell;have U:=o.frozen;have R:s.size<=1048576:=by
    rcases List.mem_append.1 (Zs C)with h|h
    .exact hs s h
    .exact O s h
   by_cases hbig:5000<s.size
   .gi_wp2
    refine⟨Bt.of_grownBy (grownBy_setCell' V _ _) (fun j e=>by cases e;exact m),t.setCell (p:=⟨w.heap.size+1,0,none⟩) Yv _,o.set _,Jg _ k s C hbig⟩
   .gi_wp2
    refine⟨Bt.refl _ _,⟨t,o,?_⟩,Below.refl _ _⟩;rw[JS _ k s C,u];simp;omega
  case done=>
   rintro D V S ⟨t,o,u⟩ y;have T:=o.cell;have U:=o.frozen;rw[Zt Yw]at u;have zC:D≠w.heap.size+1:=Yw
   have F:(V.setCell (Ze (w.heap.size+1) 0) (.bool true)).heap[D]?=some (.deferred (some [])):=(KeepsOthers.setCell _ _ _).same D _ y rfl;have E:=o.set (.bool true);have B:=cell_kept E.cell (grownBy_putObj' _ D (.deferred none)) (fun r e=>by cases e;exact⟨_,F,rfl⟩)
   gi_wp2
   refine⟨Yv,.inl ⟨_,_,rfl,run_takeDeferred F,?_⟩⟩;refine⟨.bool true,by simp[results,results62,go_sem,B],?_,?_⟩
   .simp only[Eo];rw[show(f++g).all (fun s=>decide (s.size<=5000))=true from u];simp[hlen]
   .exact(t.setCell (p:=⟨w.heap.size+1,0,none⟩) Yv _).trans ⟨rfl,rfl,rfl,Yv,fun i W=>World.putObj_heap_other Yw⟩
  case stop=>
   rintro D k V S ⟨t,o,u⟩ y;have B:=cell_kept o.cell (grownBy_putObj' _ D (.deferred none)) (fun r e=>by cases e;exact⟨_,y,rfl⟩)
   gi_wp2
   refine⟨Yv,.inl ⟨_,_,rfl,run_takeDeferred y,?_⟩⟩;refine⟨.bool false,by simp[results,results62,go_sem,B],?_,?_⟩
   .simp only[Eo];rw[show(f++g).all (fun s=>decide (s.size<=5000))=false from u];simp
   .exact t.trans ⟨rfl,rfl,rfl,Yv,fun i W=>World.putObj_heap_other Yw⟩
 .have E:=(v.set (.bool false)).cell
  gi_wp2
  refine⟨.bool false,by simp[results,results62,go_sem,E],?_,l.setCell (p:=⟨w.heap.size+1,0,none⟩) Yv _⟩;simp[Eo,hlen]
end
theorem KF{d f g i j k l m n a c:Value}(h:Aa w b [d,e,f,g,i,j,k,l,m,n,a,c]):(w.cell? (Ze b 0)=some d/\w.frozen? ⟨b,0,none⟩=false)/\(w.cell? (Ze b 1)=some e/\w.frozen? ⟨b,1,none⟩=false)/\(w.cell? (Ze b 2)=some f/\w.frozen? ⟨b,2,none⟩=false)/\(w.cell? (Ze b 3)=some g/\w.frozen? ⟨b,3,none⟩=false)/\(w.cell? (Ze b 4)=some i/\w.frozen? ⟨b,4,none⟩=false)/\(w.cell? (Ze b 5)=some j/\w.frozen? ⟨b,5,none⟩=false)/\(w.cell? (Ze b 6)=some k/\w.frozen? ⟨b,6,none⟩=false)/\(w.cell? (Ze b 7)=some l/\w.frozen? ⟨b,7,none⟩=false)/\(w.cell? (Ze b 8)=some m/\w.frozen? ⟨b,8,none⟩=false)/\(w.cell? (Ze b 9)=some n/\w.frozen? ⟨b,9,none⟩=false)/\(w.cell? (Ze b 10)=some a/\w.frozen? ⟨b,10,none⟩=false)/\w.cell? (Ze b 11)=some c/\w.frozen? ⟨b,11,none⟩=false:=
 ⟨h 0 _ rfl,h 1 _ rfl,h 2 _ rfl,h 3 _ rfl,h 4 _ rfl,h 5 _ rfl,h 6 _ rfl,h 7 _ rfl,h 8 _ rfl,h 9 _ rfl,h 10 _ rfl,h 11 _ rfl⟩
theorem c6{a c d f g:Value}(h:Aa w b [a,c,d,e,f,g]):(w.cell? (Ze b 0)=some a/\w.frozen? ⟨b,0,none⟩=false)/\(w.cell? (Ze b 1)=some c/\w.frozen? ⟨b,1,none⟩=false)/\(w.cell? (Ze b 2)=some d/\w.frozen? ⟨b,2,none⟩=false)/\(w.cell? (Ze b 3)=some e/\w.frozen? ⟨b,3,none⟩=false)/\(w.cell? (Ze b 4)=some f/\w.frozen? ⟨b,4,none⟩=false)/\w.cell? (Ze b 5)=some g/\w.frozen? ⟨b,5,none⟩=false:=
 ⟨h 0 _ rfl,h 1 _ rfl,h 2 _ rfl,h 3 _ rfl,h 4 _ rfl,h 5 _ rfl⟩
def RdS(n:Nat)(w:Zh)(ta pa la:Zk)(ks:List Kd)(ps:List Pd)(ls:List Ld):Prop:=∀V w',(∀b∈V,b<n)->Tn V w w'->BI w' w'.heap.size ta pa la ks ps ls
theorem Bf.rdS{a:Nat}{g f e:Zk}{r p o:Nat}{q:Zj}{b:List Kd}{d:List Pd}{c:List Ld}(h:Bf w a (.slice g b.length r) (.slice f d.length p) (.slice e c.length o) q b d c):RdS a w g f e b d c:=fun V s l n=>by obtain⟨_,_,_,_,_,_,i,j,k,m⟩:=(h.Y n l).rows;cases i;cases j;cases k;exact m
theorem Bf.get{a:Nat}{g f e:Zk}{l i:Nat}{k:Zj}{b:List Kd}{d:List Pd}{c:List Ld}(h:Bf w a (.slice g b.length l) (.slice f d.length j) (.slice e c.length i) k b d c):BI w w.heap.size g f e b d c:=
 h.rdS [] w Yv (Tn.of (Below.refl _ _))
theorem Aa.gy(a c d:Zj)(h:Aa w B (a++(c++d))):w.rangeAt B a.length c:=fun j v b=>by refine(h (a.length+j) v ?_).1;rw[List.getElem?_append_right Yw,Nat.add_sub_cancel_left,List.getElem?_append_left (Zw b).1];exact b
theorem SN(n:Int)(w:Zh):
 Calls prog 61 #[Zg n] w fun e a=>e=.returned (.bool (decide (0<=n/\n<=1000000)))/\a=w:=by
 by_cases h1:0<=n
 .by_cases h2:n<=1000000
  .go_enter func61,ntmps61;go_wp2;go_ret;exact⟨Ax (by simp[h1,h2]),rfl⟩
  .have c:decide (n<=1000000)=false:=by simpa using h2
   go_enter func61,ntmps61;go_wp2;go_ret;exact⟨rfl,rfl⟩
 .have b:decide (0<=n)=false:=by simpa using h1
  go_enter func61,ntmps61;go_wp2;go_ret;exact⟨rfl,rfl⟩
structure Aaz (w:Zh) (lo k d m base:Nat) (O P L:Value) (v:Vd) (a:Va) (r:Rs):Prop where
 box:Aa w k [.int .i32 0,.int .u32 0,Zg v.wd,Zg v.U,.slice a.R v.ss.length a.Z,.slice a.N v.C.length a.O,Zg v.T,Zg v.F,Zg v.G,Zg v.E,.slice a.x v.A.length a.kc,.slice a.Q v.ps.length a.W,.slice a.P v.ls.length a.X,Zg v.H,.slice a.i v.D.length a.qc,.slice a.g v.ms.length a.y,Zg v.K,Zg v.J,Zg v.ro,.pointer (some ⟨d,0,none⟩)]
 I:Dr w base d m O P L v.wd r.F r.G r.E r.A r.ps r.ls
 dj:lo<=base
 fj:lo<=k
 lt:∀b∈vB d m O P L,b<k
 co:base+4<=m
 ty:∃cur,w.heap[k]?=some (.cells cur 133)
def Rpl(w w':Zh)(v:Vd)(p:Value)(n:Int):Prop:=
 (∃k:Nat,DA v.wd (v.ss++v.C) k/\p=.pointer none/\n=k)\/(∃r d m O P L base,Ds v.wd r0 (v.ss++v.C) r/\p=.pointer (some ⟨d,0,none⟩)/\n=0/\Dr w' base d m O P L v.wd r.F r.G r.E r.A r.ps r.ls/\(w.heap.size<=base/\base+4<=m))
theorem SO(v:Vd)(a:Va)(w:Zh)(hr:Ca w w.heap.size a v)(hf:Dl v)(hE:Env w):
 Calls prog 24 #[.agg (Xz v a)] w fun e o=>Zz w o/\((¬FY v/\e=.returned (.tuple #[.pointer none,.bool false]))\/(∃r k d m O P L i,DZ v r/\e=.returned (.tuple #[Yz k,.bool true])/\Aaz o w.heap.size k d m i O P L v a r)):=by
 obtain⟨W,hW⟩:∃W,W=w.alloc (.cells (Xz v a) 43):=⟨_,rfl⟩;have bW:=(AA hW).1;have zW:=(AA hW).2.1;have xW:=(AA hW).2.2;have HX:Hid (Aa W _ _):=(AA hW).2.2;have HR:=Yx hr;have HW:=Yx hW;have zF:=Yx (RI v.wd W);have zI:=Yx (SN v.U W);have zM:=Yx (NW a.R a.N a.Z a.O v.ss v.C W (hr.s.j bW) (hr.t.j bW) hf.s hf.t hf.ss hf.C);obtain⟨Q,R,U,Y,y4,y5,y6,y7,y8,y9,t,x,y,z,A,B,C⟩:=Fh xW;clear hW xW hr
 by_cases hwd:1<=v.wd/\v.wd<=8
 .rw[decide_eq_true hwd]at zF;by_cases hlim:0<=v.U/\v.U<=1000000
  .rw[decide_eq_true hlim]at zI;cases hlog:Eo v.ss v.C with
   |true=>
    rw[hlog]at zM;have yL:=Hz hlog;have xB:v.ss.length<=4000:=by rw[List.length_append]at yL;omega
    have xC:v.C.length<=4000:=by rw[List.length_append]at yL;omega
    have HD:Hid (∀X,Calls prog 64 #[.agg #[.slice a.R v.ss.length a.Z,.slice a.N v.C.length a.O]] X fun e o=>e=.returned (.agg #[.slice a.R v.ss.length a.Z,.slice a.N v.C.length a.O])/\Zz X o):=fun X=>Jj a.R a.N v.ss.length v.C.length a.Z a.O X
    have HP:Hid (∀X,Zz w X->Calls prog 63 #[Zg v.wd,.func (.func 65) #[.agg #[.slice a.R v.ss.length a.Z,.slice a.N v.C.length a.O]] #[]] X fun e o=>∃p n,e=.returned (.tuple #[p,Zg n])/\Hid (Rpl X o v p n)/\Zz X o):=fun X f=>by
     refine(SM v.wd 65 #[.agg #[.slice a.R v.ss.length a.Z,.slice a.N v.C.length a.O]] #[] (v.ss++v.C) X hwd.1 hwd.2 Yw (fun s hs=>by rcases List.mem_append.1 hs with h|h;exact hf.ss s h;exact hf.C s h) (hE.below f) (enters_of func65 Yt rfl) (fun V hV=>by
      have hb:=f.trans (hV.mono f.size);have h1:=PA a.R a.N a.Z a.O v.ss v.C X.heap.size V ((HR.o.s.below hb).mono f.size) ((HR.o.t.below hb).mono f.size) hV.size Yq Yq;simpa using h1)).mono ?_
     rintro e o ⟨hb,⟨n,zR,rfl⟩|⟨r,d,m,O,P,L,i,H,rfl,BZ,q⟩⟩
     .exact⟨_,_,rfl,.inl ⟨n,zR,rfl,rfl⟩,hb⟩
     .exact⟨_,_,rfl,.inr ⟨r,d,m,O,P,L,i,H,rfl,rfl,BZ,q⟩,hb⟩
    clear hE;go_enter func24,ntmps24;go_wp2_with fail;rw[<-HW.o];refine Calls.mono zF.o ?_;rintro e w1 ⟨rfl,c⟩;replace c:=c.symm;subst c;go_wp2_with fail;refine Calls.mono zI.o ?_;rintro e w1 ⟨rfl,c⟩;replace c:=c.symm;subst c;go_wp2_with fail;refine Calls.mono zM.o ?_;rintro e w2 ⟨rfl,zJ⟩;have x2:=Aa.below HX.o zJ;have z2:w.heap.size+1<=w2.heap.size:=by have:=zJ.size;omega
    have yI:=Yx x2;have zU:=Yx (bW.trans (zJ.mono bW.size));clear Q R U Y y4 y5 y6 y7 y8 y9 t x y z A B C zF zI zM zJ HW;obtain⟨Q,R,U,Y,_⟩:=Fh x2;clear x2;go_upto_region 3 with fail;generalize (.agg (Xz v a):Value)=dv0;go_cut [4,5] (fun p u wx=>∃n:Int,u=Zg n/\Hid (Rpl w wx v p n/\Zz w2 wx))
    case first=>
     go_region_with (first
      |(go_at_call 64;refine(HD.o w2.drew).mono ?_;rintro e w3 ⟨rfl,yR⟩;have zV:Below w2.heap.size w2 w3:=(Below.refl w2.heap.size w2).drew.trans yR;obtain⟨u0,u1,u2,u3,_⟩:=Fh (Aa.below yI.o zV);have yK:=zU.o.trans (zV.mono zU.o.size))
      |(go_at_call 63;refine(HP.o w3 yK).mono ?_;rintro e w4 ⟨p,n,rfl,yP,yS⟩;have yN:=zV.trans (yS.mono zV.size)))
     all_goals
      go_wp2_with fail;go_meet;refine⟨n,rfl,?_,yN⟩;rcases yP.o with h|⟨r,d,m,O,P,L,i,q1,q2,q3,q4,q5⟩
      .exact .inl h
      .exact .inr ⟨r,d,m,O,P,L,i,q1,q2,q3,q4,Zm yK.size q5.1,q5.2⟩
    case rest=>
     clear Q R U Y HD HP;obtain⟨n,rfl,HQ⟩:=hcut;have yJ:=Yx (Aa.below yI.o HQ.o.2);have I:=Yx (zU.o.trans (HQ.o.2.mono zU.o.size));rcases HQ.o.1 with⟨k,zR,hp,hn⟩|⟨r,d,m,O,P,L,i,H,hp,hn,BZ,q⟩
     .subst hp hn;have xD:0<(k:Int):=by obtain⟨j,_,_,rfl,_⟩:=zR;omega
      have yQ:0<k:=Yw
      have xE:=decide_eq_true yQ;have zN:Hid (¬FY v):=fun⟨r,h⟩=>DA.not hwd.1 hwd.2 zR h.run;clear zR HQ;go_upto_region 4 with fail
      go_region
      all_goals go_wp2
      all_goals refine bodyPost_ret (v:=.tuple #[.pointer none,.bool false]) (by simp[results,results24,go_sem]) rfl ?_
      all_goals exact⟨I.o.drew,.inl ⟨zN.o,rfl⟩⟩
     .subst hp hn;have l:=H.ok (GW hwd.1 hwd.2);have zK:=Yx H;have zZ:Hid (∀X,Zz wc X->Dr X i d m O P L v.wd r.F r.G r.E r.A r.ps r.ls):=fun X f=>BZ.below f;have zH:=Yx q
      have yC:Hid (∀X,Zz wc X->Calls prog 67 #[Yz d] X fun e o=>∃(F:Zk) (N:Nat) (E:Zk) (M:Nat) (D:Zk) (J:Nat),e=.returned (.agg (Yi v.wd r.F r.G r.E F r.A.length N E r.ps.length M D r.ls.length J))/\BI o o.heap.size F E D r.A r.ps r.ls/\Zz X o):=fun X f=>by refine(MQ i d m O P L v.wd r.F r.G r.E r.A r.ps r.ls X (BZ.below f) l.bx.nd l.bx.sz l.bx.len l.np l.nl l.fe).mono ?_;rintro e o ⟨T,P',L',rs,rfl,hS,hb⟩;obtain⟨F,N,E,M,D,J,rfl,rfl,rfl,hg⟩:=hS.rows;exact⟨F,N,E,M,D,J,rfl,hg,hb⟩
      have yB:Hid (∀(X:Zh) (F E D:Zk) (N M J:Nat),Zz w X->BI X X.heap.size F E D r.A r.ps r.ls->Calls prog 66 #[.agg (Yi v.wd r.F r.G r.E F r.A.length N E r.ps.length M D r.ls.length J),.agg (Yi v.T v.F v.G v.E a.x v.A.length a.kc a.Q v.ps.length a.W a.P v.ls.length a.X)] X fun e o=>Ap ((v.wd=v.T/\r.F=v.F/\r.G=v.G/\r.E=v.E)/\r.A=v.A/\r.ps=v.ps/\r.ls=v.ls) X o e):=fun X F E D N M J f hS=>NV v.wd r.F r.G r.E v.T v.F v.G v.E F E D a.x a.Q a.P N M J a.kc a.W a.X r.A v.A r.ps v.ps r.ls v.ls X hS ((HR.o.st.ah f).mono f.size) ⟨by have:=l.bx.len;omega,by have:=l.np;omega,by have:=l.nl;omega⟩ ⟨hf.st.k,hf.st.p,hf.st.l⟩ (fun k hk=>by have:=l.fe k hk;omega) hf.st.r
      have yH:Hid (∀X,Zz w X->Calls prog 68 #[.agg (Ya v.H a.i v.D.length a.qc a.g v.ms.length a.y v.K v.J v.ro),Zg v.wd,Zg r.E] X fun e o=>Ap (AX v.wd r.E v.H v.K v.J v.ro v.D v.ms) X o e):=fun X f=>Mv v.H v.K v.J v.ro v.wd r.E a.i a.g a.qc a.y v.D v.ms X (HR.o.q.j f) (HR.o.m.j f) hf.r hwd.2 l.ai;clear H BZ q l HQ;obtain⟨Q,R,U,Y,y4,y5,y6,y7,y8,y9,t,x,y,z,A,B,C⟩:=Fh yJ.o
      have zY:Hid (∀X,Zz wc X->Aa X w.heap.size (Xy v a)):=fun X f=>Aa.below yJ.o f
      have zA:Hid (∀X,Zz wc X->X.cell? (Ze (w.heap.size) 4)=some (Zg v.T)/\X.cell? (Ze (w.heap.size) 5)=some (Zg v.F)/\X.cell? (Ze (w.heap.size) 6)=some (Zg v.G)/\X.cell? (Ze (w.heap.size) 7)=some (Zg v.E)/\X.cell? (Ze (w.heap.size) 8)=some (.slice a.x v.A.length a.kc)/\X.cell? (Ze (w.heap.size) 9)=some (.slice a.Q v.ps.length a.W)/\X.cell? (Ze (w.heap.size) 10)=some (.slice a.P v.ls.length a.X)/\X.cell? (Ze (w.heap.size) 11)=some (Zg v.H)/\X.cell? (Ze (w.heap.size) 12)=some (.slice a.i v.D.length a.qc)/\X.cell? (Ze (w.heap.size) 13)=some (.slice a.g v.ms.length a.y)/\X.cell? (Ze (w.heap.size) 14)=some (Zg v.K)/\X.cell? (Ze (w.heap.size) 15)=some (Zg v.J)/\X.cell? (Ze (w.heap.size) 16)=some (Zg v.ro)/\X.cell? (Ze d 0)=some (Zg v.wd)/\X.cell? (Ze d 4)=some (Zg r.E)):=fun X f=>by
       obtain⟨n0,n1,n2,n3,n4,n5,n6,n7,n8,n9,yT,yU,yV,yW,yX,yY,yZ⟩:=Fh (zY.o X f);exact⟨n4,n5,n6,n7,n8,n9,yT,yU,yV,yW,yX,yY,yZ,((zZ.o X f).box 0 _ rfl).1,((zZ.o X f).box 4 _ rfl).1⟩
      have HL:Hid (∀X,Zz wc X->Zz w X):=fun X f=>I.o.trans (f.mono I.o.size);have D0:Below wc.heap.size wc wc.drew:=(Below.refl _ _).drew;by_cases hP:(v.wd=v.T/\r.F=v.F/\r.G=v.G/\r.E=v.E)/\r.A=v.A/\r.ps=v.ps/\r.ls=v.ls
      .by_cases hQ:AX v.wd r.E v.H v.K v.J v.ro v.D v.ms
       .have yM:Hid (DZ v r):=⟨hwd,hlim,hlog,zK.o,hP,hP.1.2.2.2▸hQ⟩;have zO:=Yx hP;have yA:=Yx hQ;clear hP hQ;go_upto_region 4 with fail;generalize (.agg (Xz v a):Value)=dv0;go_cut [56] (fun u wx=>u=.bool false/\Hid (Zz wc wx))
        case first=>
         clear Q R U Y y4 y5 y6 y7 y8 y9 t x y z A B C
         go_region_held3 (fun X=>X.cell? (Ze (w.heap.size) 4)=some (Zg v.T)/\X.cell? (Ze (w.heap.size) 5)=some (Zg v.F)/\X.cell? (Ze (w.heap.size) 6)=some (Zg v.G)/\X.cell? (Ze (w.heap.size) 7)=some (Zg v.E)/\X.cell? (Ze (w.heap.size) 8)=some (.slice a.x v.A.length a.kc)/\X.cell? (Ze (w.heap.size) 9)=some (.slice a.Q v.ps.length a.W)/\X.cell? (Ze (w.heap.size) 10)=some (.slice a.P v.ls.length a.X)/\X.cell? (Ze (w.heap.size) 11)=some (Zg v.H)/\X.cell? (Ze (w.heap.size) 12)=some (.slice a.i v.D.length a.qc)/\X.cell? (Ze (w.heap.size) 13)=some (.slice a.g v.ms.length a.y)/\X.cell? (Ze (w.heap.size) 14)=some (Zg v.K)/\X.cell? (Ze (w.heap.size) 15)=some (Zg v.J)/\X.cell? (Ze (w.heap.size) 16)=some (Zg v.ro)/\X.cell? (Ze d 0)=some (Zg v.wd)/\X.cell? (Ze d 4)=some (Zg r.E))
          (first
            |with_reducible exact zA.o _ D0
            |with_reducible exact zA.o _ G
            |with_reducible exact zA.o _ Z
            |with_reducible exact zA.o _ B7)
          (first
            |(go_at_call 67;refine Calls.mono (yC.o wc.drew D0) ?_;rintro e w5 ⟨F,N,E,M,D,J,rfl,zB,zS⟩;have G:Below wc.heap.size wc w5:=D0.trans zS)
            |(go_at_call 66;refine Calls.mono (yB.o w5 F E D N M J (HL.o _ G) zB) ?_;rintro e w6 ⟨bb,rfl,zC,zT⟩;have Z:=G.trans (zT.mono G.size);clear zB;obtain rfl:bb=true:=zC.2 zO.o;clear zC)
            |(go_at_call 68;refine Calls.mono (yH.o w6 (HL.o _ Z)) ?_;rintro e w7 ⟨cc,rfl,zP,yE⟩;have B7:=Z.trans (yE.mono Z.size);obtain rfl:cc=true:=zP.2 yA.o;clear zP))
         all_goals (go_wp2_with fail;go_meet;exact⟨rfl,B7⟩)
        case rest=>
         clear Q R U Y y4 y5 y6 y7 y8 y9 t x y z A B C;obtain⟨rfl,zE⟩:=hcut;have zG:Below w.heap.size w _:=I.o.trans (zE.o.mono I.o.size);have yF:=Yx ((zY.o _ zE.o).range);have yG:=Yx (zZ.o _ zE.o);go_wp2_with (refine wpList_load_mid rfl 43 _ rfl w.heap.size 0 rfl (Xy v a) _ yF.o underlying43 rfl Yt ?_)
         refine bodyPost_ret (v:=.tuple #[Yz wc.heap.size,.bool true]) (by simp[results,results24,go_sem]) rfl ?_
         refine⟨zG.alloc zG.size _,.inr ⟨r,_,d,m,O,P,L,i,yM.o,rfl,Aa.new _ [.int .i32 0,.int .u32 0,Zg v.wd,Zg v.U,.slice a.R v.ss.length a.Z,.slice a.N v.C.length a.O,Zg v.T,Zg v.F,Zg v.G,Zg v.E,.slice a.x v.A.length a.kc,.slice a.Q v.ps.length a.W,.slice a.P v.ls.length a.X,Zg v.H,.slice a.i v.D.length a.qc,.slice a.g v.ms.length a.y,Zg v.K,Zg v.J,Zg v.ro,Yz d] 133,(yG.o).below (Zy),zH.o.1,zG.size,fun b hb=>yG.o.cf b hb,zH.o.2,_,heap_alloc_new _ _⟩⟩
       .have zN:Hid (¬FY v):=fun⟨r',h⟩=>by obtain rfl:=zK.o.cj h.run;exact hQ (by rw[hP.1.2.2.2];exact h.round)
        have zO:=Yx hP;have yA:=Yx hQ;clear hP hQ;go_upto_region 4 with fail;generalize (.agg (Xz v a):Value)=dv0;go_cut [56] (fun u wx=>u=.bool true/\Hid (Zz wc wx))
        case first=>
         clear Q R U Y y4 y5 y6 y7 y8 y9 t x y z A B C
         go_region_held3 (fun X=>X.cell? (Ze (w.heap.size) 4)=some (Zg v.T)/\X.cell? (Ze (w.heap.size) 5)=some (Zg v.F)/\X.cell? (Ze (w.heap.size) 6)=some (Zg v.G)/\X.cell? (Ze (w.heap.size) 7)=some (Zg v.E)/\X.cell? (Ze (w.heap.size) 8)=some (.slice a.x v.A.length a.kc)/\X.cell? (Ze (w.heap.size) 9)=some (.slice a.Q v.ps.length a.W)/\X.cell? (Ze (w.heap.size) 10)=some (.slice a.P v.ls.length a.X)/\X.cell? (Ze (w.heap.size) 11)=some (Zg v.H)/\X.cell? (Ze (w.heap.size) 12)=some (.slice a.i v.D.length a.qc)/\X.cell? (Ze (w.heap.size) 13)=some (.slice a.g v.ms.length a.y)/\X.cell? (Ze (w.heap.size) 14)=some (Zg v.K)/\X.cell? (Ze (w.heap.size) 15)=some (Zg v.J)/\X.cell? (Ze (w.heap.size) 16)=some (Zg v.ro)/\X.cell? (Ze d 0)=some (Zg v.wd)/\X.cell? (Ze d 4)=some (Zg r.E))
          (first
            |with_reducible exact zA.o _ D0
            |with_reducible exact zA.o _ G
            |with_reducible exact zA.o _ Z
            |with_reducible exact zA.o _ B7)
          (first
            |(go_at_call 67;refine Calls.mono (yC.o wc.drew D0) ?_;rintro e w5 ⟨F,N,E,M,D,J,rfl,zB,zS⟩;have G:Below wc.heap.size wc w5:=D0.trans zS)
            |(go_at_call 66;refine Calls.mono (yB.o w5 F E D N M J (HL.o _ G) zB) ?_;rintro e w6 ⟨bb,rfl,zC,zT⟩;have Z:=G.trans (zT.mono G.size);clear zB;obtain rfl:bb=true:=zC.2 zO.o;clear zC)
            |(go_at_call 68;refine Calls.mono (yH.o w6 (HL.o _ Z)) ?_;rintro e w7 ⟨cc,rfl,zP,yE⟩;have B7:=Z.trans (yE.mono Z.size);obtain rfl:cc=false:=(by cases cc with|false=>rfl|true=>exact absurd (zP.1 rfl) yA.o);clear zP))
         all_goals (go_wp2_with fail;go_meet;exact⟨rfl,B7⟩)
        case rest=>
         clear Q R U Y y4 y5 y6 y7 y8 y9 t x y z A B C;obtain⟨rfl,zE⟩:=hcut;have zG:Below w.heap.size w _:=I.o.trans (zE.o.mono I.o.size);go_wp2;refine bodyPost_ret (v:=.tuple #[.pointer none,.bool false]) (by simp[results,results24,go_sem]) rfl ?_;exact⟨zG,.inl ⟨zN.o,rfl⟩⟩
      .have zN:Hid (¬FY v):=fun⟨r',h⟩=>by obtain rfl:=zK.o.cj h.run;exact hP h.same
       have zO:=Yx hP;clear hP;go_upto_region 4 with fail;generalize (.agg (Xz v a):Value)=dv0;go_cut [56] (fun u wx=>u=.bool true/\Hid (Zz wc wx))
       case first=>
        clear Q R U Y y4 y5 y6 y7 y8 y9 t x y z A B C
        have yD:Hid (∀X,Zz wc X->X.rangeAt w.heap.size 4 (Yj v.T v.F v.G v.E a.x v.A.length a.kc a.Q v.ps.length a.W a.P v.ls.length a.X)):=fun X f=>Aa.gy [Zg v.wd,Zg v.U,.slice a.R v.ss.length a.Z,.slice a.N v.C.length a.O] (Yj v.T v.F v.G v.E a.x v.A.length a.kc a.Q v.ps.length a.W a.P v.ls.length a.X) (Xs v.H a.i v.D.length a.qc a.g v.ms.length a.y v.K v.J v.ro) (zY.o X f)
        refine wp_region_held_drew (S:=fun X=>X.rangeAt w.heap.size 4 (Yj v.T v.F v.G v.E a.x v.A.length a.kc a.Q v.ps.length a.W a.P v.ls.length a.X)) Yt (yD.o _ D0) (fun hS=> ?_);refine EI 0 ⟨some 32,.move (.tmp 5),3,AH,#[],none⟩ Zf (by exact hS) ?_;try simp only[Act.put,Zq,Zp,Zo]
        refine EI 1 ⟨some 33,.binOp .gtr 3 (.tmp 32) (.const Zf) 3,4,AH,#[BP 0],none⟩ (.bool false) (by exact hS) ?_;try simp only[Act.put,Zq,Zp,Zo]
        refine EI 2 ⟨some 34,.move (.tmp 33),4,AH,#[BP 1],none⟩ (.bool false) (by exact hS) ?_;try simp only[Act.put,Zq,Zp,Zo]
        refine EI 3 ⟨some 35,.move (.tmp 4),108,AH,#[⟨2,.guard⟩],some (2,false)⟩ (Yz d) (by exact hS) ?_;try simp only[Act.put,Zq,Zp,Zo]
        refine EI 5 ⟨some 37,.fieldAddr 43 (.tmp 1) 3,0,AH,#[⟨2,.guard⟩],some (2,false)⟩ (Yy w.heap.size 4) (by exact hS) ?_;try simp only[Act.put,Zq,Zp,Zo]
        refine Kx 6 ⟨some 38,.load 40 (.tmp 37),40,AH,#[BP 5,⟨2,.guard⟩],some (2,false)⟩ (.agg (Yi v.T v.F v.G v.E a.x v.A.length a.kc a.Q v.ps.length a.W a.P v.ls.length a.X)) (by exact yieldsIf_load_mid Yr 40 _ rfl w.heap.size 4 rfl (Yj v.T v.F v.G v.E a.x v.A.length a.kc a.Q v.ps.length a.W a.P v.ls.length a.X) _ (fun X h=>h) underlying40 rfl Yt) (by exact hS) ?_
        try simp only[Act.put,Zq,Zp,Zo]
        refine GH 4 ⟨some 36,.call {callee:=Callee.value (.func 67),args:= #[.tmp 35],argTypes:= #[108]},40,AH,#[BP 3,⟨2,.chain⟩,⟨2,.guard⟩],some (2,false)⟩ (fun K hK=> ?_);go_simp;refine Calls.mono (yC.o wc.drew D0) ?_;rintro e w5 ⟨F,N,E,M,D,J,rfl,zB,zS⟩;have G:=D0.trans zS;try go_simp
        refine hK.out _ _ (yD.o w5 G) (fun xA=> ?_);clear hK K;refine GH 7 ⟨some 39,.call {callee:=Callee.value (.func 66),args:= #[.tmp 36,.tmp 38],argTypes:= #[40,40]},4,AH,#[BP 4,BP 6,⟨4,.chain⟩,⟨2,.guard⟩],some (2,false)⟩ (fun K hK=> ?_);go_simp;refine Calls.mono (yB.o w5 F E D N M J (HL.o _ G) zB) ?_;rintro e w6 ⟨bb,rfl,zC,zT⟩;have Z:=G.trans (zT.mono G.size)
        obtain rfl:bb=false:=(by cases bb with|false=>rfl|true=>exact absurd (zC.1 rfl) zO.o);clear zC zB;try go_simp
        refine hK.out _ _ (yD.o w6 Z) (fun g=> ?_);clear hK K;refine EI 8 ⟨some 40,.unOp .not 4 (.tmp 39),4,AH,#[BP 7,⟨2,.guard⟩],some (2,false)⟩ (.bool true) (by exact g) ?_;try simp only[Act.put,Zq,Zp,Zo]
        refine EI 9 ⟨some 41,.pick (.tmp 34) (.const (.bool true)) (.tmp 40),4,AH,#[BP 2,BP 8],none⟩ (.bool true) (by exact g) ?_;try simp only[Act.put,Zq,Zp,Zo]
        refine EI 10 ⟨some 42,.move (.tmp 41),4,AH,#[BP 9,⟨7,.chain⟩],none⟩ (.bool true) (by exact g) ?_;try simp only[Act.put,Zq,Zp,Zo]
        refine IM 11 ⟨some 43,.fieldAddr 43 (.tmp 1) 4,0,AH,#[⟨10,.guard⟩],some (10,false)⟩ (by exact g) ?_;try simp only[Act.put,Zq,Zp,Zo]
        refine IM 12 ⟨some 44,.load 41 (.tmp 43),41,AH,#[BP 11,⟨10,.guard⟩],some (10,false)⟩ (by exact g) ?_;try simp only[Act.put,Zq,Zp,Zo]
        refine IM 13 ⟨some 45,.move (.tmp 4),108,AH,#[⟨10,.guard⟩],some (10,false)⟩ (by exact g) ?_;try simp only[Act.put,Zq,Zp,Zo]
        refine IM 14 ⟨some 46,.nilCheck (.tmp 45),0,AH,#[BP 13,⟨10,.guard⟩],some (10,false)⟩ (by exact g) ?_;try simp only[Act.put,Zq,Zp,Zo]
        refine IM 15 ⟨some 47,.fieldAddr 124 (.tmp 46) 0,0,AH,#[BP 14,⟨10,.guard⟩],some (10,false)⟩ (by exact g) ?_;try simp only[Act.put,Zq,Zp,Zo]
        refine IM 16 ⟨some 48,.fieldAddr 121 (.tmp 47) 0,0,AH,#[BP 15,⟨10,.guard⟩],some (10,false)⟩ (by exact g) ?_;try simp only[Act.put,Zq,Zp,Zo]
        refine IM 17 ⟨some 49,.load 3 (.tmp 48),3,AH,#[BP 16,⟨10,.guard⟩],some (10,false)⟩ (by exact g) ?_;try simp only[Act.put,Zq,Zp,Zo]
        refine IM 18 ⟨some 50,.move (.tmp 4),108,AH,#[⟨10,.guard⟩],some (10,false)⟩ (by exact g) ?_;try simp only[Act.put,Zq,Zp,Zo]
        refine IM 19 ⟨some 51,.nilCheck (.tmp 50),0,AH,#[BP 18,⟨10,.guard⟩],some (10,false)⟩ (by exact g) ?_;try simp only[Act.put,Zq,Zp,Zo]
        refine IM 20 ⟨some 52,.fieldAddr 124 (.tmp 51) 3,0,AH,#[BP 19,⟨10,.guard⟩],some (10,false)⟩ (by exact g) ?_;try simp only[Act.put,Zq,Zp,Zo]
        refine IM 21 ⟨some 53,.load 3 (.tmp 52),3,AH,#[BP 20,⟨10,.guard⟩],some (10,false)⟩ (by exact g) ?_;try simp only[Act.put,Zq,Zp,Zo]
        refine IM 22 ⟨some 54,.call {callee:=Callee.value (.func 68),args:= #[.tmp 44,.tmp 49,.tmp 53],argTypes:= #[41,3,3]},4,AH,#[BP 12,BP 17,BP 21,⟨10,.chain⟩,⟨10,.guard⟩],some (10,false)⟩ (by exact g) ?_;try simp only[Act.put,Zq,Zp,Zo]
        refine IM 23 ⟨some 55,.unOp .not 4 (.tmp 54),4,AH,#[BP 22,⟨10,.guard⟩],some (10,false)⟩ (by exact g) ?_;try simp only[Act.put,Zq,Zp,Zo]
        refine EI 24 ⟨some 56,.pick (.tmp 42) (.const (.bool true)) (.tmp 55),4,AH,#[BP 10,BP 23],none⟩ (.bool true) (by exact g) ?_;try simp only[Act.put,Zq,Zp,Zo]
        refine wpAnyH_done Yt ?_ _;go_wp2_with fail;go_meet;exact⟨rfl,Z⟩
       case rest=>
        clear Q R U Y y4 y5 y6 y7 y8 y9 t x y z A B C;obtain⟨rfl,zE⟩:=hcut;have zG:Below w.heap.size w _:=I.o.trans (zE.o.mono I.o.size);go_wp2;refine bodyPost_ret (v:=.tuple #[.pointer none,.bool false]) (by simp[results,results24,go_sem]) rfl ?_;exact⟨zG,.inl ⟨zN.o,rfl⟩⟩
   |false=>
    rw[hlog]at zM;have zX:Eo v.ss v.C=true->False:=fun h=>by rw[hlog]at h;cases h
    go_enter func24,ntmps24;go_wp2_with fail;rw[<-HW.o];refine Calls.mono zF.o ?_;rintro e w1 ⟨rfl,c⟩;replace c:=c.symm;subst c;go_wp2_with fail;refine Calls.mono zI.o ?_;rintro e w1 ⟨rfl,c⟩;replace c:=c.symm;subst c;go_wp2_with fail;refine Calls.mono zM.o ?_;rintro e w2 ⟨rfl,zJ⟩;have yO:=bW.trans (zJ.mono bW.size);clear Q R U Y y4 y5 y6 y7 y8 y9 t x y z A B C;go_wp2
    refine bodyPost_ret (v:=.tuple #[.pointer none,.bool false]) (by simp[results,results24,go_sem]) rfl ?_;exact⟨yO,.inl ⟨fun⟨r,h⟩=>zX h.log,rfl⟩⟩
  .rw[decide_eq_false hlim]at zI;go_enter func24,ntmps24;go_wp2_with fail;rw[<-HW.o];refine Calls.mono zF.o ?_;rintro e w1 ⟨rfl,c⟩;replace c:=c.symm;subst c;go_wp2_with fail;refine Calls.mono zI.o ?_;rintro e w1 ⟨rfl,c⟩;replace c:=c.symm;subst c;clear Q R U Y y4 y5 y6 y7 y8 y9 t x y z A B C;go_wp2
   refine bodyPost_ret (v:=.tuple #[.pointer none,.bool false]) (by simp[results,results24,go_sem]) rfl ?_;exact⟨bW,.inl ⟨fun⟨r,h⟩=>hlim h.U,rfl⟩⟩
 .rw[decide_eq_false hwd]at zF;go_enter func24,ntmps24;go_wp2_with fail;rw[<-HW.o];refine Calls.mono zF.o ?_;rintro e w1 ⟨rfl,c⟩;replace c:=c.symm;subst c;clear Q R U Y y4 y5 y6 y7 y8 y9 t x y z A B C;go_wp2;refine bodyPost_ret (v:=.tuple #[.pointer none,.bool false]) (by simp[results,results24,go_sem]) rfl ?_;exact⟨bW,.inl ⟨fun⟨r,h⟩=>hwd h.wd,rfl⟩⟩
def v0:Vd:=⟨0,0,[],[],0,0,0,0,[],[],[],0,[],[],0,0,0⟩
def Acn(wd lim:Int)(ss tt:Zl)(r:Rs):Vd:=⟨wd,lim,ss,tt,wd,r.F,r.G,r.E,r.A,r.ps,r.ls,0,[],[],0,0,0⟩
def OTo(wd lim:Int)(ss tt:Zl)(c:Int)(v:Vd):Prop:=
 (¬((1<=wd/\wd<=8)/\(0<=lim/\lim<=1000000)/\Eo ss tt=true)/\c=1/\v=v0)\/
 (((1<=wd/\wd<=8)/\(0<=lim/\lim<=1000000)/\Eo ss tt=true)/\(((∃n,DA wd (ss++tt) n)/\c=2/\v=v0)\/(∃r,Ds wd r0 (ss++tt) r/\c=0/\v=Acn wd lim ss tt r)))
theorem OTo.cj{d e:Zl}{c b:Int}{v f:Vd}(h:OTo i a d e c v)(k:OTo i a d e b f):c=b/\v=f:=by
 rcases h with⟨j,rfl,rfl⟩|⟨g,h⟩<;>rcases k with⟨k1,rfl,rfl⟩|⟨g',k⟩
 .exact⟨rfl,rfl⟩
 .exact absurd g' j
 .exact absurd g k1
 .rcases h with⟨⟨n,h⟩,rfl,rfl⟩|⟨r,h,rfl,rfl⟩<;>rcases k with⟨⟨m,k⟩,rfl,rfl⟩|⟨q,k,rfl,rfl⟩
  .exact⟨rfl,rfl⟩
  .exact absurd k (h.not g.1.1 g.1.2)
  .exact absurd h (k.not g.1.1 g.1.2)
  .obtain rfl:=h.cj k;exact⟨rfl,rfl⟩
theorem AU.nil(w:Zh)(a:Nat):AU w a Zc Zc Zc Zc Zc Zc Zc [] v0:=
 ⟨Aj.nil _ _,Aj.nil _ _,⟨rfl,⟨rfl,.inl ⟨rfl,rfl⟩⟩,(fun i k r h=>by cases i<;>cases h),⟨rfl,.inl ⟨rfl,rfl⟩⟩,⟨rfl,.inl ⟨rfl,rfl⟩⟩,List.nodup_nil⟩,Aj.nil _ _,Aj.nil _ _,List.nodup_nil⟩
theorem Aj.ig{n c:Nat}{a:Zk}{d:Zl}(h:Aj w b (.slice a n c) d):Ad w w.heap.size a d:=by obtain⟨g,i,e,f⟩:=h.row;cases e;exact f
section
attribute [local go_sem] Oper.semAt_some
theorem GB.below{P:Program}{gf:Nat}{a:Nat->Array Value}{xs:Zl}{n0:Nat}(h:GB P gf a xs n0 w)(b:Zz w c):GB P gf a xs n0 c:=
 fun l J d W e=>h l J d W (b.trans (e.mono b.size))
end
theorem Abb:Dl v0:=⟨by simp[v0],by simp[v0],by simp[v0],by simp[v0],⟨by simp[v0],by simp[v0],by simp[v0],by simp[v0]⟩,⟨by simp[v0],by simp[v0]⟩,by simp[v0,AF]⟩
end Go.Proofs.YtcankpdbabaacaaGreatDoor
