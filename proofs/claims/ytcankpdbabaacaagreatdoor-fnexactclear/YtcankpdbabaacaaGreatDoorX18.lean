import Derived.Test.YtcankpdbabaacaaGreatDoorX10
import Derived.Test.YtcankpdbabaacaaGreatDoorX15
import Derived.Deep.MidRow
import Derived.Sort.Walk0
set_option maxRecDepth 100000
set_option maxHeartbeats 16000000
namespace Go.Proofs.YtcankpdbabaacaaGreatDoor
open Go.ChangeShapes Go.WideShapes Go.ChangeAt Go.RowKit _root_.Go.Proofs.Tryz
variable{P:Program}{d:Array Oper}{f:Region.Mode}{e m R:Nat}{b:Array Bool}{a:Act}{w W:Zh}{wd kd num now given births kind:Int}{s nm text rest:Zi}{refs:Zl}{ks:List Kd}{ps:List Pd}{ls:List Ld}{bad:Bool}
abbrev Fe:String:= "exact.go:2260"
abbrev AH:String:= "l7_vault.go:191"
abbrev BD:String:= "l7_vault.go:276"
abbrev Bz:String:= "l7_vault.go:65"
abbrev BS(n:Nat):Edge:=⟨n,.phase⟩
abbrev BP(n:Nat):Edge:=⟨n,.data⟩
theorem EI{Q:Exit->Act->Zh->Prop}{S:Zh->Prop}(i:Nat)(g:Oper)(v:Value)(k:S w)(h:wpAnyH P f d Q S e (b.setIfInBounds i true) (a.put g.dst v) w)(m:d[i]?=some g:=by exact rfl)(o:Region.noSelect d=true:=by kernel_rfl)(l:Region.free f d b i=true:=by kernel_rfl)(n:(Region.ready f d b).contains i=true:=by kernel_rfl)(j:∀c a w,Q (.panic c) (a.put g.dst v) w->Q (.panic c) a w:=by exact fun _ _ _ h=>h)(p:YieldsIf P d S g v a:=by exact Or.inl ⟨Yr,fun _ _=>by go_simp⟩):wpAnyH P f d Q S (e+1) b a w:=
 wpAnyH_take m o l n j p k h
theorem IM{Q:Exit->Act->Zh->Prop}{S:Zh->Prop}(i:Nat)(g:Oper)(k:S w)(h:wpAnyH P f d Q S e (b.setIfInBounds i true) (a.put g.dst undef) w)(m:d[i]?=some g:=by exact rfl)(o:Region.noSelect d=true:=by kernel_rfl)(l:Region.free f d b i=true:=by kernel_rfl)(n:(Region.ready f d b).contains i=true:=by kernel_rfl)(j:∀c a w,Q (.panic c) (a.put g.dst undef) w->Q (.panic c) a w:=by exact fun _ _ _ h=>h)(p:YieldsIf P d S g undef a:=by exact Or.inr ⟨Yr,rfl⟩):wpAnyH P f d Q S (e+1) b a w:=
 wpAnyH_take m o l n j p k h
theorem Kx{Q:Exit->Act->Zh->Prop}{S:Zh->Prop}(i:Nat)(g:Oper)(v:Value)(p:YieldsIf P d S g v a)(k:S w)(h:wpAnyH P f d Q S e (b.setIfInBounds i true) (a.put g.dst v) w)(m:d[i]?=some g:=by exact rfl)(o:Region.noSelect d=true:=by kernel_rfl)(l:Region.free f d b i=true:=by kernel_rfl)(n:(Region.ready f d b).contains i=true:=by kernel_rfl)(j:∀c a w,Q (.panic c) (a.put g.dst v) w->Q (.panic c) a w:=by exact fun _ _ _ h=>h):wpAnyH P f d Q S (e+1) b a w:=
 wpAnyH_take m o l n j p k h
theorem GH{c:Array Oper}{Q:Exit->Act->Zh->Prop}{S:Zh->Prop}(i:Nat)(o:Oper){d:Nat}(h:∀e:Act->Zh->Prop,Shut (∀a w,S w->(S w->wpAnyH P f c Q S d (b.setIfInBounds i true) a w)->e a w)->if Region.wanted o (yielded c a.tmps)=true then Oper.wp P o a w e Q else e (a.put o.dst undef) w)(g:c[i]?=some o:=by exact rfl)(j:Region.ready f c b=[i]:=by kernel_rfl):wpAnyH P f c Q S (d+1) b a w:=
 wpAnyH_ready j Yv (AllReadyH.cons g h AllReadyH.nil)
theorem Qo(d:Nat)(V:List Nat)(kd:Int)(s nm t:Zi)(num:Int)(ra:Zk)(r q:Nat)(B:Int->Zi->Zi->Prop)(y:Zi->Int->Zh->Prop)(w:Zh)(hV:∀b∈V,b<w.heap.size)(H:∀g le X X' R zE,y g le X->X.heap[R]?=some (.cells zE 88)->w.heap.size<=R->Tn [R] X X'->y g le X')(h:∀X,Zz w X->Calls prog 149 #[Yz d,.agg (Yh kd s nm num t ra r q)] X fun e m=>(∃c a b,B c a b/\e=.panicked [{v:=Ci c a b,recovered:=false}]/\Tn V X m)\/(∃g le,e=.returned (.agg #[Zf,Zf,Zf,Zf,Zf,Zc,Zc,Zc,.string g,Zg le,Zd,Zd])/\y g le m/\Tn V X m)):
 Calls prog 104 #[Yz d,.agg (Yh kd s nm num t ra r q)] w fun e m=>(∃c a b,B c a b/\e=.returned (.agg (Cq c a b).toArray)/\Tn V w m)\/(∃g le,e=.returned (.agg #[Zf,Zf,Zf,Zf,Zf,Zc,Zc,Zc,.string g,Zg le,Zd,Zd])/\y g le m/\Tn V w m):=by
 suffices hs:∀Q:Ending->Zh->Prop,(∀c a b i,B c a b->Tn V w i->Q (.returned (.agg (Cq c a b).toArray)) i)->(∀g le i,y g le i->Tn V w i->Q (.returned (.agg #[Zf,Zf,Zf,Zf,Zf,Zc,Zc,Zc,.string g,Zg le,Zd,Zd])) i)->Calls prog 104 #[Yz d,.agg (Yh kd s nm num t ra r q)] w Q from
  hs _ (fun c a b i o L=> .inl ⟨c,a,b,o,rfl,L⟩) (fun g le i o L=> .inr ⟨g,le,rfl,o,L⟩)
 intro Q C D;have zA:=Yx C;have zB:=Yx D;clear C D;have zG:∀(fn:Fn) (first cap:Array Value) (w:Zh),(Instr.makeFunc fn first cap).run prog w=.ok (.func fn first cap) w:=fun _ _ _ _=>rfl;obtain⟨W,l⟩:∃W,W=(w.alloc (.cells (Yh kd s nm num t ra r q) 66)).alloc (.cells Yg 88):=⟨_,rfl⟩;have M:=(Bo l).1;have I:=(Bo l).2.1;have xE:=(Bo l).2.2.1;have zR:Aa W (w.heap.size+1) z12:=by have o:=Aa.new (w.alloc (.cells (Yh kd s nm num t ra r q) 66)) z12 88;rw[World.size_alloc]at o;rw[l];exact o
 have F:W.heap[w.heap.size+1]?=some (.cells Yg 88):=by have:=heap_alloc_new (w.alloc (.cells (Yh kd s nm num t ra r q) 66)) (.cells Yg 88);rw[World.size_alloc]at this;rw[l];exact this
 obtain⟨e0,e1,e2,e3,e4,e5⟩:=Aa.c6 xE 0 1 2 3 4 5;have K:=Yx (h W M);have HW:=Yx l;have n:=Yx (Zb zR (Zb F (Zb M I)));have HV:=Yx hV;have zC:=Yx H;clear l zR I xE h F M hV H
 go_enter_defers func104,ntmps104
 go_upto_region 1 with fail;rw[<-HW.o];clear HW;go_wp2_with fail;refine Calls.mono K.o ?_;intro e w1 zF;have zz:=n.o.2.2.2;have p:w.heap.size+1∉V:=fun h=>by have:=HV.o _ h;omega
 obtain⟨c,a,b,G,rfl,k⟩|⟨g,le,rfl,hy,k⟩:=zF
 .have u:=Aa.same n.o.1 (k.block _ Yw p);clear e0 e1 e2 e3 e4 e5 K;refine leaves_cons (f:=148) (args:= #[Yz (w.heap.size+1)]) Yv (by simp[go_sem]) ?_;refine(Ks (w.heap.size+1) c a b w1 u).mono ?_;rintro e u' i ⟨rfl,rfl,j,ht⟩;have N:=(j 0 _ rfl).1;have O:=(j 1 _ rfl).1;have P:=(j 2 _ rfl).1;have S:=(j 3 _ rfl).1;have T:=(j 4 _ rfl).1;have U:=(j 5 _ rfl).1;have Y:=(j 6 _ rfl).1
  have Z:=(j 7 _ rfl).1;have y8:=(j 8 _ rfl).1;have y9:=(j 9 _ rfl).1;have z:=(j 10 _ rfl).1;have A:=(j 11 _ rfl).1;have x:Hid (B c a b/\Tn V w i):=⟨G,Tn.fresh ((Tn.of n.o.2.2.1).trans k) ht Yw⟩;clear j ht G;simp[Leaves,settle,results,results104,go_sem,N,O,P,S,T,U,Y,Z,y8,y9,z,A];exact zA.o c a b _ x.o.1 x.o.2
 .have u:=Aa.same n.o.1 (k.block _ Yw p);have E:=(k.block _ Yw p).trans n.o.2.1;have J:=Yx (Zn hy (Zn k E));obtain⟨⟨N,q0⟩,⟨O,q1⟩,⟨P,q2⟩,⟨S,q3⟩,⟨T,q4⟩,⟨U,q5⟩,⟨Y,q6⟩,⟨Z,q7⟩,⟨y8,q8⟩,⟨y9,q9⟩,⟨z,zH⟩,A,zI⟩:=AY u;clear hy k u E e0 e1 e2 e3 e4 e5 K zz p;go_wp2;refine leaves_cons (f:=148) (args:= #[Yz (w.heap.size+1)]) Yv (by simp[go_sem]) ?_
  refine(Ly ⟨w.heap.size+1,0,none⟩ _).mono ?_;rintro e u' i ⟨rfl,rfl,rfl⟩;have HT:=Yx (Bd w1 (w.heap.size+1) Zf Zf Zf Zf Zf Zc Zc Zc (.string g) (Zg le) Zd Zd);have x:=Yx (Zn (zC.o g le _ _ _ _ J.o.1 J.o.2.2 Yw HT.o) (Tn.fresh ((Tn.of n.o.2.2.1).trans J.o.2.1) HT.o Yw));simp[Leaves,settle,results,results104,go_sem,N,O,P,S,T,U,Y,Z,y8,y9,z,A];exact zB.o g le _ x.o.1 x.o.2
theorem ZF(c d m:Nat)(O P L:Value)(wd now given births:Int)(ks:List Kd)(ps:List Pd)(ls:List Ld)(n s:Zi)(w:Zh)(h:DU w c d m O P L wd now given births ks ps ls)(j:∀k∈ks,(k.sum.size:Int)=wd)(g:Av ks s)(p:ps.length<=100)(f:ps.Pairwise (fun a b=>less a.name b.name=true))(i:(∃x∈ps,x.name=n)\/ps.length<100):
 Calls prog 183 #[Yz d,.string n,.string s] w fun e l=>e=.returned (.tuple #[])/\∃o,DU l c d m O o L wd now given births ks (Bl ps n s) ls/\Tn (d::P.ownBlock.toList) w l:=by
 by_cases hth:∃x∈ps,x.name=n
 .exact YM c d m O P L wd now given births ks ps ls n s w h j g Yw f hth
 .exact YN c d m O P L wd now given births ks ps ls n s w h j g (by rcases i with h|h;exact absurd h hth;exact h) f hth
theorem NN(c d m:Nat)(O P L:Value)(wd now given births:Int)(ks:List Kd)(ps:List Pd)(ls:List Ld)(s nm r:Zi)(num:Int)(ra:Zk)(q p:Nat)(w:Zh)(h:DU w c d m O P L wd now given births ks ps ls)(S:∀k∈ks,(k.sum.size:Int)=wd)(z:Av ks s)(hl:ps.length<=100)(n:ps.Pairwise (fun a b=>less a.name b.name=true))(l:(∃x∈ps,x.name=nm)\/ps.length<100):
 Calls prog 149 #[Yz d,.agg (Yh 2 s nm num r ra q p)] w fun e K=>e=.returned (.agg z12.toArray)/\∃X,DU K c d m O X L wd now given births ks (Bl ps nm s) ls/\Tn (d::P.ownBlock.toList) w K:=by
 obtain⟨W,f⟩:∃W,W=((w.alloc (.cells (Yh 2 s nm num r ra q p) 66)).alloc (.cells Yg 88)).alloc (.cells Yg 88):=⟨_,rfl⟩;have G:=(Bq f).1;have D:=(Bq f).2.1;have N:=(Bq f).2.2.1;have R:Aa W (w.heap.size+1) z12:=by have o:=Aa.new (w.alloc (.cells (Yh 2 s nm num r ra q p) 66)) z12 88;rw[World.size_alloc]at o;rw[f];exact Aa.below (v:=Zf) o (Zy)
 have Q:Aa W (w.heap.size+2) z12:=by have o:=Aa.new ((w.alloc (.cells (Yh 2 s nm num r ra q p) 66)).alloc (.cells Yg 88)) z12 88;rw[World.size_alloc,World.size_alloc]at o;rw[f];exact o
 have B:W.heap[w.heap.size+1]?=some (.cells Yg 88):=by rw[f,Below.heap_alloc _ _ _ Yv];have:=heap_alloc_new (w.alloc (.cells (Yh 2 s nm num r ra q p) 66)) (.cells Yg 88);rw[World.size_alloc]at this;exact this
 have J:=h.below G;have zA:=h.I.box.lt;have C:∀b∈d::P.ownBlock.toList,b<w.heap.size:=fun b j=>h.I.cf b (by unfold vB;simp at j |-;rcases j with rfl|j<;>simp[*]);have H:=Yx (ZF c d m O P L wd now given births ks ps ls nm s W J S z hl n l);have I:=Yx f
 have i:Hid (Aa W (w.heap.size+1) z12/\Aa W (w.heap.size+2) z12/\W.heap[w.heap.size+1]?=some (.cells Yg 88)/\Zz w W/\W.heap.size=w.heap.size+3/\c<=w.heap.size):=⟨R,Q,B,G,D,h.lo⟩;have u:=Yx C;obtain⟨Y,Z,e2,e3⟩:=Aa.c4 N 0 1 2 3;clear f h J R Q B G D N C;go_enter func149,ntmps149;go_upto_region 2 with fail;rw[<-I.o];clear I;go_wp2_with fail;refine Calls.mono H.o ?_;rintro e M ⟨rfl,V,y,g⟩
 have zz:=i.o.2.2.2.2.1;have F:=Aa.same i.o.1 (g.block _ Yw (fun h=>by have:=u.o _ h;omega));have E:=Aa.same i.o.2.1 (g.block _ Yw (fun h=>by have:=u.o _ h;omega));have A:=(g.block _ Yw (fun h=>by have:=u.o _ h;omega)).trans i.o.2.2.1;have t:=Yx (Zn y (Zn g (y.cz A Yw)))
 obtain⟨⟨y0,q0⟩,⟨y1,q1⟩,⟨y2,q2⟩,⟨y3,q3⟩,⟨y4,q4⟩,⟨y5,q5⟩,⟨y6,q6⟩,⟨y7,q7⟩,⟨y8,q8⟩,⟨y9,q9⟩,⟨T,zB⟩,U,zC⟩:=AY F;obtain⟨⟨v0,_⟩,⟨v1,_⟩,⟨v2,_⟩,⟨v3,_⟩,⟨v4,_⟩,⟨v5,_⟩,⟨v6,_⟩,⟨v7,_⟩,⟨v8,_⟩,⟨v9,_⟩,⟨zE,_⟩,zF,_⟩:=AY E;clear y g F E A Y Z e2 e3 H zz;go_wp2
 refine bodyPost_ret (v:=.agg z12.toArray) (by simp[results,results149,go_sem,y0,y1,y2,y3,y4,y5,y6,y7,y8,y9,T,U,z12]) rfl ⟨rfl,V,t.o.1.Y (Bd M (w.heap.size+1) _ _ _ _ _ _ _ _ _ _ _ _) (by intro b j;simp at j;subst j;exact⟨by have:=i.o.2.2.2.2.2;omega,t.o.2.2⟩),Tn.fresh ((Tn.of i.o.2.2.2.1).trans t.o.2.1) (Bd M (w.heap.size+1) _ _ _ _ _ _ _ _ _ _ _ _) Yw⟩
theorem LW(a d m:Nat)(O P L:Value)(wd now given births:Int)(ks:List Kd)(ps:List Pd)(ls:List Ld)(s nm u:Zi)(num:Int)(ra:Zk)(t r:Nat)(w:Zh)(g:Dr w a d m O P L wd now given births ks ps ls)(U:Dj wd ks)(hp:ps.length<=100)(hl:ls.length<=200)(V:Av ks s)(n:¬(((∃p∈ps,p.sum=s)\/∃l∈ls,l.sum=s)\/∃k∈ks,s∈k.B)):
 Calls prog 149 #[Yz d,.agg (Yh 7 s nm num u ra t r)] w fun e N=>e=.returned (.agg z12.toArray)/\∃q,Dr N a d m q P L wd now given births (CB ks s) ps ls/\q.ownBlock=O.ownBlock/\Tn (vB d m O P L) w N:=by
 obtain⟨W,c⟩:∃W,W=((w.alloc (.cells (Yh 7 s nm num u ra t r) 66)).alloc (.cells Yg 88)).alloc (.cells Yg 88):=⟨_,rfl⟩;have K:=(Bq c).1;have B:=(Bq c).2.1;have e0:W.cell? (Ze (w.heap.size) 0)=some (Zg 7):=by rw[c];simp[go_sem]
 have e1:W.cell? (Ze (w.heap.size) 1)=some (.string s):=by rw[c];simp[go_sem]
 have R:Aa W (w.heap.size+1) z12:=by have i:=Aa.new (w.alloc (.cells (Yh 7 s nm num u ra t r) 66)) z12 88;rw[World.size_alloc]at i;rw[c];exact Aa.below (v:=Zf) i (Zy)
 have Q:Aa W (w.heap.size+2) z12:=by have i:=Aa.new ((w.alloc (.cells (Yh 7 s nm num u ra t r) 66)).alloc (.cells z12.toArray 88)) z12 88;rw[World.size_alloc,World.size_alloc]at i;rw[c];exact i
 have G:=Yx (g.below K);have y:Hid (∀b∈vB d m O P L,b<w.heap.size):=by
  intro b f;unfold vB at f;simp only[List.mem_cons,List.mem_append,Option.mem_toList]at f;rcases f with rfl|rfl|f|f|f
  .exact g.box.lt
  .exact(g.map.choose_spec.choose_spec.2.1).lt
  .exact(Ac g.ord f).2
  .exact(Ac g.cg f).2
  .exact(Ac g.ci f).2
 have Z:Hid (W.heap[w.heap.size+1]?=some (.cells Yg 88)):=by show _=_;rw[c,Below.heap_alloc _ _ _ Yv];have:=heap_alloc_new (w.alloc (.cells (Yh 7 s nm num u ra t r) 66)) (.cells Yg 88);rw[World.size_alloc]at this;exact this
 have F:a<=w.heap.size:=by have:=g.bd;have:=g.box.lt;omega
 have H:=Yx c;have I:=Yx (Zn R Q);have x:=Yx B;clear c g R Q B;go_enter func149,ntmps149;go_upto_region 2 with fail;rw[<-H.o];clear H;go_wp2_with fail;refine(OJ a d m O P L wd now given births ks ps ls s W G.o U hp hl V n).mono ?_;rintro e E ⟨rfl,q,A,M,j,_⟩;have D:=Aa.same I.o.1 (j.block _ (by have:=x.o;omega) (fun h=>by have:=y.o _ h;omega))
 have C:=Aa.same I.o.2 (j.block _ (by have:=x.o;omega) (fun h=>by have:=y.o _ h;omega));obtain⟨⟨y0,q0⟩,⟨y1,q1⟩,⟨y2,q2⟩,⟨y3,q3⟩,⟨y4,q4⟩,⟨y5,q5⟩,⟨y6,q6⟩,⟨y7,q7⟩,⟨y8,q8⟩,⟨y9,q9⟩,⟨X,zA⟩,Y,zB⟩:=AY D;obtain⟨⟨v0,_⟩,⟨v1,_⟩,⟨v2,_⟩,⟨v3,_⟩,⟨v4,_⟩,⟨v5,_⟩,⟨v6,_⟩,⟨v7,_⟩,⟨v8,_⟩,⟨v9,_⟩,⟨zC,_⟩,zE,_⟩:=AY C;have o:=Yx (Zn A (Zn M j));clear A M j D C e0 e1 G;go_wp2;have T:w.heap.size+1∉vB d m q P L:=fun h=>by
  have:w.heap.size+1∈vB d m O P L:=by unfold vB at h |-;rw[o.o.2.1]at h;exact h
  have:=y.o _ this;omega
 have S:∀z J,E.heap[w.heap.size+1]?≠some (.cells z 9 J):=fun z J e=>by have i:=o.o.2.2.block (w.heap.size+1) (by have:=x.o;omega) (fun h=>by have:=y.o _ h;omega);rw[e,Z.o]at i;simp at i
 refine bodyPost_ret (v:=.agg z12.toArray) (by simp[results,results149,go_sem,y0,y1,y2,y3,y4,y5,y6,y7,y8,y9,X,Y,z12]) rfl ⟨rfl,q,Dr.apart o.o.1 (Bd E _ _ _ _ _ _ _ _ _ _ _ _ _) Yw T S,o.o.2.1,Tn.fresh ((Tn.of K).trans o.o.2.2) (Bd E _ _ _ _ _ _ _ _ _ _ _ _ _) Yw⟩
theorem KY(a d m:Nat)(O P L:Value)(wd now given births:Int)(ks:List Kd)(ps:List Pd)(ls:List Ld)(s nm n:Zi)(num:Int)(ra:Zk)(j i:Nat)(w:Zh)(h:Dr w a d m O P L wd now given births ks ps ls)(q:Dj wd ks)(x:ps.length<=100)(u:ls.length<=200)(r:Av ks s)(c:((∃p∈ps,p.sum=s)\/∃l∈ls,l.sum=s)\/∃k∈ks,s∈k.B):
 Calls prog 149 #[Yz d,.agg (Yh 7 s nm num n ra j i)] w fun e y=>e=.panicked [{v:=Ci 6 ⟨#[]⟩ ⟨#[]⟩,recovered:=false}]/\Zz w y:=by
 obtain⟨W,b⟩:∃W,W=((w.alloc (.cells (Yh 7 s nm num n ra j i) 66)).alloc (.cells Yg 88)).alloc (.cells Yg 88):=⟨_,rfl⟩;have f:=(Bq b).1;have z:W.cell? (Ze (w.heap.size) 0)=some (Zg 7):=by rw[b];simp[go_sem]
 have A:W.cell? (Ze (w.heap.size) 1)=some (.string s):=by rw[b];simp[go_sem]
 have t:=Yx (h.below f);have g:=Yx b;clear b h;go_enter func149,ntmps149;go_upto_region 2 with fail;rw[<-g.o];clear g;go_wp2_with fail;refine(MS a d m O P L wd now given births ks ps ls s W t.o q x u r c).mono ?_;rintro e B ⟨rfl,o⟩;exact⟨rfl,rfl,f.trans (o.mono f.size)⟩
theorem Ph(a d m:Nat)(O P L:Value)(wd now given births:Int)(ks:List Kd)(ps:List Pd)(ls:List Ld)(s:Zi)(w:Zh)(f:Dr w a d m O P L wd now given births ks ps ls)(b:∀k∈ks,(k.sum.size:Int)=wd)(c:¬Av ks s):
 Calls prog 187 #[Yz d,.string s] w fun e h=>e=.panicked [{v:=Ci 2 ⟨#[]⟩ ⟨#[]⟩,recovered:=false}]/\Zz w h:=by
 have HN:=Yx (Kh a d m O P L wd now given births ks ps ls s w f b c);clear f b c;go_enter func187,ntmps187;go_wp2_with fail;refine Calls.mono HN.o ?_;rintro e i ⟨rfl,g⟩;go_wp2;exact⟨rfl,rfl,g⟩
theorem Jt(a d m:Nat)(O P L:Value)(wd now given births:Int)(ks:List Kd)(ps:List Pd)(ls:List Ld)(s nm j:Zi)(num:Int)(ra:Zk)(i h:Nat)(w:Zh)(g:Dr w a d m O P L wd now given births ks ps ls)(n:∀k∈ks,(k.sum.size:Int)=wd)(o:¬Av ks s):
 Calls prog 149 #[Yz d,.agg (Yh 7 s nm num j ra i h)] w fun e q=>e=.panicked [{v:=Ci 2 ⟨#[]⟩ ⟨#[]⟩,recovered:=false}]/\Zz w q:=by
 obtain⟨W,b⟩:∃W,W=((w.alloc (.cells (Yh 7 s nm num j ra i h) 66)).alloc (.cells Yg 88)).alloc (.cells Yg 88):=⟨_,rfl⟩;have c:=(Bq b).1;have r:W.cell? (Ze (w.heap.size) 0)=some (Zg 7):=by rw[b];simp[go_sem]
 have t:W.cell? (Ze (w.heap.size) 1)=some (.string s):=by rw[b];simp[go_sem]
 have p:=Yx (g.below c);have f:=Yx b;clear b g;go_enter func149,ntmps149;go_upto_region 2 with fail;rw[<-f.o];clear f;go_wp2_with fail;refine(Ph a d m O P L wd now given births ks ps ls s W p.o n o).mono ?_;rintro e u ⟨rfl,l⟩;exact⟨rfl,rfl,c.trans (l.mono c.size)⟩
theorem XE{c:Zl}(h:∀(j:Nat) p q,c[j]?=some p->c[j+1]?=some q->less p q=true):c.Pairwise (fun a b=>less a b=true):=by
 have g:∀(d i:Nat) u v,c[i]?=some u->c[i+d+1]?=some v->less u v=true:=by
  intro d;induction d with
  |zero=>intro i u v hu e;exact h i u v hu e
  |succ d ih=>intro i u v hu e;have n:=(Zw e).1;have f:c[i+d+1]?=some c[i+d+1]:=Zv Yw;exact Cw (ih i u _ hu f) (h _ _ _ f (by rw[show i+d+1+1=i+(d+1)+1 by omega];exact e))
 rw[List.pairwise_iff_getElem];intro i j k l m;exact g (j -i -1) i _ _ (Zv k) (by rw[show i+(j -i -1)+1=j by omega];exact Zv l)
theorem Ky{d:Zl}(h:d.Pairwise (fun a b=>less a b=true)):d.Nodup:=by refine List.Pairwise.imp ?_ h;intro a b c e;rw[e,Co]at c;cases c
theorem Ng{d:Zl}(h:DO wd d=true):d.Pairwise (fun a b=>less a b=true):=by refine XE (fun j p q f c=> ?_);have e:=(Zw c).1;unfold DO at h;rw[List.all_eq_true]at h;have:=h (j+1) (by simpa using e);rw[Ef c f]at this;simp at this;exact this.2
structure Rs where
 sm:Zi
 le:Int
 F:Int
 G:Int
 E:Int
 A:List Kd
 ps:List Pd
 ls:List Ld
def FO(wd now given births:Int)(ks:List Kd)(ps:List Pd)(ls:List Ld)(kd:Int)(s nm:Zi)(num:Int)(text:Zi)(refs:Zl)(r:Rs):Prop:=
 (kd=1/\(∀r∈refs,Av ks r)/\ls.length<200/\given<1000000000/\∃ks1 ai,CF wd births ks text refs ks1 ai/\r=⟨Bh text refs wd,given+1,now,given+1,ai,ks1,ps,ls++[⟨given+1,Bh text refs wd,now+num⟩]⟩)\/
 (kd=2/\Av ks s/\((∃x∈ps,x.name=nm)\/ps.length<100)/\r=⟨⟨#[]⟩,0,now,given,births,ks,Bl ps nm s,ls⟩)\/
 (kd=3/\(∃x∈ps,x.name=nm)/\r=⟨⟨#[]⟩,0,now,given,births,ks,Ba ps nm,ls⟩)\/
 (kd=4/\Av ks s/\ls.length<200/\given<1000000000/\r=⟨⟨#[]⟩,given+1,now,given+1,births,ks,ps,ls++[⟨given+1,s,now+num⟩]⟩)\/
 (kd=5/\(∃x∈ls,x.V=num)/\r=⟨⟨#[]⟩,0,now,given,births,ks,ps,Bp ls num⟩)\/
 (kd=6/\now+num<=1000000000/\r=⟨⟨#[]⟩,0,now+num,given,births,ks,ps,AN ls (now+num)⟩)\/
 (kd=7/\Av ks s/\¬CV ps ls ks s/\r=⟨⟨#[]⟩,0,now,given,births,CB ks s,ps,ls⟩)
def GJ(wd now given births:Int)(ks:List Kd)(ps:List Pd)(ls:List Ld)(kd:Int)(s nm:Zi)(num:Int)(text:Zi)(refs:Zl)(c:Int)(a b:Zi):Prop:=
 (kd=1/\Gp wd given births ks ls text refs c a b)\/
 (a=⟨#[]⟩/\b=⟨#[]⟩/\(
   (kd=2/\((¬Av ks s/\c=2)\/(Av ks s/\(¬∃x∈ps,x.name=nm)/\ps.length=100/\c=4)))\/
   (kd=3/\(¬∃x∈ps,x.name=nm)/\c=5)\/
   (kd=4/\((¬Av ks s/\c=2)\/(Av ks s/\(ls.length=200\/given=1000000000)/\c=4)))\/
   (kd=5/\(¬∃x∈ls,x.V=num)/\c=5)\/
   (kd=6/\1000000000<now+num/\c=4)\/
   (kd=7/\((¬Av ks s/\c=2)\/(Av ks s/\CV ps ls ks s/\c=6)))))
structure Il (wd now given births:Int) (ks:List Kd) (ps:List Pd) (ls:List Ld) (kd num:Int) (text:Zi) (refs:Zl):Prop where
 bx:Dj wd ks
 w1:1<=wd
 np:ps.length<=100
 nl:ls.length<=200
 bn:ps.Pairwise (fun a b=>less a.name b.name=true)
 de:ls.Pairwise (fun a b=>a.V<b.V)
 cw:0<=now
 cu:now<=1000000000
 bi:0<=given
 bh:given<=1000000000
 az:0<=births
 ai:births<=1000000000
 jk:1<=kd
 jl:kd<=7
 fo:0<=num
 fy:num<=1000000000
 cn:∀k∈ks,k.M.size<=maxLen
 jn:text.size<=maxLen
 jh:refs.length<=1000
theorem Im(text:Zi)(refs:Zl)(wd:Int)(h:1<=wd):((Bh text refs wd).size:Int)=wd:=IU ⟨⟨#[]⟩,0,text,refs⟩ wd h
def Us(base d m:Nat)(wd:Int)(r:Rs)(w:Zh):Prop:=∃O P L,Dr w base d m O P L wd r.F r.G r.E r.A r.ps r.ls
theorem Sj(g d m:Nat)(O P L:Value)(wd now given births:Int)(ks:List Kd)(ps:List Pd)(ls:List Ld)(kd:Int)(s nm:Zi)(num:Int)(text:Zi)(refs:Zl)(ra:Zk)(l:Nat)(w:Zh)(h:DU w g d m O P L wd now given births ks ps ls)(f:Il wd now given births ks ps ls kd num text refs)(I:DG w g (vB d m O P L) ra refs):
 Calls prog 149 #[Yz d,.agg (Yh kd s nm num text ra refs.length l)] w fun e k=>(∃c a b,GJ wd now given births ks ps ls kd s nm num text refs c a b/\e=.panicked [{v:=Ci c a b,recovered:=false}]/\Tn (vB d m O P L) w k)\/(∃D le,e=.returned (.agg #[Zf,Zf,Zf,Zf,Zf,Zc,Zc,Zc,.string D,Zg le,Zd,Zd])/\(∃r,FO wd now given births ks ps ls kd s nm num text refs r/\r.sm=D/\r.le=le/\Us g d m wd r k)/\Tn (vB d m O P L) w k):=by
 have C:∀b∈d::P.ownBlock.toList,b∈vB d m O P L:=by intro b i;unfold vB;simp at i |-;rcases i with rfl|i<;>simp[*]
 have B:∀b∈d::L.ownBlock.toList,b∈vB d m O P L:=by intro b i;unfold vB;simp at i |-;rcases i with rfl|i<;>simp[*]
 have q:∀X,Zz w X->DU X g d m O P L wd now given births ks ps ls:=fun X n=>h.below n;obtain rfl|rfl|rfl|rfl|rfl|rfl|rfl:kd=1\/kd=2\/kd=3\/kd=4\/kd=5\/kd=6\/kd=7:=by have:=f.jk;have:=f.jl;omega
 .refine(NJ g d m O P L wd now given births ks ps ls s nm text num refs ra l w h f.bx f.w1 f.cn (Im _ _ _ f.w1) f.jn f.jh f.az f.ai I f.nl f.bi f.bh f.cw f.cu f.fo f.fy).mono ?_;rintro e k (⟨c,a,b,H,rfl,o⟩|⟨E,ai,y,J,u,t,rfl,F,A,p,o⟩)
  .exact .inl ⟨c,a,b,.inl ⟨rfl,H⟩,rfl,o⟩
  .exact .inr ⟨_,_,rfl,⟨_,.inl ⟨rfl,y,u,t,E,ai,J,rfl⟩,rfl,rfl,⟨_,_,_,p.I⟩⟩,o⟩
 .by_cases hth:Av ks s
  .by_cases hroom:(∃x∈ps,x.name=nm)\/ps.length<100
   .refine(NN g d m O P L wd now given births ks ps ls s nm text num ra refs.length l w h f.bx.sz hth f.np f.bn hroom).mono ?_;rintro e k ⟨rfl,G,p,o⟩;exact .inr ⟨_,_,rfl,⟨_,.inr (.inl ⟨rfl,hth,hroom,rfl⟩),rfl,rfl,⟨_,_,_,p.I⟩⟩,o.mono C⟩
   .have z:¬∃x∈ps,x.name=nm:=fun e=>hroom (.inl e);have j:ps.length=100:=by have:=f.np;have K:¬ps.length<100:=fun e=>hroom (.inr e);omega
    refine(JK d s nm text num ra refs.length l 4 ⟨#[]⟩ ⟨#[]⟩ w (fun X n=>VK g d m O P L wd now given births ks ps ls nm s X (q X n) f.bx.sz hth j f.bn z)).mono ?_;rintro e k ⟨rfl,i⟩;exact .inl ⟨4,_,_,.inr ⟨rfl,rfl,.inl ⟨rfl,.inr ⟨hth,z,j,rfl⟩⟩⟩,rfl,Tn.of i⟩
  .refine(JK d s nm text num ra refs.length l 2 ⟨#[]⟩ ⟨#[]⟩ w (fun X n=>Qf g d m O P L wd now given births ks ps ls nm s X (q X n) f.bx.sz hth)).mono ?_;rintro e k ⟨rfl,i⟩;exact .inl ⟨2,_,_,.inr ⟨rfl,rfl,.inl ⟨rfl,.inl ⟨hth,rfl⟩⟩⟩,rfl,Tn.of i⟩
 .by_cases hth:∃x∈ps,x.name=nm
  .refine(LL g d m O P L wd now given births ks ps ls s nm text num ra refs.length l w h (by have:=f.np;omega) f.bn hth).mono ?_;rintro e k ⟨rfl,G,p,o⟩;exact .inr ⟨_,_,rfl,⟨_,.inr (.inr (.inl ⟨rfl,hth,rfl⟩)),rfl,rfl,⟨_,_,_,p.I⟩⟩,o.mono C⟩
  .refine(Mq d s nm text num ra refs.length l 5 ⟨#[]⟩ ⟨#[]⟩ w (fun X n=>VH g d m O P L wd now given births ks ps ls nm X (q X n) (by have:=f.np;omega) f.bn hth)).mono ?_;rintro e k ⟨rfl,i⟩;exact .inl ⟨5,_,_,.inr ⟨rfl,rfl,.inr (.inl ⟨rfl,hth,rfl⟩)⟩,rfl,Tn.of i⟩
 .by_cases hth:Av ks s
  .by_cases j:ls.length=200\/given=1000000000
   .refine(IJ d s nm text num ra refs.length l 4 ⟨#[]⟩ ⟨#[]⟩ w (fun X n=>Nc g d m O P L wd now given births ks ps ls s num X (q X n) f.bx.sz hth j)).mono ?_;rintro e k ⟨rfl,i⟩;exact .inl ⟨4,_,_,.inr ⟨rfl,rfl,.inr (.inr (.inl ⟨rfl,.inr ⟨hth,j,rfl⟩⟩))⟩,rfl,Tn.of i⟩
   .have u:ls.length<200:=by have:=f.nl;omega
    have t:given<1000000000:=by have:=f.bh;omega
    refine(LM g d m O P L wd now given births ks ps ls s nm text num ra refs.length l w h f.bx.sz hth u f.bi t f.cw f.cu f.fo f.fy).mono ?_;rintro e k ⟨rfl,A,p,o⟩;exact .inr ⟨_,_,rfl,⟨_,.inr (.inr (.inr (.inl ⟨rfl,hth,u,t,rfl⟩))),rfl,rfl,⟨_,_,_,p.I⟩⟩,o.mono B⟩
  .refine(IJ d s nm text num ra refs.length l 2 ⟨#[]⟩ ⟨#[]⟩ w (fun X n=>OS g d m O P L wd now given births ks ps ls s num X (q X n) f.bx.sz hth)).mono ?_;rintro e k ⟨rfl,i⟩;exact .inl ⟨2,_,_,.inr ⟨rfl,rfl,.inr (.inr (.inl ⟨rfl,.inl ⟨hth,rfl⟩⟩))⟩,rfl,Tn.of i⟩
 .by_cases hth:∃x∈ls,x.V=num
  .refine(Mo g d m O P L wd now given births ks ps ls s nm text num ra refs.length l w h f.nl f.de hth).mono ?_;rintro e k ⟨rfl,A,p,o⟩;exact .inr ⟨_,_,rfl,⟨_,.inr (.inr (.inr (.inr (.inl ⟨rfl,hth,rfl⟩)))),rfl,rfl,⟨_,_,_,p.I⟩⟩,o.mono B⟩
  .refine(NC d s nm text num ra refs.length l 5 ⟨#[]⟩ ⟨#[]⟩ w (fun X n=>YI g d m O P L wd now given births ks ps ls num X (q X n) f.nl f.de hth)).mono ?_;rintro e k ⟨rfl,i⟩;exact .inl ⟨5,_,_,.inr ⟨rfl,rfl,.inr (.inr (.inr (.inl ⟨rfl,hth,rfl⟩)))⟩,rfl,Tn.of i⟩
 .by_cases hs:now+num<=1000000000
  .refine(Mp g d m O P L wd now given births ks ps ls s nm text num ra refs.length l w h f.nl f.cw f.fo hs).mono ?_;rintro e k ⟨rfl,A,p,o⟩;exact .inr ⟨_,_,rfl,⟨_,.inr (.inr (.inr (.inr (.inr (.inl ⟨rfl,hs,rfl⟩))))),rfl,rfl,⟨_,_,_,p.I⟩⟩,o.mono B⟩
  .refine(ND d s nm text num ra refs.length l 4 ⟨#[]⟩ ⟨#[]⟩ w (fun X n=>TP g d m O P L wd now given births ks ps ls num X (q X n) f.cw f.cu f.fo f.fy Yw)).mono ?_;rintro e k ⟨rfl,i⟩;exact .inl ⟨4,_,_,.inr ⟨rfl,rfl,.inr (.inr (.inr (.inr (.inl ⟨rfl,Yw,rfl⟩))))⟩,rfl,Tn.of i⟩
 .by_cases hth:Av ks s
  .by_cases huse:CV ps ls ks s
   .refine(KY g d m O P L wd now given births ks ps ls s nm text num ra refs.length l w h.I f.bx f.np f.nl hth huse).mono ?_;rintro e k ⟨rfl,i⟩;exact .inl ⟨6,_,_,.inr ⟨rfl,rfl,.inr (.inr (.inr (.inr (.inr ⟨rfl,.inr ⟨hth,huse,rfl⟩⟩))))⟩,rfl,Tn.of i⟩
   .refine(LW g d m O P L wd now given births ks ps ls s nm text num ra refs.length l w h.I f.bx f.np f.nl hth huse).mono ?_;rintro e k ⟨rfl,F,p,_,o⟩;exact .inr ⟨_,_,rfl,⟨_,.inr (.inr (.inr (.inr (.inr (.inr ⟨rfl,hth,huse,rfl⟩))))),rfl,rfl,⟨_,_,_,p⟩⟩,o⟩
  .refine(Jt g d m O P L wd now given births ks ps ls s nm text num ra refs.length l w h.I f.bx.sz hth).mono ?_;rintro e k ⟨rfl,i⟩;exact .inl ⟨2,_,_,.inr ⟨rfl,rfl,.inr (.inr (.inr (.inr (.inr ⟨rfl,.inl ⟨hth,rfl⟩⟩))))⟩,rfl,Tn.of i⟩
section
theorem Nh{A:Type}{R:A->A->Prop}(k:∀a b c,R a b->R b c->R a c){e:List A}(h:∀(j:Nat) p q,e[j]?=some p->e[j+1]?=some q->R p q):e.Pairwise R:=by
 have l:∀(d i:Nat) u v,e[i]?=some u->e[i+d+1]?=some v->R u v:=by
  intro d;induction d with
  |zero=>intro i u v hu f;exact h i u v hu f
  |succ d ih=>intro i u v hu f;have r:=(Zw f).1;have g:e[i+d+1]?=some e[i+d+1]:=Zv Yw;exact k _ _ _ (ih i u _ hu g) (h _ _ _ g (by rw[show i+d+1+1=i+(d+1)+1 by omega];exact f))
 rw[List.pairwise_iff_getElem];intro i j m n o;exact l (j -i -1) i _ _ (Zv m) (by rw[show i+(j -i -1)+1=j by omega];exact Zv n)
section
variable {wd now given births:Int} {ks:List Kd} {ps:List Pd} {ls:List Ld}
theorem IG.aj(h:IG wd now given births ks ps ls):∀k∈ks,Fx k.M k.B wd:=fun k b=>by obtain⟨i,a⟩:=List.getElem?_of_mem b;exact BL (h.th i k a).ok
theorem IG.bx(h:IG wd now given births ks ps ls):Dj wd ks:=by
 have sz:∀k∈ks,(k.sum.size:Int)=wd:=fun k c=>by obtain⟨i,g⟩:=List.getElem?_of_mem c;rw[(h.th i k g).sum];exact IU k wd h.fa.ji
 have d:(ks.map (·.sum)).Pairwise (fun a b=>less a b=true):=by refine XE (fun j p q e f=> ?_);rw[List.getElem?_map]at e f;obtain⟨u,hu,rfl⟩:=Option.map_eq_some_iff.1 e;obtain⟨v,l,rfl⟩:=Option.map_eq_some_iff.1 f;exact(h.th (j+1) v l).up j u rfl hu
 exact⟨Ky d,d,sz,fun k c=>⟨by have:=(h.aj k c).B;omega,Ng (h.aj k c).all⟩,h.nth,h.fa.wd2⟩
theorem Io(h:Cn kd s nm num text refs wd=true):1<=kd/\kd<=7/\WZ kd.toNat s nm num text refs wd:=by unfold Cn at h;simp only[Bool.and_eq_true,decide_eq_true_eq]at h;exact⟨h.1.1,h.1.2,Eu h.2⟩
theorem Pj(h:Cn kd s nm num text refs wd=true):refs.length<=30:=by
 unfold Cn at h;simp only[Bool.and_eq_true,decide_eq_true_eq]at h;have b:=h.2;unfold CW at b;simp only[Bool.and_eq_true,decide_eq_true_eq]at b;have a:=b.2.2.2.2;unfold IB at a;split at a
 .exact(BL a).B
 .have c:=(of_decide_eq_true a).2;omega
theorem Il.of(h:IG wd now given births ks ps ls)(l:Cn kd s nm num text refs wd=true)(n:text.size<=maxLen):Il wd now given births ks ps ls kd num text refs:=by
 obtain⟨o,r,e⟩:=Io l;refine⟨h.bx,h.fa.ji,h.np,h.nl,?_,?_,h.fa.cu,h.fa.now2,h.fa.bh,h.fa.given2,h.fa.ai,h.fa.births2,o,r,e.n0,e.n1,fun k m=> ?_,n,by have:=Pj l;omega⟩
 .exact Nh (R:=fun(a b:Pd)=>less a.name b.name=true) (fun a b c g i=>Cw g i) (fun j p q d f=>(h.cg (j+1) q f).up j p rfl d)
 .exact Nh (R:=fun(a b:Ld)=>a.V<b.V) (fun a b c g i=>by omega) (fun j p q d f=>(h.lease (j+1) q f).up j p rfl d)
 .have:=(h.aj k m).M;unfold maxLen;omega
theorem Ni(ks:List Kd)(x:Kd):(DH ks x).Perm (x::ks):=by unfold DH;have b:(ks.filter (fun k=>less k.sum x.sum)++ks.filter (fun k=> !(less k.sum x.sum))).Perm ks:=List.filter_append_perm _ _;rw[List.append_assoc];exact(List.perm_middle (a:=x) (l₁:=ks.filter (fun k=>less k.sum x.sum)) (l₂:=ks.filter (fun k=> !(less k.sum x.sum)))).trans (b.cons x)
theorem Kz(ps:List Pd)(n s:Zi):(Bl ps n s).length<=ps.length+1/\((∃x∈ps,x.name=n)->(Bl ps n s).length<=ps.length):=by
 have h:∀(l:List Pd),(l.filter (fun x=>less x.name n)).length+(l.filter (fun x=> !(less x.name n)&& !decide (x.name=n))).length+(l.filter (fun x=>decide (x.name=n))).length=l.length:=by
  intro l;induction l with
  |nil=>rfl
  |cons x l ih=>
   by_cases hn:x.name=n
   .simp[hn,Co];omega
   .cases hl:less x.name n<;>simp[hl,hn]<;>omega
 have a:=h ps;unfold Bl;rw[List.length_append,List.length_append];refine⟨Yu,fun⟨x,hx,hxn⟩=> ?_⟩;have b:0<(ps.filter (fun x=>decide (x.name=n))).length:=List.length_pos_of_mem (List.mem_filter.2 ⟨hx,by simpa using hxn⟩);simp;omega
end
theorem GJ.code{c:Int}{a b:Zi}(h:GJ wd now given births ks ps ls kd s nm num text refs c a b):2<=c/\c<=6:=by rcases h with⟨_,⟨_,rfl,_⟩|⟨_,⟨_,_,_,_,rfl,_⟩|⟨_,_,rfl,_⟩|⟨_,_,rfl,_⟩⟩⟩|⟨_,_,⟨_,⟨_,rfl⟩|⟨_,_,_,rfl⟩⟩|⟨_,_,rfl⟩|⟨_,⟨_,rfl⟩|⟨_,_,rfl⟩⟩|⟨_,_,rfl⟩|⟨_,_,rfl⟩|⟨_,⟨_,rfl⟩|⟨_,_,rfl⟩⟩⟩<;>omega
theorem Dr.cz{g d:Nat}{O P L:Value}(h:Dr w g d m O P L wd now given births ks ps ls){j:Array Value}(b:w.heap[R]?=some (.cells j 88))(l:R≠d):R∉vB d m O P L:=by
 unfold vB;simp only[List.mem_cons,List.mem_append,Option.mem_toList,not_or];refine⟨l,?_,?_,?_,?_⟩
 .rintro rfl;obtain⟨n,f,_,k,_⟩:=h.map;obtain⟨D,⟨o,clock,i,_⟩,_⟩:=k;rw[b]at i;cases i
 .intro e;obtain⟨c,a⟩:=Cx h.ord e;rw[b]at a;simp at a
 .intro e;obtain⟨c,a⟩:=Cx h.cg e;rw[b]at a;simp at a
 .intro e;obtain⟨c,a⟩:=Cx h.ci e;rw[b]at a;simp at a
theorem Us.stays{a d:Nat}{r:Rs}{g:Zh}{i:Array Value}(h:Us a d m wd r w)(f:w.heap[R]?=some (.cells i 88))(j:a<=R)(k:R≠d)(l:Tn [R] w g):Us a d m wd r g:=by obtain⟨O,P,L,b⟩:=h;exact⟨O,P,L,b.apart l j (b.cz f k) (fun c n e=>by rw[f]at e;simp at e)⟩
end
section
open Go.Proofs
theorem Gj{a b:Zi}(h:a.toList=b.toList):a=b:=by rw[Lib.toList_data,Lib.toList_data]at h;cases a;cases b;simpa using h
theorem Pk{a b:Zi}:less a b=true↔a.toList<b.toList:=by unfold less;rw[bytesLess_eq,decide_eq_true_iff]
theorem Pm{a b:Zi}(h:less a b=false)(c:a≠b):less b a=true:=by
 rw[Pk];have d:¬a.toList<b.toList:=fun e=>by rw[Pk.2 e]at h;cases h
 have f:=List.not_lt.1 d;by_cases e:b.toList<a.toList
 .exact e
 .exact absurd (Gj (Std.le_antisymm (List.not_lt.1 e) f)) c
end
section
structure Hu (wd now given births:Int) (ks:List Kd) (ps:List Pd) (ls:List Ld):Prop where
 bx:Dj wd ks
 w1:1<=wd
 np:ps.length<=100
 nl:ls.length<=200
 bn:ps.Pairwise (fun a b=>less a.name b.name=true)
 de:ls.Pairwise (fun a b=>a.V<b.V)
 cw:0<=now
 cu:now<=1000000000
 bi:0<=given
 bh:given<=1000000000
 az:0<=births
 ai:births<=1000000000
 cn:∀k∈ks,k.M.size<=2000
 fe:∀k∈ks,k.B.length<=30
 fs:∀x∈ls,x.V<=given
theorem Hu.zero(a:1<=wd)(b:wd<=8):Hu wd 0 0 0 [] [] []:=
 ⟨⟨Yv,Yv,Yv,by intro k c;simp at c,Yv,b⟩,a,Yv,Yv,Yv,Yv,Yw,Yw,Yw,Yw,Yw,Yw,Yv,Yv,Yv⟩
section
variable {wd now given births:Int} {ks:List Kd} {ps:List Pd} {ls:List Ld} {kd:Int} {s nm:Zi} {num:Int} {text:Zi} {refs:Zl}
theorem Hu.jg(h:Hu wd now given births ks ps ls)(a:Cn kd s nm num text refs wd=true)(c:text.size<=maxLen):Il wd now given births ks ps ls kd num text refs:=by obtain⟨d,f,e⟩:=Io a;exact⟨h.bx,h.w1,h.np,h.nl,h.bn,h.de,h.cw,h.cu,h.bi,h.bh,h.az,h.ai,d,f,e.n0,e.n1,fun k b=>by have:=h.cn k b;unfold maxLen;omega,c,by have:=Pj a;omega⟩
theorem Pn(h:Cn kd s nm num text refs wd=true):text.size<=2000:=by
 unfold Cn at h;simp only[Bool.and_eq_true,decide_eq_true_eq]at h;have b:=h.2;unfold CW at b;simp only[Bool.and_eq_true,decide_eq_true_eq]at b;have a:=b.2.2.2.2;unfold IB at a;split at a
 .exact(BL a).M
 .have c:=(of_decide_eq_true a).1;omega
theorem Qp(n s:Zi)(h:ps.Pairwise (fun a b=>less a.name b.name=true)):(Bl ps n s).Pairwise (fun a b=>less a.name b.name=true):=by
 unfold Bl;rw[List.pairwise_append,List.pairwise_append];have e:∀y∈ps.filter (fun x=> !(less x.name n)&& !decide (x.name=n)),less n y.name=true:=fun y d=>by have f:=(List.mem_filter.1 d).2;simp only[Bool.and_eq_true,Bool.not_eq_true',decide_eq_false_iff_not]at f;exact Pm f.1 f.2
 refine⟨⟨h.filter _,Yv,fun x c y d=> ?_⟩,h.filter _,fun x c y d=> ?_⟩
 .rw[List.mem_singleton]at d;subst d;exact(List.mem_filter.1 c).2
 .rcases List.mem_append.1 c with c|c
  .exact Cw (List.mem_filter.1 c).2 (e y d)
  .rw[List.mem_singleton]at c;subst c;exact e y d
theorem Qq{x:Kd}(h:(ks.map (·.sum)).Pairwise (fun a b=>less a b=true))(i:¬Av ks x.sum):((DH ks x).map (·.sum)).Pairwise (fun a b=>less a b=true):=by
 rw[List.pairwise_map]at h |-;unfold DH;rw[List.pairwise_append,List.pairwise_append];have f:∀y∈ks.filter (fun k=> !(less k.sum x.sum)),less x.sum y.sum=true:=fun y c=>by obtain⟨j,g⟩:=List.mem_filter.1 c;simp only[Bool.not_eq_true']at g;exact Pm g (fun e=>i ⟨y,j,e⟩)
 refine⟨⟨h.filter _,Yv,fun y c z d=> ?_⟩,h.filter _,fun y c z d=> ?_⟩
 .rw[List.mem_singleton]at d;subst d;exact(List.mem_filter.1 c).2
 .rcases List.mem_append.1 c with c|c
  .exact Cw (List.mem_filter.1 c).2 (f z d)
  .rw[List.mem_singleton]at c;subst c;exact f z d
theorem Dj.drop(h:Dj wd ks)(t:Zi):Dj wd (CB ks t):=by have a:(CB ks t).Sublist ks:=List.filter_sublist;exact⟨h.nd.sublist (a.map _),h.dh.sublist (a.map _),fun k b=>h.sz k (a.subset b),fun k b=>h.B k (a.subset b),Zm a.length_le h.len,h.w8⟩
theorem Hu.step(h:Hu wd now given births ks ps ls)(A:Cn kd s nm num text refs wd=true){r:Rs}(i:FO wd now given births ks ps ls kd s nm num text refs r):Hu wd r.F r.G r.E r.A r.ps r.ls:=by
 obtain⟨M,N,e⟩:=Io A;have H:=e.n0;have I:=e.n1;have g:∀x:Ld,x.V=given+1->(ls++[x]).Pairwise (fun a b=>a.V<b.V)/\∀y∈ls++[x],y.V<=given+1:=fun x m=>by
  refine⟨?_,fun y i=> ?_⟩
  .rw[List.pairwise_append];refine⟨h.de,Yv,fun y i z q=> ?_⟩;rw[List.mem_singleton]at q;subst q;have:=h.fs y i;omega
  .rcases List.mem_append.1 i with i|i
   .have:=h.fs y i;omega
   .rw[List.mem_singleton]at i;subst i;omega
 rcases i with⟨rfl,_,C,B,J,K,i,rfl⟩|⟨_,_,f,rfl⟩|⟨_,_,rfl⟩|⟨_,_,C,B,rfl⟩|⟨_,_,rfl⟩|⟨_,E,rfl⟩|⟨_,_,_,rfl⟩
 .have n:(ls++[(⟨given+1,Bh text refs wd,now+num⟩:Ld)]).length<=200:=Yu
  have j:=g ⟨given+1,Bh text refs wd,now+num⟩ rfl;have t:=h.bi;have l:=BL (e.dv rfl);rcases i with⟨_,_,_,_,rfl,rfl⟩|⟨v,G,L,rfl,rfl⟩
  .exact⟨h.bx,h.w1,h.np,n,h.bn,j.1,h.cw,h.cu,by show 0<=given+1;omega,by show given+1<=_;omega,h.az,h.ai,h.cn,h.fe,j.2⟩
  .have D:=Ni ks ⟨Bh text refs wd,births+1,text,refs⟩;have F:=h.az;have d:∀k∈DH ks ⟨Bh text refs wd,births+1,text,refs⟩,k=⟨Bh text refs wd,births+1,text,refs⟩\/k∈ks:=fun k c=>List.mem_cons.1 (D.mem_iff.1 c);have u:Dj wd (DH ks ⟨Bh text refs wd,births+1,text,refs⟩):=by
    have p:=Qq (x:=⟨Bh text refs wd,births+1,text,refs⟩) h.bx.dh v;refine⟨Ky p,p,fun k c=> ?_,fun k c=> ?_,by rw[OU];omega,h.bx.w8⟩
    .rcases d k c with rfl|c
     .exact Im _ _ _ h.w1
     .exact h.bx.sz k c
    .rcases d k c with rfl|c
     .exact⟨by have:=l.B;show refs.length<=_;omega,Ng l.all⟩
     .exact h.bx.B k c
   refine⟨u,h.w1,h.np,n,h.bn,j.1,h.cw,h.cu,by show 0<=given+1;omega,by show given+1<=_;omega,by show 0<=births+1;omega,by show births+1<=_;omega,fun k c=> ?_,fun k c=> ?_,j.2⟩
   .rcases d k c with rfl|c
    .exact l.M
    .exact h.cn k c
   .rcases d k c with rfl|c
    .exact l.B
    .exact h.fe k c
 .have o:=Kz ps nm s;refine⟨h.bx,h.w1,?_,h.nl,Qp nm s h.bn,h.de,h.cw,h.cu,h.bi,h.bh,h.az,h.ai,h.cn,h.fe,h.fs⟩;rcases f with f|f
  .exact Zm (o.2 f) h.np
  .exact Zm o.1 Yw
 .exact⟨h.bx,h.w1,Zm (List.length_filter_le _ _) h.np,h.nl,h.bn.filter _,h.de,h.cw,h.cu,h.bi,h.bh,h.az,h.ai,h.cn,h.fe,h.fs⟩
 .have j:=g ⟨given+1,s,now+num⟩ rfl;have t:=h.bi;exact⟨h.bx,h.w1,h.np,Yu,h.bn,j.1,h.cw,h.cu,by show 0<=given+1;omega,by show given+1<=_;omega,h.az,h.ai,h.cn,h.fe,j.2⟩
 .exact⟨h.bx,h.w1,h.np,Zm (List.length_filter_le _ _) h.nl,h.bn,h.de.filter _,h.cw,h.cu,h.bi,h.bh,h.az,h.ai,h.cn,h.fe,fun x m=>h.fs x (List.mem_filter.1 m).1⟩
 .have:=h.cw;exact⟨h.bx,h.w1,h.np,Zm (List.length_filter_le _ _) h.nl,h.bn,h.de.filter _,by show 0<=now+num;omega,E,h.bi,h.bh,h.az,h.ai,h.cn,h.fe,fun x m=>h.fs x (List.mem_filter.1 m).1⟩
 .exact⟨h.bx.drop s,h.w1,h.np,h.nl,h.bn,h.de,h.cw,h.cu,h.bi,h.bh,h.az,h.ai,fun k c=>h.cn k (List.mem_filter.1 c).1,fun k c=>h.fe k (List.mem_filter.1 c).1,h.fs⟩
end
end
theorem Ut(k:Int)(b a:Zi)(n:Int)(t:Zi)(g:Zk)(cap:Nat)(c:Zl)(wd:Int)(w:Zh)(f:Ad w w.heap.size g c)(i:c.length<=1048576)(j:t.size<=maxLen)(o:a.size<=maxLen):
 Calls prog 20 #[.agg (EF k b a n t g c.length cap),Zg wd] w fun e p=>e=.returned (.string (Cr k b a n t c wd))/\Zz w p:=by
 cases hok:Cn k b a n t c wd with
 |true=>rw[show Cr k b a n t c wd=⟨(Dk k.toNat b a n t c).toArray⟩from by unfold Cr;rw[if_pos hok]];unfold Cn at hok;simp only[Bool.and_eq_true,decide_eq_true_eq]at hok;obtain⟨m,rfl⟩:∃m:Nat,k=m:=⟨k.toNat,Yw⟩;rw[Int.toNat_natCast]at hok |-;exact TY m b a n t g cap c wd w Yw Yw f i j hok.2
 |false=>rw[show Cr k b a n t c wd=ByteArray.empty from by unfold Cr;rw[if_neg (by rw[hok];decide)]];have h:Below w.heap.size w (w.alloc (.cells (EF k b a n t g c.length cap) 66)):=Zy;have d:=Aaf k b a n t g cap c wd _ (f.j h) i j o;rw[hok]at d;clear hok;go_enter func20,ntmps20;go_wp2_with fail;refine d.mono ?_;rintro e q ⟨rfl,l⟩;go_wp2;go_ret;exact⟨rfl,h.trans (l.mono Yv)⟩
def EJ(k:Int):Bool:=decide (1<=k/\k<=7)
def ES(k:Int):Bool:=EJ k&&Dv k.toNat
def DW(k:Int):Bool:=EJ k&&DV k.toNat
def CH(k:Int):Bool:=EJ k&&CO k.toNat
def ET(k:Int):Int:=if EJ k=true then CG k.toNat else 0
theorem Qr(k:Int)(w:Zh)(b:Jr w):
 Calls prog 174 #[Zg k] w fun e c=>e=.returned (.tuple #[.agg #[.bool (ES k),.bool (DW k),.bool (CH k),Zg (ET k)],.bool (EJ k)])/\Zz w c:=by
 by_cases hk:1<=k/\k<=7
 .obtain⟨m,rfl⟩:∃m:Nat,k=m:=⟨k.toNat,Yw⟩;have a:EJ (m:Int)=true:=decide_eq_true hk;rw[show ES (m:Int)=Dv m by simp[ES,a],show DW (m:Int)=DV m by simp[DW,a],show CH (m:Int)=CO m by simp[CH,a],show ET (m:Int)=CG m by simp[ET,a],a];exact Ku m w b Yw Yw
 .have a:EJ k=false:=decide_eq_false hk;rw[show ES k=false by simp[ES,a],show DW k=false by simp[DW,a],show CH k=false by simp[CH,a],show ET k=0 by simp[ET,a],a];exact LQ k w hk
theorem Wc(n:Int)(w:Zh):
 Calls prog 60 #[Zg n] w fun e a=>e=.returned (.bool (decide (1<=n/\n<=8)))/\a=w:=by
 by_cases h1:1<=n
 .by_cases h2:n<=8
  .go_enter func60,ntmps60;go_wp2;go_ret;exact⟨Ax (by simp[h1,h2]),rfl⟩
  .have c:decide (n<=8)=false:=by simpa using h2
   go_enter func60,ntmps60;go_wp2;go_ret;exact⟨rfl,rfl⟩
 .have b:decide (1<=n)=false:=by simpa using h1
  go_enter func60,ntmps60;go_wp2;go_ret;exact⟨rfl,rfl⟩
def GI(wd:Int):Bool:= !decide (1<=wd/\wd<=8)
def Ew(s:Zi)(wd:Int):Zi×Zi×Bool:=Bi s (GI wd) (1:Nat)
def AS(s:Zi)(wd:Int):Int:=CK (Ew s wd).1.data.toList
def FP(s:Zi)(wd:Int):Bool:=(Ew s wd).2.2|| !EJ (AS s wd)
def Em(s:Zi)(wd:Int):Zi×Zi×Bool:=Bi (Ew s wd).2.1 (FP s wd) (4:Nat)
def Ff(s:Zi)(wd:Int):Int:=CK (Em s wd).1.data.toList
def Fs(s:Zi)(wd:Int):Zi×Zi×Bool:=Bi (Em s wd).2.1 (Em s wd).2.2 (1:Nat)
def Nj(s:Zi)(wd:Int):Int:=CK (Fs s wd).1.data.toList
def BQ(s:Zi)(wd:Int):Zi×Zi×Bool:=Bi (Fs s wd).2.1 (Fs s wd).2.2 (Nj s wd)
def Bg(s:Zi)(wd:Int):Zi×Zi×Bool:=if DW (AS s wd)=true then Bi (BQ s wd).2.1 (BQ s wd).2.2 wd else (⟨#[]⟩,(BQ s wd).2)
def Be(s:Zi)(wd:Int):Zi×Zl:=if CH (AS s wd)=true then ((rd (Fa (Bg s wd).2.1 (Bg s wd).2.2) wd).1,(rd (Fa (Bg s wd).2.1 (Bg s wd).2.2) wd).2.1)else (⟨#[]⟩,[])
def CX(s:Zi)(wd:Int):Zi×Bool:=if CH (AS s wd)=true then (JP (Bg s wd).2.1 (Bg s wd).2.2,Gq (Bg s wd).2.1 (Bg s wd).2.2 wd)else (Bg s wd).2
def FQ(s:Zi)(wd:Int):Bool:=(CX s wd).2|| !decide ((CX s wd).1.size=0)
def JQ(s:Zi)(wd:Int):Bool:=Cn (AS s wd) (Bg s wd).1 (BQ s wd).1 (Ff s wd) (Be s wd).1 (Be s wd).2 wd
def CL(s:Zi)(wd:Int):Bool:=FQ s wd|| !JQ s wd
theorem FC{a:Bool}{n:Int}(h:(Bi rest a n).2.2=false):a=false:=by
 unfold Bi at h;cases a
 .rfl
 .simp at h
theorem Rf(s:Zi)(wd:Int):(rd s wd).1.size<=s.size:=by
 unfold rd;split
 .split
  .exact Nat.zero_le _
  .unfold Kw DI;split
   .simp;omega
   .exact Nat.zero_le _
 .exact Nat.zero_le _
theorem EU(rest:Zi)(a:Bool)(n:Int):(Bi rest a n).1.size<=rest.size/\(Bi rest a n).2.1.size<=rest.size:=by
 unfold Bi;split
 .exact⟨Nat.zero_le _,Zx⟩
 .split
  .exact⟨Nat.zero_le _,Zx⟩
  .simp;omega
structure EW (w W:Zh) (b:Nat) (rest:Zi) (kind:Int) (bad:Bool):Prop where
 rs:Eb W b rest kind bad
 env:Env W
 gr:w.grownBy W (some b)
 gh:Aa W w.heap.size [Zf,Zd,Zd,Zf,Zd,Zc]
def Oj(b:Nat):Prop:=∀g∈[0,1,2,3,6,7,5,4],g<b
theorem EW.step{e:Zh}{b:Nat}{c:Zi}{a:Int}{g d:Bool}(h:EW w W b rest kind g)(i:Oj b)(j:b<w.heap.size)(k:Eb e b c a d)(f:W.grownBy e (some b)):EW w e b c a d:=
 ⟨k,h.env.iy f i,h.gr.trans f,h.gh.co f j⟩
theorem EW.below{c:Zh}{b:Nat}(h:EW w W b rest kind bad)(a:Zz W c):EW w c b rest kind bad:=
 ⟨h.rs.below a,h.env.below a,h.gr.trans (Aq _ a),h.gh.below a⟩
theorem EW.set{b:Nat}{a:Bool}(h:EW w W b rest kind a)(c:Oj b)(i:b<w.heap.size)(B j:Nat)(v:Value)(f:w.heap.size<B):EW w (W.setCell (Ze B j) v) b rest kind a:=
 ⟨h.rs.co (Az W B j v) Yw,h.env.iy (Az W B j v) (fun g d=>by have:=c g d;omega),h.gr.andThen (Az W B j v) (fun k e=>by cases e;exact .inl Yw),h.gh.bz (Az W B j v) Yw⟩
theorem Sk(s:Zi)(wd:Int):0<=Nj s wd:=(LS _).1
theorem Wd(h:(BQ s wd).2.2=false):0<=wd:=by have d:=FC h;have c:=FC d;have b:=FC c;unfold FP at b;have a:=FC (Bool.or_eq_false_iff.1 b).1;unfold GI at a;simp at a;omega
theorem ZG(j:s.size<=1048576):(BQ s wd).1.size<=1048576/\(Bg s wd).2.1.size<=1048576/\(Be s wd).1.size<=1048576/\(CX s wd).1.size<=1048576:=by
 have f:=EU s (GI wd) (1:Nat);have g:=EU (Ew s wd).2.1 (FP s wd) (4:Nat);have h:=EU (Em s wd).2.1 (Em s wd).2.2 (1:Nat);have b:=EU (Fs s wd).2.1 (Fs s wd).2.2 (Nj s wd);have i:=EU (BQ s wd).2.1 (BQ s wd).2.2 wd;have k:=Zm f.2 j;have l:=Zm g.2 k;have c:=Zm h.2 l;have d:=Zm b.2 c;have e:=Zm b.1 c;have a:(Bg s wd).2.1.size<=1048576:=by
  unfold Bg;split
  .exact Zm i.2 d
  .exact d
 refine⟨e,a,?_,?_⟩
 .unfold Be;split
  .exact Zm (Rf _ _) (Re a)
  .exact Nat.zero_le _
 .unfold CX;split
  .exact Zm (EU _ _ _).2 a
  .exact a
theorem We(s:Zi)(wd:Int):(Be s wd).2.length<=255:=by
 unfold Be;split
 .exact XC _ _
 .exact Nat.zero_le _
theorem EW.lt{b:Nat}(h:EW w W b rest kind bad):w.heap.size<W.heap.size:=h.gh.lt
theorem Uu(b:Nat)(s:Zi)(wd:Int)(w:Zh)(h:Eb w b s 0 false)(he:Env w)(ha:Oj b)(hs:s.size<=1048576):
 Calls prog 146 #[Yz b,Zg wd] w fun e w'=>∃v,e=.returned (.agg #[Zg (AS s wd),.string (Bg s wd).1,.string (BQ s wd).1,Zg (Ff s wd),.string (Be s wd).1,v])/\
  w'.ownsRow w.heap.size 9 1 v (Be s wd).2.length ((Be s wd).2.map Value.string)/\Eb w' b (CX s wd).1 (AS s wd) (CL s wd)/\w.grownBy w' (some b):=by
 have c:=h.lt;have i:=Yx ha;obtain⟨W,hW⟩:∃W,W=w.alloc (.cells Yc 66):=⟨_,rfl⟩;have zH:=(AA hW).1;have E0:Hid (EW w W b s 0 false):=⟨h.below zH,he.below zH,Aq _ zH,by rw[hW];exact Aa.new w _ _⟩;have HW:=Yx hW;clear hW h he ha zH;obtain⟨l,m,f⟩:=E0.o.env.er 0 Yv;go_enter func146,ntmps146;go_upto_region 1 with fail;rw[<-HW.o];clear HW;have xG:decide (1<=wd/\wd<=8)= !GI wd:=by unfold GI;simp
 go_upto_if 10 with(go_at_call 60;refine(Wc wd _).mono ?_;rintro e w' ⟨rfl,yR⟩;rw[yR];clear yR w')
 go_cut [] (fun g=>Hid (EW w g b s 0 (GI wd)))
 case first=>
  cases hb0:GI wd with
  |true=>go_wp2_with fail;refine(Gi b _ _ _ l m W E0.o.rs).mono ?_;rintro e w1 ⟨rfl,h1,g1⟩;go_wp2_with fail;go_meet;rw[hb0];exact E0.o.step i.o c h1 g1
  |false=>go_wp2_with fail;go_meet;rw[hb0];exact E0.o
 case rest=>
 revert wc;intro w1 E1;clear E0 f xG;obtain⟨st,sv,f⟩:=E1.o.env.er 6 Yv;go_wp2_with fail;refine(GU b s 0 (GI wd) 1 st sv w1 E1.o.rs Yw f).mono ?_;rintro e w2 ⟨rfl,h2,g2⟩;have E2:Hid (EW w w2 b (Ew s wd).2.1 0 (Ew s wd).2.2):=E1.o.step i.o c h2 g2;rw[show CK (Bi s (GI wd) (1:Nat)).1.data.toList=AS s wd from rfl];obtain⟨W3,zX⟩:∃W3,W3=w2.setCell (Ze b 1) (Zg (AS s wd)):=⟨_,rfl⟩
 have E3:Hid (EW w W3 b (Ew s wd).2.1 (AS s wd) (Ew s wd).2.2):=by rw[zX];exact E2.o.step i.o c (E2.o.rs.setKind _) (Az _ _ _ _)
 obtain⟨xO,_,I,z,J,F,G,H⟩:=E2.o.rs;have yF:=Yx zX;clear zX h2 g2 f E1;go_upto_region 4 with fail;rw[<-yF.o];clear yF I z J F G H E2;obtain⟨xP,_,I,z,J,F,G,H⟩:=E3.o.rs;go_wp2_with fail;refine(Qr (AS s wd) W3 E3.o.env.ix).mono ?_;rintro e w4 ⟨rfl,yO⟩;have E4:Hid (EW w w4 b (Ew s wd).2.1 (AS s wd) (Ew s wd).2.2):=E3.o.below yO
 obtain⟨W5,zG⟩:∃W5,W5=w4.alloc (.cells #[.bool (ES (AS s wd)),.bool (DW (AS s wd)),.bool (CH (AS s wd)),Zg (ET (AS s wd))] 231):=⟨_,rfl⟩;have yM:=(AA zG).1;have E5:Hid (EW w W5 b (Ew s wd).2.1 (AS s wd) (Ew s wd).2.2):=E4.o.below yM;obtain⟨U,hU⟩:∃U,U=w4.heap.size:=⟨_,rfl⟩
 have U5:Hid (Aa W5 U [.bool (ES (AS s wd)),.bool (DW (AS s wd)),.bool (CH (AS s wd)),Zg (ET (AS s wd))]):=by rw[zG,hU];exact Aa.new w4 _ _
 have xS:w.heap.size<U:=by rw[hU];exact E4.o.lt
 have yG:=Yx zG;have HU:=Yx hU;clear zG hU yM yO E3 E4 I z J F G H;obtain⟨l,m,f⟩:=E5.o.env.er 1 Yv;go_upto_region 5 with fail;rw[<-yG.o,<-HU.o];clear yG HU
 go_upto_if 28 with fail
 go_cut [6] (fun _ g=>Hid (EW w g b (Ew s wd).2.1 (AS s wd) (FP s wd))/\Hid (Aa g U [.bool (ES (AS s wd)),.bool (DW (AS s wd)),.bool (CH (AS s wd)),Zg (ET (AS s wd))]))
 case first=>
  cases hi:EJ (AS s wd)with
  |true=>go_wp2_with fail;go_meet;refine⟨?_,U5.o⟩;rw[show FP s wd=(Ew s wd).2.2 by unfold FP;rw[hi];simp];exact E5.o
  |false=>go_wp2_with fail;refine(Gi b _ _ _ l m W5 E5.o.rs).mono ?_;rintro e a ⟨rfl,h6,g6⟩;go_wp2_with fail;go_meet;refine⟨?_,U5.o.co g6 Yw⟩;rw[show FP s wd=true by unfold FP;rw[hi];simp];exact E5.o.step i.o c h6 g6
 case rest=>
 revert wc;intro a hcut;obtain⟨O,U6⟩:=hcut;clear E5 U5 f;obtain⟨d,zW⟩:∃d:Nat,d=0:=⟨_,rfl⟩;clear zW d;have D6:=Yx (O.o.below ((Below.refl a.heap.size a).drew));have zY:Below a.heap.size a (a.alloc (.cells Yc 66)):=Zy;have V:=Yx (O.o.below zY.drew);have yI:Hid (Aa (a.alloc (.cells Yc 66)).drew a.heap.size Yb):=Aa.new a _ _;obtain⟨xQ,_,I,z,J,F,G,H⟩:=O.o.rs
 have xJ:(a.alloc (.cells Yc 66)).cell? (Ze b 1)=some (Zg (AS s wd)):=(zY.cell (p:=⟨b,1,none⟩) O.o.rs.lt).trans z;obtain⟨l,m,f⟩:=D6.o.env.er 6 Yv;obtain⟨xC,xD,yP⟩:=V.o.env.er 6 Yv;have yB:=O.o.rs.lt;have xF:=O.o.lt;clear zY;go_upto_region 7 with fail
 go_cut [7] (fun v g=>∃d:Nat,v=Yz d/\a.heap.size<=d/\Hid (EW w g b (Em s wd).2.1 (AS s wd) (Em s wd).2.2)/\Hid (a.grownBy g (some b))/\Hid (Aa g d [Zg (AS s wd),Zd,Zd,Zg (Ff s wd),Zd,Zc]))
 case first=>
  go_region_with (first
   |(go_at_call 173;refine(GU b _ _ _ 4 l m a.drew D6.o.rs Yw f).mono ?_;rintro e y ⟨rfl,h7,g7⟩;have E7:Hid (EW w y b (Em s wd).2.1 (AS s wd) (Em s wd).2.2):=D6.o.step i.o c h7 g7;obtain⟨er7,_,y0,y1,y2,_,_,_⟩:=h7;have T:=g7;have xE:=E7.o.rs.lt)
   |(go_at_call 173;refine(GU b _ _ _ 4 xC xD _ V.o.rs Yw yP).mono ?_;rintro e y ⟨rfl,h7,g7⟩;have E7:Hid (EW w y b (Em s wd).2.1 (AS s wd) (Em s wd).2.2):=V.o.step i.o c h7 g7;obtain⟨er7,_,y0,y1,y2,_,_,_⟩:=h7;have P:=Aa.co yI.o g7 yB;have z0:=(P 0 _ rfl);have z1:=(P 1 _ rfl);have Q:=(P 2 _ rfl);have z3:=(P 3 _ rfl);have z4:=(P 4 _ rfl);have z5:=(P 5 _ rfl);obtain⟨z0,y0f⟩:=z0;obtain⟨z1,y1f⟩:=z1;obtain⟨Q,y2f⟩:=Q;obtain⟨z3,y3f⟩:=z3;obtain⟨z4,y4f⟩:=z4;obtain⟨z5,y5f⟩:=z5;have yC:=g7;have xE:=E7.o.rs.lt))
  all_goals go_wp2_with fail
  all_goals go_meet
  all_goals first
   |(have hA:Below y.heap.size y (y.alloc (.cells #[Zg (AS s wd),Zd,Zd,Zg (Ff s wd),Zd,Zc] 66)):=Zy
     exact⟨y.heap.size,rfl,T.size,E7.o.below hA,((Aq (some b) (Below.refl a.heap.size a).drew).trans T).trans (Aq _ hA),Aa.new y _ _⟩)
   |(have E:w.heap.size<a.heap.size:=xF
     refine⟨a.heap.size,rfl,Zx,?_,?_,?_⟩
     .exact(((((E7.o.set i.o c a.heap.size 0 _ E).set i.o c a.heap.size 1 _ E).set i.o c a.heap.size 2 _ E).set i.o c a.heap.size 3 _ E).set i.o c a.heap.size 4 _ E).set i.o c a.heap.size 5 _ E
     .have g0:a.grownBy y (some b):=(Aq (some b) ((Below.refl a.heap.size a).alloc (Zx) _).drew).trans yC
      exact(((((g0.andThen (Az _ a.heap.size 0 _) (fun j e=>by cases e;exact .inl (Zx))).andThen (Az _ a.heap.size 1 _) (fun j e=>by cases e;exact .inl (Zx))).andThen (Az _ a.heap.size 2 _) (fun j e=>by cases e;exact .inl (Zx))).andThen (Az _ a.heap.size 3 _) (fun j e=>by cases e;exact .inl (Zx))).andThen (Az _ a.heap.size 4 _) (fun j e=>by cases e;exact .inl (Zx))).andThen (Az _ a.heap.size 5 _) (fun j e=>by cases e;exact .inl (Zx))
     .exact(((((P.set 0 _).set 1 _).set 2 _).set 3 _).set 4 _).set 5 _)
 case rest=>
 revert wc;intro w8 hcut;obtain⟨d,rfl,zW,E8,G8,Z8⟩:=hcut;have xR:U<d:=Zr U6.o.lt zW;have U8:Hid (Aa w8 U [.bool (ES (AS s wd)),.bool (DW (AS s wd)),.bool (CH (AS s wd)),Zg (ET (AS s wd))]):=U6.o.co G8.o Yw;clear O U6 D6 V yI I z J F G H xJ f yP G8;have u:w.heap.size<d:=Yw
 obtain⟨l,m,f⟩:=E8.o.env.er 6 Yv;go_wp2_with fail;refine(GU b _ _ _ 1 l m w8 E8.o.rs Yw f).mono ?_;rintro e w9 ⟨rfl,h9,g9⟩;have E9:Hid (EW w w9 b (Fs s wd).2.1 (AS s wd) (Fs s wd).2.2):=E8.o.step i.o c h9 g9;have Z9:Hid (Aa w9 d [Zg (AS s wd),Zd,Zd,Zg (Ff s wd),Zd,Zc]):=Z8.o.co g9 Yw
 have U9:Hid (Aa w9 U [.bool (ES (AS s wd)),.bool (DW (AS s wd)),.bool (CH (AS s wd)),Zg (ET (AS s wd))]):=U8.o.co g9 Yw;rw[show CK (Bi (Em s wd).2.1 (Em s wd).2.2 (1:Nat)).1.data.toList=Nj s wd from rfl];clear E8 Z8 U8 h9 g9 f;obtain⟨l,m,f⟩:=E9.o.env.er 6 Yv;go_wp2_with fail;refine(Jc b _ _ _ (Nj s wd) l m w9 E9.o.rs (fun _=>Sk s wd) f).mono ?_;rintro e zI ⟨rfl,yJ,zA⟩
 have yD:Hid (EW w zI b (BQ s wd).2.1 (AS s wd) (BQ s wd).2.2):=E9.o.step i.o c yJ zA;have zP:Hid (Aa zI d [Zg (AS s wd),Zd,Zd,Zg (Ff s wd),Zd,Zc]):=Z9.o.co zA Yw;have yH:Hid (Aa zI U [.bool (ES (AS s wd)),.bool (DW (AS s wd)),.bool (CH (AS s wd)),Zg (ET (AS s wd))]):=U9.o.co zA Yw;rw[show(Bi (Fs s wd).2.1 (Fs s wd).2.2 (Nj s wd)).1=(BQ s wd).1 from rfl];clear E9 Z9 U9 yJ zA f
 obtain⟨Q,xK⟩:=zP.o 2 _ rfl;obtain⟨C,o⟩:∃C,C=zI.setCell (Ze d 2) (.string (BQ s wd).1):=⟨_,rfl⟩;have A:Hid (EW w C b (BQ s wd).2.1 (AS s wd) (BQ s wd).2.2):=by rw[o];exact yD.o.set i.o c d 2 _ u
 have Y:Hid (Aa C d [Zg (AS s wd),Zd,.string (BQ s wd).1,Zg (Ff s wd),Zd,Zc]):=by rw[o];exact zP.o.set 2 _
 have L:Hid (Aa C U [.bool (ES (AS s wd)),.bool (DW (AS s wd)),.bool (CH (AS s wd)),Zg (ET (AS s wd))]):=by rw[o];exact yH.o.bz (Az _ _ _ _) Yw
 have R:=Yx o;clear o yD zP yH;go_upto_region 9 with fail;rw[<-R.o];clear R Q xK;obtain⟨u1,_⟩:=L.o 1 _ rfl
 go_upto_if 45 with fail
 go_cut [] (fun g=>Hid (EW w g b (Bg s wd).2.1 (AS s wd) (Bg s wd).2.2)/\Hid (Aa g U [.bool (ES (AS s wd)),.bool (DW (AS s wd)),.bool (CH (AS s wd)),Zg (ET (AS s wd))])/\Hid (Aa g d [Zg (AS s wd),.string (Bg s wd).1,.string (BQ s wd).1,Zg (Ff s wd),Zd,Zc]))
 case first=>
  cases hu:DW (AS s wd)with
  |true=>
   have e5:Hid (Bg s wd=Bi (BQ s wd).2.1 (BQ s wd).2.2 wd):=by show _=_;unfold Bg;rw[if_pos hu]
   obtain⟨l,m,f⟩:=A.o.env.er 6 Yv;go_wp2_with fail;refine(Jc b _ _ _ wd l m C A.o.rs (fun h=>Wd h) f).mono ?_;rintro e zZ ⟨rfl,zV,zB⟩;rw[<-e5.o]at zV |-;have q:=A.o.step i.o c zV zB;have t:=Y.o.co zB Yw;have M:=L.o.co zB Yw;obtain⟨z1,xW⟩:=t 1 _ rfl;clear zV zB f u1 A Y L;go_wp2_with fail;go_meet;refine⟨q.set i.o c d 1 _ u,?_,t.set 1 _⟩;exact M.bz (Az _ _ _ _) Yw
  |false=>
   have e5:Hid (Bg s wd=(⟨#[]⟩,(BQ s wd).2)):=by show _=_;unfold Bg;rw[if_neg (by rw[hu];decide)]
   go_wp2_with fail;go_meet;rw[e5.o];exact⟨A.o,L.o,Y.o⟩
 case rest=>
 revert wc;intro zZ hcut;obtain⟨q,M,t⟩:=hcut;clear A Y L u1;have zM:=Yx (ZG (wd:=wd) hs);obtain⟨u2,_⟩:=M.o 2 _ rfl
 go_upto_if 51 with fail
 go_cut [] (fun g=>∃(ra:Zk) (n:Nat),Hid (EW w g b (CX s wd).1 (AS s wd) (CX s wd).2)/\Hid (Aa g d (Ye (AS s wd) ((Bg s wd).1) ((BQ s wd).1) (Ff s wd) ((Be s wd).1) ra ((Be s wd).2.length) n))/\Hid (g.ownsRow (w.heap.size+1) 9 1 (.slice ra (Be s wd).2.length n) (Be s wd).2.length ((Be s wd).2.map Value.string)))
 case first=>
  cases hu:CH (AS s wd)with
  |true=>
   have e6:Hid (CX s wd=(JP (Bg s wd).2.1 (Bg s wd).2.2,Gq (Bg s wd).2.1 (Bg s wd).2.2 wd)):=by show _=_;unfold CX;rw[if_pos hu]
   have et:Hid (Be s wd=((rd (Fa (Bg s wd).2.1 (Bg s wd).2.2) wd).1,(rd (Fa (Bg s wd).2.1 (Bg s wd).2.2) wd).2.1)):=by show _=_;unfold Be;rw[if_pos hu]
   go_wp2_with fail;refine(Uq b _ _ _ wd zZ q.o.rs q.o.env i.o zM.o.2.1).mono ?_;rintro e xH ⟨v,rfl,ho,zF,zU⟩;have t1:(rd (Fa (Bg s wd).2.1 (Bg s wd).2.2) wd).1=(Be s wd).1:=by rw[et.o]
   have t2:(rd (Fa (Bg s wd).2.1 (Bg s wd).2.2) wd).2.1=(Be s wd).2:=by rw[et.o]
   rw[t2]at ho;rw[t1];clear t1 t2;have zF:Eb xH b (CX s wd).1 (AS s wd) (CX s wd).2:=by rw[e6.o];exact zF
   obtain⟨ra,n,hv,_⟩:=Ea ho;subst hv;have yS:=q.o.step i.o c zF zU;have xN:=q.o.lt;have Z:=t.o.co zU Yw;have xM:=Z.lt;obtain⟨z4,xX⟩:=Z 4 _ rfl;obtain⟨z5,xY⟩:=Z 5 _ rfl;have S:d<zZ.heap.size:=t.o.lt;clear zF zU u2 q M t e6 et;go_wp2_with fail;go_meet
   exact⟨ra,n,(yS.set i.o c d 4 _ u).set i.o c d 5 _ u,(Z.set 4 _).set 5 _,(ownsRow_setCell_below (ownsRow_setCell_below ho S _) S _).mono Yw⟩
  |false=>
   have e6:Hid (CX s wd=(Bg s wd).2):=by show _=_;unfold CX;rw[if_neg (by rw[hu];decide)]
   have et:Hid (Be s wd=(⟨#[]⟩,[])):=by show _=_;unfold Be;rw[if_neg (by rw[hu];decide)]
   go_wp2_with fail;go_meet;rw[e6.o,et.o];exact⟨none,0,q.o,t.o,World.ownsRow_nil _ _ _ _⟩
 case rest=>
 revert wc;intro xI hcut;obtain⟨ra,n,B,zR,X⟩:=hcut;clear q M t u2;obtain⟨xL,_,I,z,J,F,G,H⟩:=B.o.rs;obtain⟨l,m,f⟩:=B.o.env.er 2 Yv;have yN:∀k,(Value.slice ra (Be s wd).2.length n).ownBlock=some k->b<k:=fun k hk=>by have:=(X.o.lt k hk).1;omega
 have yE:=Yx yN;clear yN
 go_upto_if 60 with fail
 go_cut [] (fun g=>Hid (EW w g b (CX s wd).1 (AS s wd) (FQ s wd))/\Hid (Aa g d (Ye (AS s wd) ((Bg s wd).1) ((BQ s wd).1) (Ff s wd) ((Be s wd).1) ra ((Be s wd).2.length) n))/\Hid (g.ownsRow (w.heap.size+1) 9 1 (.slice ra (Be s wd).2.length n) (Be s wd).2.length ((Be s wd).2.map Value.string)))
 case first=>
  have yQ:=Yx (FN (s:=(CX s wd).1));cases hq:(CX s wd).1.toList.isEmpty with
  |true=>
   have N:(CX s wd).1.size=0:=by have:=yQ.o;rw[hq]at this;simpa using this.symm
   have h0:=Yx N;clear N;clear hq;go_wp2_with fail;go_meet;rw[show FQ s wd=(CX s wd).2 by unfold FQ;rw[decide_eq_true h0.o];simp];exact⟨B.o,zR.o,X.o⟩
  |false=>
   have N:¬(CX s wd).1.size=0:=by have:=yQ.o;rw[hq]at this;simpa using this.symm
   have h0:=Yx N;clear N;clear hq;go_wp2_with fail;refine(Gi b _ _ _ l m xI B.o.rs).mono ?_;rintro e xT ⟨rfl,yK,zC⟩;have yT:=B.o.step i.o c yK zC;have yZ:=zR.o.co zC Yw;have yW:=X.o.kept zC (.inr (fun e=>by have:=yE.o b e;omega));clear yK zC I z J F G H f;go_wp2_with fail;go_meet;rw[show FQ s wd=true by unfold FQ;rw[decide_eq_false h0.o];simp];exact⟨yT,yZ,yW⟩
 case rest=>
 revert wc;intro yA hcut;obtain⟨zK,zS,zN⟩:=hcut;clear B zR X I z J F G H f;obtain⟨z0,z1,Q,z3,z4,z5⟩:=Aa.c6 zS.o 0 1 2 3 4 5;have hlen:=We s wd;have yV:Hid (Ad yA yA.heap.size ra (Be s wd).2):=by obtain⟨a',c',hv,hr⟩:=Ea zN.o;cases hv;exact hr
 go_wp2_with fail;refine(Aag (AS s wd) (Bg s wd).1 (BQ s wd).1 (Ff s wd) (Be s wd).1 ra n (Be s wd).2 wd yA zK.o.env.ix yV.o Yw (by have:=zM.o.2.2.1;unfold maxLen;omega) (by have:=zM.o.1;unfold maxLen;omega)).mono ?_;rintro e zJ ⟨rfl,x⟩;rw[show Cn (AS s wd) (Bg s wd).1 (BQ s wd).1 (Ff s wd) (Be s wd).1 (Be s wd).2 wd=JQ s wd from rfl]
 have K:Hid (EW w zJ b (CX s wd).1 (AS s wd) (FQ s wd)):=zK.o.below x;have zT:Hid (Aa zJ d (Ye (AS s wd) ((Bg s wd).1) ((BQ s wd).1) (Ff s wd) ((Be s wd).1) ra ((Be s wd).2.length) n)):=zS.o.below x;have zO:Hid (zJ.ownsRow (w.heap.size+1) 9 1 (.slice ra (Be s wd).2.length n) (Be s wd).2.length ((Be s wd).2.map Value.string)):=zN.o.kept (Aq none x) (Classical.em _);clear zK zS zN z0 z1 Q z3 z4 z5 x
 obtain⟨l,m,f⟩:=K.o.env.er 3 Yv
 go_upto_if 67 with fail
 go_cut [] (fun g=>Hid (EW w g b (CX s wd).1 (AS s wd) (CL s wd))/\Hid (Aa g d (Ye (AS s wd) ((Bg s wd).1) ((BQ s wd).1) (Ff s wd) ((Be s wd).1) ra ((Be s wd).2.length) n))/\Hid (g.ownsRow (w.heap.size+1) 9 1 (.slice ra (Be s wd).2.length n) (Be s wd).2.length ((Be s wd).2.map Value.string)))
 case first=>
  cases hok:JQ s wd with
  |true=>go_wp2_with fail;go_meet;rw[show CL s wd=FQ s wd by unfold CL;rw[hok];simp];exact⟨K.o,zT.o,zO.o⟩
  |false=>go_wp2_with fail;refine(Gi b _ _ _ l m zJ K.o.rs).mono ?_;rintro e xU ⟨rfl,yL,zE⟩;have yU:=K.o.step i.o c yL zE;have xA:=zT.o.co zE Yw;have yX:=zO.o.kept zE (.inr (fun e=>by have:=yE.o b e;omega));clear yL zE f;go_wp2_with fail;go_meet;rw[show CL s wd=true by unfold CL;rw[hok];simp];exact⟨yU,xA,yX⟩
 case rest=>
 revert wc;intro xV hcut;obtain⟨r,xB,yY⟩:=hcut;clear K zT zO f;obtain⟨z0,z1,Q,z3,z4,z5⟩:=Aa.c6 xB.o 0 1 2 3 4 5;obtain⟨r0,q0⟩:=r.o.gh 0 _ rfl;obtain⟨r1,q1⟩:=r.o.gh 1 _ rfl;obtain⟨r2,q2⟩:=r.o.gh 2 _ rfl;obtain⟨r3,q3⟩:=r.o.gh 3 _ rfl;obtain⟨r4,q4⟩:=r.o.gh 4 _ rfl;obtain⟨r5,q5⟩:=r.o.gh 5 _ rfl;have D:b≠w.heap.size:=Yw
 go_wp2;refine bodyPost_ret (v:=.agg (Yh (AS s wd) ((Bg s wd).1) ((BQ s wd).1) (Ff s wd) ((Be s wd).1) ra ((Be s wd).2.length) n)) (by simp[results,results146,go_sem, *]) rfl ?_;have hz:w.heap.size<w.heap.size+1:=Yw
 refine⟨_,rfl,?_,?_,?_⟩
 .refine World.ownsRow.mono ?_ (Nat.le_succ w.heap.size)
  iterate 6 (refine ownsRow_setCell_below ?_ hz _)
  exact yY.o
 .exact(((((r.o.rs.co (Az _ w.heap.size 0 _) D).co (Az _ w.heap.size 1 _) D).co (Az _ w.heap.size 2 _) D).co (Az _ w.heap.size 3 _) D).co (Az _ w.heap.size 4 _) D).co (Az _ w.heap.size 5 _) D
 .exact(((((r.o.gr.andThen (Az _ w.heap.size 0 _) (fun j e=>by cases e;exact .inl (Zx))).andThen (Az _ w.heap.size 1 _) (fun j e=>by cases e;exact .inl (Zx))).andThen (Az _ w.heap.size 2 _) (fun j e=>by cases e;exact .inl (Zx))).andThen (Az _ w.heap.size 3 _) (fun j e=>by cases e;exact .inl (Zx))).andThen (Az _ w.heap.size 4 _) (fun j e=>by cases e;exact .inl (Zx))).andThen (Az _ w.heap.size 5 _) (fun j e=>by cases e;exact .inl (Zx))
end Go.Proofs.YtcankpdbabaacaaGreatDoor
