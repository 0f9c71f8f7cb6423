import Derived.Test.YtlhhpofjkgmbeaaGreatDoorX10
import Derived.Test.YtlhhpofjkgmbeaaGreatDoorX15
import Derived.Deep.MidRow
import Derived.Sort.Walk0
set_option maxRecDepth 100000
set_option maxHeartbeats 16000000
namespace Go.Proofs.YtlhhpofjkgmbeaaGreatDoor
open Go.ChangeShapes Go.WideShapes Go.ChangeAt Go.RowKit _root_.Go.Proofs.Tryz
abbrev Ag(n:Nat):Edge:=⟨n,.phase⟩
abbrev Al(n:Nat):Edge:=⟨n,.data⟩
theorem Bq{P:Program}{d:Array Oper}{Q:Exit->Act->Zh->Prop}{f:Region.Mode}{S:Zh->Prop}(i:Nat)(g:Oper)(v:Value){e:Nat}{b:Array Bool}{a:Act}{w:Zh}(k:S w)
 (h:wpAnyH P f d Q S e (b.setIfInBounds i true) (a.put g.dst v) w) (m:d[i]?=some g:=by exact rfl) (o:Region.noSelect d=true:=by kernel_rfl) (l:Region.free f d b i=true:=by kernel_rfl) (n:(Region.ready f d b).contains i=true:=by kernel_rfl)
 (j:∀c a w,Q (.panic c) (a.put g.dst v) w->Q (.panic c) a w:=by exact fun _ _ _ h=>h) (p:YieldsIf P d S g v a:=by exact Or.inl ⟨by rfl,fun _ _=>by go_simp⟩):wpAnyH P f d Q S (e+1) b a w:=
 wpAnyH_take m o l n j p k h
theorem DV{P:Program}{d:Array Oper}{Q:Exit->Act->Zh->Prop}{f:Region.Mode}{S:Zh->Prop}(i:Nat)(g:Oper){e:Nat}{b:Array Bool}{a:Act}{w:Zh}(k:S w)
 (h:wpAnyH P f d Q S e (b.setIfInBounds i true) (a.put g.dst undef) w) (m:d[i]?=some g:=by exact rfl) (o:Region.noSelect d=true:=by kernel_rfl) (l:Region.free f d b i=true:=by kernel_rfl) (n:(Region.ready f d b).contains i=true:=by kernel_rfl)
 (j:∀c a w,Q (.panic c) (a.put g.dst undef) w->Q (.panic c) a w:=by exact fun _ _ _ h=>h) (p:YieldsIf P d S g undef a:=by exact Or.inr ⟨by rfl,rfl⟩):wpAnyH P f d Q S (e+1) b a w:=
 wpAnyH_take m o l n j p k h
theorem Et{P:Program}{d:Array Oper}{Q:Exit->Act->Zh->Prop}{f:Region.Mode}{S:Zh->Prop}(i:Nat)(g:Oper)(v:Value){e:Nat}{b:Array Bool}{a:Act}{w:Zh}(p:YieldsIf P d S g v a)(k:S w)
 (h:wpAnyH P f d Q S e (b.setIfInBounds i true) (a.put g.dst v) w) (m:d[i]?=some g:=by exact rfl) (o:Region.noSelect d=true:=by kernel_rfl) (l:Region.free f d b i=true:=by kernel_rfl) (n:(Region.ready f d b).contains i=true:=by kernel_rfl)
 (j:∀c a w,Q (.panic c) (a.put g.dst v) w->Q (.panic c) a w:=by exact fun _ _ _ h=>h):wpAnyH P f d Q S (e+1) b a w:=
 wpAnyH_take m o l n j p k h
theorem Br{P:Program}{c:Array Oper}{Q:Exit->Act->Zh->Prop}{f:Region.Mode}{S:Zh->Prop}(i:Nat)(o:Oper){d:Nat}{b:Array Bool}{a:Act}{w:Zh}
 (h:∀e:Act->Zh->Prop,Shut (∀a w,S w->(S w->wpAnyH P f c Q S d (b.setIfInBounds i true) a w)->e a w)->if Region.wanted o (yielded c a.tmps)=true then Oper.wp P o a w e Q else e (a.put o.dst undef) w)
 (g:c[i]?=some o:=by exact rfl) (j:Region.ready f c b=[i]:=by kernel_rfl):wpAnyH P f c Q S (d+1) b a w:=
 wpAnyH_ready j (by simp) (AllReadyH.cons g h AllReadyH.nil)
theorem JR(d:Nat)(V:List Nat)(kd:Int)(s nm u:Zi)(num:Int)(q:Zk)(t r:Nat)(C:Int->Zi->Zi->Prop)(z:Zi->Int->Zh->Prop)(w:Zh)(hV:∀b∈V,b<w.heap.size)
 (I:∀g le X X' R zE,z g le X->X.heap[R]?=some (.cells zE 82)->w.heap.size<=R->Tn [R] X X'->z g le X')
 (h:∀X,Zz w X->Calls prog 145 #[Yz d,.agg (Yp kd s nm num u q t r)] X fun e m=>(∃c a b,C c a b/\e=.panicked [{v:=ay c a b,recovered:=false}]/\Tn V X m)∨(∃g le,e=.returned (.agg #[Zf,Zf,Zf,Zf,Zf,Zc,Zc,Zc,.string g,Zg le,Zd,Zd])/\z g le m/\Tn V X m)):
 Calls prog 101 #[Yz d,.agg (Yp kd s nm num u q t r)] w fun e m=>(∃c a b,C c a b/\e=.returned (.agg (BW c a b).toArray)/\Tn V w m)∨(∃g le,e=.returned (.agg #[Zf,Zf,Zf,Zf,Zf,Zc,Zc,Zc,.string g,Zg le,Zd,Zd])/\z g le m/\Tn V w m):=by
 suffices hs:∀Q:Ending->Zh->Prop,(∀c a b i,C c a b->Tn V w i->Q (.returned (.agg (BW c a b).toArray)) i)->(∀g le i,z g le i->Tn V w i->Q (.returned (.agg #[Zf,Zf,Zf,Zf,Zf,Zc,Zc,Zc,.string g,Zg le,Zd,Zd])) i)->Calls prog 101 #[Yz d,.agg (Yp kd s nm num u q t r)] w Q from
  hs _ (fun c a b i o M=> .inl ⟨c,a,b,o,rfl,M⟩) (fun g le i o M=> .inr ⟨g,le,rfl,o,M⟩)
 intro Q D E;have zA:=Yx D;have zB:=Yx E;clear D E;have zG:∀(fn:Fn) (first cap:Array Value) (w:Zh),(Instr.makeFunc fn first cap).run prog w=.ok (.func fn first cap) w:=fun _ _ _ _=>rfl;obtain⟨W,l⟩:∃W,W=(w.alloc (.cells (Yp kd s nm num u q t r) 60)).alloc (.cells Yr 82):=⟨_,rfl⟩;have N:=(AW l).1;have J:=(AW l).2.1;have xE:=(AW l).2.2.1;have zR:Aa W (w.heap.size+1) z12:=by have o:=Aa.new (w.alloc (.cells (Yp kd s nm num u q t r) 60)) z12 82;rw[World.size_alloc]at o;rw[l];exact o
 have G:W.heap[w.heap.size+1]?=some (.cells Yr 82):=by have:=heap_alloc_new (w.alloc (.cells (Yp kd s nm num u q t r) 60)) (.cells Yr 82);rw[World.size_alloc]at this;rw[l];exact this
 obtain⟨e0,e1,e2,e3,e4,e5⟩:=Aa.c6 xE 0 1 2 3 4 5;have L:=Yx (h W N);have HW:=Yx l;have n:=Yx (Zb zR (Zb G (Zb N J)));have HV:=Yx hV;have zC:=Yx I;clear l zR J xE h G N hV I
 go_enter_defers func101,ntmps101
 go_upto_region 1 with fail;rw[←HW.o];clear HW;go_wp2_with fail;refine Calls.mono L.o ?_;intro e w1 zF;have zz:=n.o.2.2.2;have p:w.heap.size+1∉V:=fun h=>by have:=HV.o _ h;omega
 obtain⟨c,a,b,H,rfl,k⟩|⟨g,le,rfl,hy,k⟩:=zF
 ·have x:=Aa.same n.o.1 (k.block _ (by omega) p);clear e0 e1 e2 e3 e4 e5 L;refine leaves_cons (f:=144) (args:= #[Yz (w.heap.size+1)]) (by simp) (by simp[go_sem]) ?_;refine(OV (w.heap.size+1) c a b w1 x).mono ?_;rintro e u' i ⟨rfl,rfl,j,ht⟩;have O:=(j 0 _ rfl).1;have P:=(j 1 _ rfl).1;have S:=(j 2 _ rfl).1;have T:=(j 3 _ rfl).1;have U:=(j 4 _ rfl).1;have Y:=(j 5 _ rfl).1;have Z:=(j 6 _ rfl).1
  have y7:=(j 7 _ rfl).1;have y8:=(j 8 _ rfl).1;have y9:=(j 9 _ rfl).1;have A:=(j 10 _ rfl).1;have B:=(j 11 _ rfl).1;have y:Hid (C c a b/\Tn V w i):=⟨H,Tn.fresh ((Tn.of n.o.2.2.1).trans k) ht (by omega)⟩;clear j ht H;simp[Leaves,settle,results,results101,go_sem,O,P,S,T,U,Y,Z,y7,y8,y9,A,B];exact zA.o c a b _ y.o.1 y.o.2
 ·have x:=Aa.same n.o.1 (k.block _ (by omega) p);have F:=(k.block _ (by omega) p).trans n.o.2.1;have K:=Yx (Zn hy (Zn k F));obtain⟨⟨O,q0⟩,⟨P,q1⟩,⟨S,q2⟩,⟨T,q3⟩,⟨U,q4⟩,⟨Y,q5⟩,⟨Z,q6⟩,⟨y7,q7⟩,⟨y8,q8⟩,⟨y9,q9⟩,⟨A,zH⟩,B,zI⟩:=AT x;clear hy k x F e0 e1 e2 e3 e4 e5 L zz p;go_wp2;refine leaves_cons (f:=144) (args:= #[Yz (w.heap.size+1)]) (by simp) (by simp[go_sem]) ?_
  refine(QH ⟨w.heap.size+1,0,none⟩ _).mono ?_;rintro e u' i ⟨rfl,rfl,rfl⟩;have HT:=Yx (Bh w1 (w.heap.size+1) Zf Zf Zf Zf Zf Zc Zc Zc (.string g) (Zg le) Zd Zd);have y:=Yx (Zn (zC.o g le _ _ _ _ K.o.1 K.o.2.2 (by omega) HT.o) (Tn.fresh ((Tn.of n.o.2.2.1).trans K.o.2.1) HT.o (by omega)));simp[Leaves,settle,results,results101,go_sem,O,P,S,T,U,Y,Z,y7,y8,y9,A,B];exact zB.o g le _ y.o.1 y.o.2
theorem WK(base d m:Nat)(O P L:Value)(wd now given ae:Int)(ks:List Kd)(ps:List Pd)(ls:List Ld)(n s:Zi)(w:Zh)(h:DU w base d m O P L wd now given ae ks ps ls)(i:∀k∈ks,(k.sum.size:Int)=wd)(f:Ax ks s)(o:ps.length<=100)(c:ps.Pairwise (fun a b=>less a.name b.name=true))(g:(∃x∈ps,x.name=n)∨ps.length<100):
 Calls prog 175 #[Yz d,.string n,.string s] w fun e j=>e=.returned (.tuple #[])/\∃l,DU j base d m O l L wd now given ae ks (Bl ps n s) ls/\Tn (d::P.ownBlock.toList) w j:=by
 by_cases hth:∃x∈ps,x.name=n
 ·exact Wp base d m O P L wd now given ae ks ps ls n s w h i f (by omega) c hth
 ·exact Wq base d m O P L wd now given ae ks ps ls n s w h i f (by rcases g with h|h;exact absurd h hth;exact h) c hth
theorem MU(base d m:Nat)(O P L:Value)(wd now given ae:Int)(ks:List Kd)(ps:List Pd)(ls:List Ld)(s nm r:Zi)(num:Int)(o:Zk)(q p:Nat)(w:Zh)(h:DU w base d m O P L wd now given ae ks ps ls)(S:∀k∈ks,(k.sum.size:Int)=wd)(z:Ax ks s)(hl:ps.length<=100)(l:ps.Pairwise (fun a b=>less a.name b.name=true))(j:(∃x∈ps,x.name=nm)∨ps.length<100):
 Calls prog 145 #[Yz d,.agg (Yp 2 s nm num r o q p)] w fun e K=>e=.returned (.agg z12.toArray)/\∃X,DU K base d m O X L wd now given ae ks (Bl ps nm s) ls/\Tn (d::P.ownBlock.toList) w K:=by
 obtain⟨W,c⟩:∃W,W=((w.alloc (.cells (Yp 2 s nm num r o q p) 60)).alloc (.cells Yr 82)).alloc (.cells Yr 82):=⟨_,rfl⟩;have G:=(Bm c).1;have D:=(Bm c).2.1;have N:=(Bm c).2.2.1;have R:Aa W (w.heap.size+1) z12:=by have n:=Aa.new (w.alloc (.cells (Yp 2 s nm num r o q p) 60)) z12 82;rw[World.size_alloc]at n;rw[c];exact Aa.below (v:=Zf) n (Zy)
 have Q:Aa W (w.heap.size+2) z12:=by have n:=Aa.new ((w.alloc (.cells (Yp 2 s nm num r o q p) 60)).alloc (.cells Yr 82)) z12 82;rw[World.size_alloc,World.size_alloc]at n;rw[c];exact n
 have B:W.heap[w.heap.size+1]?=some (.cells Yr 82):=by rw[c,Below.heap_alloc _ _ _ (by simp)];have:=heap_alloc_new (w.alloc (.cells (Yp 2 s nm num r o q p) 60)) (.cells Yr 82);rw[World.size_alloc]at this;exact this
 have J:=h.below G;have zA:=h.dr.box.lt;have C:∀b∈d::P.ownBlock.toList,b<w.heap.size:=fun b i=>h.dr.cg b (by unfold vB;simp at i ⊢;rcases i with rfl|i<;>simp[*]);have H:=Yx (WK base d m O P L wd now given ae ks ps ls nm s W J S z hl l j);have I:=Yx c
 have g:Hid (Aa W (w.heap.size+1) z12/\Aa W (w.heap.size+2) z12/\W.heap[w.heap.size+1]?=some (.cells Yr 82)/\Zz w W/\W.heap.size=w.heap.size+3/\base<=w.heap.size):=⟨R,Q,B,G,D,h.lo⟩;have u:=Yx C;obtain⟨Y,Z,e2,e3⟩:=Aa.c4 N 0 1 2 3;clear c h J R Q B G D N C;go_enter func145,ntmps145;go_upto_region 2 with fail;rw[←I.o];clear I;go_wp2_with fail;refine Calls.mono H.o ?_;rintro e M ⟨rfl,V,y,f⟩
 have zz:=g.o.2.2.2.2.1;have F:=Aa.same g.o.1 (f.block _ (by omega) (fun h=>by have:=u.o _ h;omega));have E:=Aa.same g.o.2.1 (f.block _ (by omega) (fun h=>by have:=u.o _ h;omega));have A:=(f.block _ (by omega) (fun h=>by have:=u.o _ h;omega)).trans g.o.2.2.1;have t:=Yx (Zn y (Zn f (y.cm A (by omega))))
 obtain⟨⟨y0,q0⟩,⟨y1,q1⟩,⟨y2,q2⟩,⟨y3,q3⟩,⟨y4,q4⟩,⟨y5,q5⟩,⟨y6,q6⟩,⟨y7,q7⟩,⟨y8,q8⟩,⟨y9,q9⟩,⟨T,zB⟩,U,zC⟩:=AT F;obtain⟨⟨v0,_⟩,⟨v1,_⟩,⟨v2,_⟩,⟨v3,_⟩,⟨v4,_⟩,⟨v5,_⟩,⟨v6,_⟩,⟨v7,_⟩,⟨v8,_⟩,⟨v9,_⟩,⟨zE,_⟩,zF,_⟩:=AT E;clear y f F E A Y Z e2 e3 H zz;go_wp2
 refine bodyPost_ret (v:=.agg z12.toArray) (by simp[results,results145,go_sem,y0,y1,y2,y3,y4,y5,y6,y7,y8,y9,T,U,z12]) rfl ⟨rfl,V,t.o.1.an (Bh M (w.heap.size+1) _ _ _ _ _ _ _ _ _ _ _ _) (by intro b i;simp at i;subst i;exact⟨by have:=g.o.2.2.2.2.2;omega,t.o.2.2⟩),Tn.fresh ((Tn.of g.o.2.2.2.1).trans t.o.2.1) (Bh M (w.heap.size+1) _ _ _ _ _ _ _ _ _ _ _ _) (by omega)⟩
theorem Lb(base d m:Nat)(O P L:Value)(wd now given ae:Int)(ks:List Kd)(ps:List Pd)(ls:List Ld)(s nm u:Zi)(num:Int)(q:Zk)(t r:Nat)(w:Zh)(f:Dr w base d m O P L wd now given ae ks ps ls)(U:Fa wd ks)(hp:ps.length<=100)(hl:ls.length<=200)(V:Ax ks s)(j:¬(((∃p∈ps,p.sum=s)∨∃l∈ls,l.sum=s)∨∃k∈ks,s∈k.refs)):
 Calls prog 145 #[Yz d,.agg (Yp 7 s nm num u q t r)] w fun e N=>e=.returned (.agg z12.toArray)/\∃o,Dr N base d m o P L wd now given ae (EE ks s) ps ls/\o.ownBlock=O.ownBlock/\Tn (vB d m O P L) w N:=by
 obtain⟨W,a⟩:∃W,W=((w.alloc (.cells (Yp 7 s nm num u q t r) 60)).alloc (.cells Yr 82)).alloc (.cells Yr 82):=⟨_,rfl⟩;have K:=(Bm a).1;have B:=(Bm a).2.1;have e0:W.cell? (Ze (w.heap.size) 0)=some (Zg 7):=by rw[a];simp[go_sem]
 have e1:W.cell? (Ze (w.heap.size) 1)=some (.string s):=by rw[a];simp[go_sem]
 have R:Aa W (w.heap.size+1) z12:=by have g:=Aa.new (w.alloc (.cells (Yp 7 s nm num u q t r) 60)) z12 82;rw[World.size_alloc]at g;rw[a];exact Aa.below (v:=Zf) g (Zy)
 have Q:Aa W (w.heap.size+2) z12:=by have g:=Aa.new ((w.alloc (.cells (Yp 7 s nm num u q t r) 60)).alloc (.cells z12.toArray 82)) z12 82;rw[World.size_alloc,World.size_alloc]at g;rw[a];exact g
 have G:=Yx (f.below K);have y:Hid (∀b∈vB d m O P L,b<w.heap.size):=by
  intro b c;unfold vB at c;simp only[List.mem_cons,List.mem_append,Option.mem_toList]at c;rcases c with rfl|rfl|c|c|c
  ·exact f.box.lt
  ·exact(f.map.choose_spec.choose_spec.2.1).lt
  ·exact(Ac f.ord c).2
  ·exact(Ac f.ci c).2
  ·exact(Ac f.ck c).2
 have Z:Hid (W.heap[w.heap.size+1]?=some (.cells Yr 82)):=by show _=_;rw[a,Below.heap_alloc _ _ _ (by simp)];have:=heap_alloc_new (w.alloc (.cells (Yp 7 s nm num u q t r) 60)) (.cells Yr 82);rw[World.size_alloc]at this;exact this
 have F:base<=w.heap.size:=by have:=f.bd;have:=f.box.lt;omega
 have H:=Yx a;have I:=Yx (Zn R Q);have x:=Yx B;clear a f R Q B;go_enter func145,ntmps145;go_upto_region 2 with fail;rw[←H.o];clear H;go_wp2_with fail;refine(Up base d m O P L wd now given ae ks ps ls s W G.o U hp hl V j).mono ?_;rintro e E ⟨rfl,o,A,M,i⟩;have D:=Aa.same I.o.1 (i.block _ (by have:=x.o;omega) (fun h=>by have:=y.o _ h;omega))
 have C:=Aa.same I.o.2 (i.block _ (by have:=x.o;omega) (fun h=>by have:=y.o _ h;omega));obtain⟨⟨y0,q0⟩,⟨y1,q1⟩,⟨y2,q2⟩,⟨y3,q3⟩,⟨y4,q4⟩,⟨y5,q5⟩,⟨y6,q6⟩,⟨y7,q7⟩,⟨y8,q8⟩,⟨y9,q9⟩,⟨X,zA⟩,Y,zB⟩:=AT D;obtain⟨⟨v0,_⟩,⟨v1,_⟩,⟨v2,_⟩,⟨v3,_⟩,⟨v4,_⟩,⟨v5,_⟩,⟨v6,_⟩,⟨v7,_⟩,⟨v8,_⟩,⟨v9,_⟩,⟨zC,_⟩,zE,_⟩:=AT C;have n:=Yx (Zn A (Zn M i));clear A M i D C e0 e1 G;go_wp2;have T:w.heap.size+1∉vB d m o P L:=fun h=>by
  have:w.heap.size+1∈vB d m O P L:=by unfold vB at h ⊢;rw[n.o.2.1]at h;exact h
  have:=y.o _ this;omega
 have S:∀z J,E.heap[w.heap.size+1]?≠some (.cells z 9 J):=fun z J e=>by have g:=n.o.2.2.block (w.heap.size+1) (by have:=x.o;omega) (fun h=>by have:=y.o _ h;omega);rw[e,Z.o]at g;simp at g
 refine bodyPost_ret (v:=.agg z12.toArray) (by simp[results,results145,go_sem,y0,y1,y2,y3,y4,y5,y6,y7,y8,y9,X,Y,z12]) rfl ⟨rfl,o,Dr.apart n.o.1 (Bh E _ _ _ _ _ _ _ _ _ _ _ _ _) (by omega) T S,n.o.2.1,Tn.fresh ((Tn.of K).trans n.o.2.2) (Bh E _ _ _ _ _ _ _ _ _ _ _ _ _) (by omega)⟩
theorem Km(base d m:Nat)(O P L:Value)(wd now given ae:Int)(ks:List Kd)(ps:List Pd)(ls:List Ld)(s nm n:Zi)(num:Int)(h:Zk)(j i:Nat)(w:Zh)(g:Dr w base d m O P L wd now given ae ks ps ls)(q:Fa wd ks)(x:ps.length<=100)(u:ls.length<=200)(r:Ax ks s)(b:((∃p∈ps,p.sum=s)∨∃l∈ls,l.sum=s)∨∃k∈ks,s∈k.refs):
 Calls prog 145 #[Yz d,.agg (Yp 7 s nm num n h j i)] w fun e y=>e=.panicked [{v:=ay 6 ⟨#[]⟩ ⟨#[]⟩,recovered:=false}]/\Zz w y:=by
 obtain⟨W,a⟩:∃W,W=((w.alloc (.cells (Yp 7 s nm num n h j i) 60)).alloc (.cells Yr 82)).alloc (.cells Yr 82):=⟨_,rfl⟩;have c:=(Bm a).1;have z:W.cell? (Ze (w.heap.size) 0)=some (Zg 7):=by rw[a];simp[go_sem]
 have A:W.cell? (Ze (w.heap.size) 1)=some (.string s):=by rw[a];simp[go_sem]
 have t:=Yx (g.below c);have f:=Yx a;clear a g;go_enter func145,ntmps145;go_upto_region 2 with fail;rw[←f.o];clear f;go_wp2_with fail;refine(Ss base d m O P L wd now given ae ks ps ls s W t.o q x u r b).mono ?_;rintro e B ⟨rfl,o⟩;exact⟨rfl,rfl,c.trans (o.mono c.size)⟩
theorem Oh(base d m:Nat)(O P L:Value)(wd now given ae:Int)(ks:List Kd)(ps:List Pd)(ls:List Ld)(s:Zi)(w:Zh)(c:Dr w base d m O P L wd now given ae ks ps ls)(a:∀k∈ks,(k.sum.size:Int)=wd)(b:¬Ax ks s):
 Calls prog 179 #[Yz d,.string s] w fun e g=>e=.panicked [{v:=ay 2 ⟨#[]⟩ ⟨#[]⟩,recovered:=false}]/\Zz w g:=by
 have HN:=Yx (JC base d m O P L wd now given ae ks ps ls s w c a b);clear c a b;go_enter func179,ntmps179;go_wp2_with fail;refine Calls.mono HN.o ?_;rintro e h ⟨rfl,f⟩;go_wp2;exact⟨rfl,rfl,f⟩
theorem IP(base d m:Nat)(O P L:Value)(wd now given ae:Int)(ks:List Kd)(ps:List Pd)(ls:List Ld)(s nm j:Zi)(num:Int)(g:Zk)(i h:Nat)(w:Zh)(f:Dr w base d m O P L wd now given ae ks ps ls)(n:∀k∈ks,(k.sum.size:Int)=wd)(o:¬Ax ks s):
 Calls prog 145 #[Yz d,.agg (Yp 7 s nm num j g i h)] w fun e q=>e=.panicked [{v:=ay 2 ⟨#[]⟩ ⟨#[]⟩,recovered:=false}]/\Zz w q:=by
 obtain⟨W,a⟩:∃W,W=((w.alloc (.cells (Yp 7 s nm num j g i h) 60)).alloc (.cells Yr 82)).alloc (.cells Yr 82):=⟨_,rfl⟩;have b:=(Bm a).1;have r:W.cell? (Ze (w.heap.size) 0)=some (Zg 7):=by rw[a];simp[go_sem]
 have t:W.cell? (Ze (w.heap.size) 1)=some (.string s):=by rw[a];simp[go_sem]
 have p:=Yx (f.below b);have c:=Yx a;clear a f;go_enter func145,ntmps145;go_upto_region 2 with fail;rw[←c.o];clear c;go_wp2_with fail;refine(Oh base d m O P L wd now given ae ks ps ls s W p.o n o).mono ?_;rintro e u ⟨rfl,l⟩;exact⟨rfl,rfl,b.trans (l.mono b.size)⟩
theorem VM{c:Zl}(h:∀(j:Nat) p q,c[j]?=some p->c[j+1]?=some q->less p q=true):c.Pairwise (fun a b=>less a b=true):=by
 have k:∀(d i:Nat) u v,c[i]?=some u->c[i+d+1]?=some v->less u v=true:=by
  intro d;induction d with
  |zero=>intro i u v f e;exact h i u v f e
  |succ d ih=>intro i u v f e;have o:=(Zw e).1;have g:c[i+d+1]?=some c[i+d+1]:=Zv (by omega);exact Cl (ih i u _ f g) (h _ _ _ g (by rw[show i+d+1+1=i+(d+1)+1 by omega];exact e))
 rw[List.pairwise_iff_getElem];intro i j l m n;exact k (j -i -1) i _ _ (Zv l) (by rw[show i+(j -i -1)+1=j by omega];exact Zv m)
theorem JS{d:Zl}(h:d.Pairwise (fun a b=>less a b=true)):d.Nodup:=by refine List.Pairwise.imp ?_ h;intro a b c e;rw[e,Ch]at c;cases c
theorem Mo{wd:Int}{d:Zl}(h:Ds wd d=true):d.Pairwise (fun a b=>less a b=true):=by refine VM (fun j p q f c=> ?_);have e:=(Zw c).1;unfold Ds at h;rw[List.all_eq_true]at h;have:=h (j+1) (by simpa using e);rw[DJ c f]at this;simp at this;exact this.2
structure Rs where
 sm:Zi
 le:Int
 now:Int
 given:Int
 ae:Int
 ks:List Kd
 ps:List Pd
 ls:List Ld
def DP(wd now given ae:Int)(ks:List Kd)(ps:List Pd)(ls:List Ld)(kd:Int)(s nm:Zi)(num:Int)(text:Zi)(refs:Zl)(r:Rs):Prop:=
 (kd=1/\(∀r∈refs,Ax ks r)/\ls.length<200/\given<1000000000/\∃ks1 ah,Ci wd ae ks text refs ks1 ah/\r=⟨Bf text refs wd,given+1,now,given+1,ah,ks1,ps,ls++[⟨given+1,Bf text refs wd,now+num⟩]⟩)∨
 (kd=2/\Ax ks s/\((∃x∈ps,x.name=nm)∨ps.length<100)/\r=⟨⟨#[]⟩,0,now,given,ae,ks,Bl ps nm s,ls⟩)∨
 (kd=3/\(∃x∈ps,x.name=nm)/\r=⟨⟨#[]⟩,0,now,given,ae,ks,AY ps nm,ls⟩)∨
 (kd=4/\Ax ks s/\ls.length<200/\given<1000000000/\r=⟨⟨#[]⟩,given+1,now,given+1,ae,ks,ps,ls++[⟨given+1,s,now+num⟩]⟩)∨
 (kd=5/\(∃x∈ls,x.num=num)/\r=⟨⟨#[]⟩,0,now,given,ae,ks,ps,Bo ls num⟩)∨
 (kd=6/\now+num<=1000000000/\r=⟨⟨#[]⟩,0,now+num,given,ae,ks,ps,AK ls (now+num)⟩)∨
 (kd=7/\Ax ks s/\¬KN ps ls ks s/\r=⟨⟨#[]⟩,0,now,given,ae,EE ks s,ps,ls⟩)
def Fu(wd now given ae:Int)(ks:List Kd)(ps:List Pd)(ls:List Ld)(kd:Int)(s nm:Zi)(num:Int)(text:Zi)(refs:Zl)(c:Int)(a b:Zi):Prop:=
 (kd=1/\FU wd given ae ks ls text refs c a b)∨
 (a=⟨#[]⟩/\b=⟨#[]⟩/\(
   (kd=2/\((¬Ax ks s/\c=2)∨(Ax ks s/\(¬∃x∈ps,x.name=nm)/\ps.length=100/\c=4)))∨
   (kd=3/\(¬∃x∈ps,x.name=nm)/\c=5)∨
   (kd=4/\((¬Ax ks s/\c=2)∨(Ax ks s/\(ls.length=200∨given=1000000000)/\c=4)))∨
   (kd=5/\(¬∃x∈ls,x.num=num)/\c=5)∨
   (kd=6/\1000000000<now+num/\c=4)∨
   (kd=7/\((¬Ax ks s/\c=2)∨(Ax ks s/\KN ps ls ks s/\c=6)))))
structure Ho (wd now given ae:Int) (ks:List Kd) (ps:List Pd) (ls:List Ld) (kd num:Int) (text:Zi) (refs:Zl):Prop where
 bk:Fa wd ks
 w1:1<=wd
 np:ps.length<=100
 nl:ls.length<=200
 bu:ps.Pairwise (fun a b=>less a.name b.name=true)
 da:ls.Pairwise (fun a b=>a.num<b.num)
 co:0<=now
 cn:now<=1000000000
 bn:0<=given
 bi:given<=1000000000
 bh:0<=ae
 ah:ae<=1000000000
 iq:1<=kd
 iu:kd<=7
 fe:0<=num
 fh:num<=1000000000
 bt:∀k∈ks,k.text.size<=maxLen
 im:text.size<=maxLen
 ik:refs.length<=1000
theorem Hp(text:Zi)(refs:Zl)(wd:Int)(h:1<=wd):((Bf text refs wd).size:Int)=wd:=Is ⟨⟨#[]⟩,0,text,refs⟩ wd h
def IN(base d m:Nat)(wd:Int)(r:Rs)(w:Zh):Prop:=∃O P L,Dr w base d m O P L wd r.now r.given r.ae r.ks r.ps r.ls
theorem Lc(base d m:Nat)(O P L:Value)(wd now given ae:Int)(ks:List Kd)(ps:List Pd)(ls:List Ld)(kd:Int)(s nm:Zi)(num:Int)(text:Zi)(refs:Zl)(k:Zk)(l:Nat)(w:Zh)(h:DU w base d m O P L wd now given ae ks ps ls)(f:Ho wd now given ae ks ps ls kd num text refs)(I:De w base (vB d m O P L) k refs):
 Calls prog 145 #[Yz d,.agg (Yp kd s nm num text k refs.length l)] w fun e j=>(∃c a b,Fu wd now given ae ks ps ls kd s nm num text refs c a b/\e=.panicked [{v:=ay c a b,recovered:=false}]/\Tn (vB d m O P L) w j)∨(∃D le,e=.returned (.agg #[Zf,Zf,Zf,Zf,Zf,Zc,Zc,Zc,.string D,Zg le,Zd,Zd])/\(∃r,DP wd now given ae ks ps ls kd s nm num text refs r/\r.sm=D/\r.le=le/\IN base d m wd r j)/\Tn (vB d m O P L) w j):=by
 have C:∀b∈d::P.ownBlock.toList,b∈vB d m O P L:=by intro b g;unfold vB;simp at g ⊢;rcases g with rfl|g<;>simp[*]
 have B:∀b∈d::L.ownBlock.toList,b∈vB d m O P L:=by intro b g;unfold vB;simp at g ⊢;rcases g with rfl|g<;>simp[*]
 have q:∀X,Zz w X->DU X base d m O P L wd now given ae ks ps ls:=fun X n=>h.below n;obtain rfl|rfl|rfl|rfl|rfl|rfl|rfl:kd=1∨kd=2∨kd=3∨kd=4∨kd=5∨kd=6∨kd=7:=by have:=f.iq;have:=f.iu;omega
 ·refine(MR base d m O P L wd now given ae ks ps ls s nm text num refs k l w h f.bk f.w1 f.bt (Hp _ _ _ f.w1) f.im f.ik f.bh f.ah I f.nl f.bn f.bi f.co f.cn f.fe f.fh).mono ?_;rintro e j (⟨c,a,b,H,rfl,o⟩|⟨E,ah,y,J,u,t,rfl,F,A,p,o⟩)
  ·exact .inl ⟨c,a,b,.inl ⟨rfl,H⟩,rfl,o⟩
  ·exact .inr ⟨_,_,rfl,⟨_,.inl ⟨rfl,y,u,t,E,ah,J,rfl⟩,rfl,rfl,⟨_,_,_,p.dr⟩⟩,o⟩
 ·by_cases hth:Ax ks s
  ·by_cases hroom:(∃x∈ps,x.name=nm)∨ps.length<100
   ·refine(MU base d m O P L wd now given ae ks ps ls s nm text num k refs.length l w h f.bk.sz hth f.np f.bu hroom).mono ?_;rintro e j ⟨rfl,G,p,o⟩;exact .inr ⟨_,_,rfl,⟨_,.inr (.inl ⟨rfl,hth,hroom,rfl⟩),rfl,rfl,⟨_,_,_,p.dr⟩⟩,o.mono C⟩
   ·have z:¬∃x∈ps,x.name=nm:=fun e=>hroom (.inl e);have i:ps.length=100:=by have:=f.np;have K:¬ps.length<100:=fun e=>hroom (.inr e);omega
    refine(Jh d s nm text num k refs.length l 4 ⟨#[]⟩ ⟨#[]⟩ w (fun X n=>UB base d m O P L wd now given ae ks ps ls nm s X (q X n) f.bk.sz hth i f.bu z)).mono ?_;rintro e j ⟨rfl,g⟩;exact .inl ⟨4,_,_,.inr ⟨rfl,rfl,.inl ⟨rfl,.inr ⟨hth,z,i,rfl⟩⟩⟩,rfl,Tn.of g⟩
  ·refine(Jh d s nm text num k refs.length l 2 ⟨#[]⟩ ⟨#[]⟩ w (fun X n=>Pc base d m O P L wd now given ae ks ps ls nm s X (q X n) f.bk.sz hth)).mono ?_;rintro e j ⟨rfl,g⟩;exact .inl ⟨2,_,_,.inr ⟨rfl,rfl,.inl ⟨rfl,.inl ⟨hth,rfl⟩⟩⟩,rfl,Tn.of g⟩
 ·by_cases hth:∃x∈ps,x.name=nm
  ·refine(KQ base d m O P L wd now given ae ks ps ls s nm text num k refs.length l w h (by have:=f.np;omega) f.bu hth).mono ?_;rintro e j ⟨rfl,G,p,o⟩;exact .inr ⟨_,_,rfl,⟨_,.inr (.inr (.inl ⟨rfl,hth,rfl⟩)),rfl,rfl,⟨_,_,_,p.dr⟩⟩,o.mono C⟩
  ·refine(LC d s nm text num k refs.length l 5 ⟨#[]⟩ ⟨#[]⟩ w (fun X n=>Uy base d m O P L wd now given ae ks ps ls nm X (q X n) (by have:=f.np;omega) f.bu hth)).mono ?_;rintro e j ⟨rfl,g⟩;exact .inl ⟨5,_,_,.inr ⟨rfl,rfl,.inr (.inl ⟨rfl,hth,rfl⟩)⟩,rfl,Tn.of g⟩
 ·by_cases hth:Ax ks s
  ·by_cases i:ls.length=200∨given=1000000000
   ·refine(Im d s nm text num k refs.length l 4 ⟨#[]⟩ ⟨#[]⟩ w (fun X n=>Ml base d m O P L wd now given ae ks ps ls s num X (q X n) f.bk.sz hth i)).mono ?_;rintro e j ⟨rfl,g⟩;exact .inl ⟨4,_,_,.inr ⟨rfl,rfl,.inr (.inr (.inl ⟨rfl,.inr ⟨hth,i,rfl⟩⟩))⟩,rfl,Tn.of g⟩
   ·have u:ls.length<200:=by have:=f.nl;omega
    have t:given<1000000000:=by have:=f.bi;omega
    refine(KR base d m O P L wd now given ae ks ps ls s nm text num k refs.length l w h f.bk.sz hth u f.bn t f.co f.cn f.fe f.fh).mono ?_;rintro e j ⟨rfl,A,p,o⟩;exact .inr ⟨_,_,rfl,⟨_,.inr (.inr (.inr (.inl ⟨rfl,hth,u,t,rfl⟩))),rfl,rfl,⟨_,_,_,p.dr⟩⟩,o.mono B⟩
  ·refine(Im d s nm text num k refs.length l 2 ⟨#[]⟩ ⟨#[]⟩ w (fun X n=>NQ base d m O P L wd now given ae ks ps ls s num X (q X n) f.bk.sz hth)).mono ?_;rintro e j ⟨rfl,g⟩;exact .inl ⟨2,_,_,.inr ⟨rfl,rfl,.inr (.inr (.inl ⟨rfl,.inl ⟨hth,rfl⟩⟩))⟩,rfl,Tn.of g⟩
 ·by_cases hth:∃x∈ls,x.num=num
  ·refine(LA base d m O P L wd now given ae ks ps ls s nm text num k refs.length l w h f.nl f.da hth).mono ?_;rintro e j ⟨rfl,A,p,o⟩;exact .inr ⟨_,_,rfl,⟨_,.inr (.inr (.inr (.inr (.inl ⟨rfl,hth,rfl⟩)))),rfl,rfl,⟨_,_,_,p.dr⟩⟩,o.mono B⟩
  ·refine(MJ d s nm text num k refs.length l 5 ⟨#[]⟩ ⟨#[]⟩ w (fun X n=>Wl base d m O P L wd now given ae ks ps ls num X (q X n) f.nl f.da hth)).mono ?_;rintro e j ⟨rfl,g⟩;exact .inl ⟨5,_,_,.inr ⟨rfl,rfl,.inr (.inr (.inr (.inl ⟨rfl,hth,rfl⟩)))⟩,rfl,Tn.of g⟩
 ·by_cases hs:now+num<=1000000000
  ·refine(LB base d m O P L wd now given ae ks ps ls s nm text num k refs.length l w h f.nl f.co f.fe hs).mono ?_;rintro e j ⟨rfl,A,p,o⟩;exact .inr ⟨_,_,rfl,⟨_,.inr (.inr (.inr (.inr (.inr (.inl ⟨rfl,hs,rfl⟩))))),rfl,rfl,⟨_,_,_,p.dr⟩⟩,o.mono B⟩
  ·refine(ML d s nm text num k refs.length l 4 ⟨#[]⟩ ⟨#[]⟩ w (fun X n=>SD base d m O P L wd now given ae ks ps ls num X (q X n) f.co f.cn f.fe f.fh (by omega))).mono ?_;rintro e j ⟨rfl,g⟩;exact .inl ⟨4,_,_,.inr ⟨rfl,rfl,.inr (.inr (.inr (.inr (.inl ⟨rfl,by omega,rfl⟩))))⟩,rfl,Tn.of g⟩
 ·by_cases hth:Ax ks s
  ·by_cases huse:KN ps ls ks s
   ·refine(Km base d m O P L wd now given ae ks ps ls s nm text num k refs.length l w h.dr f.bk f.np f.nl hth huse).mono ?_;rintro e j ⟨rfl,g⟩;exact .inl ⟨6,_,_,.inr ⟨rfl,rfl,.inr (.inr (.inr (.inr (.inr ⟨rfl,.inr ⟨hth,huse,rfl⟩⟩))))⟩,rfl,Tn.of g⟩
   ·refine(Lb base d m O P L wd now given ae ks ps ls s nm text num k refs.length l w h.dr f.bk f.np f.nl hth huse).mono ?_;rintro e j ⟨rfl,F,p,_,o⟩;exact .inr ⟨_,_,rfl,⟨_,.inr (.inr (.inr (.inr (.inr (.inr ⟨rfl,hth,huse,rfl⟩))))),rfl,rfl,⟨_,_,_,p⟩⟩,o⟩
  ·refine(IP base d m O P L wd now given ae ks ps ls s nm text num k refs.length l w h.dr f.bk.sz hth).mono ?_;rintro e j ⟨rfl,g⟩;exact .inl ⟨2,_,_,.inr ⟨rfl,rfl,.inr (.inr (.inr (.inr (.inr ⟨rfl,.inl ⟨hth,rfl⟩⟩))))⟩,rfl,Tn.of g⟩
section
theorem Mp{A:Type}{R:A->A->Prop}(l:∀a b c,R a b->R b c->R a c){e:List A}(h:∀(j:Nat) p q,e[j]?=some p->e[j+1]?=some q->R p q):e.Pairwise R:=by
 have m:∀(d i:Nat) u v,e[i]?=some u->e[i+d+1]?=some v->R u v:=by
  intro d;induction d with
  |zero=>intro i u v g f;exact h i u v g f
  |succ d ih=>intro i u v g f;have t:=(Zw f).1;have k:e[i+d+1]?=some e[i+d+1]:=Zv (by omega);exact l _ _ _ (ih i u _ g k) (h _ _ _ k (by rw[show i+d+1+1=i+(d+1)+1 by omega];exact f))
 rw[List.pairwise_iff_getElem];intro i j n o r;exact m (j -i -1) i _ _ (Zv n) (by rw[show i+(j -i -1)+1=j by omega];exact Zv o)
section
variable {wd now given ae:Int} {ks:List Kd} {ps:List Pd} {ls:List Ld}
theorem Ii.ai(h:Ii wd now given ae ks ps ls):∀k∈ks,Fg k.text k.refs wd:=fun k b=>by obtain⟨i,a⟩:=List.getElem?_of_mem b;exact BA (h.th i k a).ok
theorem Ii.bk(h:Ii wd now given ae ks ps ls):Fa wd ks:=by
 have sz:∀k∈ks,(k.sum.size:Int)=wd:=fun k c=>by obtain⟨i,g⟩:=List.getElem?_of_mem c;rw[(h.th i k g).sum];exact Is k wd h.du.ij
 have d:(ks.map (·.sum)).Pairwise (fun a b=>less a b=true):=by refine VM (fun j p q e f=> ?_);rw[List.getElem?_map]at e f;obtain⟨u,l,rfl⟩:=Option.map_eq_some_iff.1 e;obtain⟨v,m,rfl⟩:=Option.map_eq_some_iff.1 f;exact(h.th (j+1) v m).up j u rfl l
 exact⟨JS d,d,sz,fun k c=>⟨by have:=(h.ai k c).refs;omega,Mo (h.ai k c).all⟩,h.nth,h.du.wd2⟩
theorem Gg{kd:Int}{s nm:Zi}{num:Int}{text:Zi}{refs:Zl}(h:Cg kd s nm num text refs wd=true):1<=kd/\kd<=7/\VH kd.toNat s nm num text refs wd:=by unfold Cg at h;simp only[Bool.and_eq_true,decide_eq_true_eq]at h;exact⟨h.1.1,h.1.2,DZ h.2⟩
theorem Oi{kd:Int}{s nm:Zi}{num:Int}{text:Zi}{refs:Zl}(h:Cg kd s nm num text refs wd=true):refs.length<=30:=by
 unfold Cg at h;simp only[Bool.and_eq_true,decide_eq_true_eq]at h;have b:=h.2;unfold CG at b;simp only[Bool.and_eq_true,decide_eq_true_eq]at b;have a:=b.2.2.2.2;unfold Ib at a;split at a
 ·exact(BA a).refs
 ·have c:=(of_decide_eq_true a).2;omega
theorem Ho.of(h:Ii wd now given ae ks ps ls){kd:Int}{s nm:Zi}{num:Int}{text:Zi}{refs:Zl}(l:Cg kd s nm num text refs wd=true)(n:text.size<=maxLen):Ho wd now given ae ks ps ls kd num text refs:=by
 obtain⟨o,r,e⟩:=Gg l;refine⟨h.bk,h.du.ij,h.np,h.nl,?_,?_,h.du.cn,h.du.now2,h.du.bi,h.du.given2,h.du.ah,h.du.births2,o,r,e.n0,e.n1,fun k m=> ?_,n,by have:=Oi l;omega⟩
 ·exact Mp (R:=fun(a b:Pd)=>less a.name b.name=true) (fun a b c g i=>Cl g i) (fun j p q d f=>(h.ci (j+1) q f).up j p rfl d)
 ·exact Mp (R:=fun(a b:Ld)=>a.num<b.num) (fun a b c g i=>by omega) (fun j p q d f=>(h.lease (j+1) q f).up j p rfl d)
 ·have:=(h.ai k m).text;unfold maxLen;omega
theorem Ti(ks:List Kd)(x:Kd):(Dz ks x).Perm (x::ks):=by unfold Dz;have b:(ks.filter (fun k=>less k.sum x.sum)++ks.filter (fun k=> !(less k.sum x.sum))).Perm ks:=List.filter_append_perm _ _;rw[List.append_assoc];exact(List.perm_middle (a:=x) (l₁:=ks.filter (fun k=>less k.sum x.sum)) (l₂:=ks.filter (fun k=> !(less k.sum x.sum)))).trans (b.cons x)
theorem JT(ps:List Pd)(n s:Zi):(Bl ps n s).length<=ps.length+1/\((∃x∈ps,x.name=n)->(Bl ps n s).length<=ps.length):=by
 have h:∀(l:List Pd),(l.filter (fun x=>less x.name n)).length+(l.filter (fun x=> !(less x.name n)&& !decide (x.name=n))).length+(l.filter (fun x=>decide (x.name=n))).length=l.length:=by
  intro l;induction l with
  |nil=>rfl
  |cons x l ih=>
   by_cases hn:x.name=n
   ·simp[hn,Ch];omega
   ·cases hl:less x.name n<;>simp[hl,hn]<;>omega
 have a:=h ps;unfold Bl;rw[List.length_append,List.length_append];refine⟨by simp;omega,fun⟨x,hx,hxn⟩=> ?_⟩;have b:0<(ps.filter (fun x=>decide (x.name=n))).length:=List.length_pos_of_mem (List.mem_filter.2 ⟨hx,by simpa using hxn⟩);simp;omega
end
theorem Fu.code{wd now given ae:Int}{ks:List Kd}{ps:List Pd}{ls:List Ld}{kd:Int}{s nm:Zi}{num:Int}{text:Zi}{refs:Zl}{c:Int}{a b:Zi}(h:Fu wd now given ae ks ps ls kd s nm num text refs c a b):2<=c/\c<=6:=by rcases h with⟨_,⟨_,rfl,_⟩|⟨_,⟨_,_,_,_,rfl,_⟩|⟨_,_,rfl,_⟩|⟨_,_,rfl,_⟩⟩⟩|⟨_,_,⟨_,⟨_,rfl⟩|⟨_,_,_,rfl⟩⟩|⟨_,_,rfl⟩|⟨_,⟨_,rfl⟩|⟨_,_,rfl⟩⟩|⟨_,_,rfl⟩|⟨_,_,rfl⟩|⟨_,⟨_,rfl⟩|⟨_,_,rfl⟩⟩⟩<;>omega
theorem Dr.cm{w:Zh}{base d m:Nat}{O P L:Value}{wd now given ae:Int}{ks:List Kd}{ps:List Pd}{ls:List Ld}(h:Dr w base d m O P L wd now given ae ks ps ls){R:Nat}{i:Array Value}(b:w.heap[R]?=some (.cells i 82))(k:R≠d):R∉vB d m O P L:=by
 unfold vB;simp only[List.mem_cons,List.mem_append,Option.mem_toList,not_or];refine⟨k,?_,?_,?_,?_⟩
 ·rintro rfl;obtain⟨n,f,_,j,_⟩:=h.map;obtain⟨D,⟨l,clock,g,_⟩,_⟩:=j;rw[b]at g;cases g
 ·intro e;obtain⟨c,a⟩:=BX h.ord e;rw[b]at a;simp at a
 ·intro e;obtain⟨c,a⟩:=BX h.ci e;rw[b]at a;simp at a
 ·intro e;obtain⟨c,a⟩:=BX h.ck e;rw[b]at a;simp at a
theorem IN.stays{base d m:Nat}{wd:Int}{r:Rs}{w f:Zh}{R:Nat}{g:Array Value}(h:IN base d m wd r w)(b:w.heap[R]?=some (.cells g 82))(i:base<=R)(j:R≠d)(k:Tn [R] w f):IN base d m wd r f:=by obtain⟨O,P,L,a⟩:=h;exact⟨O,P,L,a.apart k i (a.cm b j) (fun c l e=>by rw[b]at e;simp at e)⟩
end
section
open Go.Proofs
theorem FN{a b:Zi}(h:a.toList=b.toList):a=b:=by rw[Lib.toList_data,Lib.toList_data]at h;cases a;cases b;simpa using h
theorem Oj{a b:Zi}:less a b=true↔a.toList<b.toList:=by unfold less;rw[bytesLess_eq,decide_eq_true_iff]
theorem Ok{a b:Zi}(h:less a b=false)(c:a≠b):less b a=true:=by
 rw[Oj];have d:¬a.toList<b.toList:=fun e=>by rw[Oj.2 e]at h;cases h
 have f:=List.not_lt.1 d;by_cases e:b.toList<a.toList
 ·exact e
 ·exact absurd (FN (Std.le_antisymm (List.not_lt.1 e) f)) c
end
section
structure FB (wd now given ae:Int) (ks:List Kd) (ps:List Pd) (ls:List Ld):Prop where
 bk:Fa wd ks
 w1:1<=wd
 np:ps.length<=100
 nl:ls.length<=200
 bu:ps.Pairwise (fun a b=>less a.name b.name=true)
 da:ls.Pairwise (fun a b=>a.num<b.num)
 co:0<=now
 cn:now<=1000000000
 bn:0<=given
 bi:given<=1000000000
 bh:0<=ae
 ah:ae<=1000000000
 bt:∀k∈ks,k.text.size<=2000
 dq:∀k∈ks,k.refs.length<=30
 fa:∀x∈ls,x.num<=given
theorem FB.zero{wd:Int}(a:1<=wd)(b:wd<=8):FB wd 0 0 0 [] [] []:=
 ⟨⟨by simp,by simp,by simp,by intro k c;simp at c,by simp,b⟩,a,by simp,by simp,by simp,by simp,by omega,by omega,by omega,by omega,by omega,by omega,by simp,by simp,by simp⟩
section
variable {wd now given ae:Int} {ks:List Kd} {ps:List Pd} {ls:List Ld} {kd:Int} {s nm:Zi} {num:Int} {text:Zi} {refs:Zl}
theorem FB.ia(h:FB wd now given ae ks ps ls)(a:Cg kd s nm num text refs wd=true)(c:text.size<=maxLen):Ho wd now given ae ks ps ls kd num text refs:=by obtain⟨d,f,e⟩:=Gg a;exact⟨h.bk,h.w1,h.np,h.nl,h.bu,h.da,h.co,h.cn,h.bn,h.bi,h.bh,h.ah,d,f,e.n0,e.n1,fun k b=>by have:=h.bt k b;unfold maxLen;omega,c,by have:=Oi a;omega⟩
theorem Ol(h:Cg kd s nm num text refs wd=true):text.size<=2000:=by
 unfold Cg at h;simp only[Bool.and_eq_true,decide_eq_true_eq]at h;have b:=h.2;unfold CG at b;simp only[Bool.and_eq_true,decide_eq_true_eq]at b;have a:=b.2.2.2.2;unfold Ib at a;split at a
 ·exact(BA a).text
 ·have c:=(of_decide_eq_true a).1;omega
theorem Pn{ps:List Pd}(n s:Zi)(h:ps.Pairwise (fun a b=>less a.name b.name=true)):(Bl ps n s).Pairwise (fun a b=>less a.name b.name=true):=by
 unfold Bl;rw[List.pairwise_append,List.pairwise_append];have e:∀y∈ps.filter (fun x=> !(less x.name n)&& !decide (x.name=n)),less n y.name=true:=fun y d=>by have f:=(List.mem_filter.1 d).2;simp only[Bool.and_eq_true,Bool.not_eq_true',decide_eq_false_iff_not]at f;exact Ok f.1 f.2
 refine⟨⟨h.filter _,by simp,fun x c y d=> ?_⟩,h.filter _,fun x c y d=> ?_⟩
 ·rw[List.mem_singleton]at d;subst d;exact(List.mem_filter.1 c).2
 ·rcases List.mem_append.1 c with c|c
  ·exact Cl (List.mem_filter.1 c).2 (e y d)
  ·rw[List.mem_singleton]at c;subst c;exact e y d
theorem Po{ks:List Kd}{x:Kd}(h:(ks.map (·.sum)).Pairwise (fun a b=>less a b=true))(i:¬Ax ks x.sum):((Dz ks x).map (·.sum)).Pairwise (fun a b=>less a b=true):=by
 rw[List.pairwise_map]at h ⊢;unfold Dz;rw[List.pairwise_append,List.pairwise_append];have f:∀y∈ks.filter (fun k=> !(less k.sum x.sum)),less x.sum y.sum=true:=fun y c=>by obtain⟨j,g⟩:=List.mem_filter.1 c;simp only[Bool.not_eq_true']at g;exact Ok g (fun e=>i ⟨y,j,e⟩)
 refine⟨⟨h.filter _,by simp,fun y c z d=> ?_⟩,h.filter _,fun y c z d=> ?_⟩
 ·rw[List.mem_singleton]at d;subst d;exact(List.mem_filter.1 c).2
 ·rcases List.mem_append.1 c with c|c
  ·exact Cl (List.mem_filter.1 c).2 (f z d)
  ·rw[List.mem_singleton]at c;subst c;exact f z d
theorem Fa.drop(h:Fa wd ks)(t:Zi):Fa wd (EE ks t):=by have a:(EE ks t).Sublist ks:=List.filter_sublist;exact⟨h.nd.sublist (a.map _),h.dg.sublist (a.map _),fun k b=>h.sz k (a.subset b),fun k b=>h.refs k (a.subset b),Zm a.length_le h.len,h.w8⟩
theorem FB.step(h:FB wd now given ae ks ps ls)(w:Cg kd s nm num text refs wd=true){r:Rs}(i:DP wd now given ae ks ps ls kd s nm num text refs r):FB wd r.now r.given r.ae r.ks r.ps r.ls:=by
 obtain⟨L,M,e⟩:=Gg w;have G:=e.n0;have H:=e.n1;have g:∀x:Ld,x.num=given+1->(ls++[x]).Pairwise (fun a b=>a.num<b.num)/\∀y∈ls++[x],y.num<=given+1:=fun x m=>by
  refine⟨?_,fun y i=> ?_⟩
  ·rw[List.pairwise_append];refine⟨h.da,by simp,fun y i z q=> ?_⟩;rw[List.mem_singleton]at q;subst q;have:=h.fa y i;omega
  ·rcases List.mem_append.1 i with i|i
   ·have:=h.fa y i;omega
   ·rw[List.mem_singleton]at i;subst i;omega
 rcases i with⟨rfl,_,B,A,I,J,i,rfl⟩|⟨_,_,f,rfl⟩|⟨_,_,rfl⟩|⟨_,_,B,A,rfl⟩|⟨_,_,rfl⟩|⟨_,D,rfl⟩|⟨_,_,_,rfl⟩
 ·have n:(ls++[(⟨given+1,Bf text refs wd,now+num⟩:Ld)]).length<=200:=by simp;omega
  have j:=g ⟨given+1,Bf text refs wd,now+num⟩ rfl;have t:=h.bn;have l:=BA (e.dh rfl);rcases i with⟨_,_,_,_,rfl,rfl⟩|⟨v,F,K,rfl,rfl⟩
  ·exact⟨h.bk,h.w1,h.np,n,h.bu,j.1,h.co,h.cn,by show 0<=given+1;omega,by show given+1<=_;omega,h.bh,h.ah,h.bt,h.dq,j.2⟩
  ·have C:=Ti ks ⟨Bf text refs wd,ae+1,text,refs⟩;have E:=h.bh;have d:∀k∈Dz ks ⟨Bf text refs wd,ae+1,text,refs⟩,k=⟨Bf text refs wd,ae+1,text,refs⟩∨k∈ks:=fun k c=>List.mem_cons.1 (C.mem_iff.1 c);have u:Fa wd (Dz ks ⟨Bf text refs wd,ae+1,text,refs⟩):=by
    have p:=Po (x:=⟨Bf text refs wd,ae+1,text,refs⟩) h.bk.dg v;refine⟨JS p,p,fun k c=> ?_,fun k c=> ?_,by rw[NT];omega,h.bk.w8⟩
    ·rcases d k c with rfl|c
     ·exact Hp _ _ _ h.w1
     ·exact h.bk.sz k c
    ·rcases d k c with rfl|c
     ·exact⟨by have:=l.refs;show refs.length<=_;omega,Mo l.all⟩
     ·exact h.bk.refs k c
   refine⟨u,h.w1,h.np,n,h.bu,j.1,h.co,h.cn,by show 0<=given+1;omega,by show given+1<=_;omega,by show 0<=ae+1;omega,by show ae+1<=_;omega,fun k c=> ?_,fun k c=> ?_,j.2⟩
   ·rcases d k c with rfl|c
    ·exact l.text
    ·exact h.bt k c
   ·rcases d k c with rfl|c
    ·exact l.refs
    ·exact h.dq k c
 ·have o:=JT ps nm s;refine⟨h.bk,h.w1,?_,h.nl,Pn nm s h.bu,h.da,h.co,h.cn,h.bn,h.bi,h.bh,h.ah,h.bt,h.dq,h.fa⟩;rcases f with f|f
  ·exact Zm (o.2 f) h.np
  ·exact Zm o.1 (by omega)
 ·exact⟨h.bk,h.w1,Zm (List.length_filter_le _ _) h.np,h.nl,h.bu.filter _,h.da,h.co,h.cn,h.bn,h.bi,h.bh,h.ah,h.bt,h.dq,h.fa⟩
 ·have j:=g ⟨given+1,s,now+num⟩ rfl;have t:=h.bn;exact⟨h.bk,h.w1,h.np,by simp;omega,h.bu,j.1,h.co,h.cn,by show 0<=given+1;omega,by show given+1<=_;omega,h.bh,h.ah,h.bt,h.dq,j.2⟩
 ·exact⟨h.bk,h.w1,h.np,Zm (List.length_filter_le _ _) h.nl,h.bu,h.da.filter _,h.co,h.cn,h.bn,h.bi,h.bh,h.ah,h.bt,h.dq,fun x m=>h.fa x (List.mem_filter.1 m).1⟩
 ·have:=h.co;exact⟨h.bk,h.w1,h.np,Zm (List.length_filter_le _ _) h.nl,h.bu,h.da.filter _,by show 0<=now+num;omega,D,h.bn,h.bi,h.bh,h.ah,h.bt,h.dq,fun x m=>h.fa x (List.mem_filter.1 m).1⟩
 ·exact⟨h.bk.drop s,h.w1,h.np,h.nl,h.bu,h.da,h.co,h.cn,h.bn,h.bi,h.bh,h.ah,fun k c=>h.bt k (List.mem_filter.1 c).1,fun k c=>h.dq k (List.mem_filter.1 c).1,h.fa⟩
end
end
theorem Tj(k:Int)(a name:Zi)(n:Int)(t:Zi)(g:Zk)(f:Nat)(b:Zl)(wd:Int)(w:Zh)
 (d:Ad w w.heap.size g b) (i:b.length<=1048576) (j:t.size<=maxLen) (o:name.size<=maxLen):
 Calls prog 39 #[.agg (Ep k a name n t g b.length f),Zg wd] w fun e p=>e=.returned (.string (Cv k a name n t b wd))/\Zz w p:=by
 cases hok:Cg k a name n t b wd with
 |true=>rw[show Cv k a name n t b wd=⟨(CR k.toNat a name n t b).toArray⟩from by unfold Cv;rw[if_pos hok]];unfold Cg at hok;simp only[Bool.and_eq_true,decide_eq_true_eq]at hok;obtain⟨m,rfl⟩:∃m:Nat,k=m:=⟨k.toNat,by omega⟩;rw[Int.toNat_natCast]at hok ⊢;exact SL m a name n t g f b wd w (by omega) (by omega) d i j hok.2
 |false=>rw[show Cv k a name n t b wd=ByteArray.empty from by unfold Cv;rw[if_neg (by rw[hok];decide)]];have h:Below w.heap.size w (w.alloc (.cells (Ep k a name n t g b.length f) 60)):=Zy;have c:=UJ k a name n t g f b wd _ (d.af h) i j o;rw[hok]at c;clear hok;go_enter func39,ntmps39;go_wp2_with fail;refine c.mono ?_;rintro e q ⟨rfl,l⟩;go_wp2;go_ret;exact⟨rfl,h.trans (l.mono (by simp))⟩
def Eu(k:Int):Bool:=decide (1<=k/\k<=7)
def EI(k:Int):Bool:=Eu k&&Db k.toNat
def DB(k:Int):Bool:=Eu k&&DA k.toNat
def Cw(k:Int):Bool:=Eu k&&CC k.toNat
def EJ(k:Int):Int:=if Eu k=true then Cu k.toNat else 0
theorem Pp(k:Int)(w:Zh)(b:Jk w):
 Calls prog 139 #[Zg k] w fun e c=>e=.returned (.tuple #[.agg #[.bool (EI k),.bool (DB k),.bool (Cw k),Zg (EJ k)],.bool (Eu k)])/\Zz w c:=by
 by_cases hk:1<=k/\k<=7
 ·obtain⟨m,rfl⟩:∃m:Nat,k=m:=⟨k.toNat,by omega⟩;have a:Eu (m:Int)=true:=decide_eq_true hk;rw[show EI (m:Int)=Db m by simp[EI,a],show DB (m:Int)=DA m by simp[DB,a],show Cw (m:Int)=CC m by simp[Cw,a],show EJ (m:Int)=Cu m by simp[EJ,a],a];exact JO m w b (by omega) (by omega)
 ·have a:Eu k=false:=decide_eq_false hk;rw[show EI k=false by simp[EI,a],show DB k=false by simp[DB,a],show Cw k=false by simp[Cw,a],show EJ k=0 by simp[EJ,a],a];exact KY k w hk
theorem UU(n:Int)(w:Zh):
 Calls prog 89 #[Zg n] w fun e a=>e=.returned (.bool (decide (1<=n/\n<=8)))/\a=w:=by
 by_cases h1:1<=n
 ·by_cases h2:n<=8
  ·go_enter func89,ntmps89;go_wp2;go_ret;exact⟨Aw (by simp[h1,h2]),rfl⟩
  ·have c:decide (n<=8)=false:=by simpa using h2
   go_enter func89,ntmps89;go_wp2;go_ret;exact⟨rfl,rfl⟩
 ·have b:decide (1<=n)=false:=by simpa using h1
  go_enter func89,ntmps89;go_wp2;go_ret;exact⟨rfl,rfl⟩
def Gi(wd:Int):Bool:= !decide (1<=wd/\wd<=8)
def Eb(s:Zi)(wd:Int):Zi×Zi×Bool:=Bd s (Gi wd) (1:Nat)
def AN(s:Zi)(wd:Int):Int:=Cz (Eb s wd).1.data.toList
def Fv(s:Zi)(wd:Int):Bool:=(Eb s wd).2.2|| !Eu (AN s wd)
def DQ(s:Zi)(wd:Int):Zi×Zi×Bool:=Bd (Eb s wd).2.1 (Fv s wd) (4:Nat)
def EQ(s:Zi)(wd:Int):Int:=Cz (DQ s wd).1.data.toList
def Fc(s:Zi)(wd:Int):Zi×Zi×Bool:=Bd (DQ s wd).2.1 (DQ s wd).2.2 (1:Nat)
def Mq(s:Zi)(wd:Int):Int:=Cz (Fc s wd).1.data.toList
def BK(s:Zi)(wd:Int):Zi×Zi×Bool:=Bd (Fc s wd).2.1 (Fc s wd).2.2 (Mq s wd)
def Bc(s:Zi)(wd:Int):Zi×Zi×Bool:=if DB (AN s wd)=true then Bd (BK s wd).2.1 (BK s wd).2.2 wd else (⟨#[]⟩,(BK s wd).2)
def Ba(s:Zi)(wd:Int):Zi×Zl:=if Cw (AN s wd)=true then ((rd (EP (Bc s wd).2.1 (Bc s wd).2.2) wd).1,(rd (EP (Bc s wd).2.1 (Bc s wd).2.2) wd).2.1)else (⟨#[]⟩,[])
def CH(s:Zi)(wd:Int):Zi×Bool:=if Cw (AN s wd)=true then (Jn (Bc s wd).2.1 (Bc s wd).2.2,FW (Bc s wd).2.1 (Bc s wd).2.2 wd)else (Bc s wd).2
def Fw(s:Zi)(wd:Int):Bool:=(CH s wd).2|| !decide ((CH s wd).1.size=0)
def Jo(s:Zi)(wd:Int):Bool:=Cg (AN s wd) (Bc s wd).1 (BK s wd).1 (EQ s wd) (Ba s wd).1 (Ba s wd).2 wd
def CA(s:Zi)(wd:Int):Bool:=Fw s wd|| !Jo s wd
theorem Fj{rest:Zi}{a:Bool}{n:Int}(h:(Bd rest a n).2.2=false):a=false:=by
 unfold Bd at h;cases a
 ·rfl
 ·simp at h
theorem Qd(s:Zi)(wd:Int):(rd s wd).1.size<=s.size:=by
 unfold rd;split
 ·split
  ·exact Nat.zero_le _
  ·unfold JQ Dn;split
   ·simp;omega
   ·exact Nat.zero_le _
 ·exact Nat.zero_le _
theorem EK(rest:Zi)(a:Bool)(n:Int):(Bd rest a n).1.size<=rest.size/\(Bd rest a n).2.1.size<=rest.size:=by
 unfold Bd;split
 ·exact⟨Nat.zero_le _,Zx⟩
 ·split
  ·exact⟨Nat.zero_le _,Zx⟩
  ·simp;omega
structure EW (w W:Zh) (b:Nat) (rest:Zi) (kind:Int) (bad:Bool):Prop where
 rs:DG W b rest kind bad
 env:Env W
 gr:w.grownBy W (some b)
 fo:Aa W w.heap.size [Zf,Zd,Zd,Zf,Zd,Zc]
def Nk(b:Nat):Prop:=∀g∈[1,2,3,4,6,7,0,5],g<b
theorem EW.step{w W e:Zh}{b:Nat}{rest c:Zi}{kind a:Int}{g d:Bool}(h:EW w W b rest kind g)(i:Nk b)(j:b<w.heap.size)(k:DG e b c a d)(f:W.grownBy e (some b)):EW w e b c a d:=
 ⟨k,h.env.ic f i,h.gr.trans f,h.fo.cl f j⟩
theorem EW.below{w W c:Zh}{b:Nat}{rest:Zi}{kind:Int}{bad:Bool}(h:EW w W b rest kind bad)(a:Zz W c):EW w c b rest kind bad:=
 ⟨h.rs.below a,h.env.below a,h.gr.trans (Au _ a),h.fo.below a⟩
theorem EW.set{w W:Zh}{b:Nat}{rest:Zi}{kind:Int}{a:Bool}(h:EW w W b rest kind a)(c:Nk b)(i:b<w.heap.size)(B j:Nat)(v:Value)(f:w.heap.size<B):EW w (W.setCell (Ze B j) v) b rest kind a:=
 ⟨h.rs.cl (Ay W B j v) (by omega),h.env.ic (Ay W B j v) (fun g d=>by have:=c g d;omega),h.gr.andThen (Ay W B j v) (fun k e=>by cases e;exact .inl (by omega)),h.fo.cw (Ay W B j v) (by omega)⟩
theorem Rc(s:Zi)(wd:Int):0<=Mq s wd:=(La _).1
theorem UW{s:Zi}{wd:Int}(h:(BK s wd).2.2=false):0<=wd:=by have d:=Fj h;have c:=Fj d;have b:=Fj c;unfold Fv at b;have a:=Fj (Bool.or_eq_false_iff.1 b).1;unfold Gi at a;simp at a;omega
theorem WL{s:Zi}{wd:Int}(j:s.size<=1048576):(BK s wd).1.size<=1048576/\(Bc s wd).2.1.size<=1048576/\(Ba s wd).1.size<=1048576/\(CH s wd).1.size<=1048576:=by
 have f:=EK s (Gi wd) (1:Nat);have g:=EK (Eb s wd).2.1 (Fv s wd) (4:Nat);have h:=EK (DQ s wd).2.1 (DQ s wd).2.2 (1:Nat);have b:=EK (Fc s wd).2.1 (Fc s wd).2.2 (Mq s wd);have i:=EK (BK s wd).2.1 (BK s wd).2.2 wd;have k:=Zm f.2 j;have l:=Zm g.2 k;have c:=Zm h.2 l;have d:=Zm b.2 c;have e:=Zm b.1 c;have a:(Bc s wd).2.1.size<=1048576:=by
  unfold Bc;split
  ·exact Zm i.2 d
  ·exact d
 refine⟨e,a,?_,?_⟩
 ·unfold Ba;split
  ·exact Zm (Qd _ _) (Qc a)
  ·exact Nat.zero_le _
 ·unfold CH;split
  ·exact Zm (EK _ _ _).2 a
  ·exact a
theorem UX(s:Zi)(wd:Int):(Ba s wd).2.length<=255:=by
 unfold Ba;split
 ·exact VK _ _
 ·exact Nat.zero_le _
theorem EW.lt{w W:Zh}{b:Nat}{rest:Zi}{kind:Int}{bad:Bool}(h:EW w W b rest kind bad):w.heap.size<W.heap.size:=h.fo.lt
theorem Tk(b:Nat)(s:Zi)(wd:Int)(w:Zh)(h:DG w b s 0 false)(he:Env w)(ha:Nk b)(hs:s.size<=1048576):
 Calls prog 157 #[Yz b,Zg wd] w fun e w'=>∃v,e=.returned (.agg #[Zg (AN s wd),.string (Bc s wd).1,.string (BK s wd).1,Zg (EQ s wd),.string (Ba s wd).1,v])/\
  w'.ownsRow w.heap.size 9 1 v (Ba s wd).2.length ((Ba s wd).2.map Value.string)/\DG w' b (CH s wd).1 (AN s wd) (CA s wd)/\w.grownBy w' (some b):=by
 have c:=h.lt;have i:=Yx ha;obtain⟨W,hW⟩:∃W,W=w.alloc (.cells Ym 60):=⟨_,rfl⟩;have zI:=(AG hW).1;have E0:Hid (EW w W b s 0 false):=⟨h.below zI,he.below zI,Au _ zI,by rw[hW];exact Aa.new w _ _⟩;have HW:=Yx hW;clear hW h he ha zI;obtain⟨l,m,f⟩:=E0.o.env.er 1 (by simp);go_enter func157,ntmps157;go_upto_region 1 with fail;rw[←HW.o];clear HW;have xH:decide (1<=wd/\wd<=8)= !Gi wd:=by unfold Gi;simp
 go_upto_if 10 with(go_at_call 89;refine(UU wd _).mono ?_;rintro e w' ⟨rfl,yS⟩;rw[yS];clear yS w')
 go_cut [] (fun g=>Hid (EW w g b s 0 (Gi wd)))
 case first=>
  cases hb0:Gi wd with
  |true=>go_wp2_with fail;refine(FM b _ _ _ l m W E0.o.rs).mono ?_;rintro e w1 ⟨rfl,h1,g1⟩;go_wp2_with fail;go_meet;rw[hb0];exact E0.o.step i.o c h1 g1
  |false=>go_wp2_with fail;go_meet;rw[hb0];exact E0.o
 case rest=>
 revert wc;intro w1 E1;clear E0 f xH;obtain⟨st,sv,f⟩:=E1.o.env.er 6 (by simp);go_wp2_with fail;refine(Gu b s 0 (Gi wd) 1 st sv w1 E1.o.rs (by omega) f).mono ?_;rintro e w2 ⟨rfl,h2,g2⟩;have E2:Hid (EW w w2 b (Eb s wd).2.1 0 (Eb s wd).2.2):=E1.o.step i.o c h2 g2;rw[show Cz (Bd s (Gi wd) (1:Nat)).1.data.toList=AN s wd from rfl];obtain⟨W3,zY⟩:∃W3,W3=w2.setCell (Ze b 1) (Zg (AN s wd)):=⟨_,rfl⟩
 have E3:Hid (EW w W3 b (Eb s wd).2.1 (AN s wd) (Eb s wd).2.2):=by rw[zY];exact E2.o.step i.o c (E2.o.rs.setKind _) (Ay _ _ _ _)
 obtain⟨xP,_,J,A,K,G,H,I⟩:=E2.o.rs;have yG:=Yx zY;clear zY h2 g2 f E1;go_upto_region 4 with fail;rw[←yG.o];clear yG J A K G H I E2;obtain⟨xQ,_,J,A,K,G,H,I⟩:=E3.o.rs;go_wp2_with fail;refine(Pp (AN s wd) W3 E3.o.env.gq).mono ?_;rintro e w4 ⟨rfl,yP⟩;have E4:Hid (EW w w4 b (Eb s wd).2.1 (AN s wd) (Eb s wd).2.2):=E3.o.below yP
 obtain⟨W5,zH⟩:∃W5,W5=w4.alloc (.cells #[.bool (EI (AN s wd)),.bool (DB (AN s wd)),.bool (Cw (AN s wd)),Zg (EJ (AN s wd))] 194):=⟨_,rfl⟩;have yN:=(AG zH).1;have E5:Hid (EW w W5 b (Eb s wd).2.1 (AN s wd) (Eb s wd).2.2):=E4.o.below yN;obtain⟨U,hU⟩:∃U,U=w4.heap.size:=⟨_,rfl⟩
 have U5:Hid (Aa W5 U [.bool (EI (AN s wd)),.bool (DB (AN s wd)),.bool (Cw (AN s wd)),Zg (EJ (AN s wd))]):=by rw[zH,hU];exact Aa.new w4 _ _
 have xT:w.heap.size<U:=by rw[hU];exact E4.o.lt
 have yH:=Yx zH;have HU:=Yx hU;clear zH hU yN yP E3 E4 J A K G H I;obtain⟨l,m,f⟩:=E5.o.env.er 2 (by simp);go_upto_region 5 with fail;rw[←yH.o,←HU.o];clear yH HU
 go_upto_if 28 with fail
 go_cut [6] (fun _ g=>Hid (EW w g b (Eb s wd).2.1 (AN s wd) (Fv s wd))/\Hid (Aa g U [.bool (EI (AN s wd)),.bool (DB (AN s wd)),.bool (Cw (AN s wd)),Zg (EJ (AN s wd))]))
 case first=>
  cases hi:Eu (AN s wd)with
  |true=>go_wp2_with fail;go_meet;refine⟨?_,U5.o⟩;rw[show Fv s wd=(Eb s wd).2.2 by unfold Fv;rw[hi];simp];exact E5.o
  |false=>go_wp2_with fail;refine(FM b _ _ _ l m W5 E5.o.rs).mono ?_;rintro e a ⟨rfl,h6,g6⟩;go_wp2_with fail;go_meet;refine⟨?_,U5.o.cl g6 (by omega)⟩;rw[show Fv s wd=true by unfold Fv;rw[hi];simp];exact E5.o.step i.o c h6 g6
 case rest=>
 revert wc;intro a hcut;obtain⟨P,U6⟩:=hcut;clear E5 U5 f;obtain⟨d,zX⟩:∃d:Nat,d=0:=⟨_,rfl⟩;clear zX d;have D6:=Yx (P.o.below ((Below.refl a.heap.size a).drew));have zZ:Below a.heap.size a (a.alloc (.cells Ym 60)):=Zy;have X:=Yx (P.o.below zZ.drew);have yJ:Hid (Aa (a.alloc (.cells Ym 60)).drew a.heap.size Yl):=Aa.new a _ _;obtain⟨xR,_,J,A,K,G,H,I⟩:=P.o.rs
 have xK:(a.alloc (.cells Ym 60)).cell? (Ze b 1)=some (Zg (AN s wd)):=(zZ.cell (p:=⟨b,1,none⟩) P.o.rs.lt).trans A;obtain⟨l,m,f⟩:=D6.o.env.er 6 (by simp);obtain⟨xD,xE,yQ⟩:=X.o.env.er 6 (by simp);have yC:=P.o.rs.lt;have xG:=P.o.lt;clear zZ;go_upto_region 7 with fail
 go_cut [7] (fun v g=>∃d:Nat,v=Yz d/\a.heap.size<=d/\Hid (EW w g b (DQ s wd).2.1 (AN s wd) (DQ s wd).2.2)/\Hid (a.grownBy g (some b))/\Hid (Aa g d [Zg (AN s wd),Zd,Zd,Zg (EQ s wd),Zd,Zc]))
 case first=>
  go_region_with (first
   |(go_at_call 185;refine(Gu b _ _ _ 4 l m a.drew D6.o.rs (by omega) f).mono ?_;rintro e z ⟨rfl,h7,g7⟩;have E7:Hid (EW w z b (DQ s wd).2.1 (AN s wd) (DQ s wd).2.2):=D6.o.step i.o c h7 g7;obtain⟨er7,_,y0,y1,y2,_,_,_⟩:=h7;have V:=g7;have xF:=E7.o.rs.lt)
   |(go_at_call 185;refine(Gu b _ _ _ 4 xD xE _ X.o.rs (by omega) yQ).mono ?_;rintro e z ⟨rfl,h7,g7⟩;have E7:Hid (EW w z b (DQ s wd).2.1 (AN s wd) (DQ s wd).2.2):=X.o.step i.o c h7 g7;obtain⟨er7,_,y0,y1,y2,_,_,_⟩:=h7;have Q:=Aa.cl yJ.o g7 yC;have z0:=(Q 0 _ rfl);have z1:=(Q 1 _ rfl);have R:=(Q 2 _ rfl);have z3:=(Q 3 _ rfl);have z4:=(Q 4 _ rfl);have z5:=(Q 5 _ rfl);obtain⟨z0,y0f⟩:=z0;obtain⟨z1,y1f⟩:=z1;obtain⟨R,y2f⟩:=R;obtain⟨z3,y3f⟩:=z3;obtain⟨z4,y4f⟩:=z4;obtain⟨z5,y5f⟩:=z5;have yD:=g7;have xF:=E7.o.rs.lt))
  all_goals go_wp2_with fail
  all_goals go_meet
  all_goals first
   |(have hA:Below z.heap.size z (z.alloc (.cells #[Zg (AN s wd),Zd,Zd,Zg (EQ s wd),Zd,Zc] 60)):=Zy
     exact⟨z.heap.size,rfl,V.size,E7.o.below hA,((Au (some b) (Below.refl a.heap.size a).drew).trans V).trans (Au _ hA),Aa.new z _ _⟩)
   |(have F:w.heap.size<a.heap.size:=xG
     refine⟨a.heap.size,rfl,Zx,?_,?_,?_⟩
     ·exact(((((E7.o.set i.o c a.heap.size 0 _ F).set i.o c a.heap.size 1 _ F).set i.o c a.heap.size 2 _ F).set i.o c a.heap.size 3 _ F).set i.o c a.heap.size 4 _ F).set i.o c a.heap.size 5 _ F
     ·have g0:a.grownBy z (some b):=(Au (some b) ((Below.refl a.heap.size a).alloc (Zx) _).drew).trans yD
      exact(((((g0.andThen (Ay _ a.heap.size 0 _) (fun j e=>by cases e;exact .inl (Zx))).andThen (Ay _ a.heap.size 1 _) (fun j e=>by cases e;exact .inl (Zx))).andThen (Ay _ a.heap.size 2 _) (fun j e=>by cases e;exact .inl (Zx))).andThen (Ay _ a.heap.size 3 _) (fun j e=>by cases e;exact .inl (Zx))).andThen (Ay _ a.heap.size 4 _) (fun j e=>by cases e;exact .inl (Zx))).andThen (Ay _ a.heap.size 5 _) (fun j e=>by cases e;exact .inl (Zx))
     ·exact(((((Q.set 0 _).set 1 _).set 2 _).set 3 _).set 4 _).set 5 _)
 case rest=>
 revert wc;intro w8 hcut;obtain⟨d,rfl,zX,E8,G8,Z8⟩:=hcut;have xS:U<d:=Zr U6.o.lt zX;have U8:Hid (Aa w8 U [.bool (EI (AN s wd)),.bool (DB (AN s wd)),.bool (Cw (AN s wd)),Zg (EJ (AN s wd))]):=U6.o.cl G8.o (by omega);clear P U6 D6 X yJ J A K G H I xK f yQ G8;have x:w.heap.size<d:=by omega
 obtain⟨l,m,f⟩:=E8.o.env.er 6 (by simp);go_wp2_with fail;refine(Gu b _ _ _ 1 l m w8 E8.o.rs (by omega) f).mono ?_;rintro e w9 ⟨rfl,h9,g9⟩;have E9:Hid (EW w w9 b (Fc s wd).2.1 (AN s wd) (Fc s wd).2.2):=E8.o.step i.o c h9 g9;have Z9:Hid (Aa w9 d [Zg (AN s wd),Zd,Zd,Zg (EQ s wd),Zd,Zc]):=Z8.o.cl g9 (by omega)
 have U9:Hid (Aa w9 U [.bool (EI (AN s wd)),.bool (DB (AN s wd)),.bool (Cw (AN s wd)),Zg (EJ (AN s wd))]):=U8.o.cl g9 (by omega);rw[show Cz (Bd (DQ s wd).2.1 (DQ s wd).2.2 (1:Nat)).1.data.toList=Mq s wd from rfl];clear E8 Z8 U8 h9 g9 f;obtain⟨l,m,f⟩:=E9.o.env.er 6 (by simp);go_wp2_with fail;refine(IB b _ _ _ (Mq s wd) l m w9 E9.o.rs (fun _=>Rc s wd) f).mono ?_;rintro e zJ ⟨rfl,yK,zB⟩
 have yE:Hid (EW w zJ b (BK s wd).2.1 (AN s wd) (BK s wd).2.2):=E9.o.step i.o c yK zB;have zR:Hid (Aa zJ d [Zg (AN s wd),Zd,Zd,Zg (EQ s wd),Zd,Zc]):=Z9.o.cl zB (by omega);have yI:Hid (Aa zJ U [.bool (EI (AN s wd)),.bool (DB (AN s wd)),.bool (Cw (AN s wd)),Zg (EJ (AN s wd))]):=U9.o.cl zB (by omega);rw[show(Bd (Fc s wd).2.1 (Fc s wd).2.2 (Mq s wd)).1=(BK s wd).1 from rfl];clear E9 Z9 U9 yK zB f
 obtain⟨R,xL⟩:=zR.o 2 _ rfl;obtain⟨D,q⟩:∃D,D=zJ.setCell (Ze d 2) (.string (BK s wd).1):=⟨_,rfl⟩;have B:Hid (EW w D b (BK s wd).2.1 (AN s wd) (BK s wd).2.2):=by rw[q];exact yE.o.set i.o c d 2 _ x
 have Z:Hid (Aa D d [Zg (AN s wd),Zd,.string (BK s wd).1,Zg (EQ s wd),Zd,Zc]):=by rw[q];exact zR.o.set 2 _
 have M:Hid (Aa D U [.bool (EI (AN s wd)),.bool (DB (AN s wd)),.bool (Cw (AN s wd)),Zg (EJ (AN s wd))]):=by rw[q];exact yI.o.cw (Ay _ _ _ _) (by omega)
 have S:=Yx q;clear q yE zR yI;go_upto_region 9 with fail;rw[←S.o];clear S R xL;obtain⟨u1,_⟩:=M.o 1 _ rfl
 go_upto_if 45 with fail
 go_cut [] (fun g=>Hid (EW w g b (Bc s wd).2.1 (AN s wd) (Bc s wd).2.2)/\Hid (Aa g U [.bool (EI (AN s wd)),.bool (DB (AN s wd)),.bool (Cw (AN s wd)),Zg (EJ (AN s wd))])/\Hid (Aa g d [Zg (AN s wd),.string (Bc s wd).1,.string (BK s wd).1,Zg (EQ s wd),Zd,Zc]))
 case first=>
  cases hu:DB (AN s wd)with
  |true=>
   have e5:Hid (Bc s wd=Bd (BK s wd).2.1 (BK s wd).2.2 wd):=by show _=_;unfold Bc;rw[if_pos hu]
   obtain⟨l,m,f⟩:=B.o.env.er 6 (by simp);go_wp2_with fail;refine(IB b _ _ _ wd l m D B.o.rs (fun h=>UW h) f).mono ?_;rintro e yA ⟨rfl,zW,zC⟩;rw[←e5.o]at zW ⊢;have r:=B.o.step i.o c zW zC;have u:=Z.o.cl zC (by omega);have N:=M.o.cl zC (by omega);obtain⟨z1,xX⟩:=u 1 _ rfl;clear zW zC f u1 B Z M;go_wp2_with fail;go_meet;refine⟨r.set i.o c d 1 _ x,?_,u.set 1 _⟩;exact N.cw (Ay _ _ _ _) (by omega)
  |false=>
   have e5:Hid (Bc s wd=(⟨#[]⟩,(BK s wd).2)):=by show _=_;unfold Bc;rw[if_neg (by rw[hu];decide)]
   go_wp2_with fail;go_meet;rw[e5.o];exact⟨B.o,M.o,Z.o⟩
 case rest=>
 revert wc;intro yA hcut;obtain⟨r,N,u⟩:=hcut;clear B Z M u1;have zN:=Yx (WL (wd:=wd) hs);obtain⟨u2,_⟩:=N.o 2 _ rfl
 go_upto_if 51 with fail
 go_cut [] (fun g=>∃(n:Zk) (o:Nat),Hid (EW w g b (CH s wd).1 (AN s wd) (CH s wd).2)/\Hid (Aa g d (Yo (AN s wd) ((Bc s wd).1) ((BK s wd).1) (EQ s wd) ((Ba s wd).1) n ((Ba s wd).2.length) o))/\Hid (g.ownsRow (w.heap.size+1) 9 1 (.slice n (Ba s wd).2.length o) (Ba s wd).2.length ((Ba s wd).2.map Value.string)))
 case first=>
  cases hu:Cw (AN s wd)with
  |true=>
   have e6:Hid (CH s wd=(Jn (Bc s wd).2.1 (Bc s wd).2.2,FW (Bc s wd).2.1 (Bc s wd).2.2 wd)):=by show _=_;unfold CH;rw[if_pos hu]
   have et:Hid (Ba s wd=((rd (EP (Bc s wd).2.1 (Bc s wd).2.2) wd).1,(rd (EP (Bc s wd).2.1 (Bc s wd).2.2) wd).2.1)):=by show _=_;unfold Ba;rw[if_pos hu]
   go_wp2_with fail;refine(Tg b _ _ _ wd yA r.o.rs r.o.env i.o zN.o.2.1).mono ?_;rintro e xI ⟨v,rfl,ho,zG,zV⟩;have t1:(rd (EP (Bc s wd).2.1 (Bc s wd).2.2) wd).1=(Ba s wd).1:=by rw[et.o]
   have t2:(rd (EP (Bc s wd).2.1 (Bc s wd).2.2) wd).2.1=(Ba s wd).2:=by rw[et.o]
   rw[t2]at ho;rw[t1];clear t1 t2;have zG:DG xI b (CH s wd).1 (AN s wd) (CH s wd).2:=by rw[e6.o];exact zG
   obtain⟨n,o,hv,_⟩:=DF ho;subst hv;have yT:=r.o.step i.o c zG zV;have xO:=r.o.lt;have zA:=u.o.cl zV (by omega);have xN:=zA.lt;obtain⟨z4,xY⟩:=zA 4 _ rfl;obtain⟨z5,xZ⟩:=zA 5 _ rfl;have T:d<yA.heap.size:=u.o.lt;clear zG zV u2 r N u e6 et;go_wp2_with fail;go_meet
   exact⟨n,o,(yT.set i.o c d 4 _ x).set i.o c d 5 _ x,(zA.set 4 _).set 5 _,(ownsRow_setCell_below (ownsRow_setCell_below ho T _) T _).mono (by omega)⟩
  |false=>
   have e6:Hid (CH s wd=(Bc s wd).2):=by show _=_;unfold CH;rw[if_neg (by rw[hu];decide)]
   have et:Hid (Ba s wd=(⟨#[]⟩,[])):=by show _=_;unfold Ba;rw[if_neg (by rw[hu];decide)]
   go_wp2_with fail;go_meet;rw[e6.o,et.o];exact⟨none,0,r.o,u.o,World.ownsRow_nil _ _ _ _⟩
 case rest=>
 revert wc;intro xJ hcut;obtain⟨n,o,C,zS,Y⟩:=hcut;clear r N u u2;obtain⟨xM,_,J,A,K,G,H,I⟩:=C.o.rs;obtain⟨l,m,f⟩:=C.o.env.er 3 (by simp);have yO:∀k,(Value.slice n (Ba s wd).2.length o).ownBlock=some k->b<k:=fun k hk=>by have:=(Y.o.lt k hk).1;omega
 have yF:=Yx yO;clear yO
 go_upto_if 60 with fail
 go_cut [] (fun g=>Hid (EW w g b (CH s wd).1 (AN s wd) (Fw s wd))/\Hid (Aa g d (Yo (AN s wd) ((Bc s wd).1) ((BK s wd).1) (EQ s wd) ((Ba s wd).1) n ((Ba s wd).2.length) o))/\Hid (g.ownsRow (w.heap.size+1) 9 1 (.slice n (Ba s wd).2.length o) (Ba s wd).2.length ((Ba s wd).2.map Value.string)))
 case first=>
  have yR:=Yx (Ft (s:=(CH s wd).1));cases hq:(CH s wd).1.toList.isEmpty with
  |true=>
   have O:(CH s wd).1.size=0:=by have:=yR.o;rw[hq]at this;simpa using this.symm
   have h0:=Yx O;clear O;clear hq;go_wp2_with fail;go_meet;rw[show Fw s wd=(CH s wd).2 by unfold Fw;rw[decide_eq_true h0.o];simp];exact⟨C.o,zS.o,Y.o⟩
  |false=>
   have O:¬(CH s wd).1.size=0:=by have:=yR.o;rw[hq]at this;simpa using this.symm
   have h0:=Yx O;clear O;clear hq;go_wp2_with fail;refine(FM b _ _ _ l m xJ C.o.rs).mono ?_;rintro e xU ⟨rfl,yL,zE⟩;have yU:=C.o.step i.o c yL zE;have xA:=zS.o.cl zE (by omega);have yX:=Y.o.kept zE (.inr (fun e=>by have:=yF.o b e;omega));clear yL zE J A K G H I f;go_wp2_with fail;go_meet;rw[show Fw s wd=true by unfold Fw;rw[decide_eq_false h0.o];simp];exact⟨yU,xA,yX⟩
 case rest=>
 revert wc;intro yB hcut;obtain⟨zM,zT,zO⟩:=hcut;clear C zS Y J A K G H I f;obtain⟨z0,z1,R,z3,z4,z5⟩:=Aa.c6 zT.o 0 1 2 3 4 5;have hlen:=UX s wd;have yW:Hid (Ad yB yB.heap.size n (Ba s wd).2):=by obtain⟨a',c',hv,hr⟩:=DF zO.o;cases hv;exact hr
 go_wp2_with fail;refine(UK (AN s wd) (Bc s wd).1 (BK s wd).1 (EQ s wd) (Ba s wd).1 n o (Ba s wd).2 wd yB zM.o.env.gq yW.o (by omega) (by have:=zN.o.2.2.1;unfold maxLen;omega) (by have:=zN.o.1;unfold maxLen;omega)).mono ?_;rintro e zK ⟨rfl,y⟩;rw[show Cg (AN s wd) (Bc s wd).1 (BK s wd).1 (EQ s wd) (Ba s wd).1 (Ba s wd).2 wd=Jo s wd from rfl]
 have L:Hid (EW w zK b (CH s wd).1 (AN s wd) (Fw s wd)):=zM.o.below y;have zU:Hid (Aa zK d (Yo (AN s wd) ((Bc s wd).1) ((BK s wd).1) (EQ s wd) ((Ba s wd).1) n ((Ba s wd).2.length) o)):=zT.o.below y;have zP:Hid (zK.ownsRow (w.heap.size+1) 9 1 (.slice n (Ba s wd).2.length o) (Ba s wd).2.length ((Ba s wd).2.map Value.string)):=zO.o.kept (Au none y) (Classical.em _);clear zM zT zO z0 z1 R z3 z4 z5 y
 obtain⟨l,m,f⟩:=L.o.env.er 4 (by simp)
 go_upto_if 67 with fail
 go_cut [] (fun g=>Hid (EW w g b (CH s wd).1 (AN s wd) (CA s wd))/\Hid (Aa g d (Yo (AN s wd) ((Bc s wd).1) ((BK s wd).1) (EQ s wd) ((Ba s wd).1) n ((Ba s wd).2.length) o))/\Hid (g.ownsRow (w.heap.size+1) 9 1 (.slice n (Ba s wd).2.length o) (Ba s wd).2.length ((Ba s wd).2.map Value.string)))
 case first=>
  cases hok:Jo s wd with
  |true=>go_wp2_with fail;go_meet;rw[show CA s wd=Fw s wd by unfold CA;rw[hok];simp];exact⟨L.o,zU.o,zP.o⟩
  |false=>go_wp2_with fail;refine(FM b _ _ _ l m zK L.o.rs).mono ?_;rintro e xV ⟨rfl,yM,zF⟩;have yV:=L.o.step i.o c yM zF;have xB:=zU.o.cl zF (by omega);have yY:=zP.o.kept zF (.inr (fun e=>by have:=yF.o b e;omega));clear yM zF f;go_wp2_with fail;go_meet;rw[show CA s wd=true by unfold CA;rw[hok];simp];exact⟨yV,xB,yY⟩
 case rest=>
 revert wc;intro xW hcut;obtain⟨t,xC,yZ⟩:=hcut;clear L zU zP f;obtain⟨z0,z1,R,z3,z4,z5⟩:=Aa.c6 xC.o 0 1 2 3 4 5;obtain⟨r0,q0⟩:=t.o.fo 0 _ rfl;obtain⟨r1,q1⟩:=t.o.fo 1 _ rfl;obtain⟨r2,q2⟩:=t.o.fo 2 _ rfl;obtain⟨r3,q3⟩:=t.o.fo 3 _ rfl;obtain⟨r4,q4⟩:=t.o.fo 4 _ rfl;obtain⟨r5,q5⟩:=t.o.fo 5 _ rfl;have E:b≠w.heap.size:=by omega
 go_wp2;refine bodyPost_ret (v:=.agg (Yp (AN s wd) ((Bc s wd).1) ((BK s wd).1) (EQ s wd) ((Ba s wd).1) n ((Ba s wd).2.length) o)) (by simp[results,results157,go_sem, *]) rfl ?_;have hz:w.heap.size<w.heap.size+1:=by omega
 refine⟨_,rfl,?_,?_,?_⟩
 ·refine World.ownsRow.mono ?_ (Nat.le_succ w.heap.size)
  iterate 6 (refine ownsRow_setCell_below ?_ hz _)
  exact yZ.o
 ·exact(((((t.o.rs.cl (Ay _ w.heap.size 0 _) E).cl (Ay _ w.heap.size 1 _) E).cl (Ay _ w.heap.size 2 _) E).cl (Ay _ w.heap.size 3 _) E).cl (Ay _ w.heap.size 4 _) E).cl (Ay _ w.heap.size 5 _) E
 ·exact(((((t.o.gr.andThen (Ay _ w.heap.size 0 _) (fun j e=>by cases e;exact .inl (Zx))).andThen (Ay _ w.heap.size 1 _) (fun j e=>by cases e;exact .inl (Zx))).andThen (Ay _ w.heap.size 2 _) (fun j e=>by cases e;exact .inl (Zx))).andThen (Ay _ w.heap.size 3 _) (fun j e=>by cases e;exact .inl (Zx))).andThen (Ay _ w.heap.size 4 _) (fun j e=>by cases e;exact .inl (Zx))).andThen (Ay _ w.heap.size 5 _) (fun j e=>by cases e;exact .inl (Zx))
end Go.Proofs.YtlhhpofjkgmbeaaGreatDoor
