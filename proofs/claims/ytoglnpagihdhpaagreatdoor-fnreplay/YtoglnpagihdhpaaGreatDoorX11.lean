import Derived.Test.YtoglnpagihdhpaaGreatDoorX09
import Derived.Lib.LaidTab
import Derived.LaidHandle
import Derived.Test.YtoglnpagihdhpaaGreatDoorCards
import Derived.Test.YtoglnpagihdhpaaGreatDoorTie
import Derived.OpenVars
import Derived.Deep.DeepHandedRow
set_option maxRecDepth 100000
set_option maxHeartbeats 16000000
namespace Go.Proofs.YtoglnpagihdhpaaGreatDoor
open ChangeShapes WideShapes ChangeAt RowKit _root_.Go.Proofs.Tryz
variable{H:Type}{W:Zh}{p:List MemPlace}{b:Nat}
theorem Wq:prog.globalNamed "loop.example/kilnvault/impl.kindParts" =some 5:=Yr
theorem TO:(prog.globals[5]?).map (·.type)=some 182:=Yr
theorem TP:prog.cellsOf 124=4:=Yr
theorem RZ:prog.cellsOf 4=1:=Yr
theorem Ws{α:Type}{l:List α}(h:l.length=4):∃a b c d,l=[a,b,c,d]:=by
 match l,h with
 |[a,b,c,d],_=>exact⟨a,b,c,d,rfl⟩
theorem Qh{e:TypeId×Value->H}{d:Nat}{spare:Nat->Bool}{held:Bool}{i:Nat}{l:Zj}{a b c:Bool}{m:Int}(h:DataW.trod e prog W d spare held i 124 l=some (.agg [.lit (.bool a),.lit (.bool b),.lit (.bool c),.lit (.int .i64 m)],p)):l=[.bool a,.bool b,.bool c,.int .i64 m]:=by
 obtain⟨I,g,_,r,q,hlen,f⟩:=DataW.trod_struct underlying124 h;rw[TP]at q;obtain⟨v0,w,x,y,rfl⟩:=Ws q;obtain⟨z,A,B,C,rfl⟩:=Ws hlen;have s:DataW.trod e prog W d spare held g 4 [v0]=some z:=by simpa [RZ]using f 0 _ rfl
 have t:DataW.trod e prog W d spare held g 4 [w]=some A:=by simpa [RZ]using f 1 _ rfl
 have u:DataW.trod e prog W d spare held g 4 [x]=some B:=by simpa [RZ]using f 2 _ rfl
 have v:DataW.trod e prog W d spare held g 3 [y]=some C:=by simpa [Abn]using f 3 _ rfl
 obtain⟨D,j,rfl⟩:=DataW.trod_bool underlying4 s;obtain⟨E,k,rfl⟩:=DataW.trod_bool underlying4 t;obtain⟨F,n,rfl⟩:=DataW.trod_bool underlying4 u;obtain⟨G,o,rfl,_⟩:=DataW.trod_int underlying3 v;simp at j k n o r;obtain⟨⟨rfl,rfl,rfl,rfl⟩,_⟩:=r;rw[j,k,n,o]
theorem Pg{f:Array Value}(c:W.var? prog "loop.example/kilnvault/impl.kindParts" =some f)(q:DataW.trod (fun _=>()) prog W 0 (fun _=>true) false b 182 f.toList=some (Rows.laid_loop_example_kilnvault_impl_kindParts,p)):It W:=by
 obtain⟨i,v,_,s,u,hlen,g⟩:=DataW.trod_array underlying182 q;rw[TP]at g;have m:i.map (·.1)=_:=(DataW.agg.inj (Prod.mk.inj s).1).symm;intro k n o;have e:(i.map (·.1))[k]?=some (.agg [.lit (.bool (CP k)),.lit (.bool (DG k)),.lit (.bool (CD k)),.lit (.int .i64 (Cc k))]):=by
  rw[m]
  match k,n,o with
  |1,_,_=>rfl
  |2,_,_=>rfl
  |3,_,_=>rfl
  |4,_,_=>rfl
  |5,_,_=>rfl
  |6,_,_=>rfl
  |7,_,_=>rfl
 rw[List.getElem?_map]at e;obtain⟨⟨w,x⟩,t,d⟩:=Option.map_eq_some_iff.1 e;simp only at d;subst d;have h:=g k Yv;rw[t]at h;have l:=Qh h;have a:∀j,j<4->W.cell? ⟨5,k *4+j,none⟩=([.bool (CP k),.bool (DG k),.bool (CD k),.int .i64 (Cc k)]:Zj)[j]?:=by intro j r;rw[World.var?_cell Wq c,<-l,List.getElem?_take_of_lt r,List.getElem?_drop];simp
 exact⟨a 0 Yv,a 1 Yv,a 2 Yv,a 3 Yv⟩
theorem ZI:prog.globalNamed "errors.errorType" =some 4:=Yr
theorem Aar:(prog.cutTypes.find? (·.1== "internal/reflectlite.rtype")).map (·.2)=some 184:=Yr
theorem TQ:prog.types.size+100=389:=Yr
theorem ZJ:((List.range (389 -100)).filter fun t=>prog.rowNamed t [101,114,114,111,114])=[73]:=Yr
theorem ZK(h:handlesMet prog [("errors.errorType",Rows.laid_errors_errorType)] W):Hs W:=by
 obtain⟨c,u,j,d,e,k,f,a⟩:=h _ (List.mem_singleton.2 rfl);have g:=(Option.some.inj d).symm;subst g;obtain rfl:=Option.some.inj (Aar.symm.trans e);have b:j∈(List.range (389 -100)).filter fun t=>prog.rowNamed t [101,114,114,111,114]:=List.mem_filter.2 ⟨List.mem_range.2 (by have:=TQ;omega),f⟩;rw[ZJ]at b;obtain rfl:=List.mem_singleton.1 b;have i:typeHandle prog 73=Yx 9 73:=Yr
 rw[i]at a;unfold Hs;simpa using World.var?_cell ZI a 0
theorem Iy{e:String}{g:Nat}{a:Array Value}{j:String}{d:DataW Unit}(i:prog.globalNamed e=some g)(c:W.var? prog e=some a)(h:DataW.trod (fun _=>()) prog W 0 (fun _=>true) false b 73 a.toList=some (.iface j d,p)):∃t v,W.cell? (Zd g 0)=some (.iface t v):=by
 obtain⟨_,u,v,f,_,_⟩:=iface_of_trod underlying73 h;refine⟨u,v,?_⟩;rw[World.var?_cell i c];have:a[0]?=a.toList[0]?:=Yu
 rw[this,f];rfl
theorem Ph:prog.globalNamed "loop.example/kilnvault/impl.errWidth" =some 0/\(prog.globals[0]?).map (·.type)=some 73:=⟨Yr,Yr⟩
theorem Pj:prog.globalNamed "loop.example/kilnvault/impl.errKind" =some 1/\(prog.globals[1]?).map (·.type)=some 73:=⟨Yr,Yr⟩
theorem Pk:prog.globalNamed "loop.example/kilnvault/impl.errShort" =some 6/\(prog.globals[6]?).map (·.type)=some 73:=⟨Yr,Yr⟩
theorem Pm:prog.globalNamed "loop.example/kilnvault/impl.errThing" =some 7/\(prog.globals[7]?).map (·.type)=some 73:=⟨Yr,Yr⟩
theorem Sa:prog.globalNamed "loop.example/kilnvault/impl.errLong" =some 2/\(prog.globals[2]?).map (·.type)=some 73:=⟨Yr,Yr⟩
theorem Pn:prog.globalNamed "loop.example/kilnvault/impl.errParts" =some 3/\(prog.globals[3]?).map (·.type)=some 73:=⟨Yr,Yr⟩
def Wt:List (String×DataW Unit):=
 [("loop.example/kilnvault/impl.kindParts",Rows.laid_loop_example_kilnvault_impl_kindParts),("loop.example/kilnvault/impl.errWidth",Rows.laid_loop_example_kilnvault_impl_errWidth),("loop.example/kilnvault/impl.errKind",Rows.laid_loop_example_kilnvault_impl_errKind),("loop.example/kilnvault/impl.errShort",Rows.laid_loop_example_kilnvault_impl_errShort),
   ("loop.example/kilnvault/impl.errThing",Rows.laid_loop_example_kilnvault_impl_errThing),("loop.example/kilnvault/impl.errLong",Rows.laid_loop_example_kilnvault_impl_errLong),("loop.example/kilnvault/impl.errParts",Rows.laid_loop_example_kilnvault_impl_errParts)]
theorem ZL(h:laidMet prog Wt W)(G:handlesMet prog [("errors.errorType",Rows.laid_errors_errorType)] W):Env W:=by
 obtain⟨ps,H,_⟩:=h;obtain⟨X,t1,N,P,p1,q1,k,s,z,b,I,_⟩:=H;obtain⟨Y,t2,c2,Q,p2,q2,l,t,A,c,J,_⟩:=I;obtain⟨Z,t3,c3,R,p3,q3,m,u,B,d,K,_⟩:=J;obtain⟨g4,t4,c4,S,p4,q4,n,v,C,e,L,_⟩:=K;obtain⟨g5,t5,O,T,p5,q5,o,w,D,f,M,_⟩:=L;obtain⟨g6,t6,c6,U,p6,q6,q,x,E,i,r6,_⟩:=M;obtain⟨g7,t7,c7,V,p7,q7,r,y,F,j,r7,_⟩:=r6;obtain rfl:=Option.some.inj (Wq.symm.trans k);obtain rfl:=Option.some.inj (TO.symm.trans s)
 obtain rfl:=Option.some.inj (Ph.1.symm.trans l);obtain rfl:=Option.some.inj (Ph.2.symm.trans t);obtain rfl:=Option.some.inj (Pj.1.symm.trans m);obtain rfl:=Option.some.inj (Pj.2.symm.trans u);obtain rfl:=Option.some.inj (Pk.1.symm.trans n);obtain rfl:=Option.some.inj (Pk.2.symm.trans v);obtain rfl:=Option.some.inj (Pm.1.symm.trans o);obtain rfl:=Option.some.inj (Pm.2.symm.trans w)
 obtain rfl:=Option.some.inj (Sa.1.symm.trans q);obtain rfl:=Option.some.inj (Sa.2.symm.trans x);obtain rfl:=Option.some.inj (Pn.1.symm.trans r);obtain rfl:=Option.some.inj (Pn.2.symm.trans y);refine⟨Pg z b,ZK G,?_⟩;intro g a;simp only[List.mem_cons,List.not_mem_nil,or_false]at a;rcases a with rfl|rfl|rfl|rfl|rfl|rfl
 .exact Iy Ph.1 A c
 .exact Iy Pj.1 B d
 .exact Iy Sa.1 E i
 .exact Iy Pn.1 F j
 .exact Iy Pk.1 C e
 .exact Iy Pm.1 D f
def putCells(cs:Array Value):Obj->Obj
 |.cells _ t frozen=> .cells cs t frozen
 |o=>o
def Kq(n:Nat):Value:=.iface 257 (.pointer (some ⟨n,0,none⟩))
noncomputable def envWorld (os:Os):Zh:=
 let w0:=World.holding prog os ⟨#[],#[],[]⟩
 {w0 with heap:=(((((((((((((w0.heap.modify 5 (putCells #[.bool false,.bool false,.bool false,Ze,.bool false,.bool false,.bool true,Zg 100000,.bool true,.bool true,.bool false,Ze,.bool true,.bool false,.bool false,Ze,.bool false,.bool true,.bool false,Zg 100000,.bool false,.bool false,.bool false,Zg 1000000000,.bool false,.bool false,.bool false,Zg 100000,.bool false,.bool true,.bool false,Ze])).modify 4 (putCells #[.iface 184 (.agg #[.pointer (some ⟨9,73,none⟩)])])).modify 0 (putCells #[Kq w0.heap.size])).modify 1 (putCells #[Kq (w0.heap.size+1)])).modify 6 (putCells #[Kq (w0.heap.size+2)])).modify 7 (putCells #[Kq (w0.heap.size+3)])).modify 2 (putCells #[Kq (w0.heap.size+4)])).modify 3 (putCells #[Kq (w0.heap.size+5)])).push (.cells #[.string ⟨#[110,111,32,119,105,100,116,104]⟩] 277)).push (.cells #[.string ⟨#[110,111,32,107,105,110,100,32,111,102,32,101,110,116,114,121]⟩] 277)).push (.cells #[.string ⟨#[105,116,32,101,110,100,115,32,116,111,111,32,101,97,114,108,121]⟩] 277)).push (.cells #[.string ⟨#[105,116,115,32,116,104,105,110,103,32,105,115,32,110,111,110,101]⟩] 277)).push (.cells #[.string ⟨#[105,116,32,103,111,101,115,32,111,110,32,98,101,104,105,110,100,32,105,116,115,32,101,110,100]⟩] 277)).push (.cells #[.string ⟨#[97,32,112,97,114,116,32,105,115,32,110,111,116,32,97,115,32,105,116,115,32,107,105,110,100,32,97,115,107,115]⟩] 277)}
theorem ED{a:TypeId×Value->H}{P:Program}{w:Zh}{f:Nat->Bool}{n:String}{e:List String}{c:List (DataW H)}{l:List MemPlace}(h:DataW.TrodVars a P w f (n::e) c l):∃d b q,c=d::b/\DataW.TrodVars a P w f e b q:=by
 cases c with
 |nil=>exact h.elim
 |cons d b=>obtain⟨g,t,m,j,p,q,_,_,_,_,k,_⟩:=h;exact⟨d,b,q,rfl,k⟩
noncomputable def heldE {H:Type} (a:TypeId×Value->H) (os:Os) (i:Nat):DataW H:=.held (a (257,Yy ((World.holding prog os ⟨#[],#[],[]⟩).heap.size+i)))
theorem Nz(z A:Zk)(c d:Nat)(h i:Zl)(w:Zh)(hr:Ad w w.heap.size z h)(Q:Ad w w.heap.size A i)(Y:z=none->h.length=0/\c=0)(Z:A=none->i.length=0/\d=0)(hl:h.length<=1048576)(zH:i.length<=1048576):
 Calls prog 82 #[.agg #[.slice z h.length c,.slice A i.length d]] w fun e w'=>∃x cx y cy,e=.returned (.agg #[Yz x h.length cx,Yz y i.length cy])/\
  w'.ownsRow w.heap.size 9 1 (Yz x h.length cx) h.length (h.map Value.string)/\w'.ownsRow w.heap.size 9 1 (Yz y i.length cy) i.length (i.map Value.string)/\x≠y/\Zz w w':=by
 obtain⟨R,N,B,C,D⟩:=info_parts Cq;have zB:Below w.heap.size w ((w.alloc (.cells #[.slice z h.length c,.slice A i.length d] 47)).alloc (.cells #[Zb,Zb] 47)):=(Zy).alloc Yu _;obtain⟨W,hW⟩:=Af ((w.alloc (.cells #[.slice z h.length c,.slice A i.length d] 47)).alloc (.cells #[Zb,Zb] 47));have P:KK w W (.slice z h.length c) (.slice A i.length d):=by rw[hW];exact⟨by simp[go_sem],by simp[go_sem],by simp[go_sem],by simp[go_sem],fun o=>by simp[go_sem],zB,Yu⟩
 have HW:=Yw hW;have t:=Yw P;go_enter func82,ntmps82;go_wp2_with fail;rw[<-HW.o];obtain⟨b0,b1,r0,r1,f0,_,zI⟩:=P;obtain⟨a0,a1,_,_,_,_,_⟩:=t.o.alloc (.cells #[] 9);obtain⟨zF,zG,_,_,_,_,_⟩:=(t.o.alloc (.cells #[] 9)).alloc (.cells #[] 9);clear hW zB HW
 have oA:(W.alloc (.cells #[] 9)).drew.ownsRow (w.heap.size+2) 9 1 (Yz W.heap.size 0 0) 0 (([]:Zl).map Value.string):=World.ownsRow_lit W #[] 0 Yv Yo rfl
 have H:((W.alloc (.cells #[] 9)).alloc (.cells #[] 9)).drew.ownsRow (w.heap.size+2) 9 1 (Yz W.heap.size 0 0) 0 (([]:Zl).map Value.string):=World.ownsRow.alloc (World.ownsRow_lit W #[] 0 Yv Yo rfl) _;have I:((W.alloc (.cells #[] 9)).alloc (.cells #[] 9)).drew.ownsRow (w.heap.size+2) 9 1 (Yz (W.heap.size+1) 0 0) 0 (([]:Zl).map Value.string):=by have h1:=World.ownsRow_lit (base:=w.heap.size+2) (e:=9) (size:=1) (W.alloc (.cells #[] 9)) #[] 0 Yt Yo rfl;rw[World.size_alloc]at h1;exact h1
 have zC:=(hr.below (t.o.alloc (.cells #[] 9)).drew.cu).ay;have zE:=(Q.below (t.o.alloc (.cells #[] 9)).drew.cu).ay;have G:=(hr.below ((t.o.alloc (.cells #[] 9)).alloc (.cells #[] 9)).drew.cu).ay;have zA:=(Q.below ((t.o.alloc (.cells #[] 9)).alloc (.cells #[] 9)).drew.cu).ay
 go_region_law (first
  |(guard_target=if Region.wanted _ _=true then Oper.wp _ _ _ (W.alloc (.cells #[] 9)).drew _ _ else _;refine Ay (W.alloc (.cells #[] 9)).drew rfl (.tmp 3) (.tmp 5) 23 rfl (w.heap.size+2) 9 R Zc 16 underlying23 N B C D rfl (W.heap.size) 0 0 [] rfl oA z h.length c h rfl rfl Y zC Yo Yv Yl ?_;intro S F K s k l L;simp only[Nat.zero_add,List.nil_append]at s;have J:=k.size;simp at J l;have j:=(t.o.alloc _).drew.grown k Yv;have c0:=j.b0;have c1:=j.b1;have d0:=(j.alloc (.cells #[] 9)).b0;have d1:=(j.alloc (.cells #[] 9)).b1;have T:=J)
  |(guard_target=if Region.wanted _ _=true then Oper.wp _ _ _ ((W.alloc (.cells #[] 9)).alloc (.cells #[] 9)).drew _ _ else _;refine Ay ((W.alloc (.cells #[] 9)).alloc (.cells #[] 9)).drew rfl (.tmp 3) (.tmp 5) 23 rfl (w.heap.size+2) 9 R Zc 16 underlying23 N B C D rfl (W.heap.size) 0 0 [] rfl H z h.length c h rfl rfl Y G Yo Yv Yl ?_;intro S F K s k l L;simp only[Nat.zero_add,List.nil_append]at s;have J:=k.size;simp at J l;have j:=((t.o.alloc _).alloc _).drew.grown k Yv;have c0:=j.b0;have c1:=j.b1;have q:=I.kept k (.inr (by simp[Value.ownBlock]));have U:=J)
  |(guard_target=if Region.wanted _ _=true then Oper.wp _ _ _ ((W.alloc (.cells #[] 9)).alloc (.cells #[] 9)).drew _ _ else _;refine Ay ((W.alloc (.cells #[] 9)).alloc (.cells #[] 9)).drew rfl (.tmp 3) (.tmp 5) 23 rfl (w.heap.size+2) 9 R Zc 16 underlying23 N B C D rfl (W.heap.size+1) 0 0 [] rfl I z h.length c h rfl rfl Y G Yo Yv Yl ?_;intro S F K s k l L;simp only[Nat.zero_add,List.nil_append]at s;have J:=k.size;simp at J l;have j:=((t.o.alloc _).alloc _).drew.grown k Yv;have c0:=j.b0;have c1:=j.b1;have q:=H.kept k (.inr (by simp[Value.ownBlock]));have V:=J)
  |(have r:=T;refine Ay (K.alloc (.cells #[] 9)) rfl (.tmp 7) (.tmp 9) 23 rfl (w.heap.size+2) 9 R Zc 16 underlying23 N B C D rfl (K.heap.size) 0 0 [] rfl (World.ownsRow_lit K #[] 0 Yv Yo rfl) A i.length d i rfl rfl Z (Q.below (j.alloc _).cu).ay Yo Yv Yl ?_;intro E n w9 f b g u;simp only[Nat.zero_add,List.nil_append]at f;have X:=b.size;(try simp at X g);have F6:=(s.alloc _).kept b (.inr (by simp[Value.ownBlock];omega));have M:=f;have O:S≠E:=Yv;have m:=(j.alloc _).grown b Yv;have y0:=m.r0;have y1:=m.r1;have yf:=m.f)
  |(have r:=U;refine Ay K rfl (.tmp 7) (.tmp 9) 23 rfl (w.heap.size+2) 9 R Zc 16 underlying23 N B C D rfl (W.heap.size+1) 0 0 [] rfl q A i.length d i rfl rfl Z (Q.below j.cu).ay Yo Yv Yl ?_;intro E n w9 f b g u;simp only[Nat.zero_add,List.nil_append]at f;have X:=b.size;(try simp at X g);have F6:=s.kept b (.inr (by simp[Value.ownBlock];omega));have M:=f;have O:S≠E:=Yv;have m:=j.grown b Yv;have y0:=m.r0;have y1:=m.r1;have yf:=m.f)
  |(have r:=V;refine Ay K rfl (.tmp 7) (.tmp 9) 23 rfl (w.heap.size+2) 9 R Zc 16 underlying23 N B C D rfl (W.heap.size) 0 0 [] rfl q A i.length d i rfl rfl Z (Q.below j.cu).ay Yo Yv Yl ?_;intro E n w9 f b g u;simp only[Nat.zero_add,List.nil_append]at f;have X:=b.size;(try simp at X g);have F6:=s.kept b (.inr (by simp[Value.ownBlock];omega));have M:=f;have O:S≠E:=Yv;have m:=j.grown b Yv;have y0:=m.r0;have y1:=m.r1;have yf:=m.f))
 all_goals
  have HF:=Yw (Zn F6 (Zn M (Zn O m)));clear m;clear F6 M O oA H I zC zE G zA hr Q t;go_wp2;refine bodyPost_ret (v:=.agg #[Yz S h.length F,Yz E i.length n]) (by simp[results,results82,go_sem,y0,y1]) rfl ⟨_,_,_,_,rfl,?_,?_,HF.o.2.2.1,?_⟩
  .exact(ownsRow_setCell_below (ownsRow_setCell_below HF.o.1 (a:=⟨w.heap.size+1,0,none⟩) Yu _) (a:=⟨w.heap.size+1,1,none⟩) Yu _).mono Yv
  .exact(ownsRow_setCell_below (ownsRow_setCell_below HF.o.2.1 (a:=⟨w.heap.size+1,0,none⟩) Yu _) (a:=⟨w.heap.size+1,1,none⟩) Yu _).mono Yv
  .exact(HF.o.2.2.2.cu.setCell (p:=⟨w.heap.size+1,0,none⟩) Yu _).setCell (p:=⟨w.heap.size+1,1,none⟩) Yu _
end Go.Proofs.YtoglnpagihdhpaaGreatDoor
