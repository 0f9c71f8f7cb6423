import Derived.Test.YtdgblkklkaklhaaGreatDoorX20
import Derived.LaidHandle
import Derived.Test.YtdgblkklkaklhaaGreatDoorCards
import Derived.Test.YtdgblkklkaklhaaGreatDoorTie
import Derived.OpenVars
import Derived.Deep.DeepHandedRow
set_option maxRecDepth 100000
set_option maxHeartbeats 16000000
namespace Go.Proofs.YtdgblkklkaklhaaGreatDoor
open Go.ChangeShapes Go.WideShapes Go.ChangeAt Go.RowKit _root_.Go.Proofs.Tryz
theorem XU:prog.globalNamed "errors.errorType" =some 5:=by kernel_rfl
theorem ZG:(prog.cutTypes.find? (·.1== "internal/reflectlite.rtype")).map (·.2)=some 284:=by kernel_rfl
theorem Th:prog.types.size+100=454:=by kernel_rfl
theorem XV:((List.range (454 -100)).filter fun t=>prog.rowNamed t [101,114,114,111,114])=[208]:=by kernel_rfl
theorem XW{W:Zh}(h:handlesMet prog [("errors.errorType",Rows.laid_errors_errorType)] W):Hl W:=by
 obtain⟨name,u,i,c,d,j,e,a⟩:=h _ (List.mem_singleton.2 rfl);have f:=(Option.some.inj c).symm;subst f;obtain rfl:=Option.some.inj (ZG.symm.trans d);have b:i∈(List.range (454 -100)).filter fun t=>prog.rowNamed t [101,114,114,111,114]:=List.mem_filter.2 ⟨List.mem_range.2 (by have:=Th;omega),e⟩;rw[XV]at b;obtain rfl:=List.mem_singleton.1 b;have g:typeHandle prog 208=Yy 9 208:=by kernel_rfl
 rw[g]at a;unfold Hl;simpa using World.var?_cell XU a 0
theorem Ip{W:Zh}{e:String}{g:Nat}{a:Array Value}{b:Nat}{j:String}{d:DataW Unit}{p:List MemPlace}(i:prog.globalNamed e=some g)(c:W.var? prog e=some a)
 (h:DataW.trod (fun _=>()) prog W 0 (fun _=>true) false b 208 a.toList=some (.iface j d,p)):∃t v,W.cell? (Ze g 0)=some (.iface t v):=by
 obtain⟨_,u,v,f,_,_⟩:=iface_of_trod underlying208 h;refine⟨u,v,?_⟩;rw[World.var?_cell i c];have:a[0]?=a.toList[0]?:=by simp
 rw[this,f];rfl
theorem Ob:prog.globalNamed "loop.example/kilnvault/impl.errWidth" =some 1/\(prog.globals[1]?).map (·.type)=some 208:=⟨by kernel_rfl,by kernel_rfl⟩
theorem Oc:prog.globalNamed "loop.example/kilnvault/impl.errKind" =some 2/\(prog.globals[2]?).map (·.type)=some 208:=⟨by kernel_rfl,by kernel_rfl⟩
theorem Od:prog.globalNamed "loop.example/kilnvault/impl.errShort" =some 6/\(prog.globals[6]?).map (·.type)=some 208:=⟨by kernel_rfl,by kernel_rfl⟩
theorem Oe:prog.globalNamed "loop.example/kilnvault/impl.errThing" =some 7/\(prog.globals[7]?).map (·.type)=some 208:=⟨by kernel_rfl,by kernel_rfl⟩
theorem Ra:prog.globalNamed "loop.example/kilnvault/impl.errLong" =some 3/\(prog.globals[3]?).map (·.type)=some 208:=⟨by kernel_rfl,by kernel_rfl⟩
theorem Og:prog.globalNamed "loop.example/kilnvault/impl.errParts" =some 4/\(prog.globals[4]?).map (·.type)=some 208:=⟨by kernel_rfl,by kernel_rfl⟩
def VL:List (String×DataW Unit):=
 [("loop.example/kilnvault/impl.kindParts",Rows.laid_loop_example_kilnvault_impl_kindParts),("loop.example/kilnvault/impl.errWidth",Rows.laid_loop_example_kilnvault_impl_errWidth),("loop.example/kilnvault/impl.errKind",Rows.laid_loop_example_kilnvault_impl_errKind),("loop.example/kilnvault/impl.errShort",Rows.laid_loop_example_kilnvault_impl_errShort),
   ("loop.example/kilnvault/impl.errThing",Rows.laid_loop_example_kilnvault_impl_errThing),("loop.example/kilnvault/impl.errLong",Rows.laid_loop_example_kilnvault_impl_errLong),("loop.example/kilnvault/impl.errParts",Rows.laid_loop_example_kilnvault_impl_errParts)]
theorem XX{W:Zh}(h:laidMet prog VL W)(F:handlesMet prog [("errors.errorType",Rows.laid_errors_errorType)] W):Env W:=by
 obtain⟨ps,G,_⟩:=h;obtain⟨X,t1,N,P,p1,q1,k,r,y,b,H,_⟩:=G;obtain⟨Y,t2,c2,Q,p2,q2,l,s,z,c,I,_⟩:=H;obtain⟨Z,t3,c3,R,p3,q3,m,t,A,d,J,_⟩:=I;obtain⟨g4,t4,c4,S,p4,q4,n,u,B,e,K,_⟩:=J;obtain⟨g5,t5,O,T,p5,q5,o,v,C,f,L,_⟩:=K;obtain⟨g6,t6,c6,U,p6,q6,p,w,D,i,M,_⟩:=L;obtain⟨g7,t7,c7,V,p7,q7,q,x,E,j,r7,_⟩:=M;obtain rfl:=Option.some.inj (VI.symm.trans k);obtain rfl:=Option.some.inj (SM.symm.trans r)
 obtain rfl:=Option.some.inj (Ob.1.symm.trans l);obtain rfl:=Option.some.inj (Ob.2.symm.trans s);obtain rfl:=Option.some.inj (Oc.1.symm.trans m);obtain rfl:=Option.some.inj (Oc.2.symm.trans t);obtain rfl:=Option.some.inj (Od.1.symm.trans n);obtain rfl:=Option.some.inj (Od.2.symm.trans u);obtain rfl:=Option.some.inj (Oe.1.symm.trans o);obtain rfl:=Option.some.inj (Oe.2.symm.trans v)
 obtain rfl:=Option.some.inj (Ra.1.symm.trans p);obtain rfl:=Option.some.inj (Ra.2.symm.trans w);obtain rfl:=Option.some.inj (Og.1.symm.trans q);obtain rfl:=Option.some.inj (Og.2.symm.trans x);refine⟨NY y b,XW F,?_⟩;intro g a;simp only[List.mem_cons,List.not_mem_nil,or_false]at a;rcases a with rfl|rfl|rfl|rfl|rfl|rfl
 ·exact Ip Ob.1 z c
 ·exact Ip Oc.1 A d
 ·exact Ip Ra.1 D i
 ·exact Ip Og.1 E j
 ·exact Ip Od.1 B e
 ·exact Ip Oe.1 C f
def putCells(cs:Array Value):Obj->Obj
 |.cells _ t frozen=> .cells cs t frozen
 |o=>o
def JG(n:Nat):Value:=.iface 321 (.pointer (some ⟨n,0,none⟩))
noncomputable def envWorld (os:Os):Zh:=
 let w0:=World.holding prog os ⟨#[],#[],[]⟩
 {w0 with heap:=(((((((((((((w0.heap.modify 0 (putCells #[.bool false,.bool false,.bool false,Zf,.bool false,.bool false,.bool true,Zg 100000,.bool true,.bool true,.bool false,Zf,.bool true,.bool false,.bool false,Zf,.bool false,.bool true,.bool false,Zg 100000,.bool false,.bool false,.bool false,Zg 1000000000,.bool false,.bool false,.bool false,Zg 100000,.bool false,.bool true,.bool false,Zf])).modify 5 (putCells #[.iface 284 (.agg #[.pointer (some ⟨9,208,none⟩)])])).modify 1 (putCells #[JG w0.heap.size])).modify 2 (putCells #[JG (w0.heap.size+1)])).modify 6 (putCells #[JG (w0.heap.size+2)])).modify 7 (putCells #[JG (w0.heap.size+3)])).modify 3 (putCells #[JG (w0.heap.size+4)])).modify 4 (putCells #[JG (w0.heap.size+5)])).push (.cells #[.string ⟨#[110,111,32,119,105,100,116,104]⟩] 340)).push (.cells #[.string ⟨#[110,111,32,107,105,110,100,32,111,102,32,101,110,116,114,121]⟩] 340)).push (.cells #[.string ⟨#[105,116,32,101,110,100,115,32,116,111,111,32,101,97,114,108,121]⟩] 340)).push (.cells #[.string ⟨#[105,116,115,32,116,104,105,110,103,32,105,115,32,110,111,110,101]⟩] 340)).push (.cells #[.string ⟨#[105,116,32,103,111,101,115,32,111,110,32,98,101,104,105,110,100,32,105,116,115,32,101,110,100]⟩] 340)).push (.cells #[.string ⟨#[97,32,112,97,114,116,32,105,115,32,110,111,116,32,97,115,32,105,116,115,32,107,105,110,100,32,97,115,107,115]⟩] 340)}
theorem Es{H:Type}{a:TypeId×Value->H}{P:Program}{w:Zh}{f:Nat->Bool}{n:String}{e:List String}{c:List (DataW H)}{l:List MemPlace}(h:DataW.TrodVars a P w f (n::e) c l):∃d b q,c=d::b/\DataW.TrodVars a P w f e b q:=by
 cases c with
 |nil=>exact h.elim
 |cons d b=>obtain⟨g,t,m,j,p,q,_,_,_,_,k,_⟩:=h;exact⟨d,b,q,rfl,k⟩
noncomputable def heldE {H:Type} (a:TypeId×Value->H) (os:Os) (i:Nat):DataW H:=.held (a (321,Yz ((World.holding prog os ⟨#[],#[],[]⟩).heap.size+i)))
end Go.Proofs.YtdgblkklkaklhaaGreatDoor
