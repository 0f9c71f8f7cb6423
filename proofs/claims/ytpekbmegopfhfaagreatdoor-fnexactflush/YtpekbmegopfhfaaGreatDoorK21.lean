import Derived.Test.YtpekbmegopfhfaaGreatDoorK20
import Derived.LaidHandle
import Derived.Test.YtpekbmegopfhfaaGreatDoorCards
import Derived.Test.YtpekbmegopfhfaaGreatDoorTie
import Derived.OpenVars
import Derived.Deep.DeepHandedRow
set_option maxRecDepth 100000
set_option maxHeartbeats 16000000
namespace Go.Proofs.YtpekbmegopfhfaaGreatDoor
open Go.ChangeShapes Go.WideShapes Go.ChangeAt Go.RowKit _root_.Go.Proofs.Tryz
theorem VJ:prog.globalNamed "errors.errorType" =some 4:=by kernel_rfl
theorem Wl:(prog.cutTypes.find? (·.1== "internal/reflectlite.rtype")).map (·.2)=some 253:=by kernel_rfl
theorem RH:prog.types.size+100=450:=by kernel_rfl
theorem VK:((List.range (450 -100)).filter fun t=>prog.rowNamed t [101,114,114,111,114])=[179]:=by kernel_rfl
theorem VL {W:World} (h:handlesMet prog [("errors.errorType",Rows.laid_errors_errorType)] W):Mh W:=by
 obtain⟨name,u,ty,e1,e2,e3,e4,e5⟩:=h _ (List.mem_singleton.2 rfl);have en:=(Option.some.inj e1).symm;subst en;obtain rfl:=Option.some.inj (Wl.symm.trans e2);have hm:ty∈(List.range (450 -100)).filter fun t=>prog.rowNamed t [101,114,114,111,114]:=List.mem_filter.2 ⟨List.mem_range.2 (by have:=RH;omega),e4⟩;rw[VK] at hm;obtain rfl:=List.mem_singleton.1 hm
 have hh:typeHandle prog 179=.pointer (some ⟨9,179,none⟩):=by kernel_rfl
 rw[hh] at e5;unfold Mh;simpa using World.var?_cell VJ e5 0
theorem GX {W:World} {nm:String} {g:Nat} {cs:Array Value} {zA:Nat} {nd:String} {d:DataW Unit} {p:List MemPlace} (hg:prog.globalNamed nm=some g) (zB:W.var? prog nm=some cs)
 (hd:DataW.trod (fun _=>()) prog W 0 (fun _=>true) false zA 179 cs.toList=some (.iface nd d,p)):∃t v,W.cell? (XL g 0)=some (.iface t v):=by
 obtain⟨_,u,v,zC,_,_⟩:=iface_of_trod underlying179 hd;refine⟨u,v,?_⟩;rw[World.var?_cell hg zB];have:cs[0]?=cs.toList[0]?:=by simp
 rw[this,zC];rfl
theorem MY:prog.globalNamed "loop.example/kilnvault/impl.errWidth" =some 0/\(prog.globals[0]?).map (·.type)=some 179:=⟨by kernel_rfl,by kernel_rfl⟩
theorem MZ:prog.globalNamed "loop.example/kilnvault/impl.errKind" =some 1/\(prog.globals[1]?).map (·.type)=some 179:=⟨by kernel_rfl,by kernel_rfl⟩
theorem Na:prog.globalNamed "loop.example/kilnvault/impl.errShort" =some 6/\(prog.globals[6]?).map (·.type)=some 179:=⟨by kernel_rfl,by kernel_rfl⟩
theorem Nb:prog.globalNamed "loop.example/kilnvault/impl.errThing" =some 7/\(prog.globals[7]?).map (·.type)=some 179:=⟨by kernel_rfl,by kernel_rfl⟩
theorem PI:prog.globalNamed "loop.example/kilnvault/impl.errLong" =some 2/\(prog.globals[2]?).map (·.type)=some 179:=⟨by kernel_rfl,by kernel_rfl⟩
theorem Nc:prog.globalNamed "loop.example/kilnvault/impl.errParts" =some 3/\(prog.globals[3]?).map (·.type)=some 179:=⟨by kernel_rfl,by kernel_rfl⟩
def Wm:List (String×DataW Unit):=
 [("loop.example/kilnvault/impl.kindParts",Rows.laid_loop_example_kilnvault_impl_kindParts),("loop.example/kilnvault/impl.errWidth",Rows.laid_loop_example_kilnvault_impl_errWidth),("loop.example/kilnvault/impl.errKind",Rows.laid_loop_example_kilnvault_impl_errKind),("loop.example/kilnvault/impl.errShort",Rows.laid_loop_example_kilnvault_impl_errShort),
   ("loop.example/kilnvault/impl.errThing",Rows.laid_loop_example_kilnvault_impl_errThing),("loop.example/kilnvault/impl.errLong",Rows.laid_loop_example_kilnvault_impl_errLong),("loop.example/kilnvault/impl.errParts",Rows.laid_loop_example_kilnvault_impl_errParts)]
theorem RI {W:World} (h:laidMet prog Wm W) (hh:handlesMet prog [("errors.errorType",Rows.laid_errors_errorType)] W):Env W:=by
 obtain⟨ps,hv,_⟩:=h;obtain⟨g1,t1,c1,f1,p1,q1,zA,yA,zV,zE,r1,_⟩:=hv;obtain⟨g2,t2,c2,f2,p2,q2,zC,zR,zN,zP,r2,_⟩:=r1;obtain⟨g3,t3,c3,f3,p3,q3,zM,zY,zB,zX,r3,_⟩:=r2;obtain⟨g4,t4,c4,f4,p4,q4,zF,zZ,yE,zI,r4,_⟩:=r3;obtain⟨g5,t5,c5,f5,p5,q5,zJ,zO,yD,zU,r5,_⟩:=r4;obtain⟨g6,t6,c6,f6,p6,q6,zT,zG,zH,yC,r6,_⟩:=r5;obtain⟨g7,t7,c7,f7,p7,q7,zS,zW,yB,zK,r7,_⟩:=r6;obtain rfl:=Option.some.inj (Uf.symm.trans zA)
 obtain rfl:=Option.some.inj (Rl.symm.trans yA);obtain rfl:=Option.some.inj (MY.1.symm.trans zC);obtain rfl:=Option.some.inj (MY.2.symm.trans zR);obtain rfl:=Option.some.inj (MZ.1.symm.trans zM);obtain rfl:=Option.some.inj (MZ.2.symm.trans zY);obtain rfl:=Option.some.inj (Na.1.symm.trans zF);obtain rfl:=Option.some.inj (Na.2.symm.trans zZ);obtain rfl:=Option.some.inj (Nb.1.symm.trans zJ)
 obtain rfl:=Option.some.inj (Nb.2.symm.trans zO);obtain rfl:=Option.some.inj (PI.1.symm.trans zT);obtain rfl:=Option.some.inj (PI.2.symm.trans zG);obtain rfl:=Option.some.inj (Nc.1.symm.trans zS);obtain rfl:=Option.some.inj (Nc.2.symm.trans zW);refine⟨MU zV zE,VL hh,?_⟩;intro g hg;simp only[List.mem_cons,List.not_mem_nil,or_false] at hg;rcases hg with rfl|rfl|rfl|rfl|rfl|rfl
 ·exact GX MY.1 zN zP
 ·exact GX MZ.1 zB zX
 ·exact GX PI.1 zH yC
 ·exact GX Nc.1 yB zK
 ·exact GX Na.1 yE zI
 ·exact GX Nb.1 yD zU
def DW (cs:Array Value):Obj->Obj
 |.cells _ t frozen=> .cells cs t frozen
 |o=>o
def IN (n:Nat):Value:=.iface 317 (.pointer (some ⟨n,0,none⟩))
noncomputable def envWorld (os:Os):World:=
 let w0:=World.holding prog os ⟨#[],#[],[]⟩
 {w0 with heap:=(((((((((((((w0.heap.modify 5 (DW #[.bool false,.bool false,.bool false,XK,.bool false,.bool false,.bool true,XJ 100000,.bool true,.bool true,.bool false,XK,.bool true,.bool false,.bool false,XK,.bool false,.bool true,.bool false,XJ 100000,.bool false,.bool false,.bool false,XJ 1000000000,.bool false,.bool false,.bool false,XJ 100000,.bool false,.bool true,.bool false,XK])).modify 4 (DW #[.iface 253 (.agg #[.pointer (some ⟨9,179,none⟩)])])).modify 0 (DW #[IN w0.heap.size])).modify 1 (DW #[IN (w0.heap.size+1)])).modify 6 (DW #[IN (w0.heap.size+2)])).modify 7 (DW #[IN (w0.heap.size+3)])).modify 2 (DW #[IN (w0.heap.size+4)])).modify 3 (DW #[IN (w0.heap.size+5)])).push (.cells #[.string ⟨#[110,111,32,119,105,100,116,104]⟩] 336)).push (.cells #[.string ⟨#[110,111,32,107,105,110,100,32,111,102,32,101,110,116,114,121]⟩] 336)).push (.cells #[.string ⟨#[105,116,32,101,110,100,115,32,116,111,111,32,101,97,114,108,121]⟩] 336)).push (.cells #[.string ⟨#[105,116,115,32,116,104,105,110,103,32,105,115,32,110,111,110,101]⟩] 336)).push (.cells #[.string ⟨#[105,116,32,103,111,101,115,32,111,110,32,98,101,104,105,110,100,32,105,116,115,32,101,110,100]⟩] 336)).push (.cells #[.string ⟨#[97,32,112,97,114,116,32,105,115,32,110,111,116,32,97,115,32,105,116,115,32,107,105,110,100,32,97,115,107,115]⟩] 336)}
theorem BV {H:Type} {enc:TypeId×Value->H} {P:Program} {w:World} {sp:Nat->Bool} {n:String} {ns:List String} {gs:List (DataW H)} {ps:List MemPlace} (h:DataW.TrodVars enc P w sp (n::ns) gs ps):∃d ds q,gs=d::ds/\DataW.TrodVars enc P w sp ns ds q:=by
 cases gs with
 |nil=>exact h.elim
 |cons d ds=>
  obtain⟨g,t,cs,zA,p,q,_,_,_,_,hs,_⟩:=h;exact⟨d,ds,q,rfl,hs⟩
noncomputable def heldE {H:Type} (enc:TypeId×Value->H) (os:Os) (i:Nat):DataW H:=.held (enc (317,.pointer (some ⟨(World.holding prog os ⟨#[],#[],[]⟩).heap.size+i,0,none⟩)))
end Go.Proofs.YtpekbmegopfhfaaGreatDoor
