import Derived.Test.YtflhhhnlhlaehaaGreatDoorC02
import Derived.Deep.DeepCutAuto
import Derived.LaidHandle
import Derived.Test.YtflhhhnlhlaehaaGreatDoorCards
import Derived.Test.YtflhhhnlhlaehaaGreatDoorTie
import Derived.OpenVars
import Derived.Deep.DeepHandedRow
set_option maxRecDepth 100000
set_option maxHeartbeats 16000000
namespace Go.Proofs.YtflhhhnlhlaehaaGreatDoor
open Go.ChangeShapes Go.WideShapes Go.ChangeAt Go.RowKit _root_.Go.Proofs.Tryz
structure Env (w:World):Prop where
 tab:Gl w
 ety:KG w
 er:∀g∈[0,1,2,3,6,7],∃t v,w.cell? ⟨g,0,none⟩=some (.iface t v)
theorem Env.lt {w:World} (h:Env w):∀g∈[0,1,2,3,6,7,5,4],g<w.heap.size:=by
 intro g hg;have h1:=h.er;obtain⟨c0,_⟩:=h.tab 1 (by omega) (by omega);have h3:=World.block_lt_of_cell? w _ c0;have h4:=World.block_lt_of_cell? w _ h.ety;have h5:∀g∈[0,1,2,3,6,7],g<w.heap.size:=fun g hg=>by
  obtain⟨t,v,hc⟩:=h1 g hg;exact World.block_lt_of_cell? w _ hc
 simp only[List.mem_cons,List.not_mem_nil,or_false] at hg h5;rcases hg with rfl|rfl|rfl|rfl|rfl|rfl|rfl|rfl
 ·exact h5 _ (by simp)
 ·exact h5 _ (by simp)
 ·exact h5 _ (by simp)
 ·exact h5 _ (by simp)
 ·exact h5 _ (by simp)
 ·exact h5 _ (by simp)
 ·exact h3
 ·exact h4
theorem Env.of {w w':World} (h:Env w) (hc:∀p:Addr,p.block∈[0,1,2,3,6,7,5,4]->w'.cell? p=w.cell? p):Env w':=by
 refine⟨fun k h1 h7=> ?_,?_,fun g hg=> ?_⟩
 ·obtain⟨c0,c1,c2,c3⟩:=h.tab k h1 h7
  exact⟨(hc ⟨_,_,none⟩ (by simp)).trans c0,(hc ⟨_,_,none⟩ (by simp)).trans c1,(hc ⟨_,_,none⟩ (by simp)).trans c2,(hc ⟨_,_,none⟩ (by simp)).trans c3⟩
 ·exact(hc ⟨_,_,none⟩ (by simp)).trans h.ety
 ·obtain⟨t,v,hv⟩:=h.er g hg
  refine⟨t,v,(hc ⟨g,0,none⟩ ?_).trans hv⟩;simp only[List.mem_cons,List.not_mem_nil,or_false] at hg ⊢;omega
theorem Env.below {w w':World} (h:Env w) (hb:Uq w w'):Env w':=
 h.of fun _ hp=>hb.cell (h.lt _ hp)
theorem Env.but {w w':World} {b:Nat} (h:Env w) (hg:w.grownBy w' (some b)) (hb:∀g∈[0,1,2,3,6,7,5,4],g<b):Env w':=
 h.of fun p hp=>hg.cell_far p (h.lt _ hp) (fun e=>by have:=hb _ hp;injection e;omega)
theorem CG.lt {w:World} {b:Nat} {rest:ByteArray} {kind:Int} {bad:Bool} (h:CG w b rest kind bad):b<w.heap.size:=by
 obtain⟨er,_,h⟩:=h;exact h.lt
theorem CG.setKind {w:World} {b:Nat} {rest:ByteArray} {kind:Int} {bad:Bool} (h:CG w b rest kind bad) (k:Int):CG (w.setCell ⟨b,1,none⟩ (.int .i64 k)) b rest k bad:=by
 obtain⟨er,h1,x0,x1,x2,f0,f1,f2⟩:=h;refine⟨er,h1,?_⟩;constructor<;>simp[go_sem, *]
theorem CG.far {w w':World} {b c:Nat} {rest:ByteArray} {kind:Int} {bad:Bool} (h:CG w b rest kind bad) (hg:w.grownBy w' (some c)) (zA:b≠c):CG w' b rest kind bad:=by
 obtain⟨er,h1,h⟩:=h;have hl:=h.lt;have hn:some b≠some c:=fun e=>zA (by injection e);exact⟨er,h1,(hg.cell_far ⟨b,0,none⟩ hl hn).trans h.x0,(hg.cell_far ⟨b,1,none⟩ hl hn).trans h.x1,(hg.cell_far ⟨b,2,none⟩ hl hn).trans h.x2,(hg.frozen_far ⟨b,0,none⟩ hl hn).trans h.f0,(hg.frozen_far ⟨b,1,none⟩ hl hn).trans h.f1,(hg.frozen_far ⟨b,2,none⟩ hl hn).trans h.f2⟩
def Dy (rest:ByteArray) (bad:Bool):ByteArray:=(AL rest bad rest.size).1
def Gn (rest:ByteArray) (bad:Bool):ByteArray:=(AL rest bad rest.size).2.1
def Ex (rest:ByteArray) (bad:Bool) (wd:Int):Bool:=(AL rest bad rest.size).2.2|| !(rd (Dy rest bad) wd).2.2
theorem Mx {rest:ByteArray} {bad:Bool} (h:rest.size<=1048576):(Dy rest bad).size<=1048576:=by
 unfold Dy AL;split
 ·exact Nat.zero_le _
 ·split
  ·exact Nat.zero_le _
  ·simp;omega
theorem NW (b:Nat) (rest:ByteArray) (kind:Int) (bad:Bool) (wd:Int) (w:World) (h:CG w b rest kind bad) (he:Env w) (hb:∀g∈[0,1,2,3,6,7,5,4],g<b) (hs:rest.size<=1048576):
 Calls prog 82 #[.pointer (some ⟨b,0,none⟩),.int .i64 wd] w fun e w'=>∃v,e=.returned (.agg #[.string (rd (Dy rest bad) wd).1,v])/\
  w'.ownsRow w.heap.size 9 1 v (rd (Dy rest bad) wd).2.1.length ((rd (Dy rest bad) wd).2.1.map Value.string)/\CG w' b (Gn rest bad) kind (Ex rest bad wd)/\w.grownBy w' (some b):=by
 obtain⟨W,hW⟩:∃W,W=w.alloc (.cells #[.string ⟨#[]⟩,.slice none 0 0] 40):=⟨_,rfl⟩;have zG:=(AC hW).1;have r0:W.cell? ⟨w.heap.size,0,none⟩=some (.string ⟨#[]⟩):=by rw[hW];simp
 have r1:W.cell? ⟨w.heap.size,1,none⟩=some (.slice none 0 0):=by rw[hW];simp
 have zT:W.frozen? ⟨w.heap.size,0,none⟩=false:=by rw[hW];simp
 have zU:W.frozen? ⟨w.heap.size,1,none⟩=false:=by rw[hW];simp
 have hz:w.heap.size<W.heap.size:=by rw[hW];simp
 have zB:=h.lt;have zV:=h.below zG;have eW:=he.below zG;obtain⟨gt,gv,zK⟩:=eW.er 6 (by simp);have HW:Hid _:=hW;have zP:=Mx (bad:=bad) hs;obtain⟨er,zJ,x0,x1,x2,f0,f1,f2⟩:=zV;have HS:Hid (CG W b rest kind bad):=⟨er,zJ,x0,x1,x2,f0,f1,f2⟩;clear hW h;go_enter func82,ntmps82;go_upto_region 1 with fail;rw[←HW.o];go_wp2_with fail
 refine(FL b rest kind bad rest.size gt gv W HS.o (fun _=>by omega) zK).mono ?_;rintro e w1 ⟨rfl,h1,g1⟩;rw[show(AL rest bad rest.size).1=Dy rest bad from rfl];obtain⟨TK,zE⟩:∃TK,TK=Dy rest bad:=⟨_,rfl⟩;rw[←zE] at zP ⊢;have HT:Hid _:=zE;have HR:=fun W'=>NU TK wd W' zP;unfold Ej at HR;have HL:Hid _:=HR;clear HR x0 x1 x2 f0 f1 f2 zJ zK zE;go_wp2_with fail;refine(HL.o w1).mono ?_
 rintro e w2 ⟨v,rfl,ho,zF⟩;obtain⟨a2,c2,hv,_⟩:=EA ho;subst hv;have zY:=g1.size;have zH:=zF.size;obtain⟨W3,zC⟩:∃W3,W3=w2.alloc (.cells #[.string (rd TK wd).1,.slice a2 (rd TK wd).2.1.length c2] 40):=⟨_,rfl⟩;have zD:=(AC zC).1;have t0:W3.cell? ⟨w2.heap.size,0,none⟩=some (.string (rd TK wd).1):=by rw[zC];simp
 have t1:W3.cell? ⟨w2.heap.size,1,none⟩=some (.slice a2 (rd TK wd).2.1.length c2):=by rw[zC];simp
 have zQ:w2.heap.size<W3.heap.size:=by rw[zC];simp
 have zX:=zD.size;have zA:=zF.trans (zD.mono zH);have q0:=(zA.cell (p:=⟨w.heap.size,0,none⟩) (by simp;omega)).trans ((g1.cell_far ⟨w.heap.size,0,none⟩ hz (Fx zB)).trans r0);have q1:=(zA.cell (p:=⟨w.heap.size,1,none⟩) (by simp;omega)).trans ((g1.cell_far ⟨w.heap.size,1,none⟩ hz (Fx zB)).trans r1)
 have zR:=(zA.frozen (p:=⟨w.heap.size,0,none⟩) (by simp;omega)).trans ((g1.frozen_far ⟨w.heap.size,0,none⟩ hz (Fx zB)).trans zT);have zS:=(zA.frozen (p:=⟨w.heap.size,1,none⟩) (by simp;omega)).trans ((g1.frozen_far ⟨w.heap.size,1,none⟩ hz (Fx zB)).trans zU);have zO:=h1.below zA;have e3:=(eW.but g1 hb).below zA;have gW:=((Aj (some b) zG).trans g1).trans (Aj (some b) zA)
 have zM:=ho.kept (Aj none zD) (Classical.em _);have zL:∀k,(Value.slice a2 (rd TK wd).2.1.length c2).ownBlock=some k->w1.heap.size<=k:=fun k hk=>(ho.lt k hk).1;obtain⟨kt,kv,zW⟩:=e3.er 7 (by simp);have HB:Hid _:=And.intro zO (And.intro gW (And.intro zM zL));have zI:Hid _:=zC;clear zO gW zM e3 h1 g1 zF ho r0 r1 zT zU eW HS HL zL HW zA zD zC;go_upto_region 2 with fail;rw[←zI.o];clear zI
 cases hok:(rd TK wd).2.2 with
 |true=>
  go_wp2;refine bodyPost_ret (v:=.agg #[.string (rd TK wd).1,.slice a2 (rd TK wd).2.1.length c2]) (by simp[results,results82,go_sem, *]) rfl ?_;refine⟨_,by rw[←HT.o],?_,?_,?_⟩
  ·rw[←HT.o]
   exact(ownsRow_setCell_below (ownsRow_setCell_below HB.o.2.2.1 (show w.heap.size<w1.heap.size by omega) _) (show w.heap.size<w1.heap.size by omega) _).mono (by omega)
  ·have:Ex rest bad wd=(AL rest bad rest.size).2.2:=by unfold Ex;rw[←HT.o,hok];simp
   rw[this];exact(HB.o.1.far (Ae _ w.heap.size 0 _) (by omega)).far (Ae _ w.heap.size 1 _) (by omega)
  ·exact(HB.o.2.1.andThen (Ae _ w.heap.size 0 _) (fun j e=>by cases e;exact .inl (Us))).andThen (Ae _ w.heap.size 1 _) (fun j e=>by cases e;exact .inl (Us))
 |false=>
  go_wp2_with fail;refine(Ek b _ kind _ kt kv W3 HB.o.1).mono ?_;rintro e w4 ⟨rfl,h4,g4⟩;have zZ:=g4.size;have t0:=(g4.cell_far ⟨w2.heap.size,0,none⟩ zQ (Fx (show b<w2.heap.size by omega))).trans t0;have t1:=(g4.cell_far ⟨w2.heap.size,1,none⟩ zQ (Fx (show b<w2.heap.size by omega))).trans t1;have q0:=(g4.cell_far ⟨w.heap.size,0,none⟩ (show w.heap.size<W3.heap.size by omega) (Fx zB)).trans q0
  have q1:=(g4.cell_far ⟨w.heap.size,1,none⟩ (show w.heap.size<W3.heap.size by omega) (Fx zB)).trans q1;have zR:=(g4.frozen_far ⟨w.heap.size,0,none⟩ (show w.heap.size<W3.heap.size by omega) (Fx zB)).trans zR;have zS:=(g4.frozen_far ⟨w.heap.size,1,none⟩ (show w.heap.size<W3.heap.size by omega) (Fx zB)).trans zS;have zN:=HB.o.2.2.1.kept g4 (.inr (fun e=>by have:=HB.o.2.2.2 b e;omega))
  have gW:=HB.o.2.1.trans g4;have HC:Hid _:=And.intro h4 (And.intro gW zN);clear h4 gW zN g4 zW;go_wp2;refine bodyPost_ret (v:=.agg #[.string (rd TK wd).1,.slice a2 (rd TK wd).2.1.length c2]) (by simp[results,results82,go_sem, *]) rfl ?_;refine⟨_,by rw[←HT.o],?_,?_,?_⟩
  ·rw[←HT.o]
   exact(ownsRow_setCell_below (ownsRow_setCell_below HC.o.2.2 (show w.heap.size<w1.heap.size by omega) _) (show w.heap.size<w1.heap.size by omega) _).mono (by omega)
  ·have:Ex rest bad wd=true:=by unfold Ex;rw[←HT.o,hok];simp
   rw[this];exact(HC.o.1.far (Ae _ w.heap.size 0 _) (by omega)).far (Ae _ w.heap.size 1 _) (by omega)
  ·exact(HC.o.2.1.andThen (Ae _ w.heap.size 0 _) (fun j e=>by cases e;exact .inl (Us))).andThen (Ae _ w.heap.size 1 _) (fun j e=>by cases e;exact .inl (Us))
theorem RO:prog.globalNamed "errors.errorType" =some 4:=by kernel_rfl
theorem Sy:(prog.cutTypes.find? (·.1== "internal/reflectlite.rtype")).map (·.2)=some 212:=by kernel_rfl
theorem NX:prog.types.size+100=404:=by kernel_rfl
theorem RP:((List.range (404 -100)).filter fun t=>prog.rowNamed t [101,114,114,111,114])=[136]:=by kernel_rfl
theorem RQ {W:World} (h:handlesMet prog [("errors.errorType",Rows.laid_errors_errorType)] W):KG W:=by
 obtain⟨name,u,ty,e1,e2,e3,e4,e5⟩:=h _ (List.mem_singleton.2 rfl);have en:=(Option.some.inj e1).symm;subst en;obtain rfl:=Option.some.inj (Sy.symm.trans e2);have hm:ty∈(List.range (404 -100)).filter fun t=>prog.rowNamed t [101,114,114,111,114]:=List.mem_filter.2 ⟨List.mem_range.2 (by have:=NX;omega),e4⟩;rw[RP] at hm;obtain rfl:=List.mem_singleton.1 hm
 have hh:typeHandle prog 136=.pointer (some ⟨9,136,none⟩):=by kernel_rfl
 rw[hh] at e5;unfold KG;simpa using World.var?_cell RO e5 0
theorem Fy {W:World} {nm:String} {g:Nat} {cs:Array Value} {zA:Nat} {nd:String} {d:DataW Unit} {p:List MemPlace} (hg:prog.globalNamed nm=some g) (zB:W.var? prog nm=some cs)
 (hd:DataW.trod (fun _=>()) prog W 0 (fun _=>true) false zA 136 cs.toList=some (.iface nd d,p)):∃t v,W.cell? ⟨g,0,none⟩=some (.iface t v):=by
 obtain⟨_,u,v,zC,_,_⟩:=iface_of_trod underlying136 hd;refine⟨u,v,?_⟩;rw[World.var?_cell hg zB];have:cs[0]?=cs.toList[0]?:=by simp
 rw[this,zC];rfl
theorem KP:prog.globalNamed "loop.example/kilnvault/impl.errWidth" =some 0/\(prog.globals[0]?).map (·.type)=some 136:=⟨by kernel_rfl,by kernel_rfl⟩
theorem KQ:prog.globalNamed "loop.example/kilnvault/impl.errKind" =some 1/\(prog.globals[1]?).map (·.type)=some 136:=⟨by kernel_rfl,by kernel_rfl⟩
theorem KR:prog.globalNamed "loop.example/kilnvault/impl.errShort" =some 6/\(prog.globals[6]?).map (·.type)=some 136:=⟨by kernel_rfl,by kernel_rfl⟩
theorem KS:prog.globalNamed "loop.example/kilnvault/impl.errThing" =some 7/\(prog.globals[7]?).map (·.type)=some 136:=⟨by kernel_rfl,by kernel_rfl⟩
theorem MP:prog.globalNamed "loop.example/kilnvault/impl.errLong" =some 2/\(prog.globals[2]?).map (·.type)=some 136:=⟨by kernel_rfl,by kernel_rfl⟩
theorem KT:prog.globalNamed "loop.example/kilnvault/impl.errParts" =some 3/\(prog.globals[3]?).map (·.type)=some 136:=⟨by kernel_rfl,by kernel_rfl⟩
def Qm:List (String×DataW Unit):=
 [("loop.example/kilnvault/impl.kindParts",Rows.laid_loop_example_kilnvault_impl_kindParts),("loop.example/kilnvault/impl.errWidth",Rows.laid_loop_example_kilnvault_impl_errWidth),("loop.example/kilnvault/impl.errKind",Rows.laid_loop_example_kilnvault_impl_errKind),("loop.example/kilnvault/impl.errShort",Rows.laid_loop_example_kilnvault_impl_errShort),
   ("loop.example/kilnvault/impl.errThing",Rows.laid_loop_example_kilnvault_impl_errThing),("loop.example/kilnvault/impl.errLong",Rows.laid_loop_example_kilnvault_impl_errLong),("loop.example/kilnvault/impl.errParts",Rows.laid_loop_example_kilnvault_impl_errParts)]
theorem RR {W:World} (h:laidMet prog Qm W) (hh:handlesMet prog [("errors.errorType",Rows.laid_errors_errorType)] W):Env W:=by
 obtain⟨ps,hv,_⟩:=h;obtain⟨g1,t1,c1,f1,p1,q1,zH,zO,zV,zA,r1,_⟩:=hv;obtain⟨g2,t2,c2,f2,p2,q2,zI,zP,zW,zB,r2,_⟩:=r1;obtain⟨g3,t3,c3,f3,p3,q3,zJ,zQ,zX,zC,r3,_⟩:=r2;obtain⟨g4,t4,c4,f4,p4,q4,zK,zR,zY,zD,r4,_⟩:=r3;obtain⟨g5,t5,c5,f5,p5,q5,zL,zS,zZ,zE,r5,_⟩:=r4;obtain⟨g6,t6,c6,f6,p6,q6,zM,zT,yA,zF,r6,_⟩:=r5;obtain⟨g7,t7,c7,f7,p7,q7,zN,zU,yB,zG,r7,_⟩:=r6;obtain rfl:=Option.some.inj (Qk.symm.trans zH)
 obtain rfl:=Option.some.inj (NL.symm.trans zO);obtain rfl:=Option.some.inj (KP.1.symm.trans zI);obtain rfl:=Option.some.inj (KP.2.symm.trans zP);obtain rfl:=Option.some.inj (KQ.1.symm.trans zJ);obtain rfl:=Option.some.inj (KQ.2.symm.trans zQ);obtain rfl:=Option.some.inj (KR.1.symm.trans zK);obtain rfl:=Option.some.inj (KR.2.symm.trans zR);obtain rfl:=Option.some.inj (KS.1.symm.trans zL)
 obtain rfl:=Option.some.inj (KS.2.symm.trans zS);obtain rfl:=Option.some.inj (MP.1.symm.trans zM);obtain rfl:=Option.some.inj (MP.2.symm.trans zT);obtain rfl:=Option.some.inj (KT.1.symm.trans zN);obtain rfl:=Option.some.inj (KT.2.symm.trans zU);refine⟨KM zV zA,RQ hh,?_⟩;intro g hg;simp only[List.mem_cons,List.not_mem_nil,or_false] at hg;rcases hg with rfl|rfl|rfl|rfl|rfl|rfl
 ·exact Fy KP.1 zW zB
 ·exact Fy KQ.1 zX zC
 ·exact Fy MP.1 yA zF
 ·exact Fy KT.1 yB zG
 ·exact Fy KR.1 zY zD
 ·exact Fy KS.1 zZ zE
def Df (cs:Array Value):Obj->Obj
 |.cells _ t frozen=> .cells cs t frozen
 |o=>o
def GR (n:Nat):Value:=.iface 271 (.pointer (some ⟨n,0,none⟩))
noncomputable def envWorld (os:Os):World:=
 let w0:=World.holding prog os ⟨#[],#[],[]⟩
 {w0 with heap:=(((((((((((((w0.heap.modify 5 (Df #[.bool false,.bool false,.bool false,.int .i64 0,.bool false,.bool false,.bool true,.int .i64 100000,.bool true,.bool true,.bool false,.int .i64 0,.bool true,.bool false,.bool false,.int .i64 0,.bool false,.bool true,.bool false,.int .i64 100000,.bool false,.bool false,.bool false,.int .i64 1000000000,.bool false,.bool false,.bool false,.int .i64 100000,.bool false,.bool true,.bool false,.int .i64 0])).modify 4 (Df #[.iface 212 (.agg #[.pointer (some ⟨9,136,none⟩)])])).modify 0 (Df #[GR w0.heap.size])).modify 1 (Df #[GR (w0.heap.size+1)])).modify 6 (Df #[GR (w0.heap.size+2)])).modify 7 (Df #[GR (w0.heap.size+3)])).modify 2 (Df #[GR (w0.heap.size+4)])).modify 3 (Df #[GR (w0.heap.size+5)])).push (.cells #[.string ⟨#[110,111,32,119,105,100,116,104]⟩] 290)).push (.cells #[.string ⟨#[110,111,32,107,105,110,100,32,111,102,32,101,110,116,114,121]⟩] 290)).push (.cells #[.string ⟨#[105,116,32,101,110,100,115,32,116,111,111,32,101,97,114,108,121]⟩] 290)).push (.cells #[.string ⟨#[105,116,115,32,116,104,105,110,103,32,105,115,32,110,111,110,101]⟩] 290)).push (.cells #[.string ⟨#[105,116,32,103,111,101,115,32,111,110,32,98,101,104,105,110,100,32,105,116,115,32,101,110,100]⟩] 290)).push (.cells #[.string ⟨#[97,32,112,97,114,116,32,105,115,32,110,111,116,32,97,115,32,105,116,115,32,107,105,110,100,32,97,115,107,115]⟩] 290)}
theorem Dg {H:Type} {enc:TypeId×Value->H} {P:Program} {w:World} {sp:Nat->Bool} {n:String} {ns:List String} {gs:List (DataW H)} {ps:List MemPlace} (h:DataW.TrodVars enc P w sp (n::ns) gs ps):∃d ds q,gs=d::ds/\DataW.TrodVars enc P w sp ns ds q:=by
 cases gs with
 |nil=>exact h.elim
 |cons d ds=>
  obtain⟨g,t,cs,zA,p,q,_,_,_,_,hs,_⟩:=h;exact⟨d,ds,q,rfl,hs⟩
noncomputable def heldE {H:Type} (enc:TypeId×Value->H) (os:Os) (i:Nat):DataW H:=.held (enc (271,.pointer (some ⟨(World.holding prog os ⟨#[],#[],[]⟩).heap.size+i,0,none⟩)))
end Go.Proofs.YtflhhhnlhlaehaaGreatDoor
