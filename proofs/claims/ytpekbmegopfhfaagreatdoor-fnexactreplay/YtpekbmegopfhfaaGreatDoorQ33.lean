import Derived.Test.YtpekbmegopfhfaaGreatDoorRows
import Derived.Test.YtpekbmegopfhfaaGreatDoorQ01
import Derived.OpenShut
import Derived.ShutString
import Derived.Lib.SmallJoins
import Derived.Test.YtpekbmegopfhfaaGreatDoorQ24
import Derived.Lib.LaidTab
import Derived.Test.YtpekbmegopfhfaaGreatDoorQ27
import Derived.LaidHandle
namespace Go.Proofs.YtpekbmegopfhfaaGreatDoor
open Go.ChangeShapes Go.WideShapes Go.ChangeAt Go.RowKit
theorem Tryz.cellsStr:Tryz.prog.cellsOf 9=1:=by kernel_rfl
theorem own:ownKnob Tryz.prog.godebug=none:=by kernel_rfl
theorem laidOut:laidOutB Tryz.prog=true:=by kernel_rfl
theorem read_strs {H:Type} {enc:TypeId×Value->H} {W:World} {base:Nat} {spare:Nat->Bool} {held:Bool} {fuel:Nat} {v:Value} {y:DataW H×List MemPlace}
 (h:DataW.trod enc Tryz.prog W base spare held fuel 22 [v]=some y):
 ∃a cap ss,v=.slice a (List.length ss) cap/\SRow W W.heap.size a ss/\ss.length<=maxLen/\∀s∈ss,ByteArray.size s<=maxLen:=by
 rcases open_strings Tryz.underlying22 Tryz.underlying9 Tryz.cellsStr h with⟨hcs,_⟩|⟨a,len,cap,ss,hcs,_,hl,hm,hn,_,hcell,hws⟩
 ·simp at hcs
  subst hcs;exact⟨none,0,[],rfl,.inl rfl,by simp[maxLen],fun s hs=>by cases hs⟩
 ·simp at hcs
  subst hcs;have hlen:len<=ss.length:=by rw[hn];split<;>omega
  have htl:(ss.take len).length=len:=by simp;omega
  refine⟨some a,cap,ss.take len,by rw[htl],?_,by rw[htl];omega,fun s hs=>hws s (List.mem_of_mem_take hs)⟩;by_cases h0:len=0
  ·exact .inl (by simp[h0])
  ·obtain⟨b,off,spot⟩:=a
   have hspot:spot=none:=by simpa [Addr.add] using World.cell?_spot (hcell 0 (by omega))
   subst hspot;have hc:∀j,j<ss.length->W.cell? ⟨b,off+j,none⟩=some (.string (ss.getD j ByteArray.empty)):=fun j hj=>by rw[←Go.WideShapes.add_plain];exact hcell j hj
   refine .inr ⟨b,off,rfl,?_,fun i s hs=> ?_⟩
   ·exact World.block_lt_of_cell? W ⟨b,off+0,none⟩ (hc 0 (by omega))
   ·have hi:i<len:=by
     have:=(List.getElem?_eq_some_iff.1 hs).1;omega
    rw[List.getElem?_take_of_lt hi] at hs;rw[hc i (by omega)];simp[List.getD,hs]
theorem read_str {H:Type} {enc:TypeId×Value->H} {W:World} {base:Nat} {spare:Nat->Bool} {held:Bool} {fuel:Nat} {v:Value} {y:DataW H×List MemPlace}
 (h:DataW.trod enc Tryz.prog W base spare held fuel 9 [v]=some y):∃s,v=.string s/\s.size<=maxLen:=by
 obtain⟨s,hs,_,hm⟩:=DataW.trod_string Tryz.underlying9 h;simp at hs;exact⟨s,hs,hm⟩
end Go.Proofs.YtpekbmegopfhfaaGreatDoor
namespace Go.Proofs.YtpekbmegopfhfaaGreatDoor
open Go.ChangeShapes Go.WideShapes Go.ChangeAt Go.RowKit
theorem cInt:Tryz.prog.cellsOf 3=1:=by kernel_rfl
theorem cSlice:Tryz.prog.cellsOf 22=1:=by kernel_rfl
theorem read_int {H:Type} {enc:TypeId×Value->H} {W:World} {base:Nat} {spare:Nat->Bool} {held:Bool} {fuel:Nat} {v:Value} {y:DataW H×List MemPlace}
 (h:DataW.trod enc Tryz.prog W base spare held fuel 3 [v]=some y):∃n,v=.int .i64 n:=by
 obtain⟨n,hn,_⟩:=DataW.trod_int Tryz.underlying3 h;simp at hn;exact⟨n,hn⟩
end Go.Proofs.YtpekbmegopfhfaaGreatDoor
namespace Go.Proofs.YtpekbmegopfhfaaGreatDoor
open Go.ChangeShapes Go.WideShapes Go.ChangeAt Go.RowKit
theorem gKind:Tryz.prog.globalNamed "loop.example/kilnvault/impl.kindParts" =some 5:=by kernel_rfl
theorem gKindType:(Tryz.prog.globals[5]?).map (·.type)=some 247:=by kernel_rfl
theorem cParts:Tryz.prog.cellsOf 211=4:=by kernel_rfl
theorem cBool:Tryz.prog.cellsOf 4=1:=by kernel_rfl
theorem list4 {α:Type} {l:List α} (h:l.length=4):∃a b c d,l=[a,b,c,d]:=by
 match l,h with
 |[a,b,c,d],_=>exact⟨a,b,c,d,rfl⟩
theorem parts_cells {H:Type} {enc:TypeId×Value->H} {W:World} {base:Nat} {spare:Nat->Bool} {held:Bool} {fuel:Nat} {l:List Value} {p:List MemPlace} {a b c:Bool} {m:Int}
 (h:DataW.trod enc Tryz.prog W base spare held fuel 211 l=some (.agg [.lit (.bool a),.lit (.bool b),.lit (.bool c),.lit (.int .i64 m)],p)):l=[.bool a,.bool b,.bool c,.int .i64 m]:=by
 obtain⟨xs,n0,_,hx,hl,hlen,hf⟩:=DataW.trod_struct Tryz.underlying211 h;rw[cParts] at hl;obtain⟨v0,v1,v2,v3,rfl⟩:=list4 hl;obtain⟨x0,x1,x2,x3,rfl⟩:=list4 hlen;have f0:DataW.trod enc Tryz.prog W base spare held n0 4 [v0]=some x0:=by simpa [cBool] using hf 0 _ rfl
 have f1:DataW.trod enc Tryz.prog W base spare held n0 4 [v1]=some x1:=by simpa [cBool] using hf 1 _ rfl
 have f2:DataW.trod enc Tryz.prog W base spare held n0 4 [v2]=some x2:=by simpa [cBool] using hf 2 _ rfl
 have f3:DataW.trod enc Tryz.prog W base spare held n0 3 [v3]=some x3:=by simpa [cInt] using hf 3 _ rfl
 obtain⟨a',e0,rfl⟩:=DataW.trod_bool Tryz.underlying4 f0;obtain⟨b',e1,rfl⟩:=DataW.trod_bool Tryz.underlying4 f1;obtain⟨c',e2,rfl⟩:=DataW.trod_bool Tryz.underlying4 f2;obtain⟨m',e3,rfl,_⟩:=DataW.trod_int Tryz.underlying3 f3;simp at e0 e1 e2 e3 hx;obtain⟨⟨rfl,rfl,rfl,rfl⟩,_⟩:=hx;rw[e0,e1,e2,e3]
theorem tab_of_parts {W:World} {cs:Array Value} {fuel:Nat} {p:List MemPlace} (hvar:W.var? Tryz.prog "loop.example/kilnvault/impl.kindParts" =some cs)
 (hd:DataW.trod (fun _=>()) Tryz.prog W 0 (fun _=>true) false fuel 247 cs.toList=some (Rows.laid_loop_example_kilnvault_impl_kindParts,p)):Tab W:=by
 obtain⟨xs,n0,_,hx,hl,hlen,hf⟩:=DataW.trod_array Tryz.underlying247 hd;rw[cParts] at hf;have hx1:xs.map (·.1)=_:=(DataW.agg.inj (Prod.mk.inj hx).1).symm;intro k h1 h7;have key:(xs.map (·.1))[k]?=some (.agg [.lit (.bool (kName k)),.lit (.bool (kSum k)),.lit (.bool (kThing k)),.lit (.int .i64 (kMost k))]):=by
  rw[hx1]
  match k,h1,h7 with
  |1,_,_=>rfl
  |2,_,_=>rfl
  |3,_,_=>rfl
  |4,_,_=>rfl
  |5,_,_=>rfl
  |6,_,_=>rfl
  |7,_,_=>rfl
 rw[List.getElem?_map] at key;obtain⟨⟨yd,yp⟩,hy,hyd⟩:=Option.map_eq_some_iff.1 key;simp only at hyd;subst hyd;have hk:=hf k (by omega);rw[hy] at hk;have hcs:=parts_cells hk;have at_:∀j,j<4->W.cell? ⟨5,k *4+j,none⟩=([.bool (kName k),.bool (kSum k),.bool (kThing k),.int .i64 (kMost k)]:List Value)[j]?:=by
  intro j hj;rw[World.var?_cell gKind hvar,←hcs,List.getElem?_take_of_lt hj,List.getElem?_drop];simp
 exact⟨at_ 0 (by omega),at_ 1 (by omega),at_ 2 (by omega),at_ 3 (by omega)⟩
theorem tab_of {W:World} (h:laidMet Tryz.prog [("loop.example/kilnvault/impl.kindParts",Rows.laid_loop_example_kilnvault_impl_kindParts)] W):Tab W:=by
 obtain⟨ps,⟨g',t',cs,fuel,p,q,hg',ht',hvar,hd,_,_⟩,_⟩:=h;obtain rfl:=Option.some.inj (gKind.symm.trans hg');obtain rfl:=Option.some.inj (gKindType.symm.trans ht');exact tab_of_parts hvar hd
end Go.Proofs.YtpekbmegopfhfaaGreatDoor
namespace Go.Proofs.YtpekbmegopfhfaaGreatDoor
open Go.ChangeShapes Go.WideShapes Go.ChangeAt Go.RowKit
theorem gErrTy:Tryz.prog.globalNamed "errors.errorType" =some 4:=by kernel_rfl
theorem rtRow:(Tryz.prog.cutTypes.find? (·.1== "internal/reflectlite.rtype")).map (·.2)=some 253:=by kernel_rfl
theorem typesSize:Tryz.prog.types.size+100=450:=by kernel_rfl
theorem errRow:((List.range (450 -100)).filter fun t=>Tryz.prog.rowNamed t [101,114,114,111,114])=[179]:=by kernel_rfl
theorem ety_of {W:World} (h:handlesMet Tryz.prog [("errors.errorType",Rows.laid_errors_errorType)] W):ErrTy W:=by
 obtain⟨name,u,ty,e1,e2,e3,e4,e5⟩:=h _ (List.mem_singleton.2 rfl);have en:name=[101,114,114,111,114]:=(Option.some.inj e1).symm;subst en;obtain rfl:=Option.some.inj (rtRow.symm.trans e2);have hm:ty∈(List.range (450 -100)).filter fun t=>Tryz.prog.rowNamed t [101,114,114,111,114]:=List.mem_filter.2 ⟨List.mem_range.2 (by have:=typesSize;omega),e4⟩;rw[errRow] at hm;obtain rfl:=List.mem_singleton.1 hm
 have hh:typeHandle Tryz.prog 179=.pointer (some ⟨9,179,none⟩):=by kernel_rfl
 rw[hh] at e5;unfold ErrTy;simpa using World.var?_cell gErrTy e5 0
theorem err_of {W:World} {nm:String} {g:Nat} {cs:Array Value} {fuel:Nat} {nd:String} {d:DataW Unit} {p:List MemPlace} (hg:Tryz.prog.globalNamed nm=some g) (hvar:W.var? Tryz.prog nm=some cs)
 (hd:DataW.trod (fun _=>()) Tryz.prog W 0 (fun _=>true) false fuel 179 cs.toList=some (.iface nd d,p)):∃t v,W.cell? ⟨g,0,none⟩=some (.iface t v):=by
 obtain⟨_,u,v,hcs,_,_⟩:=iface_of_trod Tryz.underlying179 hd;refine⟨u,v,?_⟩;rw[World.var?_cell hg hvar];have:cs[0]?=cs.toList[0]?:=by simp
 rw[this,hcs];rfl
theorem gWidth:Tryz.prog.globalNamed "loop.example/kilnvault/impl.errWidth" =some 0/\(Tryz.prog.globals[0]?).map (·.type)=some 179:=⟨by kernel_rfl,by kernel_rfl⟩
theorem gEKind:Tryz.prog.globalNamed "loop.example/kilnvault/impl.errKind" =some 1/\(Tryz.prog.globals[1]?).map (·.type)=some 179:=⟨by kernel_rfl,by kernel_rfl⟩
theorem gShort:Tryz.prog.globalNamed "loop.example/kilnvault/impl.errShort" =some 6/\(Tryz.prog.globals[6]?).map (·.type)=some 179:=⟨by kernel_rfl,by kernel_rfl⟩
theorem gThing:Tryz.prog.globalNamed "loop.example/kilnvault/impl.errThing" =some 7/\(Tryz.prog.globals[7]?).map (·.type)=some 179:=⟨by kernel_rfl,by kernel_rfl⟩
theorem gLong:Tryz.prog.globalNamed "loop.example/kilnvault/impl.errLong" =some 2/\(Tryz.prog.globals[2]?).map (·.type)=some 179:=⟨by kernel_rfl,by kernel_rfl⟩
theorem gParts:Tryz.prog.globalNamed "loop.example/kilnvault/impl.errParts" =some 3/\(Tryz.prog.globals[3]?).map (·.type)=some 179:=⟨by kernel_rfl,by kernel_rfl⟩
def laidE:List (String×DataW Unit):=
 [("loop.example/kilnvault/impl.kindParts",Rows.laid_loop_example_kilnvault_impl_kindParts),("loop.example/kilnvault/impl.errWidth",Rows.laid_loop_example_kilnvault_impl_errWidth),("loop.example/kilnvault/impl.errKind",Rows.laid_loop_example_kilnvault_impl_errKind),("loop.example/kilnvault/impl.errShort",Rows.laid_loop_example_kilnvault_impl_errShort),
   ("loop.example/kilnvault/impl.errThing",Rows.laid_loop_example_kilnvault_impl_errThing),("loop.example/kilnvault/impl.errLong",Rows.laid_loop_example_kilnvault_impl_errLong),("loop.example/kilnvault/impl.errParts",Rows.laid_loop_example_kilnvault_impl_errParts)]
theorem env_of {W:World} (h:laidMet Tryz.prog laidE W) (hh:handlesMet Tryz.prog [("errors.errorType",Rows.laid_errors_errorType)] W):Env W:=by
 obtain⟨ps,hv,_⟩:=h;obtain⟨g1,t1,c1,f1,p1,q1,hg1,ht1,hv1,hd1,r1,_⟩:=hv;obtain⟨g2,t2,c2,f2,p2,q2,hg2,ht2,hv2,hd2,r2,_⟩:=r1;obtain⟨g3,t3,c3,f3,p3,q3,hg3,ht3,hv3,hd3,r3,_⟩:=r2;obtain⟨g4,t4,c4,f4,p4,q4,hg4,ht4,hv4,hd4,r4,_⟩:=r3;obtain⟨g5,t5,c5,f5,p5,q5,hg5,ht5,hv5,hd5,r5,_⟩:=r4;obtain⟨g6,t6,c6,f6,p6,q6,hg6,ht6,hv6,hd6,r6,_⟩:=r5;obtain⟨g7,t7,c7,f7,p7,q7,hg7,ht7,hv7,hd7,r7,_⟩:=r6
 obtain rfl:=Option.some.inj (gKind.symm.trans hg1);obtain rfl:=Option.some.inj (gKindType.symm.trans ht1);obtain rfl:=Option.some.inj (gWidth.1.symm.trans hg2);obtain rfl:=Option.some.inj (gWidth.2.symm.trans ht2);obtain rfl:=Option.some.inj (gEKind.1.symm.trans hg3);obtain rfl:=Option.some.inj (gEKind.2.symm.trans ht3);obtain rfl:=Option.some.inj (gShort.1.symm.trans hg4)
 obtain rfl:=Option.some.inj (gShort.2.symm.trans ht4);obtain rfl:=Option.some.inj (gThing.1.symm.trans hg5);obtain rfl:=Option.some.inj (gThing.2.symm.trans ht5);obtain rfl:=Option.some.inj (gLong.1.symm.trans hg6);obtain rfl:=Option.some.inj (gLong.2.symm.trans ht6);obtain rfl:=Option.some.inj (gParts.1.symm.trans hg7);obtain rfl:=Option.some.inj (gParts.2.symm.trans ht7)
 refine⟨tab_of_parts hv1 hd1,ety_of hh,?_⟩;intro g hg;simp only[List.mem_cons,List.not_mem_nil,or_false] at hg;rcases hg with rfl|rfl|rfl|rfl|rfl|rfl
 ·exact err_of gWidth.1 hv2 hd2
 ·exact err_of gEKind.1 hv3 hd3
 ·exact err_of gLong.1 hv6 hd6
 ·exact err_of gParts.1 hv7 hd7
 ·exact err_of gShort.1 hv4 hd4
 ·exact err_of gThing.1 hv5 hd5
end Go.Proofs.YtpekbmegopfhfaaGreatDoor
