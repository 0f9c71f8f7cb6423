import Derived.Test.YthkmpihfhkmaoaaGreatDoorRows
import Derived.Test.YthkmpihfhkmaoaaGreatDoorV01
import Derived.OpenShut
import Derived.ShutString
import Derived.Lib.SmallJoins
import Derived.Test.YthkmpihfhkmaoaaGreatDoorV20
import Derived.Lib.LaidTab
import Derived.Test.YthkmpihfhkmaoaaGreatDoorV03
import Derived.Deep.Slices
namespace Go.Proofs.YthkmpihfhkmaoaaGreatDoor
open Go.ChangeShapes Go.WideShapes Go.ChangeAt Go.RowKit
theorem Tryz.cellsStr:Tryz.prog.cellsOf 9=1:=by kernel_rfl
theorem own:ownKnob Tryz.prog.godebug=none:=by kernel_rfl
theorem laidOut:laidOutB Tryz.prog=true:=by kernel_rfl
theorem read_strs {H:Type} {enc:TypeId×Value->H} {W:World} {base:Nat} {spare:Nat->Bool} {held:Bool} {fuel:Nat} {v:Value} {y:DataW H×List MemPlace}
 (h:DataW.trod enc Tryz.prog W base spare held fuel 27 [v]=some y):
 ∃a cap ss,v=.slice a (List.length ss) cap/\SRow W W.heap.size a ss/\ss.length<=maxLen/\∀s∈ss,ByteArray.size s<=maxLen:=by
 rcases open_strings Tryz.underlying27 Tryz.underlying9 Tryz.cellsStr h with⟨hcs,_⟩|⟨a,len,cap,ss,hcs,_,hl,hm,hn,_,hcell,hws⟩
 ·simp at hcs
  subst hcs;exact⟨none,0,[],rfl,.inl rfl,by simp[maxLen],fun s hs=>by cases hs⟩
 ·simp at hcs
  subst hcs;have hlen:len<=ss.length:=by rw[hn];split<;>omega
  have htl:(ss.take len).length=len:=by simp;omega
  refine⟨some a,cap,ss.take len,by rw[htl],?_,by rw[htl];omega,fun s hs=>hws s (List.mem_of_mem_take hs)⟩;by_cases h0:len=0
  ·exact .inl (by simp[h0])
  ·obtain⟨b,off,spot⟩:=a
   have hspot:spot=none:=by simpa [Addr.add] using World.cell?_spot (hcell 0 (by omega))
   subst hspot;have hc:∀j,j<ss.length->W.cell? ⟨b,off+j,none⟩=some (.string (ss.getD j ByteArray.empty)):=fun j hj=>by rw[←Go.WideShapes.add_plain];exact hcell j hj
   refine .inr ⟨b,off,rfl,?_,fun i s hs=> ?_⟩
   ·exact World.block_lt_of_cell? W ⟨b,off+0,none⟩ (hc 0 (by omega))
   ·have hi:i<len:=by
     have:=(List.getElem?_eq_some_iff.1 hs).1;omega
    rw[List.getElem?_take_of_lt hi] at hs;rw[hc i (by omega)];simp[List.getD,hs]
theorem read_str {H:Type} {enc:TypeId×Value->H} {W:World} {base:Nat} {spare:Nat->Bool} {held:Bool} {fuel:Nat} {v:Value} {y:DataW H×List MemPlace}
 (h:DataW.trod enc Tryz.prog W base spare held fuel 9 [v]=some y):∃s,v=.string s/\s.size<=maxLen:=by
 obtain⟨s,hs,_,hm⟩:=DataW.trod_string Tryz.underlying9 h;simp at hs;exact⟨s,hs,hm⟩
end Go.Proofs.YthkmpihfhkmaoaaGreatDoor
namespace Go.Proofs.YthkmpihfhkmaoaaGreatDoor
open Go.ChangeShapes Go.WideShapes Go.ChangeAt Go.RowKit
theorem cInt:Tryz.prog.cellsOf 3=1:=by kernel_rfl
theorem cSlice:Tryz.prog.cellsOf 27=1:=by kernel_rfl
theorem cThing:Tryz.prog.cellsOf 29=2:=by kernel_rfl
theorem cEntry:Tryz.prog.cellsOf 31=6:=by kernel_rfl
theorem list6 {α:Type} {l:List α} (h:l.length=6):∃a b c d e f,l=[a,b,c,d,e,f]:=by
 match l,h with
 |[a,b,c,d,e,f],_=>exact⟨a,b,c,d,e,f,rfl⟩
theorem some5 {α:Type} {l:List α} (h:l.length=5):∃a b c d e,l=[a,b,c,d,e]:=by
 match l,h with
 |[a,b,c,d,e],_=>exact⟨a,b,c,d,e,rfl⟩
theorem read_int {H:Type} {enc:TypeId×Value->H} {W:World} {base:Nat} {spare:Nat->Bool} {held:Bool} {fuel:Nat} {v:Value} {y:DataW H×List MemPlace}
 (h:DataW.trod enc Tryz.prog W base spare held fuel 3 [v]=some y):∃n,v=.int .i64 n:=by
 obtain⟨n,hn,_⟩:=DataW.trod_int Tryz.underlying3 h;simp at hn;exact⟨n,hn⟩
theorem read_thing {H:Type} {enc:TypeId×Value->H} {W:World} {base:Nat} {spare:Nat->Bool} {held:Bool} {fuel:Nat} {v0 v1:Value} {y:DataW H×List MemPlace}
 (h:DataW.trod enc Tryz.prog W base spare held fuel 29 [v0,v1]=some y):
 ∃t a cap ss,v0=.string t/\t.size<=maxLen/\v1=.slice a (List.length ss) cap/\SRow W W.heap.size a ss/\ss.length<=maxLen/\∀s∈ss,ByteArray.size s<=maxLen:=by
 obtain⟨y0,y1,n,_,_,h0,h1⟩:=trod_struct2 Tryz.underlying29 h;have h0':DataW.trod enc Tryz.prog W base spare held n 9 [v0]=some y0:=by simpa [Tryz.cellsStr] using h0
 have h1':DataW.trod enc Tryz.prog W base spare held n 27 [v1]=some y1:=by simpa [cSlice] using h1
 obtain⟨t,ht,htl⟩:=read_str h0';obtain⟨a,cap,ss,hv,hr⟩:=read_strs h1';exact⟨t,a,cap,ss,ht,htl,hv,hr⟩
set_option maxRecDepth 100000 in
theorem read_entry {H:Type} {enc:TypeId×Value->H} {W:World} {r:Reach} {b0:Nat} {base:Nat} {spare:Nat->Bool} {held:Bool} {v:Value} {d:DataW H} {p:List MemPlace}
 (hv:Value.okWide Tryz.prog W r b0 31 v) (h:DataW.Trod enc Tryz.prog W base spare held 31 v d p):
 ∃k sum name n t a cap ss,v=.agg (entV k sum name n t a (List.length ss) cap)/\sum.size<=maxLen/\name.size<=maxLen/\t.size<=maxLen/\SRow W W.heap.size a ss/\ss.length<=maxLen/\∀s∈ss,ByteArray.size s<=maxLen:=by
 obtain⟨cs,rfl,hsz⟩:=okWide_struct Tryz.underlying31 hv;obtain⟨fuel,hf⟩:=h;obtain⟨xs,n0,_,_,_,hlen,hfl⟩:=DataW.trod_struct Tryz.underlying31 hf;obtain⟨c0,c1,c2,c3,c4,c5,hcs⟩:=list6 (l:=cs.toList) (by rw[Array.length_toList,hsz,cEntry]);obtain⟨x0,x1,x2,x3,x4,rfl⟩:=some5 hlen;have hcells:(Value.agg cs).cells.toList=[c0,c1,c2,c3,c4,c5]:=by rw[←hcs];rfl
 have f0:DataW.trod enc Tryz.prog W base spare held n0 3 [c0]=some x0:=by simpa [hcells,cInt] using hfl 0 _ rfl
 have f1:DataW.trod enc Tryz.prog W base spare held n0 9 [c1]=some x1:=by simpa [hcells,Tryz.cellsStr] using hfl 1 _ rfl
 have f2:DataW.trod enc Tryz.prog W base spare held n0 9 [c2]=some x2:=by simpa [hcells,Tryz.cellsStr] using hfl 2 _ rfl
 have f3:DataW.trod enc Tryz.prog W base spare held n0 3 [c3]=some x3:=by simpa [hcells,cInt] using hfl 3 _ rfl
 have f4:DataW.trod enc Tryz.prog W base spare held n0 29 [c4,c5]=some x4:=by simpa [hcells,cThing] using hfl 4 _ rfl
 obtain⟨k,rfl⟩:=read_int f0;obtain⟨sum,rfl,hs⟩:=read_str f1;obtain⟨name,rfl,hn⟩:=read_str f2;obtain⟨n,rfl⟩:=read_int f3;obtain⟨t,a,cap,ss,rfl,ht,rfl,hr,hl,hss⟩:=read_thing f4;refine⟨k,sum,name,n,t,a,cap,ss,?_,hs,hn,ht,hr,hl,hss⟩;congr 1;apply Array.toList_inj.1;rw[hcs]
end Go.Proofs.YthkmpihfhkmaoaaGreatDoor
namespace Go.Proofs.YthkmpihfhkmaoaaGreatDoor
open Go.ChangeShapes Go.WideShapes Go.ChangeAt Go.RowKit
theorem gKind:Tryz.prog.globalNamed "loop.example/kilnvault/impl.kindParts" =some 0:=by kernel_rfl
theorem gKindType:(Tryz.prog.globals[0]?).map (·.type)=some 199:=by kernel_rfl
theorem cParts:Tryz.prog.cellsOf 149=4:=by kernel_rfl
theorem cBool:Tryz.prog.cellsOf 4=1:=by kernel_rfl
theorem list4 {α:Type} {l:List α} (h:l.length=4):∃a b c d,l=[a,b,c,d]:=by
 match l,h with
 |[a,b,c,d],_=>exact⟨a,b,c,d,rfl⟩
theorem parts_cells {H:Type} {enc:TypeId×Value->H} {W:World} {base:Nat} {spare:Nat->Bool} {held:Bool} {fuel:Nat} {l:List Value} {p:List MemPlace} {a b c:Bool} {m:Int}
 (h:DataW.trod enc Tryz.prog W base spare held fuel 149 l=some (.agg [.lit (.bool a),.lit (.bool b),.lit (.bool c),.lit (.int .i64 m)],p)):l=[.bool a,.bool b,.bool c,.int .i64 m]:=by
 obtain⟨xs,n0,_,hx,hl,hlen,hf⟩:=DataW.trod_struct Tryz.underlying149 h;rw[cParts] at hl;obtain⟨v0,v1,v2,v3,rfl⟩:=list4 hl;obtain⟨x0,x1,x2,x3,rfl⟩:=list4 hlen;have f0:DataW.trod enc Tryz.prog W base spare held n0 4 [v0]=some x0:=by simpa [cBool] using hf 0 _ rfl
 have f1:DataW.trod enc Tryz.prog W base spare held n0 4 [v1]=some x1:=by simpa [cBool] using hf 1 _ rfl
 have f2:DataW.trod enc Tryz.prog W base spare held n0 4 [v2]=some x2:=by simpa [cBool] using hf 2 _ rfl
 have f3:DataW.trod enc Tryz.prog W base spare held n0 3 [v3]=some x3:=by simpa [cInt] using hf 3 _ rfl
 obtain⟨a',e0,rfl⟩:=DataW.trod_bool Tryz.underlying4 f0;obtain⟨b',e1,rfl⟩:=DataW.trod_bool Tryz.underlying4 f1;obtain⟨c',e2,rfl⟩:=DataW.trod_bool Tryz.underlying4 f2;obtain⟨m',e3,rfl,_⟩:=DataW.trod_int Tryz.underlying3 f3;simp at e0 e1 e2 e3 hx;obtain⟨⟨rfl,rfl,rfl,rfl⟩,_⟩:=hx;rw[e0,e1,e2,e3]
theorem tab_of_parts {W:World} {cs:Array Value} {fuel:Nat} {p:List MemPlace} (hvar:W.var? Tryz.prog "loop.example/kilnvault/impl.kindParts" =some cs)
 (hd:DataW.trod (fun _=>()) Tryz.prog W 0 (fun _=>true) false fuel 199 cs.toList=some (Rows.laid_loop_example_kilnvault_impl_kindParts,p)):Tab W:=by
 obtain⟨xs,n0,_,hx,hl,hlen,hf⟩:=DataW.trod_array Tryz.underlying199 hd;rw[cParts] at hf;have hx1:xs.map (·.1)=_:=(DataW.agg.inj (Prod.mk.inj hx).1).symm;intro k h1 h7;have key:(xs.map (·.1))[k]?=some (.agg [.lit (.bool (kName k)),.lit (.bool (kSum k)),.lit (.bool (kThing k)),.lit (.int .i64 (kMost k))]):=by
  rw[hx1]
  match k,h1,h7 with
  |1,_,_=>rfl
  |2,_,_=>rfl
  |3,_,_=>rfl
  |4,_,_=>rfl
  |5,_,_=>rfl
  |6,_,_=>rfl
  |7,_,_=>rfl
 rw[List.getElem?_map] at key;obtain⟨⟨yd,yp⟩,hy,hyd⟩:=Option.map_eq_some_iff.1 key;simp only at hyd;subst hyd;have hk:=hf k (by omega);rw[hy] at hk;have hcs:=parts_cells hk;have at_:∀j,j<4->W.cell? ⟨0,k *4+j,none⟩=([.bool (kName k),.bool (kSum k),.bool (kThing k),.int .i64 (kMost k)]:List Value)[j]?:=by
  intro j hj;rw[World.var?_cell gKind hvar,←hcs,List.getElem?_take_of_lt hj,List.getElem?_drop];simp
 exact⟨at_ 0 (by omega),at_ 1 (by omega),at_ 2 (by omega),at_ 3 (by omega)⟩
theorem tab_of {W:World} (h:laidMet Tryz.prog [("loop.example/kilnvault/impl.kindParts",Rows.laid_loop_example_kilnvault_impl_kindParts)] W):Tab W:=by
 obtain⟨ps,⟨g',t',cs,fuel,p,q,hg',ht',hvar,hd,_,_⟩,_⟩:=h;obtain rfl:=Option.some.inj (gKind.symm.trans hg');obtain rfl:=Option.some.inj (gKindType.symm.trans ht');exact tab_of_parts hvar hd
end Go.Proofs.YthkmpihfhkmaoaaGreatDoor
namespace Go.Proofs.YthkmpihfhkmaoaaGreatDoor
open Go.ChangeShapes Go.WideShapes Go.ChangeAt Go.RowKit Go.Deep
theorem cIntS:Tryz.prog.cellsOf 3=1:=by kernel_rfl
theorem cSliceS:Tryz.prog.cellsOf 27=1:=by kernel_rfl
theorem cThingS:Tryz.prog.cellsOf 29=2:=by kernel_rfl
theorem cKept:Tryz.prog.cellsOf 122=4:=by kernel_rfl
theorem cPin:Tryz.prog.cellsOf 125=2:=by kernel_rfl
theorem cLease:Tryz.prog.cellsOf 128=3:=by kernel_rfl
theorem cState:Tryz.prog.cellsOf 26=7:=by kernel_rfl
theorem cKs:Tryz.prog.cellsOf 22=1:=by kernel_rfl
theorem cPs:Tryz.prog.cellsOf 23=1:=by kernel_rfl
theorem cLs:Tryz.prog.cellsOf 24=1:=by kernel_rfl
section
variable {H:Type} {enc:TypeId×Value->H} {W:World} {base:Nat} {spare:Nat->Bool} {held:Bool} {fuel:Nat} {y:DataW H×List MemPlace}
theorem read_intw {v:Value} (h:DataW.trod enc Tryz.prog W base spare held fuel 3 [v]=some y):∃n,v=.int .i64 n/\(Lit.int .i64 n).wf=true:=by
 obtain⟨n,hn,_,hw⟩:=DataW.trod_int Tryz.underlying3 h;simp at hn;exact⟨n,hn,hw⟩
theorem read_thingS {v0 v1:Value} (h:DataW.trod enc Tryz.prog W base spare held fuel 29 [v0,v1]=some y):
 ∃t a cap ss,v0=.string t/\t.size<=maxLen/\v1=.slice a (List.length ss) cap/\SRow W W.heap.size a ss/\ss.length<=maxLen/\∀s∈ss,ByteArray.size s<=maxLen:=by
 obtain⟨y0,y1,n,_,_,h0,h1⟩:=trod_struct2 Tryz.underlying29 h;have h0':DataW.trod enc Tryz.prog W base spare held n 9 [v0]=some y0:=by simpa [Tryz.cellsStr] using h0
 have h1':DataW.trod enc Tryz.prog W base spare held n 27 [v1]=some y1:=by simpa [cSliceS] using h1
 obtain⟨t,ht,htl⟩:=read_str h0';obtain⟨a,cap,ss,hv,hr⟩:=read_strs h1';exact⟨t,a,cap,ss,ht,htl,hv,hr⟩
theorem l2of {α:Type} {l:List α} (h:l.length=2):∃a b,l=[a,b]:=by match l,h with|[a,b],_=>exact⟨a,b,rfl⟩
theorem l3of {α:Type} {l:List α} (h:l.length=3):∃a b c,l=[a,b,c]:=by match l,h with|[a,b,c],_=>exact⟨a,b,c,rfl⟩
theorem l4of {α:Type} {l:List α} (h:l.length=4):∃a b c d,l=[a,b,c,d]:=by match l,h with|[a,b,c,d],_=>exact⟨a,b,c,d,rfl⟩
theorem l7of {α:Type} {l:List α} (h:l.length=7):∃a b c d e f g,l=[a,b,c,d,e,f,g]:=by match l,h with|[a,b,c,d,e,f,g],_=>exact⟨a,b,c,d,e,f,g,rfl⟩
theorem elem_spot {a:Addr} {n:Nat} {cs:List Value} (h:W.cells? base (a.add (0 *n)) n=some cs) (hn:0<n):∃b off,a=⟨b,off,none⟩/\b<W.heap.size:=by
 obtain⟨_,hlen,hc⟩:=World.cells?_some h;obtain⟨b,off,spot⟩:=a;have h0:=hc 0 (by omega);rw[List.getElem?_eq_getElem (by omega)] at h0;have hspot:spot=none:=by simpa [Addr.add] using World.cell?_spot h0
 subst hspot;rw[Go.WideShapes.add_plain,Go.WideShapes.add_plain] at h0;exact⟨b,off,rfl,World.block_lt_of_cell? W ⟨b,off+0 *n+0,none⟩ h0⟩
theorem elem_cells {b off i n:Nat} {cs:List Value} (h:W.cells? base ((⟨b,off,none⟩:Addr).add (i *n)) n=some cs):cs.length=n/\∀j v,cs[j]?=some v->W.cell? ⟨b,off+i *n+j,none⟩=some v:=by
 obtain⟨_,hlen,hc⟩:=World.cells?_some h;rw[Go.WideShapes.add_plain] at hc;refine⟨hlen,fun j v hj=> ?_⟩;have:=hc j (by have:=(List.getElem?_eq_some_iff.1 hj).1;omega);rw[Go.WideShapes.add_plain] at this;rw[this,hj]
theorem read_row {α:Type} [Inhabited α] {t e:TypeId} {n:Nat} {v:Value} (ht:Tryz.prog.underlying t=some (.slice e)) (hc:Tryz.prog.cellsOf e=n) (hn:0<n) (Q:Nat->Nat->α->Prop)
 (hr:∀(fuel:Nat) (y:DataW H×List MemPlace) (cs:List Value) (b o:Nat),DataW.trod enc Tryz.prog W base spare held fuel e cs=some y->cs.length=n->(∀j v,cs[j]?=some v->W.cell? ⟨b,o+j,none⟩=some v)->∃x,Q b o x)
 (h:DataW.trod enc Tryz.prog W base spare held fuel t [v]=some y):
 ∃a cap,∃xs:List α,v=.slice a xs.length cap/\xs.length<=maxLen/\(xs=[]∨∃b off,a=some ⟨b,off,none⟩/\b<W.heap.size/\∀(i:Nat) x,xs[i]?=some x->Q b (off+i *n) x):=by
 rcases open_slice ht h with⟨hcs,_⟩|⟨a,len,cap,m,fu,D,Pl,hcs,_,hl,hm,hmm,_,hx⟩
 ·simp at hcs
  subst hcs;exact⟨none,0,[],rfl,by simp[maxLen],.inl rfl⟩
 ·simp at hcs
  subst hcs;have hle:len<=m:=by rw[hmm];split<;>omega
  rw[hc] at hx;by_cases h0:len=0
  ·subst h0
   exact⟨some a,cap,[],rfl,by simp[maxLen],.inl rfl⟩
  ·obtain⟨cs0,hc0,_⟩:=hx 0 (by omega)
   obtain⟨b,off,rfl,hb⟩:=elem_spot hc0 hn;obtain⟨F,hF⟩:=choose_lt (α:=α) (n:=len) (p:=fun i x=>Q b (off+i *n) x) (fun i hi=>by
    obtain⟨cs',h1,h2⟩:=hx i (by omega);obtain⟨h3,h4⟩:=elem_cells h1;exact hr _ _ cs' b (off+i *n) h2 h3 h4)
   refine⟨some ⟨b,off,none⟩,cap,(List.range len).map F,by simp,by simp;omega,.inr ⟨b,off,rfl,hb,fun i x hi=> ?_⟩⟩;rw[List.getElem?_map] at hi;cases hri:(List.range len)[i]? with
   |none=>rw[hri] at hi;cases hi
   |some k=>
    rw[hri] at hi;cases hi;obtain⟨hlt,hk⟩:=List.getElem?_eq_some_iff.1 hri;simp at hlt hk;subst hk;exact hF i hlt
def QK (W:World) (b o:Nat) (k:Kd):Prop:=KAt W W.heap.size b o k/\k.sum.size<=maxLen/\k.text.size<=maxLen/\k.refs.length<=maxLen/\(∀s∈k.refs,s.size<=maxLen)/\(Lit.int .i64 k.born).wf=true
theorem read_kept {cs:List Value} {b o:Nat} (h:DataW.trod enc Tryz.prog W base spare held fuel 122 cs=some y) (hl:cs.length=4) (hc:∀j v,cs[j]?=some v->W.cell? ⟨b,o+j,none⟩=some v):∃k,QK W b o k:=by
 obtain⟨c0,c1,c2,c3,rfl⟩:=l4of hl;obtain⟨xs,n0,_,_,_,hlen,hfl⟩:=DataW.trod_struct Tryz.underlying122 h;obtain⟨x0,x1,x2,rfl⟩:=l3of (l:=xs) hlen;have f0:DataW.trod enc Tryz.prog W base spare held n0 9 [c0]=some x0:=by simpa [Tryz.cellsStr] using hfl 0 _ rfl
 have f1:DataW.trod enc Tryz.prog W base spare held n0 3 [c1]=some x1:=by simpa [cIntS] using hfl 1 _ rfl
 have f2:DataW.trod enc Tryz.prog W base spare held n0 29 [c2,c3]=some x2:=by simpa [cThingS] using hfl 2 _ rfl
 obtain⟨sum,rfl,hs⟩:=read_str f0;obtain⟨bo,rfl,hw⟩:=read_intw f1;obtain⟨t,ra,rc,ss,rfl,ht,rfl,hr,hrl,hss⟩:=read_thingS f2;exact⟨⟨sum,bo,t,ss⟩,⟨hc 0 _ rfl,hc 1 _ rfl,hc 2 _ rfl,ra,rc,hc 3 _ rfl,hr⟩,hs,ht,hrl,hss,hw⟩
def QP (W:World) (b o:Nat) (p:Pd):Prop:=(W.cell? ⟨b,o,none⟩=some (.string p.name)/\W.cell? ⟨b,o+1,none⟩=some (.string p.sum))/\p.name.size<=maxLen/\p.sum.size<=maxLen
theorem read_pin {cs:List Value} {b o:Nat} (h:DataW.trod enc Tryz.prog W base spare held fuel 125 cs=some y) (hl:cs.length=2) (hc:∀j v,cs[j]?=some v->W.cell? ⟨b,o+j,none⟩=some v):∃p,QP W b o p:=by
 obtain⟨c0,c1,rfl⟩:=l2of hl;obtain⟨xs,n0,_,_,_,hlen,hfl⟩:=DataW.trod_struct Tryz.underlying125 h;obtain⟨x0,x1,rfl⟩:=l2of (l:=xs) hlen;have f0:DataW.trod enc Tryz.prog W base spare held n0 9 [c0]=some x0:=by simpa [Tryz.cellsStr] using hfl 0 _ rfl
 have f1:DataW.trod enc Tryz.prog W base spare held n0 9 [c1]=some x1:=by simpa [Tryz.cellsStr] using hfl 1 _ rfl
 obtain⟨nm,rfl,hn⟩:=read_str f0;obtain⟨sum,rfl,hs⟩:=read_str f1;exact⟨⟨nm,sum⟩,⟨hc 0 _ rfl,hc 1 _ rfl⟩,hn,hs⟩
def QL (W:World) (b o:Nat) (l:Ld):Prop:=(W.cell? ⟨b,o,none⟩=some (.int .i64 l.num)/\W.cell? ⟨b,o+1,none⟩=some (.string l.sum)/\W.cell? ⟨b,o+2,none⟩=some (.int .i64 l.til))/\l.sum.size<=maxLen
theorem read_lease {cs:List Value} {b o:Nat} (h:DataW.trod enc Tryz.prog W base spare held fuel 128 cs=some y) (hl:cs.length=3) (hc:∀j v,cs[j]?=some v->W.cell? ⟨b,o+j,none⟩=some v):∃l,QL W b o l:=by
 obtain⟨c0,c1,c2,rfl⟩:=l3of hl;obtain⟨xs,n0,_,_,_,hlen,hfl⟩:=DataW.trod_struct Tryz.underlying128 h;obtain⟨x0,x1,x2,rfl⟩:=l3of (l:=xs) hlen;have f0:DataW.trod enc Tryz.prog W base spare held n0 3 [c0]=some x0:=by simpa [cIntS] using hfl 0 _ rfl
 have f1:DataW.trod enc Tryz.prog W base spare held n0 9 [c1]=some x1:=by simpa [Tryz.cellsStr] using hfl 1 _ rfl
 have f2:DataW.trod enc Tryz.prog W base spare held n0 3 [c2]=some x2:=by simpa [cIntS] using hfl 2 _ rfl
 obtain⟨nu,rfl,_⟩:=read_intw f0;obtain⟨sum,rfl,hs⟩:=read_str f1;obtain⟨ti,rfl,_⟩:=read_intw f2;exact⟨⟨nu,sum,ti⟩,⟨hc 0 _ rfl,hc 1 _ rfl,hc 2 _ rfl⟩,hs⟩
theorem rows_all {α:Type} {xs:List α} {b off n:Nat} {Q:Nat->Nat->α->Prop} {R:α->Prop} (h:∀(i:Nat) x,xs[i]?=some x->Q b (off+i *n) x) (hq:∀b o x,Q b o x->R x):∀x∈xs,R x:=fun x hx=>by
 obtain⟨i,hi⟩:=List.getElem?_of_mem hx;exact hq _ _ _ (h i x hi)
theorem read_kepts {v:Value} (h:DataW.trod enc Tryz.prog W base spare held fuel 22 [v]=some y):∃a cap ks,v=.slice a (List.length ks) cap/\KRow W W.heap.size a ks/\KMem ks/\∀k∈ks,(Lit.int .i64 (Kd.born k)).wf=true:=by
 haveI:Inhabited Kd:=⟨⟨ByteArray.empty,0,ByteArray.empty,[]⟩⟩
 obtain⟨a,cap,ks,rfl,hl,hr⟩:=read_row Tryz.underlying22 cKept (by omega) (QK W) (fun _ _ _ _ _ h1 h2 h3=>read_kept h1 h2 h3) h;rcases hr with rfl|⟨b,off,rfl,hb,hq⟩
 ·exact⟨a,cap,[],rfl,.inl rfl,⟨hl,by simp,by simp,by simp,by simp⟩,by simp⟩
 ·refine⟨_,cap,ks,rfl,.inr ⟨b,off,rfl,hb,fun i k hk=>(hq i k hk).1⟩,⟨hl,rows_all hq (fun _ _ _ q=>q.2.1),rows_all hq (fun _ _ _ q=>q.2.2.1),rows_all hq (fun _ _ _ q=>q.2.2.2.1),rows_all hq (fun _ _ _ q=>q.2.2.2.2.1)⟩,rows_all hq (fun _ _ _ q=>q.2.2.2.2.2)⟩
theorem read_pins {v:Value} (h:DataW.trod enc Tryz.prog W base spare held fuel 23 [v]=some y):∃a cap ps,v=.slice a (List.length ps) cap/\PRow W W.heap.size a ps/\PMem ps:=by
 haveI:Inhabited Pd:=⟨⟨ByteArray.empty,ByteArray.empty⟩⟩
 obtain⟨a,cap,ps,rfl,hl,hr⟩:=read_row Tryz.underlying23 cPin (by omega) (QP W) (fun _ _ _ _ _ h1 h2 h3=>read_pin h1 h2 h3) h;rcases hr with rfl|⟨b,off,rfl,hb,hq⟩
 ·exact⟨a,cap,[],rfl,.inl rfl,⟨hl,by simp,by simp⟩⟩
 ·exact⟨_,cap,ps,rfl,.inr ⟨b,off,rfl,hb,fun i k hk=>(hq i k hk).1⟩,⟨hl,rows_all hq (fun _ _ _ q=>q.2.1),rows_all hq (fun _ _ _ q=>q.2.2)⟩⟩
theorem read_leases {v:Value} (h:DataW.trod enc Tryz.prog W base spare held fuel 24 [v]=some y):∃a cap ls,v=.slice a (List.length ls) cap/\LRow W W.heap.size a ls/\LMem ls:=by
 haveI:Inhabited Ld:=⟨⟨0,ByteArray.empty,0⟩⟩
 obtain⟨a,cap,ls,rfl,hl,hr⟩:=read_row Tryz.underlying24 cLease (by omega) (QL W) (fun _ _ _ _ _ h1 h2 h3=>read_lease h1 h2 h3) h;rcases hr with rfl|⟨b,off,rfl,hb,hq⟩
 ·exact⟨a,cap,[],rfl,.inl rfl,⟨hl,by simp⟩⟩
 ·exact⟨_,cap,ls,rfl,.inr ⟨b,off,rfl,hb,fun i k hk=>(hq i k hk).1⟩,⟨hl,rows_all hq (fun _ _ _ q=>q.2)⟩⟩
def stV (wd now given births:Int) (a:Option Addr) (n ac:Nat) (p:Option Addr) (m pc:Nat) (l:Option Addr) (q lc:Nat):Value:=.agg #[.int .i64 wd,.int .i64 now,.int .i64 given,.int .i64 births,.slice a n ac,.slice p m pc,.slice l q lc]
set_option maxRecDepth 100000 in
theorem read_state {r:Reach} {b0:Nat} {v:Value} {d:DataW H} {pl:List MemPlace} (hv:Value.okWide Tryz.prog W r b0 26 v) (h:DataW.Trod enc Tryz.prog W base spare held 26 v d pl):
 ∃wd now given births a ac p pc l lc ks ps ls,v=stV wd now given births a (List.length ks) ac p (List.length ps) pc l (List.length ls) lc/\SRows W W.heap.size a p l ks ps ls/\KMem ks/\PMem ps/\LMem ls/\∀k∈ks,(Lit.int .i64 (Kd.born k)).wf=true:=by
 obtain⟨cs,rfl,hsz⟩:=okWide_struct Tryz.underlying26 hv;obtain⟨fuel,hf⟩:=h;obtain⟨xs,n0,_,_,_,hlen,hfl⟩:=DataW.trod_struct Tryz.underlying26 hf;obtain⟨c0,c1,c2,c3,c4,c5,c6,hcs⟩:=l7of (l:=cs.toList) (by rw[Array.length_toList,hsz,cState]);obtain⟨x0,x1,x2,x3,x4,x5,x6,rfl⟩:=l7of (l:=xs) hlen;have hcells:(Value.agg cs).cells.toList=[c0,c1,c2,c3,c4,c5,c6]:=by rw[←hcs];rfl
 have f0:DataW.trod enc Tryz.prog W base spare held n0 3 [c0]=some x0:=by simpa [hcells,cIntS] using hfl 0 _ rfl
 have f1:DataW.trod enc Tryz.prog W base spare held n0 3 [c1]=some x1:=by simpa [hcells,cIntS] using hfl 1 _ rfl
 have f2:DataW.trod enc Tryz.prog W base spare held n0 3 [c2]=some x2:=by simpa [hcells,cIntS] using hfl 2 _ rfl
 have f3:DataW.trod enc Tryz.prog W base spare held n0 3 [c3]=some x3:=by simpa [hcells,cIntS] using hfl 3 _ rfl
 have f4:DataW.trod enc Tryz.prog W base spare held n0 22 [c4]=some x4:=by simpa [hcells,cKs] using hfl 4 _ rfl
 have f5:DataW.trod enc Tryz.prog W base spare held n0 23 [c5]=some x5:=by simpa [hcells,cPs] using hfl 5 _ rfl
 have f6:DataW.trod enc Tryz.prog W base spare held n0 24 [c6]=some x6:=by simpa [hcells,cLs] using hfl 6 _ rfl
 obtain⟨wd,rfl,_⟩:=read_intw f0;obtain⟨now,rfl,_⟩:=read_intw f1;obtain⟨given,rfl,_⟩:=read_intw f2;obtain⟨births,rfl,_⟩:=read_intw f3;obtain⟨a,ac,ks,rfl,hk,hkm,hkb⟩:=read_kepts f4;obtain⟨p,pc,ps,rfl,hp,hpm⟩:=read_pins f5;obtain⟨l,lc,ls,rfl,hl,hlm⟩:=read_leases f6;refine⟨wd,now,given,births,a,ac,p,pc,l,lc,ks,ps,ls,?_,⟨hk,hp,hl⟩,hkm,hpm,hlm,hkb⟩;unfold stV;congr 1;apply Array.toList_inj.1;rw[hcs]
end
end Go.Proofs.YthkmpihfhkmaoaaGreatDoor
