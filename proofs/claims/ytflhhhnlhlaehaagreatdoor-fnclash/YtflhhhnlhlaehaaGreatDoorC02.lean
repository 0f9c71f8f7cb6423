import Derived.Test.YtflhhhnlhlaehaaGreatDoorC01
import Derived.Deep.RegionLaw
import Derived.Test.YtflhhhnlhlaehaaGreatDoorRows
import Derived.OpenShut
import Derived.ShutString
import Derived.Lib.SmallJoins
import Derived.Lib.LaidTab
import Derived.Deep.RegionWith
import Derived.Maps.AppendAt
import Derived.Maps.Range
import Derived.LaidEql
import Derived.Stop.Asserts
import Derived.RowKitTokens
set_option maxRecDepth 100000
set_option maxHeartbeats 16000000
namespace Go.Proofs.YtflhhhnlhlaehaaGreatDoor
open Go.ChangeShapes Go.WideShapes Go.ChangeAt Go.RowKit _root_.Go.Proofs.Tryz
def TO (k:Nat):Int:=if k=1∨k=4∨k=6 then 1 else if k=5 then 2 else 0
def u8 (x:Int):UInt8:=UInt8.ofNat x.toNat
theorem Jc (x:Int) (h0:0<=x) (h:x<256):Value.int .u8 x=.int .u8 ((u8 x).toNat:Int):=by
 have:(u8 x).toNat=x.toNat:=by simp[u8];omega
 rw[this];congr 1;omega
def Bz (k n m:Int):List UInt8:=[u8 k,u8 (n/16777216),u8 (n/65536%256),u8 (n/256%256),u8 (n%256),u8 m]
def DS (k:Nat) (sum name:ByteArray) (n:Int) (t:ByteArray) (ss:List ByteArray):List UInt8:=
 Bz k n name.size++name.data.toList++sum.data.toList++(if k=1 then AS t ss else [])
structure Qj (k:Nat) (sum name:ByteArray) (n:Int) (t:ByteArray) (ss:List ByteArray) (wd:Int):Prop where
 w1:1<=wd
 w2:wd<=8
 sum:sum.size<=8
 name:name.size<=40
 n0:0<=n
 n1:n<=1000000000
 thing:k=1->As t ss wd=true
theorem DA {k:Nat} {sum name:ByteArray} {n:Int} {t:ByteArray} {ss:List ByteArray} {wd:Int} (h:Ct k sum name n t ss wd=true):Qj k sum name n t ss wd:=by
 unfold Ct at h;simp only[Bool.and_eq_true,decide_eq_true_eq] at h;obtain⟨⟨h1,h2⟩,hs,hn,hu,ht⟩:=h;refine⟨h1,h2,?_,?_,?_,?_,?_⟩
 ·unfold Fc at hs
  split at hs<;>simp at hs
  ·omega
  ·simp[hs]
 ·unfold MM at hn
  split at hn
  ·unfold DR at hn
   simp at hn;omega
  ·simp at hn
   simp[hn]
 ·unfold Fe at hu
  split at hu<;>simp at hu<;>omega
 ·have hm:Cq k<=1000000000:=by
   unfold Cq;split
   ·omega
   ·split<;>omega
  unfold Fe at hu;split at hu<;>simp at hu<;>omega
 ·intro hk
  subst hk;exact ht
def BA (k:Int) (sum name:ByteArray) (n:Int) (t:ByteArray) (ss:List ByteArray) (wd:Int):Bool:=decide (1<=k/\k<=7)&&Ct k.toNat sum name n t ss wd
theorem OZ (k:Int) (sum name:ByteArray) (n:Int) (t:ByteArray) (ad:Option Addr) (cap:Nat) (ss:List ByteArray) (wd:Int) (w:World) (hT:Gl w)
 (zA:Ad w w.heap.size ad ss) (hl:ss.length<=1048576) (ht:t.size<=maxLen) (hn:name.size<=maxLen):
 Calls prog 63 #[.agg (Gm k sum name n t ad ss.length cap),.int .i64 wd] w fun e w'=>e=.returned (.bool (BA k sum name n t ss wd))/\Uq w w':=by
 unfold BA;by_cases hk:1<=k/\k<=7
 ·obtain⟨m,rfl⟩:∃m:Nat,k=m:=⟨k.toNat,by omega⟩
  rw[decide_eq_true hk,Bool.true_and,Int.toNat_natCast];exact Ik m sum name n t ad cap ss wd w hT (by omega) (by omega) zA hl ht hn
 ·rw[decide_eq_false hk,Bool.false_and]
  exact LQ k sum name n t ad cap ss wd w hk
def Cx (k:Int) (sum name:ByteArray) (n:Int) (t:ByteArray) (ss:List ByteArray) (wd:Int):ByteArray:=if BA k sum name n t ss wd=true then ⟨(DS k.toNat sum name n t ss).toArray⟩ else ByteArray.empty
theorem own:ownKnob prog.godebug=none:=by kernel_rfl
theorem laidOut:laidOutB prog=true:=by kernel_rfl
theorem SZ:prog.cellsOf 3=1:=by kernel_rfl
theorem Qk:prog.globalNamed "loop.example/kilnvault/impl.kindParts" =some 5:=by kernel_rfl
theorem NL:(prog.globals[5]?).map (·.type)=some 209:=by kernel_rfl
theorem NM:prog.cellsOf 162=4:=by kernel_rfl
theorem MN:prog.cellsOf 4=1:=by kernel_rfl
theorem Ql {α:Type} {l:List α} (h:l.length=4):∃a b c d,l=[a,b,c,d]:=by
 match l,h with
 |[a,b,c,d],_=>exact⟨a,b,c,d,rfl⟩
theorem LR {H:Type} {enc:TypeId×Value->H} {W:World} {base:Nat} {zA:Nat->Bool} {held:Bool} {zB:Nat} {l:List Value} {p:List MemPlace} {a b c:Bool} {m:Int}
 (h:DataW.trod enc prog W base zA held zB 162 l=some (.agg [.lit (.bool a),.lit (.bool b),.lit (.bool c),.lit (.int .i64 m)],p)):l=[.bool a,.bool b,.bool c,.int .i64 m]:=by
 obtain⟨xs,n0,_,hx,hl,zC,hf⟩:=DataW.trod_struct underlying162 h;rw[NM] at hl;obtain⟨v0,v1,v2,v3,rfl⟩:=Ql hl;obtain⟨x0,x1,x2,x3,rfl⟩:=Ql zC;have f0:DataW.trod enc prog W base zA held n0 4 [v0]=some x0:=by simpa [MN] using hf 0 _ rfl
 have f1:DataW.trod enc prog W base zA held n0 4 [v1]=some x1:=by simpa [MN] using hf 1 _ rfl
 have f2:DataW.trod enc prog W base zA held n0 4 [v2]=some x2:=by simpa [MN] using hf 2 _ rfl
 have f3:DataW.trod enc prog W base zA held n0 3 [v3]=some x3:=by simpa [SZ] using hf 3 _ rfl
 obtain⟨a',e0,rfl⟩:=DataW.trod_bool underlying4 f0;obtain⟨b',e1,rfl⟩:=DataW.trod_bool underlying4 f1;obtain⟨c',e2,rfl⟩:=DataW.trod_bool underlying4 f2;obtain⟨m',e3,rfl,_⟩:=DataW.trod_int underlying3 f3;simp at e0 e1 e2 e3 hx;obtain⟨⟨rfl,rfl,rfl,rfl⟩,_⟩:=hx;rw[e0,e1,e2,e3]
theorem KM {W:World} {cs:Array Value} {zA:Nat} {p:List MemPlace} (zB:W.var? prog "loop.example/kilnvault/impl.kindParts" =some cs)
 (hd:DataW.trod (fun _=>()) prog W 0 (fun _=>true) false zA 209 cs.toList=some (Rows.laid_loop_example_kilnvault_impl_kindParts,p)):Gl W:=by
 obtain⟨xs,n0,_,hx,hl,zE,hf⟩:=DataW.trod_array underlying209 hd;rw[NM] at hf;have zF:xs.map (·.1)=_:=(DataW.agg.inj (Prod.mk.inj hx).1).symm;intro k h1 h7;have key:(xs.map (·.1))[k]?=some (.agg [.lit (.bool (CJ k)),.lit (.bool (CY k)),.lit (.bool (BO k)),.lit (.int .i64 (Cq k))]):=by
  rw[zF]
  match k,h1,h7 with
  |1,_,_=>rfl
  |2,_,_=>rfl
  |3,_,_=>rfl
  |4,_,_=>rfl
  |5,_,_=>rfl
  |6,_,_=>rfl
  |7,_,_=>rfl
 rw[List.getElem?_map] at key;obtain⟨⟨yd,yp⟩,hy,zC⟩:=Option.map_eq_some_iff.1 key;simp only at zC;subst zC;have hk:=hf k (by omega);rw[hy] at hk;have zD:=LR hk;have at_:∀j,j<4->W.cell? ⟨5,k *4+j,none⟩=([.bool (CJ k),.bool (CY k),.bool (BO k),.int .i64 (Cq k)]:List Value)[j]?:=by
  intro j hj;rw[World.var?_cell Qk zB,←zD,List.getElem?_take_of_lt hj,List.getElem?_drop];simp
 exact⟨at_ 0 (by omega),at_ 1 (by omega),at_ 2 (by omega),at_ 3 (by omega)⟩
def ST:Nat->Nat->ByteArray->ByteArray
 |0,_,o=>o
 |f+1,j,o=>if j=0 then o else ST f (j/10) (strOfNums [48+(j:Int)%10]++o)
def Mu (k:Nat):ByteArray:=⟨#[109]⟩++ST k k ByteArray.empty
theorem Aw {a b c:World} {row:Option Nat} (h1:a.grownBy b row) (h2:b.grownBy c row):a.grownBy c row:=
 ⟨h2.os.trans h1.os,h2.tape.trans h1.tape,h2.output.trans h1.output,Uz h1.size h2.size,fun k hk hne=>(h2.block k (Uy hk h1.size) hne).trans (h1.block k hk hne)⟩
theorem Aj {a b:World} (row:Option Nat) (h:Uq a b):a.grownBy b row:=⟨h.os,h.tape,h.output,h.size,fun k hk _=>h.block k hk⟩
theorem Il (a:World) (row:Option Nat):a.grownBy a row:=⟨rfl,rfl,rfl,Us,fun _ _ _=>rfl⟩
def marks (k n:Nat):List ByteArray:=(List.range n).map fun i=>Mu (k+i)
theorem Fx {a b:Nat} (h:b<a):some a≠some b:=fun e=>by have:=Option.some.inj e;omega
theorem Ae (w:World) (g p:Nat) (v:Value):w.grownBy (w.setCell ⟨g,p,none⟩ v) (some g):=
 ⟨rfl,rfl,rfl,by simp,fun i _ hi=>Below.heap_setCell _ _ _ _ (fun e=>hi (by rw[e]))⟩
def Aa (w:World) (B:Nat) (l:List Value):Prop:=∀j v,l[j]?=some v->w.cell? ⟨B,j,none⟩=some v/\w.frozen? ⟨B,j,none⟩=false
theorem Aa.lt {w:World} {B:Nat} {v:Value} {l:List Value} (h:Aa w B (v::l)):B<w.heap.size:=World.block_lt_of_cell? w _ (h 0 v rfl).1
theorem Aa.far {w w':World} {B b:Nat} {v:Value} {l:List Value} (h:Aa w B (v::l)) (hg:w.grownBy w' (some b)) (hb:b<B):Aa w' B (v::l):=by
 intro j x hx;have hl:=h.lt;exact⟨(hg.cell_far ⟨B,j,none⟩ hl (Fx hb)).trans (h j x hx).1,(hg.frozen_far ⟨B,j,none⟩ hl (Fx hb)).trans (h j x hx).2⟩
theorem Aa.below {w w':World} {B:Nat} {v:Value} {l:List Value} (h:Aa w B (v::l)) (hb:Uq w w'):Aa w' B (v::l):=by
 intro j x hx;have hl:=h.lt;exact⟨(hb.cell (p:=⟨B,j,none⟩) hl).trans (h j x hx).1,(hb.frozen (p:=⟨B,j,none⟩) hl).trans (h j x hx).2⟩
theorem Aa.new (w:World) (l:List Value) (T:TypeId):Aa (w.alloc (.cells l.toArray T)) w.heap.size l:=by
 intro j v hv;refine⟨?_,by simp⟩;rw[World.cell?_alloc_at _ _ _ _ rfl];simpa using hv
theorem Aa.far' {w w':World} {B c:Nat} {v:Value} {l:List Value} (h:Aa w B (v::l)) (hg:w.grownBy w' (some c)) (hc:c≠B):Aa w' B (v::l):=by
 intro j x hx;have hl:=h.lt;have hn:some B≠some c:=fun e=>hc (Option.some.inj e).symm;exact⟨(hg.cell_far ⟨B,j,none⟩ hl hn).trans (h j x hx).1,(hg.frozen_far ⟨B,j,none⟩ hl hn).trans (h j x hx).2⟩
theorem Aa.set {w:World} {B:Nat} {l:List Value} (h:Aa w B l) (j:Nat) (v:Value):Aa (w.setCell ⟨B,j,none⟩ v) B (l.set j v):=by
 intro i x hx;by_cases hij:i=j
 ·subst hij
  have zA:i<l.length:=by
   rcases Nat.lt_or_ge i l.length with h'|h'
   ·exact h'
   ·rw[List.getElem?_eq_none (by simpa using h')] at hx;cases hx
  rw[List.getElem?_set_self zA] at hx;injection hx with hx;subst hx;obtain⟨h1,h2⟩:=h i _ (Uu zA);exact⟨by simp[go_sem,h1],by simpa [go_sem] using h2⟩
 ·rw[List.getElem?_set_ne (fun e=>hij e.symm)] at hx
  obtain⟨h1,h2⟩:=h i x hx;refine⟨?_,by simpa [go_sem] using h2⟩;rw[World.cell?_setCell_other _ _ _ _ (by intro e;injection e;omega)];exact h1
theorem AC {w W:World} {l:List Value} {T:TypeId} (h:W=w.alloc (.cells l.toArray T)):Below w.heap.size w W/\W.heap.size=w.heap.size+1/\Aa W w.heap.size l:=by
 subst h;exact⟨Ur,by simp,Aa.new w l T⟩
theorem Aa.alloc {w:World} {B:Nat} {l:List Value} (h:Aa w B l) (hB:B<w.heap.size) (o:Obj):Aa (w.alloc o) B l:=fun j v hv=>
 ⟨(((Below.refl w.heap.size w).alloc (Us) o).cell (p:=⟨B,j,none⟩) hB).trans (h j v hv).1,(((Below.refl w.heap.size w).alloc (Us) o).frozen (p:=⟨B,j,none⟩) hB).trans (h j v hv).2⟩
theorem Ba {w W:World} {l k:List Value} {T U:TypeId} (h:W=(w.alloc (.cells l.toArray T)).alloc (.cells k.toArray U)):Below w.heap.size w W/\W.heap.size=w.heap.size+2/\Aa W w.heap.size l/\Aa W (w.heap.size+1) k:=by
 obtain⟨h1,h2,h3⟩:=AC (w:=w) (l:=l) (T:=T) rfl;obtain⟨k1,k2,k3⟩:=AC h;rw[h2] at k2 k3;subst h;exact⟨h1.trans (k1.mono h1.size),k2,h3.alloc (by omega) _,k3⟩
theorem Bn {w W:World} {l k m:List Value} {T U V:TypeId} (h:W=((w.alloc (.cells l.toArray T)).alloc (.cells k.toArray U)).alloc (.cells m.toArray V)):Below w.heap.size w W/\W.heap.size=w.heap.size+3/\Aa W w.heap.size l/\Aa W (w.heap.size+1) k/\Aa W (w.heap.size+2) m:=by
 obtain⟨h1,h2,h3,h4⟩:=Ba (w:=w) (l:=l) (T:=T) (k:=k) (U:=U) rfl;obtain⟨k1,k2,k3⟩:=AC h;rw[h2] at k2 k3;subst h;exact⟨h1.trans (k1.mono h1.size),k2,h3.alloc (by omega) _,h4.alloc (by omega) _,k3⟩
theorem Aa.c2 {w:World} {B:Nat} {t:List Value} {a b:Value} (h:Aa w B t) (i j:Nat) (h0:t[i]?=some a:=by rfl) (h1:t[j]?=some b:=by rfl):w.cell? ⟨B,i,none⟩=some a/\w.cell? ⟨B,j,none⟩=some b:=
 ⟨(h i _ h0).1,(h j _ h1).1⟩
theorem Aa.c3 {w:World} {B:Nat} {t:List Value} {a b c:Value} (h:Aa w B t) (i j k:Nat) (h0:t[i]?=some a:=by rfl) (h1:t[j]?=some b:=by rfl) (h2:t[k]?=some c:=by rfl):w.cell? ⟨B,i,none⟩=some a/\w.cell? ⟨B,j,none⟩=some b/\w.cell? ⟨B,k,none⟩=some c:=
 ⟨(h i _ h0).1,(h j _ h1).1,(h k _ h2).1⟩
theorem Aa.c4 {w:World} {B:Nat} {t:List Value} {a b c d:Value} (h:Aa w B t) (i j k l:Nat) (h0:t[i]?=some a:=by rfl) (h1:t[j]?=some b:=by rfl) (h2:t[k]?=some c:=by rfl) (h3:t[l]?=some d:=by rfl):w.cell? ⟨B,i,none⟩=some a/\w.cell? ⟨B,j,none⟩=some b/\w.cell? ⟨B,k,none⟩=some c/\w.cell? ⟨B,l,none⟩=some d:=
 ⟨(h i _ h0).1,(h j _ h1).1,(h k _ h2).1,(h l _ h3).1⟩
theorem Aa.c6 {w:World} {B:Nat} {t:List Value} {a b c d e f:Value} (h:Aa w B t) (i j k l m n:Nat) (h0:t[i]?=some a:=by rfl) (h1:t[j]?=some b:=by rfl) (h2:t[k]?=some c:=by rfl) (h3:t[l]?=some d:=by rfl) (h4:t[m]?=some e:=by rfl) (h5:t[n]?=some f:=by rfl):w.cell? ⟨B,i,none⟩=some a/\w.cell? ⟨B,j,none⟩=some b/\w.cell? ⟨B,k,none⟩=some c/\w.cell? ⟨B,l,none⟩=some d/\w.cell? ⟨B,m,none⟩=some e/\w.cell? ⟨B,n,none⟩=some f:=
 ⟨(h i _ h0).1,(h j _ h1).1,(h k _ h2).1,(h l _ h3).1,(h m _ h4).1,(h n _ h5).1⟩
theorem Aa.c7 {w:World} {B:Nat} {t:List Value} {a b c d e f g:Value} (h:Aa w B t) (i j k l m n o:Nat) (h0:t[i]?=some a:=by rfl) (h1:t[j]?=some b:=by rfl) (h2:t[k]?=some c:=by rfl) (h3:t[l]?=some d:=by rfl) (h4:t[m]?=some e:=by rfl) (h5:t[n]?=some f:=by rfl) (h6:t[o]?=some g:=by rfl):w.cell? ⟨B,i,none⟩=some a/\w.cell? ⟨B,j,none⟩=some b/\w.cell? ⟨B,k,none⟩=some c/\w.cell? ⟨B,l,none⟩=some d/\w.cell? ⟨B,m,none⟩=some e/\w.cell? ⟨B,n,none⟩=some f/\w.cell? ⟨B,o,none⟩=some g:=
 ⟨(h i _ h0).1,(h j _ h1).1,(h k _ h2).1,(h l _ h3).1,(h m _ h4).1,(h n _ h5).1,(h o _ h6).1⟩
section
open Go.RowKit Go.Extern.Stop Go.Stop Go.Extern
def KG (w:World):Prop:=w.cell? ⟨4,0,none⟩=some (.iface 212 (.agg #[.pointer (some ⟨9,136,none⟩)]))
theorem RD (t:Value) (w:World):
 Calls prog 60 #[.nilIface,t] w fun e w'=>e=.returned (.bool false)/\w'=w:=by
 go_enter func60,ntmps60;go_wp2;go_ret;exact⟨rfl,rfl⟩
abbrev rt (t:Nat):Value:=.agg #[.pointer (some ⟨9,t,none⟩)]
abbrev rv (t:Nat) (a:Addr) (f:Int):Value:=.agg #[.pointer (some ⟨9,t,none⟩),.pointer (some a),.int .u64 f]
theorem Pa (t:Addr) (w:World):(ReflectliteValue.unpack (.iface 142 (.pointer (some t)))).run prog w
 =.ok (rv 142 ⟨w.heap.size,0,none⟩ 150) (w.alloc (.cells #[.pointer (some t)] 142)):=by kernel_rfl
theorem Pb (e:Addr) (w:World):(ReflectliteValue.unpack (.iface 140 (.pointer (some e)))).run prog w
 =.ok (rv 140 ⟨w.heap.size,0,none⟩ 150) (w.alloc (.cells #[.pointer (some e)] 140)):=by kernel_rfl
theorem RE (a:Addr) (w:World):(ReflectliteValue.methodAny (ReflectliteValue.valueError "reflectlite.Value.Type" 0) (fun t _ _ _=>ReflectliteType.toType t) #[rv 142 a 150]).run prog w
 =.ok (.iface 212 (rt 142)) w:=by kernel_rfl
theorem QB (h:Value) (w:World):(Go.method 404 212 (.agg #[h]) "Kind").run prog w=.ok (199,h) w:=by kernel_rfl
theorem QC (h:Value) (w:World):(Go.method 404 212 (.agg #[h]) "Elem").run prog w=.ok (214,.agg #[h]) w:=by kernel_rfl
theorem QD (h:Value) (w:World):(Go.method 404 212 (.agg #[h]) "Implements").run prog w=.ok (215,.agg #[h]) w:=by kernel_rfl
theorem RG (h:Value) (w:World):(Go.method 404 212 (.agg #[h]) "AssignableTo").run prog w=.ok (212,.agg #[h]) w:=by kernel_rfl
theorem QE (w:World):((ReflectliteType.abiMethod fun t=>(fun a:Nat=>Value.int IntKind.u8 (a:Int))<$>Rtype.kind t) #[.pointer (some ⟨9,142,none⟩)]).run prog w=.ok (.int .u8 22) w:=by kernel_rfl
theorem QF (w:World):((ReflectliteType.abiMethod fun t=>(fun a:Nat=>Value.int IntKind.u8 (a:Int))<$>Rtype.kind t) #[.pointer (some ⟨9,140,none⟩)]).run prog w=.ok (.int .u8 22) w:=by kernel_rfl
theorem RH (w:World):(ReflectliteType.method ReflectliteType.elem #[rt 142]).run prog w=.ok (.iface 212 (rt 140)) w:=by kernel_rfl
theorem RI (w:World):(ReflectliteType.relation "Implements" ReflectliteType.implements_ #[rt 140,.iface 212 (rt 136)]).run prog w=.ok (.bool true) w:=by kernel_rfl
theorem Pc (v:Value) (w:World):(ReflectliteType.typeOf #[.iface 140 v]).run prog w=.ok (.iface 212 (rt 140)) w:=by kernel_rfl
theorem Sv (w:World):(ReflectliteType.relation "AssignableTo" ReflectliteType.assignableTo #[rt 140,.iface 212 (rt 140)]).run prog w=.ok (.bool true) w:=by kernel_rfl
theorem Pe (w:World):(Rtype.elem? 142).run prog w=.ok (some 140) w:=by kernel_rfl
theorem Ta (p:Addr) (w:World):(ReflectliteValue.mk 140 p ReflectliteValue.flagAddr).run prog w=.ok (rv 140 p 406) w:=by kernel_rfl
theorem KN (a:Addr) (w:World):(ReflectliteValue.parts (rv 142 a 150)).run prog w=.ok (some (142,a,150)) w:=by kernel_rfl
theorem Pf (a:Addr) (w:World):(ReflectliteValue.parts (rv 140 a 406)).run prog w=.ok (some (140,a,406)) w:=by kernel_rfl
theorem Pg (a:Addr) (w:World):(ReflectliteValue.parts (rv 140 a 150)).run prog w=.ok (some (140,a,150)) w:=by kernel_rfl
theorem Ph (w:World):(Rtype.directlyAssignable 140 140).run prog w=.ok true w:=by kernel_rfl
theorem NN (z:Sem Value) (f:TypeId->Addr->Nat->Nat->Sem Value) (v:Value):
 ReflectliteValue.method z f #[v]=(do match ←ReflectliteValue.parts v with|none=>z|some (t,a,fl)=>f t a fl (fl%32)):=rfl
theorem QG (a p:Addr) (W:World) (ha:W.cell? a=some (.pointer (some p))):
 (ReflectliteValue.method (ReflectliteValue.valueError "reflectlite.Value.IsNil" 0) ReflectliteValue.isNil #[rv 142 a 150]).run prog W=.ok (.bool false) W:=by
 rw[NN];simp only[Sem.run_bind,KN,Result.andThen];simp[ReflectliteValue.isNil,loadVar,isAgg,underlying,underlying142,ha,Result.andThen]
theorem QH (a p:Addr) (W:World) (ha:W.cell? a=some (.pointer (some p))):
 (ReflectliteValue.method (ReflectliteValue.valueError "reflectlite.Value.Elem" 0) ReflectliteValue.elem #[rv 142 a 150]).run prog W=.ok (rv 140 p 406) W:=by
 rw[NN];simp only[Sem.run_bind,KN,Result.andThen];simp[ReflectliteValue.elem,loadVar,isAgg,underlying,underlying142,ha,Result.andThen,Pe,Ta]
theorem RJ (v x:Value):ReflectliteValue.set #[v,x]=(do
 let (some (dst,a,fl),some (src,b,_)):=(←ReflectliteValue.parts v,←ReflectliteValue.parts x)
  |unsupported (.noEntry "extern/(internal/reflectlite.Value).Set.zeroValue")
 if fl/ReflectliteValue.flagAddr%2==0 then unsupported (.noEntry "extern/(internal/reflectlite.Value).Set.unaddressable")
 let val ←loadVar src b
 if ←Rtype.directlyAssignable dst src then storeVar dst a val
 else if ←Rtype.implements dst src then
  if (←Rtype.kind src)==20 then
   match val with
   |.nilIface=>unsupported (.noEntry "extern/reflectlite: a nil value of one interface type handed on as a value of another")
   |_=>storeVar dst a val
  else storeVar dst a (.iface src val)
 else panicString ("reflectlite.Set: value of type " ++(←Rtype.spelt src)++ " is not assignable to type " ++(←Rtype.spelt dst))
 pure (.tuple #[])):=rfl
theorem Sw (ta b e:Addr) (zA:Value) (W:World) (hb:W.cell? b=some (.pointer (some e))) (ht:W.cell? ta=some zA) (hf:W.frozen? ta=false):
 (ReflectliteValue.set #[rv 140 ta 406,rv 140 b 150]).run prog W=.ok (.tuple #[]) (W.setCell ta (.pointer (some e))):=by
 rw[RJ];simp only[Sem.run_bind,Pf,Pg,Result.andThen];simp[ReflectliteValue.flagAddr,loadVar,isAgg,underlying,underlying140,hb,Result.andThen,Ph,storeVar,Value.cells,storeCells,Addr.add];rw[run_store prog W ta _ _ (by rfl)];simp[ht,hf]
theorem RK (e:Addr) (tb:Nat) (zC:Value) (w:World) (hg:KG w) (zB:w.cell? ⟨tb,0,none⟩=some zC) (zE:w.frozen? ⟨tb,0,none⟩=false):
 Calls prog 60 #[.iface 140 (.pointer (some e)),.iface 142 (.pointer (some ⟨tb,0,none⟩))] w fun ev w'=>ev=.returned (.bool true)/\Below tb w w':=by
 have h1:= @run_callFunc_extern prog 83 _ (fun args=>ReflectliteValue.unpack (args.getD 0 (.tuple #[]))) func83 (by kernel_rfl) (by kernel_rfl) (by kernel_rfl) (by kernel_rfl)
 have h2:= @run_callFunc_extern prog 84 _ (ReflectliteValue.methodAny (ReflectliteValue.valueError "reflectlite.Value.Type" 0) (fun t _ _ _=>ReflectliteType.toType t)) func84 (by kernel_rfl) (by kernel_rfl) (by kernel_rfl) (by kernel_rfl)
 have h3:= @run_callFunc_extern prog 85 _ (ReflectliteValue.method (ReflectliteValue.valueError "reflectlite.Value.IsNil" 0) ReflectliteValue.isNil) func85 (by kernel_rfl) (by kernel_rfl) (by kernel_rfl) (by kernel_rfl)
 have h4:= @run_callFunc_extern prog 199 _ (ReflectliteType.abiMethod fun t=>do pure (.int .u8 (←Rtype.kind t))) func199 (by kernel_rfl) (by kernel_rfl) (by kernel_rfl) (by kernel_rfl);have h5:= @run_callFunc_extern prog 214 _ (ReflectliteType.method ReflectliteType.elem) func214 (by kernel_rfl) (by kernel_rfl) (by kernel_rfl) (by kernel_rfl)
 have h6:= @run_callFunc_extern prog 215 _ (ReflectliteType.relation "Implements" ReflectliteType.implements_) func215 (by kernel_rfl) (by kernel_rfl) (by kernel_rfl) (by kernel_rfl);have h7:= @run_callFunc_extern prog 118 _ ReflectliteType.typeOf func118 (by kernel_rfl) (by kernel_rfl) (by kernel_rfl) (by kernel_rfl)
 have h8:= @run_callFunc_extern prog 212 _ (ReflectliteType.relation "AssignableTo" ReflectliteType.assignableTo) func212 (by kernel_rfl) (by kernel_rfl) (by kernel_rfl) (by kernel_rfl)
 have h9:= @run_callFunc_extern prog 119 _ (ReflectliteValue.method (ReflectliteValue.valueError "reflectlite.Value.Elem" 0) ReflectliteValue.elem) func119 (by kernel_rfl) (by kernel_rfl) (by kernel_rfl) (by kernel_rfl);have zG:= @run_callFunc_extern prog 120 _ ReflectliteValue.set func120 (by kernel_rfl) (by kernel_rfl) (by kernel_rfl) (by kernel_rfl);have q1:=Pc;have q2:=RG;have q3:=Sv
 have q4:=Pb;have q5:=Pa;have q6:=RE;have q7:=QB;have q8:=QC;have q9:=QD;have zI:=QE;have zJ:=QF;have zK:=RH;have zL:=RI;have zF:4<w.heap.size:=World.block_lt_of_cell? w _ hg;have zA:tb<w.heap.size:=World.block_lt_of_cell? w ⟨tb,0,none⟩ zB;have b1:Below w.heap.size w (w.alloc (.cells #[.pointer (some ⟨tb,0,none⟩)] 142)):=Ur
 have b2:=b1.alloc b1.size (.cells #[.pointer (some ⟨9,142,none⟩),.pointer (some ⟨w.heap.size,0,none⟩),.int .u64 150] 170);have b3:=b2.alloc b2.size (.cells #[.pointer (some ⟨9,142,none⟩),.pointer (some ⟨w.heap.size,0,none⟩),.int .u64 150] 170);have b4:=b3.alloc b3.size (.cells #[.pointer (some e)] 140)
 have n8:=QG ⟨w.heap.size,0,none⟩ ⟨tb,0,none⟩ ((w.alloc (.cells #[.pointer (some ⟨tb,0,none⟩)] 142)).alloc (.cells #[.pointer (some ⟨9,142,none⟩),.pointer (some ⟨w.heap.size,0,none⟩),.int .u64 150] 170)) (by simp)
 have zH:((w.alloc (.cells #[.pointer (some ⟨tb,0,none⟩)] 142)).alloc (.cells #[.pointer (some ⟨9,142,none⟩),.pointer (some ⟨w.heap.size,0,none⟩),.int .u64 150] 170)).cell? ⟨4,0,none⟩=some (.iface 212 (.agg #[.pointer (some ⟨9,136,none⟩)])):=(b2.cell (p:=⟨4,0,none⟩) zF).trans hg
 have el:=QH ⟨w.heap.size,0,none⟩ ⟨tb,0,none⟩ (((w.alloc (.cells #[.pointer (some ⟨tb,0,none⟩)] 142)).alloc (.cells #[.pointer (some ⟨9,142,none⟩),.pointer (some ⟨w.heap.size,0,none⟩),.int .u64 150] 170)).alloc (.cells #[.pointer (some ⟨9,142,none⟩),.pointer (some ⟨w.heap.size,0,none⟩),.int .u64 150] 170)) (by rw[World.cell?_alloc_lt _ _ ⟨w.heap.size,0,none⟩ (by simp;omega)];simp)
 have st:=Sw ⟨tb,0,none⟩ ⟨w.heap.size+1+1+1,0,none⟩ e zC ((((w.alloc (.cells #[.pointer (some ⟨tb,0,none⟩)] 142)).alloc (.cells #[.pointer (some ⟨9,142,none⟩),.pointer (some ⟨w.heap.size,0,none⟩),.int .u64 150] 170)).alloc (.cells #[.pointer (some ⟨9,142,none⟩),.pointer (some ⟨w.heap.size,0,none⟩),.int .u64 150] 170)).alloc (.cells #[.pointer (some e)] 140))
  (by rw[World.cell?_alloc_at _ _ _ _ (by simp)];rfl)
  ((b4.cell (p:=⟨tb,0,none⟩) zA).trans zB)
  ((b4.frozen (p:=⟨tb,0,none⟩) zA).trans zE)
 have fin:=(b4.mono (Nat.le_of_lt zA)).setCell (show tb<=(⟨tb,0,none⟩:Addr).block from Nat.le_refl tb) (.pointer (some e));clear b1 b2 b3 b4;have zD:Hid _:=fin;clear fin;go_enter func60,ntmps60;go_wp2;refine wp_loop_rounds 1 ?_;rw[rounds_succ];go_wp2;go_ret;exact⟨rfl,zD.o⟩
end
theorem Fu (b:UInt8):wrap64 (b.toNat:Int)=(b.toNat:Int):=by
 have h:=b.toNat_lt;simp[wrap64];omega
theorem Im (x:Int) (h: -9223372036854775808<=x) (h':x<9223372036854775808):IntKind.i64.wrap x=x:=by
 rw[IntKind.wrap_i64];omega
theorem RL {n k:Nat} {wd:Int} (h1:1<=wd) (hk:k<n):0<=(k:Int) *wd/\(k:Int) *wd<=(n:Int) *wd/\((k:Int)+1) *wd=(k:Int) *wd+wd/\(k:Int) *wd+wd<=(n:Int) *wd:=by
 refine⟨Int.mul_nonneg (by omega) (by omega),Int.mul_le_mul_of_nonneg_right (by omega) (by omega),by rw[Int.add_mul,Int.one_mul],?_⟩;have:((k:Int)+1) *wd<=(n:Int) *wd:=Int.mul_le_mul_of_nonneg_right (by omega) (by omega);rw[Int.add_mul,Int.one_mul] at this;exact this
theorem Mv {n:Nat} {wd:Int} (hn:n<256) (h1:1<=wd) (h2:wd<=8):0<=(n:Int) *wd/\(n:Int) *wd<=2040:=by
 refine⟨Int.mul_nonneg (by omega) (by omega),?_⟩;have h3:(n:Int) *wd<=255 *wd:=Int.mul_le_mul_of_nonneg_right (by omega) (by omega);omega
def DT (s:ByteArray) (wd:Int) (n:Nat):ByteArray:=(s.extract 1 s.size).extract ((n:Int) *wd).toNat (s.size -1)
def Jd (s:ByteArray) (wd:Int) (i:Nat):ByteArray:=(s.extract 1 s.size).extract ((i:Int) *wd).toNat ((i:Int) *wd+wd).toNat
def Bx (s:ByteArray) (wd:Int) (k:Nat):List ByteArray:=(List.range k).map (Jd s wd)
theorem Cy (s:ByteArray) (wd:Int) (k:Nat):(Bx s wd k).length=k:=by simp[Bx]
theorem MO (s:ByteArray) (wd:Int) (k:Nat):(Bx s wd k).map Value.string++[Value.string (Jd s wd k)]=(Bx s wd (k+1)).map Value.string:=by
 simp[Bx,List.range_succ]
theorem JE {wr w1:World} {o:Obj} {row:Option Nat} {p:Addr} {x:Value} (hg:(wr.alloc o).drew.grownBy w1 row) (hc:wr.cell? p=some x) (zB:some p.block≠row):w1.cell? p=some x:=by
 refine hg.cell ?_ zB;have zA:=World.block_lt_of_cell? wr p hc;exact(World.cell?_alloc_lt wr o p zA).trans hc
theorem LS {wr w1:World} {o:Obj} {row:Option Nat} {p:Addr} (hg:(wr.alloc o).drew.grownBy w1 row) (zA:p.block<wr.heap.size) (zB:some p.block≠row):w1.frozen? p=wr.frozen? p:=by
 have h1:=World.frozen?_of_block (hg.block p.block (by simp;omega) zB);rw[h1];exact World.frozen?_alloc_old wr o p (Nat.ne_of_lt zA)
theorem RM {w:World} {base:Nat} {e:TypeId} {v:Value} {n:Nat} {xs:List Value} (h:w.ownsRow base e 1 v n xs) {b:Nat} (hb:b<base):some b≠v.ownBlock:=by
 intro he;have:=(h.lt b he.symm).1;omega
theorem EA {w:World} {base:Nat} {v:Value} {ss:List ByteArray} (h:w.ownsRow base 9 1 v ss.length (ss.map Value.string)):∃a cap,v=.slice a ss.length cap/\Ad w w.heap.size a ss:=by
 rcases h.2 with⟨hv,h0⟩|⟨g,cap,zA,hv,_⟩
 ·exact⟨none,0,by rw[hv,h0],.inl (List.eq_nil_of_length_eq_zero h0)⟩
 ·subst hv
  exact⟨_,_,rfl,Ad.own h⟩
theorem NO {s:ByteArray} {wd:Int} {w wr w1:World} {o:Obj} {v:Value} {k g cap:Nat} {txt:ByteArray} {W:World}
 (zH:w.heap.size+1<wr.heap.size) (zD:wr.ownsRow (w.heap.size+2) 9 1 v k ((Bx s wd k).map Value.string)) (zC:Below (w.heap.size+1) W wr)
 (zB:w1.ownsRow (w.heap.size+2) 9 1 (.slice (some ⟨g,0,none⟩) (k+1) cap) (k+1) ((Bx s wd k).map Value.string++[.string (Jd s wd k)]))
 (zA:(wr.alloc o).drew.grownBy w1 v.ownBlock) (zE:w1.cell? ⟨w.heap.size+1,0,none⟩=some (.string txt)) (zF:w1.cell? ⟨w.heap.size+1,1,none⟩=some v) (zG:w1.frozen? ⟨w.heap.size+1,1,none⟩=false):
 (w1.setCell ⟨w.heap.size+1,1,none⟩ (.slice (some ⟨g,0,none⟩) (k+1) cap)).cell? ⟨w.heap.size+1,0,none⟩=some (.string txt)/\
 (w1.setCell ⟨w.heap.size+1,1,none⟩ (.slice (some ⟨g,0,none⟩) (k+1) cap)).cell? ⟨w.heap.size+1,1,none⟩=some (.slice (some ⟨g,0,none⟩) (k+1) cap)/\
 (w1.setCell ⟨w.heap.size+1,1,none⟩ (.slice (some ⟨g,0,none⟩) (k+1) cap)).frozen? ⟨w.heap.size+1,1,none⟩=false/\
 (w1.setCell ⟨w.heap.size+1,1,none⟩ (.slice (some ⟨g,0,none⟩) (k+1) cap)).ownsRow (w.heap.size+2) 9 1 (.slice (some ⟨g,0,none⟩) (k+1) cap) (k+1) ((Bx s wd (k+1)).map Value.string)/\
 Below (w.heap.size+1) W (w1.setCell ⟨w.heap.size+1,1,none⟩ (.slice (some ⟨g,0,none⟩) (k+1) cap)):=by
 refine⟨?_,?_,?_,?_,?_⟩
 ·rw[←zE]
  exact World.cell?_setCell_other _ _ _ _ (by simp)
 ·exact World.cell?_setCell_same' _ _ _ (by rw[zF];rfl)
 ·rw[World.frozen?_setCell];exact zG
 ·rw[←MO]
  exact ownsRow_setCell_below zB (by simp) _
 ·exact(((zC.alloc (by omega) o).drew).grown zA (by simp;omega) (fun k hk=>by have:=(zD.lt k hk).1;omega)).setCell (by simp) _
theorem KO {s:ByteArray} (h:0<s.size):s.toList.isEmpty=false:=by
 have:s.toList.length=s.size:=by rw[ByteArray.toList_eq];simp
 cases hl:s.toList with
 |nil=>rw[hl] at this;simp at this;omega
 |cons x r=>rfl
theorem NP (s:ByteArray) (wd:Int) (n:Nat) (w:World) (hs:s.size<=1048576) (h1:1<=wd) (h2:wd<=8) (h0:0<s.size) (zL:s[0].toNat=n) (zU:(n:Int) *wd<=s.size -1):
 Calls prog 117 #[.string s,.int .i64 wd] w fun e w'=>
  (As (DT s wd n) (Bx s wd n) wd=true->∃v,e=.returned (.tuple #[.agg #[.string (DT s wd n),v],.bool true])/\w'.ownsRow w.heap.size 9 1 v n ((Bx s wd n).map Value.string))/\
  (As (DT s wd n) (Bx s wd n) wd=false->e=.returned (.tuple #[.agg #[.string ⟨#[]⟩,.slice none 0 0],.bool false]))/\Uq w w':=by
 obtain⟨i0,hi,yE,yF,yG⟩:=info_parts Cv;have zK:s.toList.isEmpty=false:=KO h0;have zW:(0:Int)<s.size:=by omega
 have hn:n<256:=by rw[←zL];exact s[0].toNat_lt
 have yC:=Mv hn h1 h2;have HN:Hid _:=zL;clear zL;go_enter func117,ntmps117;go_wp2;go_quiet (fail);simp only[Fu];rw[HN.o];go_wp2_with fail;obtain⟨txt,zG⟩:∃txt,txt=DT s wd n:=⟨_,rfl⟩;rw[show(s.extract 1 s.size).extract ((n:Int) *wd).toNat (s.size -1)=txt from zG.symm];have zI:Hid _:=zG;clear zG
 go_loopw [37] (fun i wr=>∃(k:Nat) (v:Value),k<=n/\i=.int .i64 k/\wr.cell? ⟨w.heap.size+1,0,none⟩=some (.string txt)/\wr.cell? ⟨w.heap.size+1,1,none⟩=some v/\wr.frozen? ⟨w.heap.size+1,1,none⟩=false/\
  wr.ownsRow (w.heap.size+2) 9 1 v k ((Bx s wd k).map Value.string)/\Below (w.heap.size+1) (w.alloc (Obj.cells #[Value.string ⟨#[]⟩,Value.slice none 0 0] 40)) wr) (fun i _=>n -(intOf i).toNat)
 case atStart=>exact⟨0,.slice none 0 0,Nat.zero_le _,rfl,by simp[go_sem],by simp[go_sem],by simp[go_sem],World.ownsRow_nil _ _ _ _,(BN (Below.refl _ _) _).alloc (by simp) _⟩
 case round=>
  obtain⟨k,v,hk,rfl,zJ,zN,zP,zD,zA⟩:=hrel;have yA:=zA.size;simp at yA;by_cases hlt:k<n
  ·obtain⟨m1,m2,m3,m4⟩:=RL h1 hlt
   have yB:(s.extract 1 s.size).size=s.size -1:=by simp
   have zV:(k:Int)<n:=by omega
   have e1:=Im ((k:Int) *wd) (by omega) (by omega);have e2:=Im ((k:Int)+1) (by omega) (by omega);have e3:=Im ((k:Int) *wd+wd) (by omega) (by omega);have b2:(k:Int) *wd<=(k:Int) *wd+wd:=by omega
   have b3:(k:Int) *wd+wd<=((s.size -1:Nat):Int):=by omega
   go_wp2;have zK:=RM zD (b:=w.heap.size+1) (by omega);have zH:w.heap.size+1<wr.heap.size:=World.block_lt_of_cell? wr _ zJ
   go_region_law (refine step_append_lies _ rfl (.tmp 41) (.tmp 51) 25 rfl (w.heap.size+2) 9 i0 (.string ⟨#[]⟩) 1 16 underlying25 hi yE yF yG rfl (by decide) v k ((Bx s wd k).map Value.string) rfl (World.ownsRow.alloc zD _) ⟨wr.heap.size,0,none⟩ 1 1 [.string (Jd s wd k)] rfl rfl (cell_one_new wr (.string (Jd s wd k)) 9) (by simp[Value.oneCell']) (by decide) (by unfold maxLen;omega) (by omega) (by simp;omega) (wr.heap.size+1) (by simp) ?_;intro g cap w1 zF zB yH zX;have zO:=JE zB zJ zK;have zS:=JE zB zN zK;have zT:=(LS (p:=⟨w.heap.size+1,1,none⟩) zB (by simp;omega) zK).trans zP)
   all_goals
    have R:=NO zH zD zA zF zB zO zS zT;have HR:Hid _:=R;clear R zD zA zF zB zO zJ zN zP;go_wp2;refine⟨⟨_,_,_,_,_,_,_,_,_,_,_,_,_,_,_,_,_,_,_,⟨k+1,_,by omega,?_,HR.o.1,HR.o.2.1,HR.o.2.2.1,HR.o.2.2.2.1,HR.o.2.2.2.2⟩,rfl⟩,?_⟩
    ·go_num
    ·simp[intOf];omega
  ·obtain rfl:k=n:=by omega
   have zH:w.heap.size+1<wr.heap.size:=World.block_lt_of_cell? wr _ zJ;obtain⟨a,cap,hv,zM⟩:=EA (ss:=Bx s wd k) (by rw[Cy];exact zD);rw[Cy] at hv;subst hv;have zQ:(wr.cell? ⟨w.heap.size,0,none⟩)=some (.string ⟨#[]⟩):=by rw[zA.cell (p:=⟨w.heap.size,0,none⟩) (by simp)];simp
   have zR:(wr.cell? ⟨w.heap.size,1,none⟩)=some (.slice none 0 0):=by rw[zA.cell (p:=⟨w.heap.size,1,none⟩) (by simp)];simp
   have zY:wr.frozen? ⟨w.heap.size,0,none⟩=false:=by rw[zA.frozen (p:=⟨w.heap.size,0,none⟩) (by simp)];simp
   have zZ:wr.frozen? ⟨w.heap.size,1,none⟩=false:=by rw[zA.frozen (p:=⟨w.heap.size,1,none⟩) (by simp)];simp
   have yD:txt.size<=maxLen:=by
    rw[zI.o];simp[DT,maxLen];omega
   have zC:=Db txt a cap (Bx s wd k) wd wr zM (by rw[Cy];omega) yD;rw[Cy] at zC;have zE:w.heap.size<wr.heap.size:=by omega
   go_wp2_with fail;refine zC.mono ?_;rintro e w2 ⟨rfl,rfl⟩;have hB:Below w.heap.size w wr:=(Ur).trans (zA.mono (by omega));cases hok:As txt (Bx s wd k) wd with
   |true=>
    clear zC;go_wp2;refine bodyPost_ret (v:=.tuple #[.agg #[.string txt,.slice a k cap],.bool true]) (by simp[results,results117,go_sem,zE,zQ,zR]) rfl ⟨fun _=>⟨.slice a k cap,?_,?_⟩,fun h=> ?_,?_⟩
    ·rw[zI.o]
    ·exact((ownsRow_setCell_below (ownsRow_setCell_below zD (by simp) _) (by simp) _).alloc _).mono (by omega)
    ·rw[←zI.o,hok] at h;cases h
    ·exact((hB.setCell (by simp) _).setCell (by simp) _).alloc (by simp;omega) _
   |false=>
    clear zC;go_wp2;refine bodyPost_ret (v:=.tuple #[.agg #[.string ⟨#[]⟩,.slice none 0 0],.bool false]) (by simp[results,results117,go_sem,zE,zQ,zR]) rfl ⟨fun h=> ?_,fun _=>rfl,?_⟩
    ·rw[←zI.o,hok] at h;cases h
    ·exact((hB.setCell (by simp) _).setCell (by simp) _).alloc (by simp;omega) _
def GQ (w:World) (e:Ending) (w':World):Prop:=e=.returned (.tuple #[.agg #[.string ⟨#[]⟩,.slice none 0 0],.bool false])/\Uq w w'
theorem NQ (s:ByteArray) (wd:Int) (w:World) (h:¬(1<=wd/\wd<=8)):
 Calls prog 117 #[.string s,.int .i64 wd] w (GQ w):=by
 by_cases h1:1<=wd
 ·have h2:decide (wd<=8)=false:=by simp;omega
  go_enter func117,ntmps117;go_wp2;exact bodyPost_ret (v:=.tuple #[.agg #[.string ⟨#[]⟩,.slice none 0 0],.bool false]) (by simp[results,results117,go_sem]) rfl ⟨rfl,Ur⟩
 ·go_enter func117,ntmps117
  go_wp2;exact bodyPost_ret (v:=.tuple #[.agg #[.string ⟨#[]⟩,.slice none 0 0],.bool false]) (by simp[results,results117,go_sem]) rfl ⟨rfl,Ur⟩
theorem isEmpty {s:ByteArray} (h:s.size=0):s.toList.isEmpty=true:=by
 have:s.toList.length=s.size:=by rw[ByteArray.toList_eq];simp
 rw[List.isEmpty_iff,←List.length_eq_zero_iff];omega
theorem NR (s:ByteArray) (wd:Int) (w:World) (h1:1<=wd) (h2:wd<=8) (h0:s.size=0):
 Calls prog 117 #[.string s,.int .i64 wd] w (GQ w):=by
 have zA:=isEmpty h0;go_enter func117,ntmps117;go_wp2;exact bodyPost_ret (v:=.tuple #[.agg #[.string ⟨#[]⟩,.slice none 0 0],.bool false]) (by simp[results,results117,go_sem]) rfl ⟨rfl,Ur⟩
theorem NT (s:ByteArray) (wd:Int) (n:Nat) (w:World) (hs:s.size<=1048576) (h1:1<=wd) (h2:wd<=8) (h0:0<s.size) (zA:s[0].toNat=n) (zB:(s.size:Int) -1<(n:Int) *wd):
 Calls prog 117 #[.string s,.int .i64 wd] w (GQ w):=by
 have zE:=KO h0;have zC:(0:Int)<s.size:=by omega
 have hn:n<256:=by rw[←zA];exact s[0].toNat_lt
 have zD:=Mv hn h1 h2;have HN:Hid _:=zA;clear zA;go_enter func117,ntmps117;go_wp2;go_quiet (fail);simp only[Fu];rw[HN.o];go_wp2;refine bodyPost_ret (v:=.tuple #[.agg #[.string ⟨#[]⟩,.slice none 0 0],.bool false]) (by simp[results,results117,go_sem]) rfl ⟨rfl,?_⟩;exact(((BN (Ur) _).setCell (by simp) _).setCell (by simp) _)
def JF (s:ByteArray) (wd:Int) (n:Nat):ByteArray×List ByteArray×Bool:=
 if (n:Int) *wd<=s.size -1/\As (DT s wd n) (Bx s wd n) wd=true then (DT s wd n,Bx s wd n,true) else (⟨#[]⟩,[],false)
def rd (s:ByteArray) (wd:Int):ByteArray×List ByteArray×Bool:=
 if 1<=wd/\wd<=8 then
  match s.data.toList.head? with
  |none=>(⟨#[]⟩,[],false)
  |some b=>JF s wd b.toNat
 else (⟨#[]⟩,[],false)
def Ej (s:ByteArray) (wd:Int) (w:World) (e:Ending) (w':World):Prop:=
 ∃v,e=.returned (.tuple #[.agg #[.string (rd s wd).1,v],.bool (rd s wd).2.2])/\w'.ownsRow w.heap.size 9 1 v (rd s wd).2.1.length ((rd s wd).2.1.map Value.string)/\Uq w w'
theorem QI {s:ByteArray} (h0:0<s.size):s.data.toList.head?=some s[0]:=by
 rw[List.head?_eq_getElem?,Uu (by simpa using h0)];rfl
theorem Sx (s:ByteArray) (wd:Int):(rd s wd).2.1.length<=255:=by
 unfold rd;split
 ·split
  ·simp
  ·rename_i b _
   unfold JF;have:=b.toNat_lt;split
   ·simp[Cy];omega
   ·simp
 ·simp
theorem FJ {s:ByteArray} {wd:Int} {w:World} (h:rd s wd=(⟨#[]⟩,[],false)):∀e w',GQ w e w'->Ej s wd w e w':=by
 rintro e w' ⟨rfl,hb⟩;unfold Ej;rw[h];exact⟨.slice none 0 0,rfl,World.ownsRow_nil _ _ _ _,hb⟩
theorem RN {s:ByteArray} {wd:Int} {n:Nat} {w:World} (hr:rd s wd=JF s wd n) (zA:(n:Int) *wd<=s.size -1):∀e w',
 ((As (DT s wd n) (Bx s wd n) wd=true->∃v,e=.returned (.tuple #[.agg #[.string (DT s wd n),v],.bool true])/\w'.ownsRow w.heap.size 9 1 v n ((Bx s wd n).map Value.string))/\
   (As (DT s wd n) (Bx s wd n) wd=false->e=.returned (.tuple #[.agg #[.string ⟨#[]⟩,.slice none 0 0],.bool false]))/\Uq w w')->Ej s wd w e w':=by
 rintro e w' ⟨h1,h2,hb⟩;unfold Ej;rw[hr];unfold JF;cases hok:As (DT s wd n) (Bx s wd n) wd with
 |true=>
  rw[if_pos ⟨zA,rfl⟩];obtain⟨v,he,ho⟩:=h1 hok;exact⟨v,he,by simpa [Cy] using ho,hb⟩
 |false=>
  rw[if_neg (by simp)];exact⟨.slice none 0 0,h2 hok,World.ownsRow_nil _ _ _ _,hb⟩
theorem NU (s:ByteArray) (wd:Int) (w:World) (hs:s.size<=1048576):Calls prog 117 #[.string s,.int .i64 wd] w (Ej s wd w):=by
 by_cases hw:1<=wd/\wd<=8
 ·by_cases h0:0<s.size
  ·have hr:rd s wd=JF s wd s[0].toNat:=by unfold rd;rw[if_pos hw,QI h0]
   by_cases hfit:(s[0].toNat:Int) *wd<=s.size -1
   ·exact(NP s wd _ w hs hw.1 hw.2 h0 rfl hfit).mono (RN hr hfit)
   ·exact(NT s wd _ w hs hw.1 hw.2 h0 rfl (by omega)).mono (FJ (by rw[hr];unfold JF;rw[if_neg (fun h=>hfit h.1)]))
  ·refine(NR s wd w hw.1 hw.2 (by omega)).mono (FJ ?_)
   have hl:s.data.toList=[]:=List.eq_nil_of_length_eq_zero (by have h3:s.data.toList.length=s.size:=Array.length_toList;omega);unfold rd;rw[if_pos hw,hl];rfl
 ·exact(NQ s wd w hw).mono (FJ (by unfold rd;rw[if_neg hw]))
def FK:Option Addr->Value
 |none=> .nilIface
 |some q=> .iface 140 (.pointer (some q))
structure Mw (w:World) (b:Nat) (rest:ByteArray) (kind:Int) (er:Option Addr):Prop where
 x0:w.cell? ⟨b,0,none⟩=some (.string rest)
 x1:w.cell? ⟨b,1,none⟩=some (.int .i64 kind)
 x2:w.cell? ⟨b,2,none⟩=some (FK er)
 f0:w.frozen? ⟨b,0,none⟩=false
 f1:w.frozen? ⟨b,1,none⟩=false
 f2:w.frozen? ⟨b,2,none⟩=false
def CG (w:World) (b:Nat) (rest:ByteArray) (kind:Int) (bad:Bool):Prop:=∃er:Option Addr,er.isSome=bad/\Mw w b rest kind er
theorem Mw.lt {w:World} {b:Nat} {rest:ByteArray} {kind:Int} {er:Option Addr} (h:Mw w b rest kind er):b<w.heap.size:=World.block_lt_of_cell? w _ h.x0
theorem Mw.below {w w':World} {b:Nat} {rest:ByteArray} {kind:Int} {er:Option Addr} (h:Mw w b rest kind er) (hb:Uq w w'):Mw w' b rest kind er:=by
 have hl:=h.lt;exact⟨(hb.cell (p:=⟨b,0,none⟩) hl).trans h.x0,(hb.cell (p:=⟨b,1,none⟩) hl).trans h.x1,(hb.cell (p:=⟨b,2,none⟩) hl).trans h.x2,(hb.frozen (p:=⟨b,0,none⟩) hl).trans h.f0,(hb.frozen (p:=⟨b,1,none⟩) hl).trans h.f1,(hb.frozen (p:=⟨b,2,none⟩) hl).trans h.f2⟩
theorem CG.below {w w':World} {b:Nat} {rest:ByteArray} {kind:Int} {bad:Bool} (h:CG w b rest kind bad) (hb:Uq w w'):CG w' b rest kind bad:=by
 obtain⟨er,h1,h2⟩:=h;exact⟨er,h1,h2.below hb⟩
theorem Ek (b:Nat) (rest:ByteArray) (kind:Int) (bad:Bool) (ct:TypeId) (cv:Value) (w:World) (h:CG w b rest kind bad):
 Calls prog 78 #[.pointer (some ⟨b,0,none⟩),.iface ct cv] w fun e w'=>e=.returned (.tuple #[])/\CG w' b rest kind true/\w.grownBy w' (some b):=by
 obtain⟨er,rfl,h⟩:=h;have hl:=h.lt;obtain⟨x0,x1,x2,f0,f1,f2⟩:=h;cases er with
 |none=>
  simp only[FK] at x2;go_enter func78,ntmps78;go_wp2
  go_end0
  refine⟨rfl,⟨some ⟨w.heap.size,0,none⟩,rfl,?_⟩,?_⟩
  ·have zA:b≠w.heap.size:=by omega
   constructor<;>simp[FK,go_sem, *]
  ·exact(Ae _ _ _ _).trans (World.grownBy_alloc _ _ _)
 |some q=>
  simp only[FK] at x2;go_enter func78,ntmps78;go_wp2
  go_end0
  exact⟨rfl,⟨some q,rfl,⟨x0,x1,x2,f0,f1,f2⟩⟩,World.grownBy.refl _ _⟩
def AL (rest:ByteArray) (bad:Bool) (n:Int):ByteArray×ByteArray×Bool:=
 if bad=true then (⟨#[]⟩,rest,true) else if (rest.size:Int)<n then (⟨#[]⟩,rest,true) else (rest.extract 0 n.toNat,rest.extract n.toNat rest.size,false)
theorem FL (b:Nat) (rest:ByteArray) (kind:Int) (bad:Bool) (n:Int) (gt:TypeId) (gv:Value) (w:World) (h:CG w b rest kind bad) (hn:bad=false->0<=n) (hg:w.cell? ⟨6,0,none⟩=some (.iface gt gv)):
 Calls prog 81 #[.pointer (some ⟨b,0,none⟩),.int .i64 n] w fun e w'=>e=.returned (.string (AL rest bad n).1)/\CG w' b (AL rest bad n).2.1 kind (AL rest bad n).2.2/\w.grownBy w' (some b):=by
 have h':=h;obtain⟨er,rfl,h⟩:=h;have hl:=h.lt;obtain⟨x0,x1,x2,f0,f1,f2⟩:=h;cases er with
 |none=>
  simp only[FK] at x2;have zA:=hn rfl;by_cases hf:(rest.size:Int)<n
  ·rw[show AL rest (none:Option Addr).isSome n=(⟨#[]⟩,rest,true) by simp[AL,hf]]
   have d1:decide ((rest.size:Int)<n)=true:=by simpa using hf
   go_enter func81,ntmps81;go_wp2_with fail;refine(Ek b rest kind false gt gv w h').mono ?_;rintro e w1 ⟨rfl,h1,g1⟩;go_wp2;go_ret;exact⟨rfl,h1,g1⟩
  ·rw[show AL rest (none:Option Addr).isSome n=(rest.extract 0 n.toNat,rest.extract n.toNat rest.size,false) by simp[AL,hf]]
   have d1:decide ((rest.size:Int)<n)=false:=by simpa using hf
   go_enter func81,ntmps81;go_wp2;go_ret;refine⟨rfl,⟨none,rfl,?_⟩,Ae _ _ _ _⟩;constructor<;>simp[FK,go_sem, *]
 |some q=>
  rw[show AL rest (some q:Option Addr).isSome n=(⟨#[]⟩,rest,true) by simp[AL]];simp only[FK] at x2;go_enter func81,ntmps81;go_wp2;go_ret;exact⟨rfl,⟨some q,rfl,⟨x0,x1,x2,f0,f1,f2⟩⟩,World.grownBy.refl _ _⟩
def BH (l:List UInt8):Int:=l.foldl (fun a b=>a *256+(b.toNat:Int)) 0
theorem NV (l:List UInt8) (b:UInt8):BH (l++[b])=BH l *256+(b.toNat:Int):=by simp[BH]
theorem QJ (l:List UInt8):∀a:Int,0<=a->0<=l.foldl (fun a b=>a *256+(b.toNat:Int)) a/\l.foldl (fun a b=>a *256+(b.toNat:Int)) a<(a+1) *256^l.length:=by
 induction l with
 |nil=>intro a ha;simp;omega
 |cons b l ih=>
  intro a ha;have hb:=b.toNat_lt;obtain⟨h1,h2⟩:=ih (a *256+(b.toNat:Int)) (by omega);refine⟨h1,Int.lt_of_lt_of_le h2 ?_⟩;rw[List.length_cons,Int.pow_succ,←Int.mul_assoc,Int.mul_right_comm];exact Int.mul_le_mul_of_nonneg_right (by omega) (Int.pow_nonneg (by omega))
theorem Io (l:List UInt8):0<=BH l/\BH l<256^l.length:=by
 have:=QJ l 0 (Int.le_refl _);simpa [BH] using this
theorem Pj (a b:Nat) (ha:a<2^30) (hb:b<256):bits .or .i64 ((a:Int) *256) (b:Int)=(a:Int) *256+b:=by
 have e0:((a:Int) *256)=((a *256:Nat):Int):=by omega
 have e2:a *256|||b=a *256+b:=by
  have:=Nat.shiftLeft_add_eq_or_of_lt (i:=8) (b:=b) (by omega) a;rw[Nat.shiftLeft_eq,show(2:Nat)^8=256 from rfl] at this;omega
 have e1:(BitVec.ofInt 64 ((a:Int) *256)|||BitVec.ofInt 64 (b:Int)).toNat=a *256+b:=by
  rw[e0,BitVec.toNat_or,BitVec.ofInt_natCast,BitVec.ofInt_natCast,BitVec.toNat_ofNat,BitVec.toNat_ofNat,Nat.mod_eq_of_lt (by omega),Nat.mod_eq_of_lt (by omega),e2]
 show IntKind.i64.wrap ((BitVec.ofInt 64 ((a:Int) *256)|||BitVec.ofInt 64 (b:Int)).toNat:Int)=_;rw[e1,Im _ (by omega) (by omega)];omega
theorem EJ (b:Nat) (rest:ByteArray) (kind:Int) (bad:Bool) (n:Nat) (gt:TypeId) (gv:Value) (w:World) (h:CG w b rest kind bad) (hn:n<=4) (hg:w.cell? ⟨6,0,none⟩=some (.iface gt gv)):
 Calls prog 79 #[.pointer (some ⟨b,0,none⟩),.int .i64 (n:Int)] w fun e w'=>e=.returned (.int .i64 (BH (AL rest bad n).1.data.toList))/\CG w' b (AL rest bad n).2.1 kind (AL rest bad n).2.2/\w.grownBy w' (some b):=by
 have zF:(AL rest bad n).1.size<=4:=by
  unfold AL;split
  ·exact Nat.zero_le _
  ·split
   ·exact Nat.zero_le _
   ·simp;omega
 go_enter func79,ntmps79;go_wp2_with fail;refine(FL b rest kind bad n gt gv w h (fun _=>by omega) hg).mono ?_;rintro e w1 ⟨rfl,h1,g1⟩;have H1:Hid _:=And.intro h1 g1;clear h1 g1 h hg;obtain⟨tk,zC⟩:∃tk,tk=(AL rest bad n).1:=⟨_,rfl⟩;rw[←zC] at zF ⊢;have HK:Hid _:=zC;clear zC;go_wp2
 go_loop [6,13] (fun x i=>∃k:Nat,k<=tk.size/\i=.int .i64 k/\x=.int .i64 (BH (tk.data.toList.take k))) (fun _ i=>tk.size -(intOf i).toNat)
 case atStart=>exact⟨0,Nat.zero_le _,rfl,rfl⟩
 case round=>
  obtain⟨k,hk,rfl,rfl⟩:=hrel;by_cases hlt:k<tk.size
  ·have hx:=Io (tk.data.toList.take k)
   have zA:BH (tk.data.toList.take (k+1))=BH (tk.data.toList.take k) *256+(tk[k].toNat:Int):=by
    rw[←NV,Uv (by simpa using hlt)];rfl
   have zG:BH (tk.data.toList.take k)<16777216:=by
    have h2:=hx.2;have zD:(tk.data.toList.take k).length=0∨(tk.data.toList.take k).length=1∨(tk.data.toList.take k).length=2∨(tk.data.toList.take k).length=3:=by simp;omega
    rcases zD with hl|hl|hl|hl<;>rw[hl] at h2<;>simp at h2<;>omega
   obtain⟨X,hX⟩:∃X:Nat,BH (tk.data.toList.take k)=(X:Int):=⟨_,(Int.toNat_of_nonneg hx.1).symm⟩;have zE:=Pj X tk[k].toNat (by omega) tk[k].toNat_lt;rw[hX] at zA ⊢;have zH:IntKind.i64.wrap ((X:Int) *256)=(X:Int) *256:=Im _ (by omega) (by omega);clear hx;go_wp2;exact⟨⟨k+1,by omega,by go_num,by rw[zA,Fu,zE]⟩,by simp[intOf];omega⟩
  ·obtain rfl:k=tk.size:=by omega
   have zB:tk.data.toList.take tk.size=tk.data.toList:=Uw (by simp);rw[zB];go_wp2;go_ret;exact⟨by rw[←HK.o];rfl,H1.o⟩
end Go.Proofs.YtflhhhnlhlaehaaGreatDoor
