import Derived.Test.YtpekbmegopfhfaaGreatDoorK27
import Derived.Deep.MidRow
import Derived.Laws.ResultCell
set_option maxRecDepth 100000
set_option maxHeartbeats 16000000
namespace Go.Proofs.YtpekbmegopfhfaaGreatDoor
open Go.ChangeShapes Go.WideShapes Go.ChangeAt Go.RowKit _root_.Go.Proofs.Tryz
theorem Bq {V:List Nat} {w w':World} {lo:Nat} {e:TypeId} {size:Nat} {v:Value} {n:Nat} {xs:List Value} (h:w.ownsRow lo e size v n xs) (ht:Tn V w w') (hV:∀b∈V,b<lo):w'.ownsRow lo e size v n xs:=
 Ah h (fun q hq=>ht.block q (Ac h hq).2 (fun hin=>by have h1:=hV q hin;have h2:=(Ac h hq).1;omega))
theorem Aa.there {w:World} {B:Nat} {l:List Value} (h:Aa w B l):w.there B 0 l.length:=fun j hj=>by
 obtain⟨h1,h2⟩:=h j _ (XD hj);rw[Nat.zero_add];exact⟨by rw[h1];rfl,h2⟩
theorem Aa.range {w:World} {B:Nat} {l:List Value} (h:Aa w B l):w.rangeAt B 0 l:=fun j v hv=>by
 rw[Nat.zero_add];exact(h j v hv).1
theorem AL (B:Nat):∀(vs:List Value) (o:Nat) (w:World),Tn [B] w (w.setCells B o vs)
 |[],_,w=>Tn.of (Below.refl _ _)
 |v::r,o,w=>(Tn.set w B o v (by simp)).trans (AL B r (o+1) (w.setCell (XL B o) v))
theorem Aa.setAll {w:World} {B:Nat} {l:List Value} (h:Aa w B l) (vs:List Value) (hl:vs.length=l.length):Aa (w.setCells B 0 vs) B vs:=fun j v hj=>by
 have zA:=(XC hj).1;have h1:=World.rangeAt_setCells_same w B 0 vs (hl▸h.there) j v hj;rw[Nat.zero_add] at h1;refine⟨h1,?_⟩;rw[World.frozen?_setCells];exact(h j _ (XD (by omega))).2
theorem CG {P:Program} {fn:Func} {p:Tmp} {ty:TypeId} (h:fn.results= #[.cell p ty]) (tmps:Array Value) (w:World) (b:Nat) (cs:List Value) (d:TypeDesc)
 (hp:tmps.getD p undef=.pointer (some ⟨b,0,none⟩)) (hc:w.rangeAt b 0 cs) (hu:P.underlying ty=some d) (hd:d.isRow=true) (hi:(P.info? ty).map (·.size)=some cs.length):
 (results fn tmps).run P w=.ok (.agg cs.toArray) w:=by
 have zA:tmps[p]?.getD undef=.pointer (some ⟨b,0,none⟩):=by simpa using hp
 simp[results,h,zA,asAddr,run_loadVar_mid w b 0 ty cs d hc hu hd hi]
theorem CN {P:Program} {fn:Func} {p u:Tmp} {ty:TypeId} {x:Value} (h:fn.results= #[.cell p ty,.tmp u]) (tmps:Array Value) (w:World) (b:Nat) (cs:List Value) (d:TypeDesc)
 (hp:tmps.getD p undef=.pointer (some ⟨b,0,none⟩)) (hx:tmps.getD u undef=x) (hc:w.rangeAt b 0 cs) (hu:P.underlying ty=some d) (hd:d.isRow=true) (hi:(P.info? ty).map (·.size)=some cs.length):
 (results fn tmps).run P w=.ok (.tuple #[.agg cs.toArray,x]) w:=by
 rw[results_cell_tmp h,hp,hx];simp[asAddr,run_loadVar_mid w b 0 ty cs d hc hu hd hi]
def Xo (w:World) (lo:Nat) (a:Va) (v:Vd):Prop:=
 ∃(g k g3 q3 r3 g5 k5 lo1 lo2:Nat) (w2:World),a=⟨some ⟨g,0,none⟩,v.ss.length,some ⟨k,0,none⟩,v.tt.length,some ⟨g3,0,none⟩,v.ks.length,some ⟨q3,0,none⟩,v.ps.length,some ⟨r3,0,none⟩,v.ls.length,some ⟨g5,0,none⟩,v.qs.length,some ⟨k5,0,none⟩,v.ms.length⟩/\
  g<k/\k<lo1/\lo<=lo1/\lo1<=lo2/\lo2<=w.heap.size/\g5<k5/\
  w.ownsRow lo 9 1 (.slice (some ⟨g,0,none⟩) v.ss.length v.ss.length) v.ss.length (v.ss.map Value.string)/\w.ownsRow lo 9 1 (.slice (some ⟨k,0,none⟩) v.tt.length v.tt.length) v.tt.length (v.tt.map Value.string)/\
  WC w2 lo1 g3 q3 r3 v.ks v.ps v.ls/\w2.heap.size<=lo2/\(∀b,lo1<=b->b<w2.heap.size->w.heap[b]?=w2.heap[b]?)/\
  w.ownsRow lo2 9 1 (.slice (some ⟨g5,0,none⟩) v.qs.length v.qs.length) v.qs.length (v.qs.map Value.string)/\w.ownsRow lo2 9 1 (.slice (some ⟨k5,0,none⟩) v.ms.length v.ms.length) v.ms.length (v.ms.map Value.string)
structure FL (n kmax feq fmark:Nat) (R:Nat->World->List Value->Prop) (O:Nat->Nat->World->List Value->Prop) (M:Nat->Nat->World->List Value->Nat->Prop):Prop where
 eq:∀(X:World) (cs ds:List Value),R X.heap.size X cs->R X.heap.size X ds->Calls prog feq #[.agg cs.toArray,.agg ds.toArray] X fun e X'=>e=.returned (.bool true)/\Xz X X'
 mark:∀(lo N:Nat) (X:World) (cs:List Value) (k:Nat),O lo N X cs->1<=k->k<=kmax->Calls prog fmark #[.agg cs.toArray,XJ k] X fun e X'=>(∃K:Nat,e=.returned (XJ K)/\1<=K/\K<=90000000/\M lo N X' cs K)/\Below lo X X'/\∀q,N<=q->q<X.heap.size->X'.heap[q]?=X.heap[q]?
 keepR:∀(L:Nat) (X X':World) (cs:List Value),R L X cs->Below L X X'->R L X' cs
 monoR:∀(L L':Nat) (X:World) (cs:List Value),R L X cs->L<=L'->R L' X cs
 keepO:∀(lo N:Nat) (X X':World) (cs:List Value),O lo N X cs->X.heap.size<=X'.heap.size->(∀q,lo<=q->q<N->X'.heap[q]?=X.heap[q]?)->O lo N X' cs
 keepM:∀(lo N:Nat) (X X':World) (cs:List Value) (K:Nat),M lo N X cs K->X.heap.size<=X'.heap.size->(∀q,lo<=q->q<N->X'.heap[q]?=X.heap[q]?)->M lo N X' cs K
 ofO:∀(lo N:Nat) (X:World) (cs:List Value),O lo N X cs->N<=X.heap.size/\R X.heap.size X cs
 lenR:∀(L:Nat) (X:World) (cs:List Value),R L X cs->cs.length=n/\∀u∈cs,u.oneCell'=true
structure L1 (RA:Nat->World->List Value->Prop) (w X:World) (A sc:List Value) (pS L:Nat):Prop where
 bel:Below w.heap.size w X
 bA:Aa X w.heap.size A
 bS:Aa X pS sc
 rS:RA L X sc
 l0:w.heap.size<L
 l1:pS<L
 le:L<=X.heap.size
theorem L1.keep {n zB zC zA:Nat} {RA:Nat->World->List Value->Prop} {OA:Nat->Nat->World->List Value->Prop} {MA:Nat->Nat->World->List Value->Nat->Prop} (k:FL n zB zC zA RA OA MA) {w X X':World} {A sc:List Value} {pS L:Nat} (h:L1 RA w X A sc pS L) (hb:Below L X X'):L1 RA w X' A sc pS L:=
 ⟨h.bel.trans (hb.mono (by have:=h.l0;omega)),Aa.same h.bA (hb.block _ h.l0),Aa.same h.bS (hb.block _ h.l1),k.keepR _ _ _ _ h.rS hb,h.l0,h.l1,XI h.le hb.size⟩
structure L2 (OX:Nat->Nat->World->List Value->Prop) (X:World) (xc:List Value) (L pX N:Nat):Prop where
 bX:Aa X pX xc
 oX:OX L N X xc
 l1:N<=pX
 le:pX<X.heap.size
theorem L2.keep {n zB zC zA:Nat} {RX:Nat->World->List Value->Prop} {OX:Nat->Nat->World->List Value->Prop} {MX:Nat->Nat->World->List Value->Nat->Prop} (k:FL n zB zC zA RX OX MX) {X X':World} {xc:List Value} {L pX N:Nat} (h:L2 OX X xc L pX N) (hb:Xz X X'):L2 OX X' xc L pX N:=
 ⟨Aa.same h.bX (hb.block _ h.le),k.keepO _ _ _ _ _ h.oX hb.size (fun q _ h2=>hb.block q (by have:=h.l1;have:=h.le;omega)),h.l1,XH h.le hb.size⟩
structure L3 (P:Nat->Nat->World->List Value->Prop) (X:World) (gc:List Value) (lo pG N:Nat):Prop where
 bG:Aa X pG gc
 oG:P lo N X gc
 l1:N<=pG
 le:pG<X.heap.size
theorem L3.stays {P:Nat->Nat->World->List Value->Prop} (k:∀(lo N:Nat) (X X':World) (cs:List Value),P lo N X cs->X.heap.size<=X'.heap.size->(∀q,lo<=q->q<N->X'.heap[q]?=X.heap[q]?)->P lo N X' cs) {X X':World} {gc:List Value} {lo pG N B:Nat} (h:L3 P X gc lo pG N) (hB:B<=lo) (zA:B<=pG) (hz:X.heap.size<=X'.heap.size) (hs:∀q,B<=q->q<X.heap.size->X'.heap[q]?=X.heap[q]?):L3 P X' gc lo pG N:=
 ⟨Aa.same h.bG (hs _ zA h.le),k _ _ _ _ _ h.oG hz (fun q h1 h2=>hs q (by omega) (by have:=h.l1;have:=h.le;omega)),h.l1,XH h.le hz⟩
theorem L3.keep {P:Nat->Nat->World->List Value->Prop} (k:∀(lo N:Nat) (X X':World) (cs:List Value),P lo N X cs->X.heap.size<=X'.heap.size->(∀q,lo<=q->q<N->X'.heap[q]?=X.heap[q]?)->P lo N X' cs) {X X':World} {gc:List Value} {lo pG N:Nat} (h:L3 P X gc lo pG N) (hb:Xz X X'):L3 P X' gc lo pG N:=
 h.stays (B:=0) k (Nat.zero_le _) (Nat.zero_le _) hb.size (fun q _ h2=>hb.block q h2)
theorem boxed {X:World} {cs z:List Value} {T:TypeId} (hl:cs.length=z.length):Aa ((X.alloc (.cells z.toArray T)).setCells X.heap.size 0 cs) X.heap.size cs/\Xz X ((X.alloc (.cells z.toArray T)).setCells X.heap.size 0 cs)/\((X.alloc (.cells z.toArray T)).setCells X.heap.size 0 cs).heap.size=X.heap.size+1:=by
 have h1:=Aa.new X z T;have ht:=AL X.heap.size cs 0 (X.alloc (.cells z.toArray T));refine⟨h1.setAll cs hl,(XA).trans (ht.below (by simp) (by simp)),?_⟩;rw[KV];simp
theorem DB {P:Program} {ops:Array Oper} {rest:List Oper} {op:Oper} {a:Act} {w:World} {Q:Exit->Act->World->Prop} (hw:Region.wanted op (yielded ops a.tmps)=true) (ty:TypeId) (x:Operand) (ho:op.op=.load ty x)
 (b o:Nat) (hx:a.eval x=.pointer (some ⟨b,o,none⟩)) (cs:List Value) (d:TypeDesc) (hc:w.rangeAt b o cs)
 (hu:P.underlying ty=some d) (hd:d.isRow=true) (hi:(P.info? ty).map (·.size)=some cs.length)
 (h:wpList P ops Q rest (a.put op.dst (.agg cs.toArray)) w):wpList P ops Q (op::rest) a w:=
 wpList_step fun _ hK=>by rw[if_pos hw];exact wp_load_mid ty x ho b o hx cs d hc hu hd hi (hK _ _ h)
end Go.Proofs.YtpekbmegopfhfaaGreatDoor
