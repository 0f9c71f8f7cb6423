import Derived.Test.YtpekbmegopfhfaaGreatDoorW05
import Derived.Deep.DeepCutAuto
import Derived.Deep.RegionHeld3
import Derived.Deep.DrawnRows
import Derived.Test.YtpekbmegopfhfaaGreatDoorW04
import Derived.Deep.RegionLaw
namespace Go.Proofs.YtpekbmegopfhfaaGreatDoor
open Go.ChangeShapes Go.WideShapes Go.ChangeAt Go.RowKit
attribute [local go_sem↓] Go.wp_at_zero Go.wp_at_succ
theorem CellsAt.same {w w':World} {B:Nat} {l:List Value} (h:CellsAt w B l) (hb:w'.heap[B]?=w.heap[B]?):CellsAt w' B l:=
 fun j v hj=>⟨(World.cell?_of_block (a:=⟨B,j,none⟩) hb).trans (h j v hj).1,(World.frozen?_of_block (a:=⟨B,j,none⟩) hb).trans (h j v hj).2⟩
theorem alloc_same (w:World) (o:Obj) {b:Nat} (h:b<w.heap.size):(w.alloc o).heap[b]?=w.heap[b]?:=Below.heap_alloc w o b h
theorem sk8 {w w':World} {B:Nat} {s:ByteArray} (h:w'.heap[B]?=w.heap[B]?) (hc:CellsAt w B [.int .u8 (kB s 0),.int .u8 (kB s 1),.int .u8 (kB s 2),.int .u8 (kB s 3),.int .u8 (kB s 4),.int .u8 (kB s 5),.int .u8 (kB s 6),.int .u8 (kB s 7)]):
 w'.cell? ⟨B,0,none⟩=some (.int .u8 (kB s 0))/\w'.cell? ⟨B,1,none⟩=some (.int .u8 (kB s 1))/\w'.cell? ⟨B,2,none⟩=some (.int .u8 (kB s 2))/\w'.cell? ⟨B,3,none⟩=some (.int .u8 (kB s 3))/\w'.cell? ⟨B,4,none⟩=some (.int .u8 (kB s 4))/\w'.cell? ⟨B,5,none⟩=some (.int .u8 (kB s 5))/\w'.cell? ⟨B,6,none⟩=some (.int .u8 (kB s 6))/\w'.cell? ⟨B,7,none⟩=some (.int .u8 (kB s 7)):=by
 have:=CellsAt.same hc h
 exact ⟨(this 0 _ rfl).1,(this 1 _ rfl).1,(this 2 _ rfl).1,(this 3 _ rfl).1,(this 4 _ rfl).1,(this 5 _ rfl).1,(this 6 _ rfl).1,(this 7 _ rfl).1⟩
end Go.Proofs.YtpekbmegopfhfaaGreatDoor
namespace Go.Proofs.YtpekbmegopfhfaaGreatDoor
open Go.ChangeShapes Go.WideShapes Go.ChangeAt Go.RowKit
theorem sq7 {w:World} {b:Nat} {wd now given births:Int} {T P L:Value} (h:SBox w b wd now given births T P L):w.cell? ⟨b,0,none⟩=some (.int .i64 wd)/\w.cell? ⟨b,1,none⟩=some (.int .i64 now)/\w.cell? ⟨b,2,none⟩=some (.int .i64 given)/\w.cell? ⟨b,3,none⟩=some (.int .i64 births)/\w.cell? ⟨b,4,none⟩=some T/\w.cell? ⟨b,5,none⟩=some P/\w.cell? ⟨b,6,none⟩=some L:=
 ⟨h.1,h.2.1,h.2.2.1,h.2.2.2.1,h.2.2.2.2.1,h.2.2.2.2.2.1,h.2.2.2.2.2.2.1⟩
def vB (d m:Nat) (O P L:Value):List Nat:=d::m::(O.ownBlock.toList++(P.ownBlock.toList++L.ownBlock.toList))
def RefV (w:World) (base:Nat) (V:List Nat) (a:Option Addr) (ss:List ByteArray):Prop:=
 ss=[]∨∃b off,a=some ⟨b,off,none⟩/\b<w.heap.size/\b∉V/\(b<base∨∃cur fz,w.heap[b]?=some (.cells cur 9 fz))/\∀i s,ss[i]?=some s->w.cell? ⟨b,off+i,none⟩=some (.string s)
theorem RefV.row {w:World} {base:Nat} {V:List Nat} {a:Option Addr} {ss:List ByteArray} (h:RefV w base V a ss):SRow w w.heap.size a ss:=by
 rcases h with h|⟨b,off,ha,hb,_,_,hc⟩
 ·exact .inl h
 ·exact .inr ⟨b,off,ha,hb,hc⟩
def HoldsV (w:World) (base:Nat) (V:List Nat) (wd:Int) (ks:List Kd) (f:Lit->Option Value):Prop:=
 ∀s:ByteArray,(s.size:Int)=wd->(f (keyL s)=none/\¬There ks s)∨∃u ra rc,u∈ks/\u.sum=s/\f (keyL s)=some (keptV u ra rc)/\RefV w base V ra u.refs
theorem HoldsV.of {W w:World} {V:List Nat} {wd:Int} {ks:List Kd} {f:Lit->Option Value} (h:Holds W W.heap.size wd ks f) (hb:Below W.heap.size W w) (hV:∀b∈V,W.heap.size<=b):HoldsV w W.heap.size V wd ks f:=by
 intro s hs
 rcases h s hs with h|⟨u,ra,rc,h1,h2,h3,h4⟩
 ·exact .inl h
 ·refine .inr ⟨u,ra,rc,h1,h2,h3,?_⟩
  rcases h4 with h4|⟨b,off,ha,hlt,hc⟩
  ·exact .inl h4
  ·exact .inr ⟨b,off,ha,Nat.lt_of_lt_of_le hlt hb.size,fun hv=>by have:=hV b hv;omega,.inl hlt,fun i s hs=>(hb.cell (p:=⟨b,off+i,none⟩) hlt).trans (hc i s hs)⟩
structure Dr (w:World) (base d m:Nat) (O P L:Value) (wd now given births:Int) (ks:List Kd) (ps:List Pd) (ls:List Ld):Prop where
 box:CellsAt w d [.int .i64 wd,.map (some m),.int .i64 now,.int .i64 given,.int .i64 births,O,P,L]
 map:∃n f,n<=1000000+births.toNat/\KMap w 139 m n f/\HoldsV w base (vB d m O P L) wd ks f
 ord:w.ownsRow base 139 8 O ks.length (cells8 (ks.map (·.sum)))
 pin:w.ownsRow base 134 2 P ps.length (rowC pC ps)
 lea:w.ownsRow base 137 3 L ls.length (rowC lC ls)
 bd:base<=d
 bm:base<=m
 ap:(vB d m O P L).Nodup
theorem HoldsV.below {w w':World} {base:Nat} {V:List Nat} {wd:Int} {ks:List Kd} {f:Lit->Option Value} (h:HoldsV w base V wd ks f) (hb:Below w.heap.size w w'):HoldsV w' base V wd ks f:=by
 intro s hs
 rcases h s hs with h|⟨u,ra,rc,h1,h2,h3,h4⟩
 ·exact .inl h
 ·refine .inr ⟨u,ra,rc,h1,h2,h3,?_⟩
  rcases h4 with h4|⟨b,off,ha,hlt,hv,ht,hc⟩
  ·exact .inl h4
  ·exact .inr ⟨b,off,ha,Nat.lt_of_lt_of_le hlt hb.size,hv,(by rw [hb.block b hlt];exact ht),fun i s hs=>(hb.cell (p:=⟨b,off+i,none⟩) hlt).trans (hc i s hs)⟩
theorem own_below {w w':World} {base:Nat} {e:TypeId} {size:Nat} {v:Value} {n:Nat} {xs:List Value} (h:w.ownsRow base e size v n xs) (hb:Below w.heap.size w w'):w'.ownsRow base e size v n xs:=by
 refine ⟨h.1,?_⟩
 rcases h.2 with hn|⟨g,cap,cur,hv,hb1,hg,rest⟩
 ·exact .inl hn
 ·exact .inr ⟨g,cap,cur,hv,hb1,(hb.block g (Array.getElem?_eq_some_iff.1 hg).1).trans hg,rest⟩
theorem Dr.below {w w':World} {base d m:Nat} {O P L:Value} {wd now given births:Int} {ks:List Kd} {ps:List Pd} {ls:List Ld} (h:Dr w base d m O P L wd now given births ks ps ls) (hb:Below w.heap.size w w'):Dr w' base d m O P L wd now given births ks ps ls:=by
 obtain ⟨n,f,h1,h2,h3⟩:=h.map
 exact ⟨h.box.below hb,⟨n,f,h1,h2.keep hb h2.lt,h3.below hb⟩,own_below h.ord hb,own_below h.pin hb,own_below h.lea hb,h.bd,h.bm,h.ap⟩
theorem own_lt {w:World} {base:Nat} {e:TypeId} {size:Nat} {v:Value} {n:Nat} {xs:List Value} (h:w.ownsRow base e size v n xs) {g:Nat} (hg:v.ownBlock=some g):base<=g/\g<w.heap.size:=by
 rcases h.2 with ⟨rfl,_⟩|⟨g',cap,cur,rfl,hb,hg',_⟩
 ·cases hg
 ·cases hg
  exact ⟨hb,(Array.getElem?_eq_some_iff.1 hg').1⟩
theorem own_at {w w':World} {base B:Nat} {e:TypeId} {size:Nat} {v:Value} {n:Nat} {xs:List Value} (h:w.ownsRow base e size v n xs) (hb:Below B w w') (hB:∀g,v.ownBlock=some g->g<B):w'.ownsRow base e size v n xs:=by
 refine ⟨h.1,?_⟩
 rcases h.2 with hn|⟨g,cap,cur,rfl,hb1,hg,rest⟩
 ·exact .inl hn
 ·exact .inr ⟨g,cap,cur,rfl,hb1,(hb.block g (hB g rfl)).trans hg,rest⟩
theorem opush (w:World) (base:Nat) (v:Value) (ss:List ByteArray) (ho:w.ownsRow base 139 8 v ss.length (cells8 ss)) (s:ByteArray) (hn:ss.length<=1000000) (hbase:base<=w.heap.size) (ty:TypeId):
 ∃g cap w',(Builtin.append_ #[129,129] ty #[v,.slice (some ⟨w.heap.size,0,none⟩) 1 1]).run Tryz.prog (w.alloc (oneK s))=.ok (.slice (some ⟨g,0,none⟩) (ss.length+1) cap) w'/\w'.ownsRow base 139 8 (.slice (some ⟨g,0,none⟩) (ss.length+1) cap) (ss++[s]).length (cells8 (ss++[s]))/\w.grownBy w' v.ownBlock/\(v.ownBlock=some g∨g=w.heap.size+1):=by
 obtain ⟨i0,hi,hz0,hz1,hz2⟩:=info_parts Tryz.infoKey
 have ho':=own_below ho ((Below.refl _ _).alloc (Nat.le_refl _) (oneK s))
 have h1:=R8.one w s
 have hc:∀j u,(cells8 [s])[j]?=some u->(w.alloc (oneK s)).cell? ((⟨w.heap.size,0,none⟩:Addr).add j)=some u:=by
  rcases h1 with ⟨e,_⟩|⟨g,off,cap,e,_,hc⟩
  ·cases e
  ·cases e
   exact R8.cells hc
 obtain ⟨v',w',hr,h2,h3,_,h5⟩:=run_append_own_at (P:=Tryz.prog) (w.alloc (oneK s)) base 129 ty 139 i0 _ 8 8 Tryz.underlying129 hi hz0 hz1 hz2 rfl (by decide) v ss.length (cells8 ss) ho' ⟨w.heap.size,0,none⟩ 1 1 (cells8 [s]) (cells8_len [s]) hc (cells8_one [s]) (by unfold maxLen;omega) (by omega) (by simp;omega)
 obtain ⟨g,cap,rfl,_,_⟩:=own_form h2 (fun e=>by subst e;rcases h2.2 with ⟨_,hn⟩|⟨_,_,_,e,_⟩<;>first|omega|cases e)
 refine ⟨g,cap,w',hr,?_,(World.grownBy_alloc w (oneK s) _).trans h3,?_⟩
 ·rw [cells8_append,List.length_append]
  exact h2
 ·rcases h5 with h5|h5
  ·exact .inl h5.symm
  ·right
   simpa [Value.ownBlock] using h5
end Go.Proofs.YtpekbmegopfhfaaGreatDoor
