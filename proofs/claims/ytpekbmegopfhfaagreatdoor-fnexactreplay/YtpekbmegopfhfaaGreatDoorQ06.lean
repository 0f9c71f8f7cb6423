import Derived.Test.YtpekbmegopfhfaaGreatDoorQ05
import Derived.Deep.DeepCutAuto
import Derived.Deep.RegionHeld3
import Derived.Deep.DrawnRows
import Derived.Test.YtpekbmegopfhfaaGreatDoorQ04
import Derived.Deep.RegionLaw
namespace Go.Proofs.YtpekbmegopfhfaaGreatDoor
open Go.ChangeShapes Go.WideShapes Go.ChangeAt Go.RowKit
attribute [local go_sem↓] Go.wp_at_zero Go.wp_at_succ
theorem step_callL {P:Program} {ops:Array Oper} {o:Oper} {a:Act} {w:World} {K:Act->World->Prop} {Q:Exit->Act->World->Prop} {E:Prop} (hgd:o.guard=none) (f:FuncId) (args:Array Value) (hrun:(execOp a.eval o).run P w=.ok (.enter f args) w)
 {post:Ending->World->Prop} (hc:Calls P f args w post) (h:∀e w',post e w'->∃v,e=.returned v/\K (a.put o.dst v) w'):if Region.wanted o (yielded ops a.tmps)=true then Oper.wp P o a w K Q else E:=by
 have hw:Region.wanted o (yielded ops a.tmps)=true:=by simp[Region.wanted,hgd]
 rw[if_pos hw];unfold Oper.wp;rw[hrun,Oper.upon_enter];refine hc.mono fun e w' hp=> ?_;obtain⟨v,rfl,hk⟩:=h e w' hp;exact hk
theorem map_snoc {α:Type} (g:ByteArray->α) {rs:List ByteArray} {m:Nat} {r:ByteArray} (h:rs[m]?=some r):(rs.take (m+1)).map g=(rs.take m).map g++[g r]:=by
 obtain⟨hlt,rfl⟩:=List.getElem?_eq_some_iff.1 h;rw[List.take_succ_eq_append_getElem hlt,List.map_append];rfl
theorem zeroRow8 (w:World):(zeroValue 129).run Tryz.prog w=.ok (.slice none 0 0) w:=by kernel_rfl
theorem R8.stay1 {w w':World} {g c:Nat} {ts:List ByteArray} {B B' b:Nat} (h:R8 w B (.slice (some ⟨g,0,none⟩) ts.length c) ts) (hg:w.grownBy w' (some b)) (hne:g≠b) (hlt:g<w.heap.size) (hB:B<=B'):R8 w' B' (.slice (some ⟨g,0,none⟩) ts.length c) ts:=
 (h.stays (fun k e=>by cases e;exact hg.block g hlt (fun e=>hne (Option.some.inj e)))).mono hB
theorem R8.one_stay {w3 wC:World} {b:Nat} (r:ByteArray) (hg:(w3.alloc (oneK r)).grownBy wC (some b)) (hne:w3.heap.size≠b):R8 wC wC.heap.size (.slice (some ⟨w3.heap.size,0,none⟩) 1 1) [r]:=
 R8.stay1 (ts:=[r]) (g:=w3.heap.size) (c:=1) (R8.one w3 r) hg hne (by simp) (by have:=hg.size;simp at this;omega)
theorem CellsAt.same {w w':World} {B:Nat} {l:List Value} (h:CellsAt w B l) (hb:w'.heap[B]?=w.heap[B]?):CellsAt w' B l:=
 fun j v hj=>⟨(World.cell?_of_block (a:=⟨B,j,none⟩) hb).trans (h j v hj).1,(World.frozen?_of_block (a:=⟨B,j,none⟩) hb).trans (h j v hj).2⟩
theorem alloc_same (w:World) (o:Obj) {b:Nat} (h:b<w.heap.size):(w.alloc o).heap[b]?=w.heap[b]?:=Below.heap_alloc w o b h
theorem sk8 {w w':World} {B:Nat} {s:ByteArray} (h:w'.heap[B]?=w.heap[B]?) (hc:CellsAt w B [.int .u8 (kB s 0),.int .u8 (kB s 1),.int .u8 (kB s 2),.int .u8 (kB s 3),.int .u8 (kB s 4),.int .u8 (kB s 5),.int .u8 (kB s 6),.int .u8 (kB s 7)]):
 w'.cell? ⟨B,0,none⟩=some (.int .u8 (kB s 0))/\w'.cell? ⟨B,1,none⟩=some (.int .u8 (kB s 1))/\w'.cell? ⟨B,2,none⟩=some (.int .u8 (kB s 2))/\w'.cell? ⟨B,3,none⟩=some (.int .u8 (kB s 3))/\w'.cell? ⟨B,4,none⟩=some (.int .u8 (kB s 4))/\w'.cell? ⟨B,5,none⟩=some (.int .u8 (kB s 5))/\w'.cell? ⟨B,6,none⟩=some (.int .u8 (kB s 6))/\w'.cell? ⟨B,7,none⟩=some (.int .u8 (kB s 7)):=by
 have:=CellsAt.same hc h;exact⟨(this 0 _ rfl).1,(this 1 _ rfl).1,(this 2 _ rfl).1,(this 3 _ rfl).1,(this 4 _ rfl).1,(this 5 _ rfl).1,(this 6 _ rfl).1,(this 7 _ rfl).1⟩
end Go.Proofs.YtpekbmegopfhfaaGreatDoor
namespace Go.Proofs.YtpekbmegopfhfaaGreatDoor
open Go.ChangeShapes Go.WideShapes Go.ChangeAt Go.RowKit
theorem sq7 {w:World} {b:Nat} {wd now given births:Int} {T P L:Value} (h:SBox w b wd now given births T P L):w.cell? ⟨b,0,none⟩=some (.int .i64 wd)/\w.cell? ⟨b,1,none⟩=some (.int .i64 now)/\w.cell? ⟨b,2,none⟩=some (.int .i64 given)/\w.cell? ⟨b,3,none⟩=some (.int .i64 births)/\w.cell? ⟨b,4,none⟩=some T/\w.cell? ⟨b,5,none⟩=some P/\w.cell? ⟨b,6,none⟩=some L:=
 ⟨h.1,h.2.1,h.2.2.1,h.2.2.2.1,h.2.2.2.2.1,h.2.2.2.2.2.1,h.2.2.2.2.2.2.1⟩
def vB (d m:Nat) (O P L:Value):List Nat:=d::m::(O.ownBlock.toList++(P.ownBlock.toList++L.ownBlock.toList))
def RefV (w:World) (base:Nat) (V:List Nat) (a:Option Addr) (ss:List ByteArray):Prop:=
 ss=[]∨∃b off,a=some ⟨b,off,none⟩/\b<w.heap.size/\b∉V/\(b<base∨∃cur fz,w.heap[b]?=some (.cells cur 9 fz))/\∀i s,ss[i]?=some s->w.cell? ⟨b,off+i,none⟩=some (.string s)
theorem RefV.row {w:World} {base:Nat} {V:List Nat} {a:Option Addr} {ss:List ByteArray} (h:RefV w base V a ss):SRow w w.heap.size a ss:=by
 rcases h with h|⟨b,off,ha,hb,_,_,hc⟩
 ·exact .inl h
 ·exact .inr ⟨b,off,ha,hb,hc⟩
def HoldsV (w:World) (base:Nat) (V:List Nat) (wd:Int) (ks:List Kd) (f:Lit->Option Value):Prop:=
 ∀s:ByteArray,(s.size:Int)=wd->(f (keyL s)=none/\¬There ks s)∨∃u ra rc,u∈ks/\u.sum=s/\f (keyL s)=some (keptV u ra rc)/\RefV w base V ra u.refs
theorem HoldsV.of {W w:World} {V:List Nat} {wd:Int} {ks:List Kd} {f:Lit->Option Value} (h:Holds W W.heap.size wd ks f) (hb:Below W.heap.size W w) (hV:∀b∈V,W.heap.size<=b):HoldsV w W.heap.size V wd ks f:=by
 intro s hs;rcases h s hs with h|⟨u,ra,rc,h1,h2,h3,h4⟩
 ·exact .inl h
 ·refine .inr ⟨u,ra,rc,h1,h2,h3,?_⟩
  rcases h4 with h4|⟨b,off,ha,hlt,hc⟩
  ·exact .inl h4
  ·exact .inr ⟨b,off,ha,Nat.lt_of_lt_of_le hlt hb.size,fun hv=>by have:=hV b hv;omega,.inl hlt,fun i s hs=>(hb.cell (p:=⟨b,off+i,none⟩) hlt).trans (hc i s hs)⟩
structure Dr (w:World) (base d m:Nat) (O P L:Value) (wd now given births:Int) (ks:List Kd) (ps:List Pd) (ls:List Ld):Prop where
 box:CellsAt w d [.int .i64 wd,.map (some m),.int .i64 now,.int .i64 given,.int .i64 births,O,P,L]
 map:∃n f,n<=1000000+births.toNat/\KMap w 139 m n f/\HoldsV w base (vB d m O P L) wd ks f
 ord:w.ownsRow base 139 8 O ks.length (cells8 (ks.map (·.sum)))
 pin:w.ownsRow base 134 2 P ps.length (rowC pC ps)
 lea:w.ownsRow base 137 3 L ls.length (rowC lC ls)
 bd:base<=d
 bm:base<=m
 ap:(vB d m O P L).Nodup
theorem HoldsV.below {w w':World} {base:Nat} {V:List Nat} {wd:Int} {ks:List Kd} {f:Lit->Option Value} (h:HoldsV w base V wd ks f) (hb:Below w.heap.size w w'):HoldsV w' base V wd ks f:=by
 intro s hs;rcases h s hs with h|⟨u,ra,rc,h1,h2,h3,h4⟩
 ·exact .inl h
 ·refine .inr ⟨u,ra,rc,h1,h2,h3,?_⟩
  rcases h4 with h4|⟨b,off,ha,hlt,hv,ht,hc⟩
  ·exact .inl h4
  ·exact .inr ⟨b,off,ha,Nat.lt_of_lt_of_le hlt hb.size,hv,(by rw[hb.block b hlt];exact ht),fun i s hs=>(hb.cell (p:=⟨b,off+i,none⟩) hlt).trans (hc i s hs)⟩
theorem own_below {w w':World} {base:Nat} {e:TypeId} {size:Nat} {v:Value} {n:Nat} {xs:List Value} (h:w.ownsRow base e size v n xs) (hb:Below w.heap.size w w'):w'.ownsRow base e size v n xs:=by
 refine⟨h.1,?_⟩;rcases h.2 with hn|⟨g,cap,cur,hv,hb1,hg,rest⟩
 ·exact .inl hn
 ·exact .inr ⟨g,cap,cur,hv,hb1,(hb.block g (Array.getElem?_eq_some_iff.1 hg).1).trans hg,rest⟩
theorem Dr.below {w w':World} {base d m:Nat} {O P L:Value} {wd now given births:Int} {ks:List Kd} {ps:List Pd} {ls:List Ld} (h:Dr w base d m O P L wd now given births ks ps ls) (hb:Below w.heap.size w w'):Dr w' base d m O P L wd now given births ks ps ls:=by
 obtain⟨n,f,h1,h2,h3⟩:=h.map;exact⟨h.box.below hb,⟨n,f,h1,h2.keep hb h2.lt,h3.below hb⟩,own_below h.ord hb,own_below h.pin hb,own_below h.lea hb,h.bd,h.bm,h.ap⟩
theorem own_lt {w:World} {base:Nat} {e:TypeId} {size:Nat} {v:Value} {n:Nat} {xs:List Value} (h:w.ownsRow base e size v n xs) {g:Nat} (hg:v.ownBlock=some g):base<=g/\g<w.heap.size:=by
 rcases h.2 with⟨rfl,_⟩|⟨g',cap,cur,rfl,hb,hg',_⟩
 ·cases hg
 ·cases hg
  exact⟨hb,(Array.getElem?_eq_some_iff.1 hg').1⟩
theorem own_at {w w':World} {base B:Nat} {e:TypeId} {size:Nat} {v:Value} {n:Nat} {xs:List Value} (h:w.ownsRow base e size v n xs) (hb:Below B w w') (hB:∀g,v.ownBlock=some g->g<B):w'.ownsRow base e size v n xs:=by
 refine⟨h.1,?_⟩;rcases h.2 with hn|⟨g,cap,cur,rfl,hb1,hg,rest⟩
 ·exact .inl hn
 ·exact .inr ⟨g,cap,cur,rfl,hb1,(hb.block g (hB g rfl)).trans hg,rest⟩
theorem opush (w:World) (base:Nat) (v:Value) (ss:List ByteArray) (ho:w.ownsRow base 139 8 v ss.length (cells8 ss)) (s:ByteArray) (hn:ss.length<=1000000) (hbase:base<=w.heap.size) (ty:TypeId):
 ∃g cap w',(Builtin.append_ #[129,129] ty #[v,.slice (some ⟨w.heap.size,0,none⟩) 1 1]).run Tryz.prog (w.alloc (oneK s))=.ok (.slice (some ⟨g,0,none⟩) (ss.length+1) cap) w'/\w'.ownsRow base 139 8 (.slice (some ⟨g,0,none⟩) (ss.length+1) cap) (ss++[s]).length (cells8 (ss++[s]))/\w.grownBy w' v.ownBlock/\(v.ownBlock=some g∨g=w.heap.size+1):=by
 obtain⟨i0,hi,hz0,hz1,hz2⟩:=info_parts Tryz.infoKey;have ho':=own_below ho ((Below.refl _ _).alloc (Nat.le_refl _) (oneK s));have h1:=R8.one w s;have hc:∀j u,(cells8 [s])[j]?=some u->(w.alloc (oneK s)).cell? ((⟨w.heap.size,0,none⟩:Addr).add j)=some u:=by
  rcases h1 with⟨e,_⟩|⟨g,off,cap,e,_,hc⟩
  ·cases e
  ·cases e
   exact R8.cells hc
 obtain⟨v',w',hr,h2,h3,_,h5⟩:=run_append_own_at (P:=Tryz.prog) (w.alloc (oneK s)) base 129 ty 139 i0 _ 8 8 Tryz.underlying129 hi hz0 hz1 hz2 rfl (by decide) v ss.length (cells8 ss) ho' ⟨w.heap.size,0,none⟩ 1 1 (cells8 [s]) (cells8_len [s]) hc (cells8_one [s]) (by unfold maxLen;omega) (by omega) (by simp;omega)
 obtain⟨g,cap,rfl,_,_⟩:=own_form h2 (fun e=>by subst e;rcases h2.2 with⟨_,hn⟩|⟨_,_,_,e,_⟩<;>first|omega|cases e);refine⟨g,cap,w',hr,?_,(World.grownBy_alloc w (oneK s) _).trans h3,?_⟩
 ·rw[cells8_append,List.length_append]
  exact h2
 ·rcases h5 with h5|h5
  ·exact .inl h5.symm
  ·right
   simpa [Value.ownBlock] using h5
set_option maxRecDepth 20000 in
set_option maxHeartbeats 8000000 in
theorem draftOf_any (wd now given births:Int) (a p l:Option Addr) (ac pc lc:Nat) (ks:List Kd) (ps:List Pd) (ls:List Ld) (w:World) (hrow:SRows w w.heap.size a p l ks ps ls) (hk:ks.length<=600) (hp:ps.length<=100) (hl:ls.length<=200) (hsz:∀k∈ks,(k.sum.size:Int)=wd) (h8:wd<=8):
 Calls Tryz.prog 92 #[.agg #[.int .i64 wd,.int .i64 now,.int .i64 given,.int .i64 births,.slice a ks.length ac,.slice p ps.length pc,.slice l ls.length lc]] w fun e w'=>∃d m O P L,e=.returned (.pointer (some ⟨d,0,none⟩))/\Dr w' (w.heap.size+1) d m O P L wd now given births ks ps ls/\Below w.heap.size w w':=by
 have hx:=SBox.new w wd now given births (.slice a ks.length ac) (.slice p ps.length pc) (.slice l ls.length lc) 28;obtain⟨W0,hW0⟩:∃W,W=w.alloc (.cells #[.int .i64 wd,.int .i64 now,.int .i64 given,.int .i64 births,.slice a ks.length ac,.slice p ps.length pc,.slice l ls.length lc] 28):=⟨_,rfl⟩;have hB0:Below w.heap.size w W0:=by rw[hW0];exact(Below.refl _ _).alloc (Nat.le_refl _) _
 have hz0:W0.heap.size=w.heap.size+1:=by rw[hW0];simp
 rw[←hW0] at hx;have HROW:Hid _:=hrow;have HX:Hid _:=hx;have HW0:Hid _:=hW0;have S0:=sq7 hx
 have S0d:W0.drew.cell? ⟨w.heap.size,0,none⟩=some (.int .i64 wd)/\W0.drew.cell? ⟨w.heap.size,1,none⟩=some (.int .i64 now)/\W0.drew.cell? ⟨w.heap.size,2,none⟩=some (.int .i64 given)/\W0.drew.cell? ⟨w.heap.size,3,none⟩=some (.int .i64 births)/\W0.drew.cell? ⟨w.heap.size,4,none⟩=some (.slice a ks.length ac)/\W0.drew.cell? ⟨w.heap.size,5,none⟩=some (.slice p ps.length pc)/\W0.drew.cell? ⟨w.heap.size,6,none⟩=some (.slice l ls.length lc):=S0
 have K0:KRow W0.drew W0.drew.heap.size a ks:=KRow.mono (KRow.below hrow.k hB0.drew) hB0.size;have hk':ks.length<=1048576:=by omega
 have hp':ps.length<=1048576:=by omega
 have hl':ls.length<=1048576:=by omega
 clear hrow hx hW0;go_enter Tryz.func92,Tryz.ntmps92;go_upto_region 1 with fail;rw[←HW0.out];clear HW0
 go_region_held3 (fun w'=>w'.cell? ⟨w.heap.size,0,none⟩=some (.int .i64 wd)/\w'.cell? ⟨w.heap.size,1,none⟩=some (.int .i64 now)/\w'.cell? ⟨w.heap.size,2,none⟩=some (.int .i64 given)/\w'.cell? ⟨w.heap.size,3,none⟩=some (.int .i64 births)/\w'.cell? ⟨w.heap.size,4,none⟩=some (.slice a ks.length ac)/\w'.cell? ⟨w.heap.size,5,none⟩=some (.slice p ps.length pc)/\w'.cell? ⟨w.heap.size,6,none⟩=some (.slice l ls.length lc))
  (first|exact S3|exact S2|exact S1|exact S0d|exact sq7 (SBox.below X3.out ((Below.refl _ _).alloc (Nat.le_refl _) _)))
  (first
  |(go_at_call 134;refine(shelfOf_any wd now given births a ac (.slice p ps.length pc) (.slice l ls.length lc) ks W0.drew K0 hk' hsz h8).mono ?_;rintro e w1 ⟨m,f,rfl,hm,hM,hH,hb1⟩;have B1:Below W0.heap.size W0 w1:=(Below.refl W0.heap.size W0).drew.trans hb1;have S1:=sq7 (SBox.below HX.out B1))
  |(go_at_call 96;refine(clonePin_any p pc ps w1 (PRow.mono (PRow.below HROW.out.p (hB0.trans (B1.mono hB0.size))) (hB0.trans (B1.mono hB0.size)).size) hp').mono ?_;rintro e w2 ⟨p2,pc2,rfl,ho2,hb2⟩;have B2:Below W0.heap.size W0 w2:=B1.trans (hb2.mono B1.size);have S2:=sq7 (SBox.below HX.out B2))
  |(go_at_call 97;refine(cloneLease_any l lc ls w2 (LRow.mono (LRow.below HROW.out.l (hB0.trans (B2.mono hB0.size))) (hB0.trans (B2.mono hB0.size)).size) hl').mono ?_;rintro e w3 ⟨l3,lc3,rfl,ho3,hb3⟩;have B3:Below W0.heap.size W0 w3:=B2.trans (hb3.mono B2.size);have X3:Hid _:=SBox.below HX.out B3;have S3:=sq7 X3.out))
 obtain⟨W4,hW4⟩:∃W,W=w3.alloc (.cells #[.int .i64 wd,.map (some m),.int .i64 now,.int .i64 given,.int .i64 births,.slice none 0 0,.slice p2 ps.length pc2,.slice l3 ls.length lc3] 131):=⟨_,rfl⟩;have hz4:W4.heap.size=w3.heap.size+1:=by rw[hW4];simp
 have hb4:Below w3.heap.size w3 W4:=by rw[hW4];exact(Below.refl _ _).alloc (Nat.le_refl _) _
 have Z4:CellsAt W4 w3.heap.size [.int .i64 wd,.map (some m),.int .i64 now,.int .i64 given,.int .i64 births,.slice none 0 0,.slice p2 ps.length pc2,.slice l3 ls.length lc3]:=by rw[hW4];exact CellsAt.new w3 _ _
 have hz01:w.heap.size+1<=w1.heap.size:=by have:=B1.size;omega
 have hz12:=hb2.size;have hz23:=hb3.size;have hm3:m<w1.heap.size:=hM.lt;have B4:Below w.heap.size w W4:=(hB0.trans (B3.mono hB0.size)).trans (hb4.mono (by omega));have B04:Hid (Below W0.drew.heap.size W0.drew W4):=((hb1.trans (hb2.mono (by simp;omega))).trans (hb3.mono (by simp;omega))).trans (hb4.mono (by simp;omega));have HX4:Hid _:=SBox.below X3.out hb4
 have HM4:Hid (KMap W4 139 m ks.length f):=hM.keep (B:=w1.heap.size) ((hb2.trans (hb3.mono hz12)).trans (hb4.mono (by omega))) hm3;have HP4:Hid (W4.ownsRow w1.heap.size 134 2 (.slice p2 ps.length pc2) ps.length (rowC pC ps)):=own_below (own_below ho2 hb3) hb4;have HL4:Hid (W4.ownsRow w2.heap.size 137 3 (.slice l3 ls.length lc3) ls.length (rowC lC ls)):=own_below ho3 hb4
 have HP2:Hid (∀g,(Value.slice p2 ps.length pc2).ownBlock=some g->w1.heap.size<=g/\g<w2.heap.size):=fun g hg=>own_lt ho2 hg;have HL3:Hid (∀g,(Value.slice l3 ls.length lc3).ownBlock=some g->w2.heap.size<=g/\g<w3.heap.size):=fun g hg=>own_lt ho3 hg;have HH:Hid _:=hH;have HZ4:Hid _:=Z4;have hm0:w.heap.size+1<=m:=by have:=hm;simp at this;omega
 rw[←hW4];clear hW4 S0 S0d S1 S2 S3 X3 HX B1 B2 B3 hb1 hb2 hb3 hM ho2 ho3 hH Z4 K0 hm;obtain⟨x0,x1,x2,x3,x4,x5,x6,x7⟩:=HX4.out;go_wp2
 go_loopw [25] (fun i wr=>∃(k:Nat) (O:Value),k<=ks.length/\i=.int .i64 k/\Hid (CellsAt wr w3.heap.size [.int .i64 wd,.map (some m),.int .i64 now,.int .i64 given,.int .i64 births,O,.slice p2 ps.length pc2,.slice l3 ls.length lc3])/\Hid (wr.ownsRow (w3.heap.size+1) 139 8 O ((ks.take k).map (·.sum)).length (cells8 ((ks.take k).map (·.sum))))/\Below w3.heap.size W4 wr) (fun i _=>ks.length -(intOf i).toNat)
 case atStart=>exact⟨0,_,Nat.zero_le _,rfl,HZ4,⟨rfl,.inl ⟨rfl,rfl⟩⟩,Below.refl _ _⟩
 case round=>
  clear x0 x1 x2 x3 x4 x5 x6 x7 HZ4;obtain⟨k,O,hkl,rfl,HZ,HO,hbel⟩:=hrel;obtain⟨x0,x1,x2,x3,x4,x5,x6,x7⟩:=SBox.keep HX4.out hbel (by omega);have hzr:w3.heap.size+1<=wr.heap.size:=by have:=hbel.size;omega
  by_cases hlt:k<ks.length
  ·obtain⟨b,off,ha,hb,hc⟩:=(KRow.below HROW.out.k (B4.trans (hbel.mono (by omega)))).at hlt
   subst ha;have HG:Hid (ks[k]?=some ks[k]):=List.getElem?_eq_getElem hlt;obtain⟨c0,c1,c2,ra,rc,c3,_⟩:=hc k _ HG.out;have hbr:b<wr.heap.size:=by omega
   have HN:Hid ((ks.take (k+1)).map (·.sum)=(ks.take k).map (·.sum)++[ks[k].sum]):=by
    show _=_;rw[List.take_succ_eq_append_getElem hlt,List.map_append];rfl
   have hln:((ks.take k).map (·.sum)).length<=600:=by simp;omega
   clear hc;generalize ks[k]=x at *
   generalize (ks.take k).map (·.sum)=Os at *
   obtain⟨W5,hW5⟩:∃W,W=wr.alloc (.cells #[.string x.sum,.int .i64 x.born,.string x.text,.slice ra x.refs.length rc] 114):=⟨_,rfl⟩;have hz5:W5.heap.size=wr.heap.size+1:=by rw[hW5];simp
   have b5:Below wr.heap.size wr W5:=by rw[hW5];exact(Below.refl _ _).alloc (Nat.le_refl _) _
   have Z5:CellsAt W5 wr.heap.size [.string x.sum,.int .i64 x.born,.string x.text,.slice ra x.refs.length rc]:=by rw[hW5];exact CellsAt.new wr _ _
   have HOr:Hid _:=HO.out;have HO5:Hid _:=own_below HO.out b5;have HZ5:Hid _:=CellsAt.below HZ.out b5;have HB5:Hid (Below w3.heap.size W4 W5):=hbel.trans (b5.mono (by omega));have P5:W5.drew.cell? ⟨w3.heap.size,5,none⟩=some O/\W5.drew.cell? ⟨wr.heap.size,0,none⟩=some (.string x.sum):=⟨(HZ5.out 5 _ rfl).1,(Z5 0 _ rfl).1⟩;have D5:Below W5.heap.size W5 W5.drew:=(Below.refl _ _).drew
   have HW5:Hid _:=hW5;clear hW5 Z5 HO HZ;go_upto_region 5 with fail;rw[←HW5.out];clear HW5 x0 x1 x2 x3 x4 x5 x6 x7 c0 c1 c2 c3;obtain⟨P5a,P5b⟩:=P5;have hne:∀g,O.ownBlock=some g->w3.heap.size+1<=g/\g<wr.heap.size:=fun g hg=>own_lt HOr.out hg;have hwn:wr.heap.size≠w3.heap.size:=by omega
   go_region_law (first
    |(go_simp;go_at_call 135;refine(key_out x.sum W5.drew).mono ?_;rintro e w6 ⟨rfl,hb6⟩;have b6:Below W5.heap.size W5 w6:=D5.trans hb6;have P6a:w6.cell? ⟨w3.heap.size,5,none⟩=some O:=(b6.cell (p:=⟨w3.heap.size,5,none⟩) (by simp;omega)).trans P5a;have P6b:w6.cell? ⟨wr.heap.size,0,none⟩=some (.string x.sum):=(b6.cell (p:=⟨wr.heap.size,0,none⟩) (by simp;omega)).trans P5b;have b7:Below W5.heap.size W5 (w6.alloc (oneK x.sum)):=b6.alloc b6.size _;have P7a:(w6.alloc (oneK x.sum)).cell? ⟨w3.heap.size,5,none⟩=some O:=(b7.cell (p:=⟨w3.heap.size,5,none⟩) (by simp;omega)).trans P5a;have P7b:(w6.alloc (oneK x.sum)).cell? ⟨wr.heap.size,0,none⟩=some (.string x.sum):=(b7.cell (p:=⟨wr.heap.size,0,none⟩) (by simp;omega)).trans P5b;have z6:=b6.size;obtain⟨g8,c8,w8,hr8,ho8,hg8,ha8⟩:=opush w6 (w3.heap.size+1) O Os (own_below HO5.out b6) x.sum (by omega) (by omega) 129;have Z6:=CellsAt.below HZ5.out b6;unfold oneK at hr8 P7a P7b;go_wp2_with fail)
    |(refine step_append_run (by rfl) (.tmp 33) (.tmp 37) 129 129 (by rfl) (by rfl) (by rfl) hr8 ?_;have P8b:w8.cell? ⟨wr.heap.size,0,none⟩=some (.string x.sum):=hg8.cell P6b (fun e=>by have:=(hne _ e.symm).2;simp at this);have Z8:CellsAt w8 w3.heap.size _:=(CellsAt.same Z6 (hg8.block w3.heap.size (by omega) (fun e=>by have:=(hne _ e.symm).1;omega)));have P8a:=(Z8 5 _ rfl).1;have F8:=(Z8 5 _ rfl).2))
   all_goals
    have hx8:Below w3.heap.size W4 w8:=(HB5.out.trans (b6.mono (by omega))).grown hg8 (by omega) (fun g hg=>by have:=(hne g hg).1;omega);have HX8:Hid _:=And.intro Z8 (And.intro hx8 ho8);clear Z8 hx8 ho8 hg8 hr8 Z6 b6 b7 hb6 HO5 HZ5 HB5 P5a P5b P6a P6b P7a P7b P8a P8b F8 ha8 D5 b5;go_wp2;refine⟨⟨k+1,.slice (some ⟨g8,0,none⟩) (Os.length+1) c8,by omega,by go_num,?_,?_,?_⟩,by simp[intOf];omega⟩
    ·exact CellsAt.set HX8.out.1 5 _
    ·rw[HN.out]
     exact ownsRow_setCell_below HX8.out.2.2 (by simp<;>omega) _
    ·exact HX8.out.2.1.setCell (by simp) _
  ·obtain rfl:k=ks.length:=by omega
   rw[List.take_of_length_le (Nat.le_refl _)] at HO;go_wp2;have hap:(vB w3.heap.size m O (.slice p2 ps.length pc2) (.slice l3 ls.length lc3)).Nodup:=by
    have hO:∀g,O.ownBlock=some g->w3.heap.size+1<=g:=fun g hg=>(own_lt HO.out hg).1;have hP:∀g,(Value.slice p2 ps.length pc2).ownBlock=some g->w1.heap.size<=g/\g<w2.heap.size:=HP2.out;have hL:∀g,(Value.slice l3 ls.length lc3).ownBlock=some g->w2.heap.size<=g/\g<w3.heap.size:=HL3.out;unfold vB;generalize (Value.slice p2 ps.length pc2).ownBlock=bp at *
    generalize (Value.slice l3 ls.length lc3).ownBlock=bl at *
    generalize O.ownBlock=bo at *
    cases bo<;>cases bp<;>cases bl<;>simp_all<;>omega
   have hV:∀q∈vB w3.heap.size m O (.slice p2 ps.length pc2) (.slice l3 ls.length lc3),w.heap.size+1<=q:=by
    intro q hq;unfold vB at hq;simp only[List.mem_cons,List.mem_append,Option.mem_toList] at hq;rcases hq with rfl|rfl|hq|hq|hq
    ·omega
    ·omega
    ·have:=(own_lt HO.out hq).1;omega
    ·have:=(HP2.out _ hq).1;omega
    ·have:=(HL3.out _ hq).1;omega
   go_ret;refine⟨_,rfl,⟨m,O,_,_,⟨HZ.out,⟨ks.length,f,by omega,HM4.out.keep hbel (by omega),?_⟩,?_,?_,?_,by omega,by omega,hap⟩⟩,B4.trans (hbel.mono (by omega))⟩
   ·have hq:W0.drew.heap.size=w.heap.size+1:=hz0
    rw[←hq];exact HoldsV.of HH.out (B04.out.trans (hbel.mono (by simp;omega))) (fun q hq=>by have:=hV q hq;simp;omega)
   ·have:=HO.out
    rw[List.length_map] at this;exact this.mono (by omega)
   ·refine World.ownsRow.mono ?_ (show w.heap.size+1<=w1.heap.size by omega)
    exact own_at HP4.out hbel (fun g hg=>by have:=(HP2.out g hg).2;omega)
   ·refine World.ownsRow.mono ?_ (show w.heap.size+1<=w2.heap.size by omega)
    exact own_at HL4.out hbel (fun g hg=>by have:=(HL3.out g hg).2;omega)
end Go.Proofs.YtpekbmegopfhfaaGreatDoor
