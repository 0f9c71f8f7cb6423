import Derived.Test.YtpekbmegopfhfaaGreatDoorW03
import Derived.Test.YtpekbmegopfhfaaGreatDoorW01
import Derived.Test.YtpekbmegopfhfaaGreatDoorW02
namespace Go.Proofs.YtpekbmegopfhfaaGreatDoor
open Go.ChangeShapes Go.WideShapes Go.ChangeAt Go.RowKit
def RefsOwn (w:World) (lo g c:Nat) (rs:List ByteArray):Prop:=w.ownsRow lo 9 1 (.slice (some ⟨g,0,none⟩) rs.length c) rs.length (rs.map Value.string)
set_option maxHeartbeats 400000 in
theorem toKept_any (k:Kd) (a:Option Addr) (cap:Nat) (w:World) (hrow:SRow w w.heap.size a k.refs) (hl:k.refs.length<=1048576):
 Calls Tryz.prog 146 #[.agg #[.string k.sum,.int .i64 k.born,.string k.text,.slice a k.refs.length cap]] w fun e w'=>∃g,e=.returned (.agg #[.string k.sum,.int .i64 k.born,.string k.text,.slice (some ⟨g,0,none⟩) k.refs.length k.refs.length])/\
  RefsOwn w' w.heap.size g k.refs.length k.refs/\Below w.heap.size w w':=by
 go_enter Tryz.func146,Tryz.ntmps146
 go_wp2_with fail
 refine (toThing_any k.text a cap k.refs _ (hrow.below' ((((Below.refl _ _).alloc (Nat.le_refl _) _).alloc (by simp) _).alloc (by simp;omega) _)) hl).mono ?_
 rintro e w1 ⟨g,rfl,hg,hown,hb⟩
 obtain ⟨hc,hf⟩:=bcell hb
 have hz:=hb.size
 simp at hz hg
 go_wp2
 refine bodyPost_ret (v:=.agg #[.string k.sum,.int .i64 k.born,.string k.text,.slice (some ⟨g,0,none⟩) k.refs.length k.refs.length]) (by simp [results,Tryz.results146,go_sem,hc]) rfl ⟨g,rfl,?_,?_⟩
 ·exact (ownsRow_setCell_below (ownsRow_setCell_below (ownsRow_setCell_below (ownsRow_setCell_below (ownsRow_setCell_below (ownsRow_setCell_below hown (by simp) _) (by simp) _) (by simp) _) (by simp) _) (by simp) _) (by simp) _).mono (by simp;omega)
 ·exact ((((((((Below.refl _ _).alloc (Nat.le_refl _) _).alloc (by simp) _).alloc (by simp;omega) _).trans (hb.mono (by simp;omega))).setCell (by simp;omega) _|>.setCell (by simp;omega) _|>.setCell (by simp) _|>.setCell (by simp) _|>.setCell (by simp) _|>.setCell (by simp) _)))
def KCells (w:World) (lo:Nat) (xs:List Value) (i:Nat) (x:Kd):Prop:=
 xs[i *4]?=some (.string x.sum)/\xs[i *4+1]?=some (.int .i64 x.born)/\xs[i *4+2]?=some (.string x.text)/\
  ∃g,xs[i *4+3]?=some (.slice (some ⟨g,0,none⟩) x.refs.length x.refs.length)/\RefsOwn w lo g x.refs.length x.refs
theorem Tryz.infoKept:(Tryz.prog.info? 114).map (fun i=>(i.zero,i.size,i.bytes))=some (some (.agg #[.string ⟨#[]⟩,.int .i64 0,.string ⟨#[]⟩,.slice none 0 0]),4,64):=by kernel_rfl
theorem RefsOwn.keep {w w':World} {lo g c:Nat} {rs:List ByteArray} (h:RefsOwn w lo g c rs) (hb:Below w.heap.size w w'):RefsOwn w' lo g c rs:=
 World.ownsRow.kept h (row:=none) ⟨hb.os,hb.tape,hb.output,hb.size,fun k hk _=>hb.block k hk⟩ (.inr (by simp [Value.ownBlock]))
theorem KCells.keep {w w':World} {lo i:Nat} {xs:List Value} {x:Kd} (h:KCells w lo xs i x) (hb:Below w.heap.size w w'):KCells w' lo xs i x:=by
 obtain ⟨h0,h1,h2,g,h3,h4⟩:=h
 exact ⟨h0,h1,h2,g,h3,h4.keep hb⟩
theorem KCells.set4 {w w':World} {lo i j:Nat} {xs:List Value} {x:Kd} (h:KCells w lo xs i x) (hij:i<j) (u0 u1 u2 u3:Value) (hw:∀g c rs,RefsOwn w lo g c rs->RefsOwn w' lo g c rs):
 KCells w' lo ((((xs.set (j *4) u0).set (j *4+1) u1).set (j *4+2) u2).set (j *4+3) u3) i x:=by
 obtain ⟨h0,h1,h2,g,h3,h4⟩:=h
 refine ⟨?_,?_,?_,g,?_,hw _ _ _ h4⟩
 all_goals
  rw [List.getElem?_set_ne (by omega),List.getElem?_set_ne (by omega),List.getElem?_set_ne (by omega),List.getElem?_set_ne (by omega)]
  assumption
theorem KCells.new4 {w:World} {lo j g:Nat} {xs:List Value} (x:Kd) (hl:j *4+3<xs.length) (ho:RefsOwn w lo g x.refs.length x.refs):
 KCells w lo ((((xs.set (j *4) (.string x.sum)).set (j *4+1) (.int .i64 x.born)).set (j *4+2) (.string x.text)).set (j *4+3) (.slice (some ⟨g,0,none⟩) x.refs.length x.refs.length)) j x:=by
 refine ⟨?_,?_,?_,g,?_,ho⟩
 ·rw [List.getElem?_set_ne (by omega),List.getElem?_set_ne (by omega),List.getElem?_set_ne (by omega),List.getElem?_set_self (by omega)]
 ·rw [List.getElem?_set_ne (by omega),List.getElem?_set_ne (by omega),List.getElem?_set_self (by simp;omega)]
 ·rw [List.getElem?_set_ne (by omega),List.getElem?_set_self (by simp;omega)]
 ·rw [List.getElem?_set_self (by simp;omega)]
def KOwn (w:World) (lo g:Nat) (ks:List Kd):Prop:=
 ∃xs,w.ownsRow lo 114 4 (.slice (some ⟨g,0,none⟩) ks.length ks.length) ks.length xs/\∀i x,ks[i]?=some x->KCells w (g+1) xs i x
theorem KOwn.row {w:World} {lo g:Nat} {ks:List Kd} (h:KOwn w lo g ks):KRow w w.heap.size (some ⟨g,0,none⟩) ks:=by
 obtain ⟨xs,ho,hk⟩:=h
 refine .inr ⟨g,0,rfl,(ho.lt g rfl).2,fun i x hx=> ?_⟩
 have hi:=(List.getElem?_eq_some_iff.1 hx).1
 obtain ⟨h0,h1,h2,q,h3,h4⟩:=hk i x hx
 rw [Nat.zero_add]
 exact ⟨(ho.cellAt _ (by omega)).trans h0,(ho.cellAt _ (by omega)).trans h1,(ho.cellAt _ (by omega)).trans h2,_,_,(ho.cellAt _ (by omega)).trans h3,SRow.own h4⟩
set_option maxHeartbeats 400000 in
theorem toKeptS_any (a:Option Addr) (cap:Nat) (ks:List Kd) (w:World) (hrow:KRow w w.heap.size a ks) (hl:ks.length<=1048576) (hrl:∀k∈ks,k.refs.length<=1048576):
 Calls Tryz.prog 116 #[.slice a ks.length cap] w fun e w'=>∃g,e=.returned (.slice (some ⟨g,0,none⟩) ks.length ks.length)/\w.heap.size<=g/\KOwn w' w.heap.size g ks/\Below w.heap.size w w':=by
 obtain ⟨i0,hi,hz0,hz1,hz2⟩:=info_parts Tryz.infoKept
 go_enter Tryz.func116,Tryz.ntmps116
 go_wp2_with (at_make;refine wpList_make_full _ rfl _ _ 24 rfl w.heap.size 114 i0 _ 4 Tryz.underlying24 hi hz0 hz1 .i64 .i64 _ _ ks.length rfl rfl rfl rfl ?c1 ?c2 ?c3 ?_)
 case c1=>rw [hz2];omega
 case c2=>unfold maxLen;omega
 case c3=>exact Nat.le_refl _
 intro w1 hown hgrow
 have hb1:Below w.heap.size w w1:=(Below.refl _ _).grown hgrow (Nat.le_refl _) (by simp)
 have hsz1:w.heap.size<w1.heap.size:=(hown.lt _ rfl).2
 generalize (madeCells _ _).toList=ys at hown
 clear hgrow
 go_wp2
 go_loopw [4] (fun i wr=>∃(k:Nat) (xs:List Value),k<=ks.length/\i=.int .i64 k/\wr.ownsRow w.heap.size 114 4 (.slice (some ⟨w.heap.size,0,none⟩) ks.length ks.length) ks.length xs/\Hid (∀i,i<k->∀x,ks[i]?=some x->KCells wr (w.heap.size+1) xs i x)/\Below w.heap.size w wr) (fun i _=>ks.length -(intOf i).toNat)
 case atStart=>exact ⟨0,ys,Nat.zero_le _,rfl,hown,fun i h=>by omega,hb1⟩
 case round=>
  obtain ⟨k,xs,hk,rfl,hown,hall,hbel⟩:=hrel
  by_cases hlt:k<ks.length
  ·obtain ⟨b,off,ha,hb,hc⟩:=hrow.at hlt
   subst ha
   have hg:ks[k]?=some ks[k]:=List.getElem?_eq_getElem hlt
   obtain ⟨c0,c1,c2,ra,rc,c3,hrr⟩:=(hc k _ hg).below hbel hb
   have hrk:=hrl _ (List.getElem_mem hlt)
   have hsz:=(hown.lt _ rfl).2
   have HO:Hid _:=hown
   have HG:Hid _:=hg
   clear hc hrow hg hown hrl
   generalize ks[k]=x at *
   have hcon:=toKept_any x ra rc wr (hrr.mono hbel.size) hrk
   have HC:Hid _:=hcon
   clear hcon hrr
   go_wp2_with fail
   refine Calls.mono HC.out ?_
   rintro e w1 ⟨g,rfl,hro,hb1⟩
   have ho1:=World.ownsRow.kept HO.out (grown_below none hb1) (.inr (by simp [Value.ownBlock]))
   have hxl:=ho1.1
   have e0:w1.cell? ⟨w.heap.size,k *4,none⟩=xs[k *4]?:=ho1.cellAt _ (by omega)
   have e1:w1.cell? ⟨w.heap.size,k *4+1,none⟩=xs[k *4+1]?:=ho1.cellAt _ (by omega)
   have e2:w1.cell? ⟨w.heap.size,k *4+2,none⟩=xs[k *4+2]?:=ho1.cellAt _ (by omega)
   have e3:w1.cell? ⟨w.heap.size,k *4+3,none⟩=xs[k *4+3]?:=ho1.cellAt _ (by omega)
   rw [List.getElem?_eq_getElem (by omega)] at e0 e1 e2 e3
   have f:=ho1.frozenAt
   go_wp2
   have hB1:=hbel.trans (hb1.mono hbel.size)
   refine ⟨⟨k+1,((((xs.set (k *4) (.string x.sum)).set (k *4+1) (.int .i64 x.born)).set (k *4+2) (.string x.text)).set (k *4+3) (.slice (some ⟨g,0,none⟩) x.refs.length x.refs.length)),by omega,by go_num,((((ho1.stored (k *4) _).1.stored (k *4+1) _).1.stored (k *4+2) _).1.stored (k *4+3) _).1,?_,?_⟩,by simp [intOf];omega⟩
   ·have hw:∀q c rs,RefsOwn w1 (w.heap.size+1) q c rs->RefsOwn ((((w1.setCell ⟨w.heap.size,k *4,none⟩ (Value.string x.sum)).setCell ⟨w.heap.size,k *4+1,none⟩ (Value.int IntKind.i64 x.born)).setCell ⟨w.heap.size,k *4+2,none⟩ (Value.string x.text)).setCell ⟨w.heap.size,k *4+3,none⟩ (Value.slice (some ⟨g,0,none⟩) x.refs.length x.refs.length)) (w.heap.size+1) q c rs:=
     fun q c rs h=>ownsRow_setCell_below (ownsRow_setCell_below (ownsRow_setCell_below (ownsRow_setCell_below h (by simp) _) (by simp) _) (by simp) _) (by simp) _
    intro i hi y hy
    rcases Nat.lt_or_ge i k with h'|h'
    ·exact ((hall i h' y hy).keep hb1).set4 h' _ _ _ _ hw
    ·obtain rfl:i=k:=by omega
     rw [HG.out] at hy
     cases hy
     exact KCells.new4 x (by omega) (hw _ _ _ (World.ownsRow.mono hro (by omega)))
   ·exact (((hB1.setCell (by simp) _).setCell (by simp) _).setCell (by simp) _).setCell (by simp) _
  ·go_wp2
   go_ret
   exact ⟨_,rfl,Nat.le_refl _,⟨xs,hown,fun i x hx=>hall i (by have:=(List.getElem?_eq_some_iff.1 hx).1;omega) x hx⟩,hbel⟩
theorem Tryz.infoPin:(Tryz.prog.info? 134).map (fun i=>(i.zero,i.size,i.bytes))=some (some (.agg #[.string ⟨#[]⟩,.string ⟨#[]⟩]),2,32):=by kernel_rfl
set_option maxHeartbeats 400000 in
theorem toPin_any (x:Pd) (w:World):
 Calls Tryz.prog 147 #[.agg #[.string x.name,.string x.sum]] w fun e w'=>e=.returned (.agg #[.string x.name,.string x.sum])/\Below w.heap.size w w':=by
 go_enter Tryz.func147,Tryz.ntmps147
 go_wp2
 refine bodyPost_ret (v:=.agg #[.string x.name,.string x.sum]) (by simp [results,Tryz.results147,go_sem]) rfl ⟨rfl,?_⟩
 exact ((((Below.refl _ _).alloc (Nat.le_refl _) _).alloc (by simp) _).alloc (by simp;omega) _)
def POwn (w:World) (lo g:Nat) (ps:List Pd):Prop:=
 ∃xs,w.ownsRow lo 134 2 (.slice (some ⟨g,0,none⟩) ps.length ps.length) ps.length xs/\∀i x,ps[i]?=some x->xs[i *2]?=some (.string x.name)/\xs[i *2+1]?=some (.string x.sum)
theorem POwn.row {w:World} {lo g:Nat} {ps:List Pd} (h:POwn w lo g ps):PRow w w.heap.size (some ⟨g,0,none⟩) ps:=by
 obtain ⟨xs,ho,hk⟩:=h
 refine .inr ⟨g,0,rfl,(ho.lt g rfl).2,fun i x hx=> ?_⟩
 have hi:=(List.getElem?_eq_some_iff.1 hx).1
 obtain ⟨h0,h1⟩:=hk i x hx
 rw [Nat.zero_add]
 exact ⟨(ho.cellAt _ (by omega)).trans h0,(ho.cellAt _ (by omega)).trans h1⟩
set_option maxHeartbeats 400000 in
theorem toPinS_any (a:Option Addr) (cap:Nat) (ps:List Pd) (w:World) (hrow:PRow w w.heap.size a ps) (hl:ps.length<=1048576):
 Calls Tryz.prog 117 #[.slice a ps.length cap] w fun e w'=>∃g,e=.returned (.slice (some ⟨g,0,none⟩) ps.length ps.length)/\w.heap.size<=g/\POwn w' w.heap.size g ps/\Below w.heap.size w w':=by
 obtain ⟨i0,hi,hz0,hz1,hz2⟩:=info_parts Tryz.infoPin
 go_enter Tryz.func117,Tryz.ntmps117
 go_wp2_with (at_make;refine wpList_make_full _ rfl _ _ 25 rfl w.heap.size 134 i0 _ 2 Tryz.underlying25 hi hz0 hz1 .i64 .i64 _ _ ps.length rfl rfl rfl rfl ?c1 ?c2 ?c3 ?_)
 case c1=>rw [hz2];omega
 case c2=>unfold maxLen;omega
 case c3=>exact Nat.le_refl _
 intro w1 hown hgrow
 have hb1:Below w.heap.size w w1:=(Below.refl _ _).grown hgrow (Nat.le_refl _) (by simp)
 have hsz1:w.heap.size<w1.heap.size:=(hown.lt _ rfl).2
 generalize (madeCells _ _).toList=ys at hown
 clear hgrow
 go_wp2
 go_loopw [4] (fun i wr=>∃(k:Nat) (xs:List Value),k<=ps.length/\i=.int .i64 k/\wr.ownsRow w.heap.size 134 2 (.slice (some ⟨w.heap.size,0,none⟩) ps.length ps.length) ps.length xs/\Hid (∀i,i<k->∀x,ps[i]?=some x->xs[i *2]?=some (.string x.name)/\xs[i *2+1]?=some (.string x.sum))/\Below w.heap.size w wr) (fun i _=>ps.length -(intOf i).toNat)
 case atStart=>exact ⟨0,ys,Nat.zero_le _,rfl,hown,fun i h=>by omega,hb1⟩
 case round=>
  obtain ⟨k,xs,hk,rfl,hown,hall,hbel⟩:=hrel
  by_cases hlt:k<ps.length
  ·obtain ⟨b,off,ha,hb,hc⟩:=(hrow.below hbel).at hlt
   subst ha
   have hg:ps[k]?=some ps[k]:=List.getElem?_eq_getElem hlt
   obtain ⟨c0,c1⟩:=hc k _ hg
   have hsz:=(hown.lt _ rfl).2
   have HO:Hid _:=hown
   have HG:Hid _:=hg
   clear hc hrow hg hown
   generalize ps[k]=x at *
   go_wp2_with fail
   refine (toPin_any x wr).mono ?_
   rintro e w1 ⟨rfl,hb1⟩
   have ho1:=World.ownsRow.kept HO.out (grown_below none hb1) (.inr (by simp [Value.ownBlock]))
   have hxl:=ho1.1
   have e0:w1.cell? ⟨w.heap.size,k *2,none⟩=xs[k *2]?:=ho1.cellAt _ (by omega)
   have e1:w1.cell? ⟨w.heap.size,k *2+1,none⟩=xs[k *2+1]?:=ho1.cellAt _ (by omega)
   rw [List.getElem?_eq_getElem (by omega)] at e0 e1
   have f:=ho1.frozenAt
   go_wp2
   have hB1:=hbel.trans (hb1.mono hbel.size)
   refine ⟨⟨k+1,((xs.set (k *2) (.string x.name)).set (k *2+1) (.string x.sum)),by omega,by go_num,((ho1.stored (k *2) _).1.stored (k *2+1) _).1,?_,((hB1.setCell (by simp) _).setCell (by simp) _)⟩,by simp [intOf];omega⟩
   intro i hi y hy
   rcases Nat.lt_or_ge i k with h'|h'
   ·obtain ⟨q0,q1⟩:=hall i h' y hy
    exact ⟨(by rw [List.getElem?_set_ne (by omega),List.getElem?_set_ne (by omega)];exact q0),(by rw [List.getElem?_set_ne (by omega),List.getElem?_set_ne (by omega)];exact q1)⟩
   ·obtain rfl:i=k:=by omega
    rw [HG.out] at hy
    cases hy
    exact ⟨(by rw [List.getElem?_set_ne (by omega),List.getElem?_set_self (by first|omega|(simp;omega))]),(by rw [List.getElem?_set_self (by first|omega|(simp;omega))])⟩
  ·go_wp2
   go_ret
   exact ⟨_,rfl,Nat.le_refl _,⟨xs,hown,fun i x hx=>hall i (by have:=(List.getElem?_eq_some_iff.1 hx).1;omega) x hx⟩,hbel⟩
theorem Tryz.infoLease:(Tryz.prog.info? 137).map (fun i=>(i.zero,i.size,i.bytes))=some (some (.agg #[.int .i64 0,.string ⟨#[]⟩,.int .i64 0]),3,32):=by kernel_rfl
set_option maxHeartbeats 400000 in
theorem toLease_any (x:Ld) (w:World):
 Calls Tryz.prog 148 #[.agg #[.int .i64 x.num,.string x.sum,.int .i64 x.til]] w fun e w'=>e=.returned (.agg #[.int .i64 x.num,.string x.sum,.int .i64 x.til])/\Below w.heap.size w w':=by
 go_enter Tryz.func148,Tryz.ntmps148
 go_wp2
 refine bodyPost_ret (v:=.agg #[.int .i64 x.num,.string x.sum,.int .i64 x.til]) (by simp [results,Tryz.results148,go_sem]) rfl ⟨rfl,?_⟩
 exact ((((Below.refl _ _).alloc (Nat.le_refl _) _).alloc (by simp) _).alloc (by simp;omega) _)
def LOwn (w:World) (lo g:Nat) (ls:List Ld):Prop:=
 ∃xs,w.ownsRow lo 137 3 (.slice (some ⟨g,0,none⟩) ls.length ls.length) ls.length xs/\∀i x,ls[i]?=some x->xs[i *3]?=some (.int .i64 x.num)/\xs[i *3+1]?=some (.string x.sum)/\xs[i *3+2]?=some (.int .i64 x.til)
theorem LOwn.row {w:World} {lo g:Nat} {ls:List Ld} (h:LOwn w lo g ls):LRow w w.heap.size (some ⟨g,0,none⟩) ls:=by
 obtain ⟨xs,ho,hk⟩:=h
 refine .inr ⟨g,0,rfl,(ho.lt g rfl).2,fun i x hx=> ?_⟩
 have hi:=(List.getElem?_eq_some_iff.1 hx).1
 obtain ⟨h0,h1,h2⟩:=hk i x hx
 rw [Nat.zero_add]
 exact ⟨(ho.cellAt _ (by omega)).trans h0,(ho.cellAt _ (by omega)).trans h1,(ho.cellAt _ (by omega)).trans h2⟩
set_option maxHeartbeats 400000 in
theorem toLeaseS_any (a:Option Addr) (cap:Nat) (ls:List Ld) (w:World) (hrow:LRow w w.heap.size a ls) (hl:ls.length<=1048576):
 Calls Tryz.prog 118 #[.slice a ls.length cap] w fun e w'=>∃g,e=.returned (.slice (some ⟨g,0,none⟩) ls.length ls.length)/\w.heap.size<=g/\LOwn w' w.heap.size g ls/\Below w.heap.size w w':=by
 obtain ⟨i0,hi,hz0,hz1,hz2⟩:=info_parts Tryz.infoLease
 go_enter Tryz.func118,Tryz.ntmps118
 go_wp2_with (at_make;refine wpList_make_full _ rfl _ _ 26 rfl w.heap.size 137 i0 _ 3 Tryz.underlying26 hi hz0 hz1 .i64 .i64 _ _ ls.length rfl rfl rfl rfl ?c1 ?c2 ?c3 ?_)
 case c1=>rw [hz2];omega
 case c2=>unfold maxLen;omega
 case c3=>exact Nat.le_refl _
 intro w1 hown hgrow
 have hb1:Below w.heap.size w w1:=(Below.refl _ _).grown hgrow (Nat.le_refl _) (by simp)
 have hsz1:w.heap.size<w1.heap.size:=(hown.lt _ rfl).2
 generalize (madeCells _ _).toList=ys at hown
 clear hgrow
 go_wp2
 go_loopw [4] (fun i wr=>∃(k:Nat) (xs:List Value),k<=ls.length/\i=.int .i64 k/\wr.ownsRow w.heap.size 137 3 (.slice (some ⟨w.heap.size,0,none⟩) ls.length ls.length) ls.length xs/\Hid (∀i,i<k->∀x,ls[i]?=some x->xs[i *3]?=some (.int .i64 x.num)/\xs[i *3+1]?=some (.string x.sum)/\xs[i *3+2]?=some (.int .i64 x.til))/\Below w.heap.size w wr) (fun i _=>ls.length -(intOf i).toNat)
 case atStart=>exact ⟨0,ys,Nat.zero_le _,rfl,hown,fun i h=>by omega,hb1⟩
 case round=>
  obtain ⟨k,xs,hk,rfl,hown,hall,hbel⟩:=hrel
  by_cases hlt:k<ls.length
  ·obtain ⟨b,off,ha,hb,hc⟩:=(hrow.below hbel).at hlt
   subst ha
   have hg:ls[k]?=some ls[k]:=List.getElem?_eq_getElem hlt
   obtain ⟨c0,c1,c2⟩:=hc k _ hg
   have hsz:=(hown.lt _ rfl).2
   have HO:Hid _:=hown
   have HG:Hid _:=hg
   clear hc hrow hg hown
   generalize ls[k]=x at *
   go_wp2_with fail
   refine (toLease_any x wr).mono ?_
   rintro e w1 ⟨rfl,hb1⟩
   have ho1:=World.ownsRow.kept HO.out (grown_below none hb1) (.inr (by simp [Value.ownBlock]))
   have hxl:=ho1.1
   have e0:w1.cell? ⟨w.heap.size,k *3,none⟩=xs[k *3]?:=ho1.cellAt _ (by omega)
   have e1:w1.cell? ⟨w.heap.size,k *3+1,none⟩=xs[k *3+1]?:=ho1.cellAt _ (by omega)
   have e2:w1.cell? ⟨w.heap.size,k *3+2,none⟩=xs[k *3+2]?:=ho1.cellAt _ (by omega)
   rw [List.getElem?_eq_getElem (by omega)] at e0 e1 e2
   have f:=ho1.frozenAt
   go_wp2
   have hB1:=hbel.trans (hb1.mono hbel.size)
   refine ⟨⟨k+1,(((xs.set (k *3) (.int .i64 x.num)).set (k *3+1) (.string x.sum)).set (k *3+2) (.int .i64 x.til)),by omega,by go_num,(((ho1.stored (k *3) _).1.stored (k *3+1) _).1.stored (k *3+2) _).1,?_,(((hB1.setCell (by simp) _).setCell (by simp) _).setCell (by simp) _)⟩,by simp [intOf];omega⟩
   intro i hi y hy
   rcases Nat.lt_or_ge i k with h'|h'
   ·obtain ⟨q0,q1,q2⟩:=hall i h' y hy
    exact ⟨(by rw [List.getElem?_set_ne (by omega),List.getElem?_set_ne (by omega),List.getElem?_set_ne (by omega)];exact q0),(by rw [List.getElem?_set_ne (by omega),List.getElem?_set_ne (by omega),List.getElem?_set_ne (by omega)];exact q1),(by rw [List.getElem?_set_ne (by omega),List.getElem?_set_ne (by omega),List.getElem?_set_ne (by omega)];exact q2)⟩
   ·obtain rfl:i=k:=by omega
    rw [HG.out] at hy
    cases hy
    exact ⟨(by rw [List.getElem?_set_ne (by omega),List.getElem?_set_ne (by omega),List.getElem?_set_self (by first|omega|(simp;omega))]),(by rw [List.getElem?_set_ne (by omega),List.getElem?_set_self (by first|omega|(simp;omega))]),(by rw [List.getElem?_set_self (by first|omega|(simp;omega))])⟩
  ·go_wp2
   go_ret
   exact ⟨_,rfl,Nat.le_refl _,⟨xs,hown,fun i x hx=>hall i (by have:=(List.getElem?_eq_some_iff.1 hx).1;omega) x hx⟩,hbel⟩
theorem KOwn.keep {w w':World} {lo g:Nat} {ks:List Kd} (h:KOwn w lo g ks) (hb:Below w.heap.size w w'):KOwn w' lo g ks:=by
 obtain ⟨xs,ho,hk⟩:=h
 exact ⟨xs,ho.kept (grown_below none hb) (.inr (by simp [Value.ownBlock])),fun i x hx=>(hk i x hx).keep hb⟩
theorem POwn.keep {w w':World} {lo g:Nat} {ps:List Pd} (h:POwn w lo g ps) (hb:Below w.heap.size w w'):POwn w' lo g ps:=by
 obtain ⟨xs,ho,hk⟩:=h
 exact ⟨xs,ho.kept (grown_below none hb) (.inr (by simp [Value.ownBlock])),hk⟩
theorem LOwn.keep {w w':World} {lo g:Nat} {ls:List Ld} (h:LOwn w lo g ls) (hb:Below w.heap.size w w'):LOwn w' lo g ls:=by
 obtain ⟨xs,ho,hk⟩:=h
 exact ⟨xs,ho.kept (grown_below none hb) (.inr (by simp [Value.ownBlock])),hk⟩
theorem KOwn.setCell {w:World} {lo g:Nat} {ks:List Kd} (h:KOwn w lo g ks) {a:Addr} (ha:a.block<lo) (u:Value):KOwn (w.setCell a u) lo g ks:=by
 obtain ⟨xs,ho,hk⟩:=h
 have:=(ho.lt g rfl).1
 refine ⟨xs,ownsRow_setCell_below ho ha u,fun i x hx=> ?_⟩
 obtain ⟨h0,h1,h2,q,h3,h4⟩:=hk i x hx
 exact ⟨h0,h1,h2,q,h3,ownsRow_setCell_below h4 (by omega) u⟩
theorem POwn.setCell {w:World} {lo g:Nat} {ps:List Pd} (h:POwn w lo g ps) {a:Addr} (ha:a.block<lo) (u:Value):POwn (w.setCell a u) lo g ps:=by
 obtain ⟨xs,ho,hk⟩:=h
 exact ⟨xs,ownsRow_setCell_below ho ha u,hk⟩
theorem LOwn.setCell {w:World} {lo g:Nat} {ls:List Ld} (h:LOwn w lo g ls) {a:Addr} (ha:a.block<lo) (u:Value):LOwn (w.setCell a u) lo g ls:=by
 obtain ⟨xs,ho,hk⟩:=h
 exact ⟨xs,ownsRow_setCell_below ho ha u,hk⟩
theorem KOwn.mono {w:World} {lo lo' g:Nat} {ks:List Kd} (h:KOwn w lo g ks) (hl:lo'<=lo):KOwn w lo' g ks:=by
 obtain ⟨xs,ho,hk⟩:=h
 exact ⟨xs,ho.mono hl,hk⟩
theorem POwn.mono {w:World} {lo lo' g:Nat} {ps:List Pd} (h:POwn w lo g ps) (hl:lo'<=lo):POwn w lo' g ps:=by
 obtain ⟨xs,ho,hk⟩:=h
 exact ⟨xs,ho.mono hl,hk⟩
theorem LOwn.mono {w:World} {lo lo' g:Nat} {ls:List Ld} (h:LOwn w lo g ls) (hl:lo'<=lo):LOwn w lo' g ls:=by
 obtain ⟨xs,ho,hk⟩:=h
 exact ⟨xs,ho.mono hl,hk⟩
structure SOwn (w:World) (lo g p l:Nat) (ks:List Kd) (ps:List Pd) (ls:List Ld):Prop where
 k:KOwn w lo g ks
 p:POwn w lo p ps
 l:LOwn w lo l ls
theorem SOwn.rows {w:World} {lo g p l:Nat} {ks:List Kd} {ps:List Pd} {ls:List Ld} (h:SOwn w lo g p l ks ps ls):SRows w w.heap.size (some ⟨g,0,none⟩) (some ⟨p,0,none⟩) (some ⟨l,0,none⟩) ks ps ls:=⟨h.k.row,h.p.row,h.l.row⟩
set_option maxHeartbeats 1000000 in
theorem toState_any (wd now given births:Int) (a p l:Option Addr) (ac pc lc:Nat) (ks:List Kd) (ps:List Pd) (ls:List Ld) (w:World) (hrow:SRows w w.heap.size a p l ks ps ls) (hf:SFit ks ps ls):
 Calls Tryz.prog 69 #[.agg #[.int .i64 wd,.int .i64 now,.int .i64 given,.int .i64 births,.slice a ks.length ac,.slice p ps.length pc,.slice l ls.length lc]] w fun e w'=>
  ∃g q r,e=.returned (.agg #[.int .i64 wd,.int .i64 now,.int .i64 given,.int .i64 births,.slice (some ⟨g,0,none⟩) ks.length ks.length,.slice (some ⟨q,0,none⟩) ps.length ps.length,.slice (some ⟨r,0,none⟩) ls.length ls.length])/\
  SOwn w' w.heap.size g q r ks ps ls/\Below w.heap.size w w':=by
 go_enter Tryz.func69,Tryz.ntmps69
 go_wp2_with fail
 have hb0:∀o1 o2 o3,Below w.heap.size w (((w.alloc o1).alloc o2).alloc o3):=fun o1 o2 o3=>(((Below.refl _ _).alloc (Nat.le_refl _) _).alloc (by simp) _).alloc (by simp;omega) _
 refine (toKeptS_any a ac ks _ (hrow.below' (hb0 _ _ _)).k hf.k hf.r).mono ?_
 rintro e w1 ⟨g,rfl,hg,hk1,hb1⟩
 have hB1:=(hb0 _ _ _).trans (hb1.mono (by simp;omega))
 have hz1:=hb1.size
 simp at hz1 hg
 have x5:w1.cell? ⟨w.heap.size,5,none⟩=some (.slice p ps.length pc):=by rw [hb1.cell (p:=⟨w.heap.size,5,none⟩) (by simp;omega)];simp [go_sem,go_sem]
 have x6:w1.cell? ⟨w.heap.size,6,none⟩=some (.slice l ls.length lc):=by rw [hb1.cell (p:=⟨w.heap.size,6,none⟩) (by simp;omega)];simp [go_sem,go_sem]
 have o0:w1.cell? ⟨w.heap.size+1+1,0,none⟩=some (.int .i64 wd):=by rw [hb1.cell (p:=⟨w.heap.size+1+1,0,none⟩) (by simp)];simp [go_sem,go_sem]
 have o1:w1.cell? ⟨w.heap.size+1+1,1,none⟩=some (.int .i64 now):=by rw [hb1.cell (p:=⟨w.heap.size+1+1,1,none⟩) (by simp)];simp [go_sem,go_sem]
 have o2:w1.cell? ⟨w.heap.size+1+1,2,none⟩=some (.int .i64 given):=by rw [hb1.cell (p:=⟨w.heap.size+1+1,2,none⟩) (by simp)];simp [go_sem,go_sem]
 have o3:w1.cell? ⟨w.heap.size+1+1,3,none⟩=some (.int .i64 births):=by rw [hb1.cell (p:=⟨w.heap.size+1+1,3,none⟩) (by simp)];simp [go_sem,go_sem]
 have o4:w1.cell? ⟨w.heap.size+1+1,4,none⟩=some (.slice none 0 0):=by rw [hb1.cell (p:=⟨w.heap.size+1+1,4,none⟩) (by simp)];simp [go_sem,go_sem]
 have o5:w1.cell? ⟨w.heap.size+1+1,5,none⟩=some (.slice none 0 0):=by rw [hb1.cell (p:=⟨w.heap.size+1+1,5,none⟩) (by simp)];simp [go_sem,go_sem]
 have o6:w1.cell? ⟨w.heap.size+1+1,6,none⟩=some (.slice none 0 0):=by rw [hb1.cell (p:=⟨w.heap.size+1+1,6,none⟩) (by simp)];simp [go_sem,go_sem]
 have fo:∀j,w1.frozen? ⟨w.heap.size+1+1,j,none⟩=false:=fun j=>by rw [hb1.frozen (p:=⟨w.heap.size+1+1,j,none⟩) (by simp)];simp [go_sem,go_sem]
 have fr:∀j,w1.frozen? ⟨w.heap.size+1,j,none⟩=false:=fun j=>by rw [hb1.frozen (p:=⟨w.heap.size+1,j,none⟩) (by simp)];simp [go_sem,go_sem]
 have rr:∀j,j<7->∃v,w1.cell? ⟨w.heap.size+1,j,none⟩=some v:=fun j hj=>by
  rw [hb1.cell (p:=⟨w.heap.size+1,j,none⟩) (by simp)]
  match j,hj with
  |0,_|1,_|2,_|3,_|4,_|5,_|6,_=>simp [go_sem]
 clear hb1
 obtain ⟨W1,hW1⟩:∃W,W=w1.setCell ⟨w.heap.size+1+1,4,none⟩ (.slice (some ⟨g,0,none⟩) ks.length ks.length):=⟨_,rfl⟩
 have hBW1:Below w.heap.size w W1:=hW1▸hB1.setCell (by simp;omega) _
 have hk1:KOwn W1 (w.heap.size+3) g ks:=hW1▸(hk1.mono (by simp)).setCell (by simp) _
 have hzW1:W1.heap.size=w1.heap.size:=by rw [hW1];simp [go_sem,go_sem]
 have HW1:Hid _:=hW1
 clear hW1
 go_wp2_with fail
 rw [←HW1.out]
 refine (toPinS_any p pc ps _ (hrow.below' hBW1).p hf.p).mono ?_
 rintro e w2 ⟨q,rfl,hq,hp2,hb2⟩
 have hB2:=hBW1.trans (hb2.mono hBW1.size)
 have hz2:=hb2.size
 have cell2:∀b j,b<w1.heap.size->w2.cell? ⟨b,j,none⟩=(w1.setCell ⟨w.heap.size+1+1,4,none⟩ (.slice (some ⟨g,0,none⟩) ks.length ks.length)).cell? ⟨b,j,none⟩:=fun b j hb=>by rw [←HW1.out];exact hb2.cell (p:=⟨b,j,none⟩) (by simp;omega)
 have froz2:∀b j,b<w1.heap.size->w2.frozen? ⟨b,j,none⟩=(w1.setCell ⟨w.heap.size+1+1,4,none⟩ (.slice (some ⟨g,0,none⟩) ks.length ks.length)).frozen? ⟨b,j,none⟩:=fun b j hb=>by rw [←HW1.out];exact hb2.frozen (p:=⟨b,j,none⟩) (by simp;omega)
 have x6':w2.cell? ⟨w.heap.size,6,none⟩=some (.slice l ls.length lc):=by rw [cell2 _ _ (by omega)];simp [go_sem,x6]
 have p0:w2.cell? ⟨w.heap.size+1+1,0,none⟩=some (.int .i64 wd):=by rw [cell2 _ _ (by omega)];simp [go_sem,o0]
 have p1:w2.cell? ⟨w.heap.size+1+1,1,none⟩=some (.int .i64 now):=by rw [cell2 _ _ (by omega)];simp [go_sem,o1]
 have p2:w2.cell? ⟨w.heap.size+1+1,2,none⟩=some (.int .i64 given):=by rw [cell2 _ _ (by omega)];simp [go_sem,o2]
 have p3:w2.cell? ⟨w.heap.size+1+1,3,none⟩=some (.int .i64 births):=by rw [cell2 _ _ (by omega)];simp [go_sem,o3]
 have p4:w2.cell? ⟨w.heap.size+1+1,4,none⟩=some (.slice (some ⟨g,0,none⟩) ks.length ks.length):=by rw [cell2 _ _ (by omega)];simp [go_sem,o4]
 have p5:w2.cell? ⟨w.heap.size+1+1,5,none⟩=some (.slice none 0 0):=by rw [cell2 _ _ (by omega)];simp [go_sem,o5]
 have p6:w2.cell? ⟨w.heap.size+1+1,6,none⟩=some (.slice none 0 0):=by rw [cell2 _ _ (by omega)];simp [go_sem,o6]
 have fo2:∀j,w2.frozen? ⟨w.heap.size+1+1,j,none⟩=false:=fun j=>by rw [froz2 _ _ (by omega)];simp [go_sem,fo]
 have fr2:∀j,w2.frozen? ⟨w.heap.size+1,j,none⟩=false:=fun j=>by rw [froz2 _ _ (by omega)];simp [go_sem,fr]
 have rr2:∀j,j<7->∃v,w2.cell? ⟨w.heap.size+1,j,none⟩=some v:=fun j hj=>by
  obtain ⟨v,hv⟩:=rr j hj
  exact ⟨v,by rw [cell2 _ _ (by omega)];simp [go_sem,hv]⟩
 replace hk1:=hk1.keep hb2
 clear hb2 cell2 froz2 x5 x6 o0 o1 o2 o3 o4 o5 o6 fo fr rr HW1
 obtain ⟨W2,hW2⟩:∃W,W=w2.setCell ⟨w.heap.size+1+1,5,none⟩ (.slice (some ⟨q,0,none⟩) ps.length ps.length):=⟨_,rfl⟩
 have hBW2:Below w.heap.size w W2:=hW2▸hB2.setCell (by simp;omega) _
 have hk2:KOwn W2 (w.heap.size+3) g ks:=hW2▸hk1.setCell (by simp) _
 have hp2:POwn W2 (w.heap.size+3) q ps:=hW2▸(hp2.mono (by omega)).setCell (by simp) _
 have hzW2:W2.heap.size=w2.heap.size:=by rw [hW2];simp [go_sem,go_sem]
 have HW2:Hid _:=hW2
 clear hW2 hk1
 go_wp2_with fail
 rw [←HW2.out]
 refine (toLeaseS_any l lc ls _ (hrow.below' hBW2).l hf.l).mono ?_
 rintro e w3 ⟨r,rfl,hr,hl3,hb3⟩
 have hB3:=hBW2.trans (hb3.mono hBW2.size)
 have hz3:=hb3.size
 have cell2:∀b j,b<w2.heap.size->w3.cell? ⟨b,j,none⟩=(w2.setCell ⟨w.heap.size+1+1,5,none⟩ (.slice (some ⟨q,0,none⟩) ps.length ps.length)).cell? ⟨b,j,none⟩:=fun b j hb=>by rw [←HW2.out];exact hb3.cell (p:=⟨b,j,none⟩) (by simp;omega)
 have froz2:∀b j,b<w2.heap.size->w3.frozen? ⟨b,j,none⟩=(w2.setCell ⟨w.heap.size+1+1,5,none⟩ (.slice (some ⟨q,0,none⟩) ps.length ps.length)).frozen? ⟨b,j,none⟩:=fun b j hb=>by rw [←HW2.out];exact hb3.frozen (p:=⟨b,j,none⟩) (by simp;omega)
 have q0:w3.cell? ⟨w.heap.size+1+1,0,none⟩=some (.int .i64 wd):=by rw [cell2 _ _ (by omega)];simp [go_sem,p0]
 have q1:w3.cell? ⟨w.heap.size+1+1,1,none⟩=some (.int .i64 now):=by rw [cell2 _ _ (by omega)];simp [go_sem,p1]
 have q2:w3.cell? ⟨w.heap.size+1+1,2,none⟩=some (.int .i64 given):=by rw [cell2 _ _ (by omega)];simp [go_sem,p2]
 have q3:w3.cell? ⟨w.heap.size+1+1,3,none⟩=some (.int .i64 births):=by rw [cell2 _ _ (by omega)];simp [go_sem,p3]
 have q4:w3.cell? ⟨w.heap.size+1+1,4,none⟩=some (.slice (some ⟨g,0,none⟩) ks.length ks.length):=by rw [cell2 _ _ (by omega)];simp [go_sem,p4]
 have q5:w3.cell? ⟨w.heap.size+1+1,5,none⟩=some (.slice (some ⟨q,0,none⟩) ps.length ps.length):=by rw [cell2 _ _ (by omega)];simp [go_sem,p5]
 have q6:w3.cell? ⟨w.heap.size+1+1,6,none⟩=some (.slice none 0 0):=by rw [cell2 _ _ (by omega)];simp [go_sem,p6]
 have fo3:∀j,w3.frozen? ⟨w.heap.size+1+1,j,none⟩=false:=fun j=>by rw [froz2 _ _ (by omega)];simp [go_sem,fo2]
 have fr3:∀j,w3.frozen? ⟨w.heap.size+1,j,none⟩=false:=fun j=>by rw [froz2 _ _ (by omega)];simp [go_sem,fr2]
 have rr3:∀j,j<7->∃v,w3.cell? ⟨w.heap.size+1,j,none⟩=some v:=fun j hj=>by
  obtain ⟨v,hv⟩:=rr2 j hj
  exact ⟨v,by rw [cell2 _ _ (by omega)];simp [go_sem,hv]⟩
 obtain ⟨_,r0⟩:=rr3 0 (by omega)
 obtain ⟨_,r1⟩:=rr3 1 (by omega)
 obtain ⟨_,r2⟩:=rr3 2 (by omega)
 obtain ⟨_,r3⟩:=rr3 3 (by omega)
 obtain ⟨_,r4⟩:=rr3 4 (by omega)
 obtain ⟨_,r5⟩:=rr3 5 (by omega)
 obtain ⟨_,r6⟩:=rr3 6 (by omega)
 replace hk2:=hk2.keep hb3
 replace hp2:=hp2.keep hb3
 replace hl3:=hl3.mono (lo':=w.heap.size+3) (by omega)
 clear hb3 cell2 froz2 x6' p0 p1 p2 p3 p4 p5 p6 fo2 fr2 rr2 rr3 HW2
 go_wp2
 refine bodyPost_ret (v:=.agg #[.int .i64 wd,.int .i64 now,.int .i64 given,.int .i64 births,.slice (some ⟨g,0,none⟩) ks.length ks.length,.slice (some ⟨q,0,none⟩) ps.length ps.length,.slice (some ⟨r,0,none⟩) ls.length ls.length]) (by simp [results,Tryz.results69,go_sem, *]) rfl ⟨g,q,r,rfl,⟨?_,?_,?_⟩,?_⟩
 ·exact ((((((((hk2.setCell (by simp) _).setCell (by simp) _).setCell (by simp) _).setCell (by simp) _).setCell (by simp) _).setCell (by simp) _).setCell (by simp) _).setCell (by simp) _).mono (by omega)
 ·exact ((((((((hp2.setCell (by simp) _).setCell (by simp) _).setCell (by simp) _).setCell (by simp) _).setCell (by simp) _).setCell (by simp) _).setCell (by simp) _).setCell (by simp) _).mono (by omega)
 ·exact ((((((((hl3.setCell (by simp) _).setCell (by simp) _).setCell (by simp) _).setCell (by simp) _).setCell (by simp) _).setCell (by simp) _).setCell (by simp) _).setCell (by simp) _).mono (by omega)
 ·exact ((((((((hB3.setCell (by simp;omega) _).setCell (by simp) _).setCell (by simp) _).setCell (by simp) _).setCell (by simp) _).setCell (by simp) _).setCell (by simp) _).setCell (by simp) _)
end Go.Proofs.YtpekbmegopfhfaaGreatDoor
namespace Go.Proofs.YtpekbmegopfhfaaGreatDoor
open Go.ChangeShapes Go.WideShapes Go.ChangeAt Go.RowKit
def rowC {A:Type} (c:A->List Value) (xs:List A):List Value:=xs.flatMap c
theorem row_len {A:Type} {c:A->List Value} {n:Nat} (h:∀x,(c x).length=n) (xs:List A):(rowC c xs).length=xs.length *n:=by
 unfold rowC
 induction xs with
 |nil=>simp
 |cons x xs ih=>rw [List.flatMap_cons,List.length_append,ih,h,List.length_cons,Nat.add_mul];omega
theorem row_append {A:Type} (c:A->List Value) (xs ys:List A):rowC c (xs++ys)=rowC c xs++rowC c ys:=by unfold rowC;rw [List.flatMap_append]
theorem row_get {A:Type} {c:A->List Value} {n:Nat} (h:∀x,(c x).length=n):∀{xs:List A} {i j:Nat} {x:A},xs[i]?=some x->j<n->(rowC c xs)[i *n+j]?=(c x)[j]?
 |[],_,_,_,hx,_=>by simp at hx
 |y::ys,0,j,x,hx,hj=>by
  simp at hx
  subst hx
  show (y::ys|>.flatMap c)[_]?=_
  rw [List.flatMap_cons,Nat.zero_mul,Nat.zero_add,List.getElem?_append_left (by rw [h];exact hj)]
 |y::ys,i+1,j,x,hx,hj=>by
  have hx':ys[i]?=some x:=by simpa using hx
  show (y::ys|>.flatMap c)[_]?=_
  rw [List.flatMap_cons,List.getElem?_append_right (by rw [h,Nat.add_mul];omega),h,show (i+1) *n+j -n=i *n+j by rw [Nat.add_mul];omega]
  exact row_get h hx' hj
theorem row_inv {A:Type} {c:A->List Value} {n:Nat} (h:∀x,(c x).length=n) (hn:0<n) {xs:List A} {k:Nat} {u:Value} (hk:(rowC c xs)[k]?=some u):∃x,xs[k/n]?=some x/\(c x)[k%n]?=some u:=by
 have hl:=(List.getElem?_eq_some_iff.1 hk).1
 rw [row_len h] at hl
 have hd:k/n<xs.length:=Nat.div_lt_of_lt_mul (by rw [Nat.mul_comm];exact hl)
 refine ⟨xs[k/n],List.getElem?_eq_getElem hd,?_⟩
 have:=row_get h (List.getElem?_eq_getElem hd) (Nat.mod_lt k hn)
 rw [show k/n *n+k%n=k by rw [Nat.mul_comm];exact Nat.div_add_mod k n] at this
 rw [←this]
 exact hk
theorem row_take {A:Type} {c:A->List Value} {n:Nat} (h:∀x,(c x).length=n) (xs:List A) (i:Nat) (hi:i<=xs.length):(rowC c xs).take (i *n)=rowC c (xs.take i):=by
 have h1:rowC c xs=rowC c (xs.take i)++rowC c (xs.drop i):=by rw [←row_append,List.take_append_drop]
 have h2:(rowC c (xs.take i)).length=i *n:=by rw [row_len h,List.length_take,Nat.min_eq_left hi]
 rw [h1,←h2,List.take_left]
theorem row_drop {A:Type} {c:A->List Value} {n:Nat} (h:∀x,(c x).length=n) (xs:List A) (i:Nat) (hi:i<=xs.length):(rowC c xs).drop (i *n)=rowC c (xs.drop i):=by
 have h1:rowC c xs=rowC c (xs.take i)++rowC c (xs.drop i):=by rw [←row_append,List.take_append_drop]
 have h2:(rowC c (xs.take i)).length=i *n:=by rw [row_len h,List.length_take,Nat.min_eq_left hi]
 rw [h1,←h2,List.drop_left]
def pC (p:Pd):List Value:=[.string p.name,.string p.sum]
def lC (l:Ld):List Value:=[.int .i64 l.num,.string l.sum,.int .i64 l.til]
theorem pC_len (p:Pd):(pC p).length=2:=rfl
theorem lC_len (l:Ld):(lC l).length=3:=rfl
theorem kC_len (s:ByteArray):(kCells s).length=8:=rfl
theorem cells8_flat (ss:List ByteArray):cells8 ss=rowC kCells ss:=rfl
theorem oneP (ps:List Pd):∀u∈rowC pC ps,u.oneCell'=true:=by
 intro u hu
 obtain ⟨p,_,hp⟩:=List.mem_flatMap.1 hu
 simp [pC] at hp
 rcases hp with rfl|rfl<;>rfl
theorem oneL (ls:List Ld):∀u∈rowC lC ls,u.oneCell'=true:=by
 intro u hu
 obtain ⟨p,_,hp⟩:=List.mem_flatMap.1 hu
 simp [lC] at hp
 rcases hp with rfl|rfl|rfl<;>rfl
theorem own_form {w:World} {base:Nat} {e:TypeId} {size:Nat} {v:Value} {n:Nat} {xs:List Value} (h:w.ownsRow base e size v n xs) (hn:v≠.slice none 0 0):∃g cap,v=.slice (some ⟨g,0,none⟩) n cap/\base<=g/\g<w.heap.size:=by
 rcases h.2 with ⟨e,_⟩|⟨g,cap,cur,rfl,hb,hg,_⟩
 ·exact absurd e hn
 ·exact ⟨g,cap,rfl,hb,(Array.getElem?_eq_some_iff.1 hg).1⟩
theorem PRow.cellsV {w:World} {B b off:Nat} {ps:List Pd} (h:PRow w B (some ⟨b,off,none⟩) ps):∀j u,(rowC pC ps)[j]?=some u->w.cell? ((⟨b,off,none⟩:Addr).add j)=some u:=by
 intro j u hu
 obtain ⟨p,hp,hv⟩:=row_inv pC_len (by decide) hu
 rcases h with h|⟨b',off',h1,_,h3⟩
 ·subst h;simp at hp
 ·cases h1
  obtain ⟨q0,q1⟩:=h3 _ p hp
  rw [Go.WideShapes.add_plain]
  have hm:=Nat.mod_lt j (show 0<2 by decide)
  rcases (show j%2=0∨j%2=1 by omega) with hr|hr<;>rw [hr] at hv<;>simp [pC] at hv<;>subst hv
  ·rw [show off+j=off+j/2 *2 by omega];exact q0
  ·rw [show off+j=off+j/2 *2+1 by omega];exact q1
theorem LRow.cellsV {w:World} {B b off:Nat} {ps:List Ld} (h:LRow w B (some ⟨b,off,none⟩) ps):∀j u,(rowC lC ps)[j]?=some u->w.cell? ((⟨b,off,none⟩:Addr).add j)=some u:=by
 intro j u hu
 obtain ⟨p,hp,hv⟩:=row_inv lC_len (by decide) hu
 rcases h with h|⟨b',off',h1,_,h3⟩
 ·subst h;simp at hp
 ·cases h1
  obtain ⟨q0,q1,q2⟩:=h3 _ p hp
  rw [Go.WideShapes.add_plain]
  have hm:=Nat.mod_lt j (show 0<3 by decide)
  rcases (show j%3=0∨j%3=1∨j%3=2 by omega) with hr|hr|hr<;>rw [hr] at hv<;>simp [lC] at hv<;>subst hv
  ·rw [show off+j=off+j/3 *3 by omega];exact q0
  ·rw [show off+j=off+j/3 *3+1 by omega];exact q1
  ·rw [show off+j=off+j/3 *3+2 by omega];exact q2
theorem PRow.own {w:World} {base:Nat} {a:Option Addr} {cap:Nat} {ps:List Pd} (h:w.ownsRow base 134 2 (.slice a ps.length cap) ps.length (rowC pC ps)):PRow w w.heap.size a ps:=by
 rcases h.2 with ⟨e,hn⟩|⟨g,cap',cur,he,hb,hg,_⟩
 ·exact .inl (List.length_eq_zero_iff.1 hn)
 ·cases he
  refine .inr ⟨g,0,rfl,(h.lt g rfl).2,fun i x hx=> ?_⟩
  have hi:=(List.getElem?_eq_some_iff.1 hx).1
  have h0:=row_get pC_len hx (show 0<2 by decide)
  have h1:=row_get pC_len hx (show 1<2 by decide)
  rw [Nat.zero_add]
  exact ⟨(h.cellAt _ (by omega)).trans h0,(h.cellAt _ (by omega)).trans h1⟩
theorem LRow.own {w:World} {base:Nat} {a:Option Addr} {cap:Nat} {ps:List Ld} (h:w.ownsRow base 137 3 (.slice a ps.length cap) ps.length (rowC lC ps)):LRow w w.heap.size a ps:=by
 rcases h.2 with ⟨e,hn⟩|⟨g,cap',cur,he,hb,hg,_⟩
 ·exact .inl (List.length_eq_zero_iff.1 hn)
 ·cases he
  refine .inr ⟨g,0,rfl,(h.lt g rfl).2,fun i x hx=> ?_⟩
  have hi:=(List.getElem?_eq_some_iff.1 hx).1
  have h0:=row_get lC_len hx (show 0<3 by decide)
  have h1:=row_get lC_len hx (show 1<3 by decide)
  have h2:=row_get lC_len hx (show 2<3 by decide)
  rw [Nat.zero_add]
  exact ⟨(h.cellAt _ (by omega)).trans h0,(h.cellAt _ (by omega)).trans h1,(h.cellAt _ (by omega)).trans h2⟩
theorem PRow.cellsA {w:World} {B:Nat} {ad:Addr} {ps:List Pd} (h:PRow w B (some ad) ps):∀j u,(rowC pC ps)[j]?=some u->w.cell? (ad.add j)=some u:=by
 rcases h with rfl|⟨b,off,h1,h2,h3⟩
 ·intro j u hu;simp [rowC] at hu
 ·cases h1;exact PRow.cellsV (.inr ⟨b,off,rfl,h2,h3⟩)
theorem LRow.cellsA {w:World} {B:Nat} {ad:Addr} {ps:List Ld} (h:LRow w B (some ad) ps):∀j u,(rowC lC ps)[j]?=some u->w.cell? (ad.add j)=some u:=by
 rcases h with rfl|⟨b,off,h1,h2,h3⟩
 ·intro j u hu;simp [rowC] at hu
 ·cases h1;exact LRow.cellsV (.inr ⟨b,off,rfl,h2,h3⟩)
theorem SRow.cellsA {w:World} {B:Nat} {ad:Addr} {ss:List ByteArray} (h:SRow w B (some ad) ss):∀j u,(ss.map Value.string)[j]?=some u->w.cell? (ad.add j)=some u:=by
 rcases h with rfl|⟨b,off,h1,h2,h3⟩
 ·intro j u hu;simp at hu
 ·cases h1
  intro j u hu
  rw [List.getElem?_map] at hu
  cases hs:ss[j]? with
  |none=>rw [hs] at hu;cases hu
  |some s=>rw [hs] at hu;cases hu;rw [Go.WideShapes.add_plain];exact h3 j s hs
theorem PRow.nil {w:World} {B:Nat} {ps:List Pd} (h:PRow w B none ps):ps=[]:=by
 rcases h with h|⟨_,_,h,_⟩
 ·exact h
 ·cases h
theorem LRow.nil {w:World} {B:Nat} {ps:List Ld} (h:LRow w B none ps):ps=[]:=by
 rcases h with h|⟨_,_,h,_⟩
 ·exact h
 ·cases h
theorem SRow.nil {w:World} {B:Nat} {ps:List ByteArray} (h:SRow w B none ps):ps=[]:=by
 rcases h with h|⟨_,_,h,_⟩
 ·exact h
 ·cases h
set_option maxRecDepth 20000 in
set_option maxHeartbeats 1000000 in
theorem clonePin_any (a:Option Addr) (cap:Nat) (ps:List Pd) (w:World) (hr:PRow w w.heap.size a ps) (hl:ps.length<=1048576):
 Calls Tryz.prog 96 #[.slice a ps.length cap] w fun e w'=>∃a' c',e=.returned (.slice a' ps.length c')/\
  w'.ownsRow w.heap.size 134 2 (.slice a' ps.length c') ps.length (rowC pC ps)/\Below w.heap.size w w':=by
 rcases a with _|ad
 ·obtain rfl:=hr.nil
  have hnil:∀u:World,(binOp .eql 25 (.slice none 0 cap) (.slice none 0 0)).run Tryz.prog u=.ok (.bool true) u:=fun _=>by first|rfl|kernel_rfl
  go_enter Tryz.func96,Tryz.ntmps96
  go_wp2
  go_ret
  exact ⟨none,0,rfl,⟨rfl,.inl ⟨rfl,rfl⟩⟩,Below.refl _ _⟩
 obtain ⟨i0,hi,hz0,hz1,hz2⟩:=info_parts Tryz.infoPin
 have hA:Below w.heap.size w (w.alloc (.cells #[] 134)):=(Below.refl _ _).alloc (Nat.le_refl _) _
 have hnil:∀u:World,(binOp .eql 25 (.slice (some ad) ps.length cap) (.slice none 0 0)).run Tryz.prog u=.ok (.bool false) u:=fun _=>by first|rfl|kernel_rfl
 go_enter Tryz.func96,Tryz.ntmps96
 go_wp2_with (first
  |(at_builtin;refine wpList_append_own _ rfl _ _ 25 rfl w.heap.size 134 i0 _ 2 32 Tryz.underlying25 hi hz0 hz1 hz2 rfl (by decide) _ 0 (rowC pC []) rfl ?d0 ad ps.length cap (rowC pC ps) rfl ?d1 ?d2 ?d3 ?d4 ?d5 ?d6 ?_)
  |go_in)
 case d0=>exact World.ownsRow_lit (base:=w.heap.size) (e:=134) (size:=2) w #[] 0 (Nat.le_refl _) (by unfold maxLen;omega) rfl
 case d1=>exact row_len pC_len ps
 case d2=>exact (hr.below hA).cellsA
 case d3=>exact oneP ps
 case d4=>unfold maxLen;omega
 case d5=>omega
 case d6=>simp
 intro v1 w1 ho1 hg1 hn1
 obtain ⟨x,cx,rfl,hx1,hx2⟩:=own_form ho1 hn1
 rw [←row_append,List.nil_append] at ho1
 have hB:Below w.heap.size w w1:=hA.grown hg1 (by simp) (fun k hk=>by simp [Value.ownBlock] at hk;omega)
 have HO:Hid _:=And.intro ho1 hB
 try simp only [Nat.zero_add] at *
 clear ho1 hg1 hn1 hB hA hr
 go_wp2
 go_ret
 exact ⟨_,cx,rfl,HO.out.1,HO.out.2⟩
set_option maxRecDepth 20000 in
set_option maxHeartbeats 1000000 in
theorem cloneLease_any (a:Option Addr) (cap:Nat) (ps:List Ld) (w:World) (hr:LRow w w.heap.size a ps) (hl:ps.length<=1048576):
 Calls Tryz.prog 97 #[.slice a ps.length cap] w fun e w'=>∃a' c',e=.returned (.slice a' ps.length c')/\
  w'.ownsRow w.heap.size 137 3 (.slice a' ps.length c') ps.length (rowC lC ps)/\Below w.heap.size w w':=by
 rcases a with _|ad
 ·obtain rfl:=hr.nil
  have hnil:∀u:World,(binOp .eql 26 (.slice none 0 cap) (.slice none 0 0)).run Tryz.prog u=.ok (.bool true) u:=fun _=>by first|rfl|kernel_rfl
  go_enter Tryz.func97,Tryz.ntmps97
  go_wp2
  go_ret
  exact ⟨none,0,rfl,⟨rfl,.inl ⟨rfl,rfl⟩⟩,Below.refl _ _⟩
 obtain ⟨i0,hi,hz0,hz1,hz2⟩:=info_parts Tryz.infoLease
 have hA:Below w.heap.size w (w.alloc (.cells #[] 137)):=(Below.refl _ _).alloc (Nat.le_refl _) _
 have hnil:∀u:World,(binOp .eql 26 (.slice (some ad) ps.length cap) (.slice none 0 0)).run Tryz.prog u=.ok (.bool false) u:=fun _=>by first|rfl|kernel_rfl
 go_enter Tryz.func97,Tryz.ntmps97
 go_wp2_with (first
  |(at_builtin;refine wpList_append_own _ rfl _ _ 26 rfl w.heap.size 137 i0 _ 3 32 Tryz.underlying26 hi hz0 hz1 hz2 rfl (by decide) _ 0 (rowC lC []) rfl ?d0 ad ps.length cap (rowC lC ps) rfl ?d1 ?d2 ?d3 ?d4 ?d5 ?d6 ?_)
  |go_in)
 case d0=>exact World.ownsRow_lit (base:=w.heap.size) (e:=137) (size:=3) w #[] 0 (Nat.le_refl _) (by unfold maxLen;omega) rfl
 case d1=>exact row_len lC_len ps
 case d2=>exact (hr.below hA).cellsA
 case d3=>exact oneL ps
 case d4=>unfold maxLen;omega
 case d5=>omega
 case d6=>simp
 intro v1 w1 ho1 hg1 hn1
 obtain ⟨x,cx,rfl,hx1,hx2⟩:=own_form ho1 hn1
 rw [←row_append,List.nil_append] at ho1
 have hB:Below w.heap.size w w1:=hA.grown hg1 (by simp) (fun k hk=>by simp [Value.ownBlock] at hk;omega)
 have HO:Hid _:=And.intro ho1 hB
 try simp only [Nat.zero_add] at *
 clear ho1 hg1 hn1 hB hA hr
 go_wp2
 go_ret
 exact ⟨_,cx,rfl,HO.out.1,HO.out.2⟩
set_option maxRecDepth 20000 in
set_option maxHeartbeats 1000000 in
theorem cloneStr_any (a:Option Addr) (cap:Nat) (ps:List ByteArray) (w:World) (hr:SRow w w.heap.size a ps) (hl:ps.length<=1048576):
 Calls Tryz.prog 98 #[.slice a ps.length cap] w fun e w'=>∃a' c',e=.returned (.slice a' ps.length c')/\
  w'.ownsRow w.heap.size 9 1 (.slice a' ps.length c') ps.length (ps.map Value.string)/\Below w.heap.size w w':=by
 rcases a with _|ad
 ·obtain rfl:=hr.nil
  have hnil:∀u:World,(binOp .eql 22 (.slice none 0 cap) (.slice none 0 0)).run Tryz.prog u=.ok (.bool true) u:=fun _=>by first|rfl|kernel_rfl
  go_enter Tryz.func98,Tryz.ntmps98
  go_wp2
  go_ret
  exact ⟨none,0,rfl,⟨rfl,.inl ⟨rfl,rfl⟩⟩,Below.refl _ _⟩
 obtain ⟨i0,hi,hz0,hz1,hz2⟩:=info_parts Tryz.infoStr
 have hA:Below w.heap.size w (w.alloc (.cells #[] 9)):=(Below.refl _ _).alloc (Nat.le_refl _) _
 have hnil:∀u:World,(binOp .eql 22 (.slice (some ad) ps.length cap) (.slice none 0 0)).run Tryz.prog u=.ok (.bool false) u:=fun _=>by first|rfl|kernel_rfl
 go_enter Tryz.func98,Tryz.ntmps98
 go_wp2_with (first
  |(at_builtin;refine wpList_append_own _ rfl _ _ 22 rfl w.heap.size 9 i0 (.string ⟨#[]⟩) 1 16 Tryz.underlying22 hi hz0 hz1 hz2 rfl (by decide) _ 0 (([]:List ByteArray).map Value.string) rfl ?d0 ad ps.length cap (ps.map Value.string) rfl ?d1 ?d2 ?d3 ?d4 ?d5 ?d6 ?_)
  |go_in)
 case d0=>exact World.ownsRow_lit (base:=w.heap.size) (e:=9) (size:=1) w #[] 0 (Nat.le_refl _) (by unfold maxLen;omega) rfl
 case d1=>simp
 case d2=>exact (hr.below hA).cellsA
 case d3=>exact oneS ps
 case d4=>unfold maxLen;omega
 case d5=>omega
 case d6=>simp
 intro v1 w1 ho1 hg1 hn1
 obtain ⟨x,cx,rfl,hx1,hx2⟩:=own_form ho1 hn1
 skip
 have hB:Below w.heap.size w w1:=hA.grown hg1 (by simp) (fun k hk=>by simp [Value.ownBlock] at hk;omega)
 have HO:Hid _:=And.intro ho1 hB
 try simp only [Nat.zero_add] at *
 clear ho1 hg1 hn1 hB hA hr
 go_wp2
 go_ret
 exact ⟨_,cx,rfl,HO.out.1,HO.out.2⟩
end Go.Proofs.YtpekbmegopfhfaaGreatDoor
namespace Go.Proofs.YtpekbmegopfhfaaGreatDoor
open Go.ChangeShapes Go.WideShapes Go.ChangeAt Go.RowKit
theorem toList_inj {a b:ByteArray} (h:a.toList=b.toList):a=b:=by
 rw [ByteArray.toList_eq,ByteArray.toList_eq] at h
 cases a;cases b
 simp only [Array.toList_inj] at h
 rw [h]
theorem beq_ne {a b:ByteArray} (h:¬a=b):(a.toList==b.toList)=false:=by
 rw [beq_eq_false_iff_ne]
 exact fun e=>h (toList_inj e)
theorem bl_iff (x:List UInt8):∀y,Op.bytesLess x y=true↔x<y:=by
 induction x with
 |nil=>intro y;cases y<;>simp [Op.bytesLess]
 |cons a x ih=>
  intro y
  cases y with
  |nil=>simp [Op.bytesLess]
  |cons b y=>
   have:=ih y
   rw [List.cons_lt_cons_iff,←this]
   simp only [Op.bytesLess]
   by_cases h1:a<b<;>by_cases h2:a=b<;>simp [h1,h2]
theorem less_irrefl (a:ByteArray):less a a=false:=by
 unfold less
 cases h:Op.bytesLess a.toList a.toList with
 |false=>rfl
 |true=>exact absurd ((bl_iff _ _).1 h) (List.lt_irrefl _)
theorem less_trans {a b c:ByteArray} (h:less a b=true) (k:less b c=true):less a c=true:=by
 unfold less at *
 rw [bl_iff] at *
 exact List.lt_trans h k
def findI (ks:List Kd) (s:ByteArray):Int:=match ks.findIdx? (fun k=>decide (k.sum=s)) with
 |some i=>(i:Int)
 |none=> -1
theorem findI_hit {ks:List Kd} {s:ByteArray} {k:Nat} (hk:k<ks.length) (h:ks[k].sum=s) (hall:∀j x,j<k->ks[j]?=some x->x.sum≠s):findI ks s=k:=by
 have:ks.findIdx? (fun k=>decide (k.sum=s))=some k:=by
  rw [List.findIdx?_eq_some_iff_getElem]
  refine ⟨hk,by simpa using h,fun j hj=> ?_⟩
  simpa using hall j _ hj (List.getElem?_eq_getElem (by omega))
 simp [findI,this]
theorem findI_miss {ks:List Kd} {s:ByteArray} (hall:∀j x,j<ks.length->ks[j]?=some x->x.sum≠s):findI ks s= -1:=by
 have:ks.findIdx? (fun k=>decide (k.sum=s))=none:=by
  rw [List.findIdx?_eq_none_iff]
  intro x hx
  obtain ⟨j,hj,rfl⟩:=List.getElem_of_mem hx
  simpa using hall j _ hj (List.getElem?_eq_getElem hj)
 simp [findI,this]
theorem findI_cases (ks:List Kd) (s:ByteArray):(findI ks s= -1/\¬There ks s)∨∃i k,findI ks s=(i:Nat)/\ks[i]?=some k/\k.sum=s:=by
 unfold findI
 cases h:ks.findIdx? (fun k=>decide (k.sum=s)) with
 |none=>
  rw [List.findIdx?_eq_none_iff] at h
  exact .inl ⟨rfl,fun ⟨u,hu,e⟩=>by simpa [e] using h u hu⟩
 |some i=>
  rw [List.findIdx?_eq_some_iff_getElem] at h
  obtain ⟨hi,h1,_⟩:=h
  exact .inr ⟨i,ks[i],rfl,List.getElem?_eq_getElem hi,by simpa using h1⟩
set_option maxHeartbeats 400000 in
theorem find_any (wd now given births:Int) (a:Option Addr) (ac:Nat) (P L:Value) (ks:List Kd) (s:ByteArray) (w:World) (B:Nat) (hrow:KRow w B a ks) (hB:B<=w.heap.size) (hl:ks.length<=1048576):
 Calls Tryz.prog 72 #[.agg #[.int .i64 wd,.int .i64 now,.int .i64 given,.int .i64 births,.slice a ks.length ac,P,L],.string s] w fun e w'=>e=.returned (.int .i64 (findI ks s))/\Below w.heap.size w w':=by
 have hb0:Below w.heap.size w (w.alloc (.cells #[.int .i64 wd,.int .i64 now,.int .i64 given,.int .i64 births,.slice a ks.length ac,P,L] 28)):=(Below.refl _ _).alloc (Nat.le_refl _) _
 go_enter Tryz.func72,Tryz.ntmps72
 go_wp2
 go_loop [5] (fun i=>∃k:Nat,k<=ks.length/\i=.int .i64 k/\Hid (∀j x,j<k->ks[j]?=some x->x.sum≠s)) (fun i=>ks.length -(intOf i).toNat)
 case atStart=>exact ⟨0,Nat.zero_le _,rfl,fun j x h=>by omega⟩
 case round=>
  obtain ⟨k,hk,rfl,hall⟩:=hrel
  by_cases hlt:k<ks.length
  ·obtain ⟨b,off,ha,hb,hc⟩:=hrow.at hlt
   subst ha
   have hg:Hid (ks[k]?=some ks[k]):=List.getElem?_eq_getElem hlt
   obtain ⟨c0,_,_,_⟩:=hc k _ hg
   clear hc hrow
   have hb':b<w.heap.size:=by omega
   by_cases he:ks[k].sum=s
   ·have HE:Hid _:=he
    have hh:Hid _:=findI_hit hlt he hall.out
    have c0':w.cell? ⟨b,off+k *4,none⟩=some (.string s):=by rw [←he];exact c0
    clear c0 he
    go_wp2
    go_ret
    exact ⟨ret_i hh.out.symm,hb0⟩
   ·have hne:=beq_ne he
    have HA:Hid (∀j x,j<k+1->ks[j]?=some x->x.sum≠s):=by
     intro j x hj hx
     rcases Nat.lt_or_ge j k with h'|h'
     ·exact hall.out j x h' hx
     ·obtain rfl:j=k:=by omega
      rw [hg.out] at hx
      cases hx
      exact he
    clear he hall hg
    generalize ks[k]=x at *
    go_wp2
    exact ⟨⟨k+1,by omega,by go_num,HA⟩,by simp [intOf];omega⟩
  ·go_wp2
   go_ret
   exact ⟨ret_i (findI_miss (fun j x hj=>hall.out j x (by omega))).symm,hb0⟩
end Go.Proofs.YtpekbmegopfhfaaGreatDoor
