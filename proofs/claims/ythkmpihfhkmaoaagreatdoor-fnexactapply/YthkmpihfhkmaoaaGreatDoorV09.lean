import Derived.Test.YthkmpihfhkmaoaaGreatDoorV08
import Derived.WalkLawsBesides
import Derived.Defers
import Derived.Recover
namespace Go.Proofs.YthkmpihfhkmaoaaGreatDoor
open Go.ChangeShapes Go.WideShapes Go.ChangeAt Go.RowKit
attribute [local go_sem↓] Go.wp_at_zero Go.wp_at_succ
theorem HoldsV.holds {w:World} {base:Nat} {V:List Nat} {wd:Int} {ks:List Kd} {f:Lit->Option Value} (h:HoldsV w base V wd ks f):Holds w w.heap.size wd ks f:=by
 intro s hs;rcases h s hs with h|⟨u,ra,rc,h1,h2,h3,h4⟩
 ·exact .inl h
 ·exact .inr ⟨u,ra,rc,h1,h2,h3,h4.row⟩
theorem Dr.look {w:World} {base d m:Nat} {O P L:Value} {wd now given births:Int} {ks:List Kd} {ps:List Pd} {ls:List Ld} (h:Dr w base d m O P L wd now given births ks ps ls) (hnd:(ks.map (·.sum)).Nodup) (hsz:∀k∈ks,(k.sum.size:Int)=wd) {k:Kd} (hk:k∈ks):
 ∃ra rc,SRow w w.heap.size ra k.refs/\∀X,Below w.heap.size w X->(Instr.lookup 143 (.map (some m)) (keyV k.sum) false).run Tryz.prog X=.ok (keptV k ra rc) X:=by
 obtain⟨n,f,hn,hM,hH⟩:=h.map;rcases hH _ (hsz k hk) with⟨_,hno⟩|⟨u,ra,rc,hu,hus,hfu,hrv⟩
 ·exact absurd ⟨_,hk,rfl⟩ hno
 ·obtain rfl:=sum_uniq hnd hu hk hus
  refine⟨ra,rc,hrv.row,fun X hX=> ?_⟩;have:=(hM.keep hX hM.lt).look keyed Tryz.underlying143 (zeroKept _) (key_lit u.sum);rw[hfu] at this;exact this
set_option maxRecDepth 20000 in
set_option maxHeartbeats 4000000 in
theorem refC_any (base d m dp sp:Nat) (O P L:Value) (wd now given births:Int) (ks:List Kd) (ps:List Pd) (ls:List Ld) (s:ByteArray) (k:Kd) (w:World) (hd:Dr w base d m O P L wd now given births ks ps ls) (hnd:(ks.map (·.sum)).Nodup) (hsz:∀k∈ks,(k.sum.size:Int)=wd) (hk:k∈ks) (hr:k.refs.length<=1000) (hsort:k.refs.Pairwise (fun a b=>less a b=true))
 (hdp:w.cell? ⟨dp,0,none⟩=some (.pointer (some ⟨d,0,none⟩))) (hsp:w.cell? ⟨sp,0,none⟩=some (.string s)):
 Calls Tryz.prog 237 #[keyV k.sum,.pointer (some ⟨dp,0,none⟩),.pointer (some ⟨sp,0,none⟩)] w fun e w'=>∃ok,e=.returned (.bool ok)/\(ok=true↔s∈k.refs)/\Below w.heap.size w w':=by
 obtain⟨ra,rc,hrow,hlk⟩:=hd.look hnd hsz hk;have hdl:=World.block_lt_of_cell? w _ hdp;have hsl:=World.block_lt_of_cell? w _ hsp;obtain⟨W,hW⟩:∃W,W=w.alloc (.cells #[.int .u8 (kB k.sum 0),.int .u8 (kB k.sum 1),.int .u8 (kB k.sum 2),.int .u8 (kB k.sum 3),.int .u8 (kB k.sum 4),.int .u8 (kB k.sum 5),.int .u8 (kB k.sum 6),.int .u8 (kB k.sum 7)] 162):=⟨_,rfl⟩
 have hB:Below w.heap.size w W:=by rw[hW];exact(Below.refl _ _).alloc (Nat.le_refl _) _
 have cb:CellsAt W w.heap.size (kCells k.sum):=by rw[hW];exact CellsAt.new w (kCells k.sum) 162
 have hzW:w.heap.size<W.heap.size:=CellsAt.lt (v:=.int .u8 (kB k.sum 0)) cb;unfold keyV keyA keptV at hlk
 have HS:Hid (∀X,Below W.heap.size W X->X.cell? ⟨dp,0,none⟩=some (.pointer (some ⟨d,0,none⟩))/\X.cell? ⟨sp,0,none⟩=some (.string s)/\X.cell? ⟨d,1,none⟩=some (.map (some m))/\(X.cell? ⟨w.heap.size,0,none⟩=some (.int .u8 (kB k.sum 0))/\X.cell? ⟨w.heap.size,1,none⟩=some (.int .u8 (kB k.sum 1))/\X.cell? ⟨w.heap.size,2,none⟩=some (.int .u8 (kB k.sum 2))/\X.cell? ⟨w.heap.size,3,none⟩=some (.int .u8 (kB k.sum 3))/\X.cell? ⟨w.heap.size,4,none⟩=some (.int .u8 (kB k.sum 4))/\X.cell? ⟨w.heap.size,5,none⟩=some (.int .u8 (kB k.sum 5))/\X.cell? ⟨w.heap.size,6,none⟩=some (.int .u8 (kB k.sum 6))/\X.cell? ⟨w.heap.size,7,none⟩=some (.int .u8 (kB k.sum 7)))/\(Instr.lookup 143 (.map (some m)) (.agg #[.int .u8 (kB k.sum 0),.int .u8 (kB k.sum 1),.int .u8 (kB k.sum 2),.int .u8 (kB k.sum 3),.int .u8 (kB k.sum 4),.int .u8 (kB k.sum 5),.int .u8 (kB k.sum 6),.int .u8 (kB k.sum 7)]) false).run Tryz.prog X=.ok (.agg #[.string k.sum,.int .i64 k.born,.string k.text,.slice ra k.refs.length rc]) X):=
  fun X hX=>by
   have hb:=hB.trans (hX.mono hB.size);exact⟨(hb.cell (p:=⟨dp,0,none⟩) hdl).trans hdp,(hb.cell (p:=⟨sp,0,none⟩) hsl).trans hsp,(CellsAt.below hd.box hb 1 _ rfl).1,sk8 (hX.block _ hzW) cb,hlk X hb⟩
 have HR:Hid _:=searchS_any ra rc k.refs s W.drew (SRow.mono (SRow.below hrow hB.drew) hB.size) hr hsort;have D0:Below W.heap.size W W.drew:=(Below.refl _ _).drew;have hf1:∀X:World,(Instr.field 114 (.agg #[.string k.sum,.int .i64 k.born,.string k.text,.slice ra k.refs.length rc]) 2).run Tryz.prog X=.ok (.agg #[.string k.text,.slice ra k.refs.length rc]) X:=fun _=>by kernel_rfl
 have hf2:∀X:World,(Instr.field 43 (.agg #[.string k.text,.slice ra k.refs.length rc]) 1).run Tryz.prog X=.ok (.slice ra k.refs.length rc) X:=fun _=>by kernel_rfl
 have HW:Hid _:=hW;clear hW cb hlk hrow;unfold keyV keyA;go_enter Tryz.func237,Tryz.ntmps237;go_upto_region 1 with fail;rw[←HW.out];clear HW
 go_region_held3 (fun X=>X.cell? ⟨dp,0,none⟩=some (.pointer (some ⟨d,0,none⟩))/\X.cell? ⟨sp,0,none⟩=some (.string s)/\X.cell? ⟨d,1,none⟩=some (.map (some m))/\(X.cell? ⟨w.heap.size,0,none⟩=some (.int .u8 (kB k.sum 0))/\X.cell? ⟨w.heap.size,1,none⟩=some (.int .u8 (kB k.sum 1))/\X.cell? ⟨w.heap.size,2,none⟩=some (.int .u8 (kB k.sum 2))/\X.cell? ⟨w.heap.size,3,none⟩=some (.int .u8 (kB k.sum 3))/\X.cell? ⟨w.heap.size,4,none⟩=some (.int .u8 (kB k.sum 4))/\X.cell? ⟨w.heap.size,5,none⟩=some (.int .u8 (kB k.sum 5))/\X.cell? ⟨w.heap.size,6,none⟩=some (.int .u8 (kB k.sum 6))/\X.cell? ⟨w.heap.size,7,none⟩=some (.int .u8 (kB k.sum 7)))/\(Instr.lookup 143 (.map (some m)) (.agg #[.int .u8 (kB k.sum 0),.int .u8 (kB k.sum 1),.int .u8 (kB k.sum 2),.int .u8 (kB k.sum 3),.int .u8 (kB k.sum 4),.int .u8 (kB k.sum 5),.int .u8 (kB k.sum 6),.int .u8 (kB k.sum 7)]) false).run Tryz.prog X=.ok (.agg #[.string k.sum,.int .i64 k.born,.string k.text,.slice ra k.refs.length rc]) X)
  (first|with_reducible exact HS.out _ D0|with_reducible exact HS.out _ B1)
  (first|(go_at_call 238;refine Calls.mono HR.out ?_;rintro e w1 ⟨i,ok,rfl,hok,hb1⟩;have HOK:Hid _:=hok;clear hok;have B1:Below W.heap.size W w1:=below_undrew hb1))
 all_goals
  clear HS HR D0;go_wp2;go_ret;exact⟨ok,rfl,HOK.out,hB.trans (B1.mono hB.size)⟩
def RefsOk (ks:List Kd):Prop:=∀k∈ks,k.refs.length<=1000/\k.refs.Pairwise (fun a b=>less a b=true)
set_option maxRecDepth 20000 in
set_option maxHeartbeats 4000000 in
theorem indexKey_any (base d m dp sp:Nat) (oa:Option Addr) (ocp:Nat) (P L:Value) (wd now given births:Int) (ks:List Kd) (ps:List Pd) (ls:List Ld) (s:ByteArray) (w:World) (hd:Dr w base d m (.slice oa ks.length ocp) P L wd now given births ks ps ls) (hnd:(ks.map (·.sum)).Nodup) (hsz:∀k∈ks,(k.sum.size:Int)=wd) (hr:RefsOk ks) (hl:ks.length<=600)
 (hdp:w.cell? ⟨dp,0,none⟩=some (.pointer (some ⟨d,0,none⟩))) (hsp:w.cell? ⟨sp,0,none⟩=some (.string s)):
 Calls Tryz.prog 247 #[.slice oa ks.length ocp,.func (.func 237) #[] #[.pointer (some ⟨dp,0,none⟩),.pointer (some ⟨sp,0,none⟩)]] w fun e w'=>∃r:Int,e=.returned (.int .i64 r)/\(0<=r↔∃k∈ks,s∈k.refs)/\Below w.heap.size w w':=by
 have hdl:=World.block_lt_of_cell? w _ hdp;have hsl:=World.block_lt_of_cell? w _ hsp;have HD:Hid _:=hd;clear hd;go_enter Tryz.func247,Tryz.ntmps247;go_wp2
 go_loopw [8] (fun i wr=>∃k:Nat,k<=ks.length/\i=.int .i64 k/\Hid (∀j x,j<k->ks[j]?=some x->¬s∈x.refs)/\Below w.heap.size w wr) (fun i _=>ks.length -(intOf i).toNat)
 case atStart=>exact⟨0,Nat.zero_le _,rfl,(fun j x h=>by omega),Below.refl _ _⟩
 case round=>
  obtain⟨k,hk,rfl,hall,hbel⟩:=hrel;have hzr:=hbel.size;by_cases hlt:k<ks.length
  ·have hDr:=Dr.below HD.out hbel
   have hord:=hDr.ord;obtain⟨og,oc,heq,_,hog⟩:=own_form hord (fun e=>by injection e with _ h2 _;omega);cases heq;have hg:Hid (ks[k]?=some ks[k]):=List.getElem?_eq_getElem hlt;have hmem:ks[k]∈ks:=List.getElem_mem hlt;have hgs:(ks.map (·.sum))[k]?=some ks[k].sum:=by simp[hlt]
   have hcell:∀j,j<8->wr.cell? ⟨og,k *8+j,none⟩=some (.int .u8 (kB ks[k].sum j)):=fun j hj=>(hord.cellAt _ (by omega)).trans (cells8_get hgs hj);have hc0:=hcell 0 (by omega);have hc1:=hcell 1 (by omega);have hc2:=hcell 2 (by omega);have hc3:=hcell 3 (by omega);have hc4:=hcell 4 (by omega);have hc5:=hcell 5 (by omega);have hc6:=hcell 6 (by omega);have hc7:=hcell 7 (by omega)
   rw[Nat.add_zero] at hc0;have HC:=refC_any base d m dp sp _ P L wd now given births ks ps ls s ks[k] wr hDr hnd hsz hmem (hr _ hmem).1 (hr _ hmem).2 ((hbel.cell (p:=⟨dp,0,none⟩) hdl).trans hdp) ((hbel.cell (p:=⟨sp,0,none⟩) hsl).trans hsp);unfold keyV keyA at HC;have HCC:Hid _:=HC;clear hcell hgs hord hDr hmem HC;generalize ks[k]=x at *
   go_wp2_with fail;refine Calls.mono HCC.out ?_;rintro e w1 ⟨ok,rfl,hok,hb1⟩;have hB1:=hbel.trans (hb1.mono hzr);have HOK:Hid _:=hok;clear hok hc0 hc1 hc2 hc3 hc4 hc5 hc6 hc7 HCC;cases ok
   ·have HA:Hid (∀j y,j<k+1->ks[j]?=some y->¬s∈y.refs):=by
     intro j y hj hy;rcases Nat.lt_or_ge j k with h'|h'
     ·exact hall.out j y h' hy
     ·obtain rfl:j=k:=by omega
      rw[hg.out] at hy;cases hy;exact fun h=>by have:=HOK.out.2 h;simp at this
    go_wp2;exact⟨⟨k+1,by omega,by go_num,HA,hB1⟩,by simp[intOf];omega⟩
   ·go_wp2
    go_ret;exact⟨_,rfl,⟨(fun _=>⟨x,List.mem_of_getElem? hg.out,HOK.out.1 (by trivial)⟩),(fun _=>by omega)⟩,hB1⟩
  ·go_wp2
   go_ret;refine⟨_,rfl,⟨(fun h=>by omega),(fun⟨p,hp,h⟩=> ?_)⟩,hbel⟩;obtain⟨j,hj,rfl⟩:=List.getElem_of_mem hp;exact absurd h (hall.out j _ (by omega) (List.getElem?_eq_getElem hj))
set_option maxHeartbeats 400000 in
theorem containsKey_any (base d m dp sp:Nat) (oa:Option Addr) (ocp:Nat) (P L:Value) (wd now given births:Int) (ks:List Kd) (ps:List Pd) (ls:List Ld) (s:ByteArray) (w:World) (hd:Dr w base d m (.slice oa ks.length ocp) P L wd now given births ks ps ls) (hnd:(ks.map (·.sum)).Nodup) (hsz:∀k∈ks,(k.sum.size:Int)=wd) (hr:RefsOk ks) (hl:ks.length<=600)
 (hdp:w.cell? ⟨dp,0,none⟩=some (.pointer (some ⟨d,0,none⟩))) (hsp:w.cell? ⟨sp,0,none⟩=some (.string s)):
 Calls Tryz.prog 236 #[.slice oa ks.length ocp,.func (.func 237) #[] #[.pointer (some ⟨dp,0,none⟩),.pointer (some ⟨sp,0,none⟩)]] w fun e w'=>∃ok,e=.returned (.bool ok)/\(ok=true↔∃k∈ks,s∈k.refs)/\Below w.heap.size w w':=by
 have HI:Hid _:=indexKey_any base d m dp sp oa ocp P L wd now given births ks ps ls s w hd hnd hsz hr hl hdp hsp;clear hd;go_enter Tryz.func236,Tryz.ntmps236;go_wp2_with fail;refine Calls.mono HI.out ?_;rintro e w1 ⟨r,rfl,hrr,hb1⟩;have HR:Hid _:=hrr;clear hrr HI;by_cases h:0<=r
 ·have hd:decide ((0:Int)<=r)=true:=by simpa using h
  go_wp2;go_ret;exact⟨true,rfl,⟨(fun _=>HR.out.1 h),(fun _=>rfl)⟩,hb1⟩
 ·have hd:decide ((0:Int)<=r)=false:=by simpa using h
  go_wp2;go_ret;exact⟨false,rfl,⟨(fun e=>by cases e),(fun e=>absurd (HR.out.2 e) (by omega))⟩,hb1⟩
set_option maxRecDepth 20000 in
set_option maxHeartbeats 1000000 in
theorem isRef_any (base d m:Nat) (O P L:Value) (wd now given births:Int) (ks:List Kd) (ps:List Pd) (ls:List Ld) (s:ByteArray) (w:World) (hd:Dr w base d m O P L wd now given births ks ps ls) (hnd:(ks.map (·.sum)).Nodup) (hsz:∀k∈ks,(k.sum.size:Int)=wd) (hr:RefsOk ks) (hl:ks.length<=600):
 Calls Tryz.prog 207 #[.pointer (some ⟨d,0,none⟩),.string s] w fun e w'=>∃ok,e=.returned (.bool ok)/\(ok=true↔∃k∈ks,s∈k.refs)/\Below w.heap.size w w':=by
 have hmf:∀(fn:Fn) (first cap:Array Value) (w:World),(Instr.makeFunc fn first cap).run Tryz.prog w=.ok (.func fn first cap) w:=fun _ _ _ _=>rfl;obtain⟨oa,ocp,rfl⟩:=own_val hd.ord;obtain⟨W,hW⟩:∃W,W=(w.alloc (.cells #[.pointer (some ⟨d,0,none⟩)] 86)).alloc (.cells #[.string s] 9):=⟨_,rfl⟩;have hB:Below w.heap.size w W:=by rw[hW];exact((Below.refl _ _).alloc (Nat.le_refl _) _).alloc (by simp) _
 have cd:W.cell? ⟨w.heap.size,0,none⟩=some (.pointer (some ⟨d,0,none⟩)):=by rw[hW];simp[go_sem]
 have cs:W.cell? ⟨w.heap.size+1,0,none⟩=some (.string s):=by rw[hW];simp[go_sem]
 have hDW:=hd.below hB;have HI:Hid _:=containsKey_any base d m w.heap.size (w.heap.size+1) oa ocp P L wd now given births ks ps ls s W hDW hnd hsz hr hl cd cs;obtain⟨c5,_⟩:=hDW.box 5 _ rfl;have HW:Hid _:=hW;clear hW hDW hd cs;go_enter Tryz.func207,Tryz.ntmps207;go_upto_region 1 with fail;rw[←HW.out];clear HW;go_wp2_with fail;refine Calls.mono HI.out ?_;rintro e w1 ⟨ok,rfl,hrr,hb1⟩
 have HR:Hid _:=hrr;have hbb:Below w.heap.size w w1:=hB.trans (hb1.mono hB.size);clear hrr HI;go_wp2;go_ret;exact⟨ok,rfl,HR.out,hbb⟩
set_option maxRecDepth 20000 in
set_option maxHeartbeats 1000000 in
theorem isInUse_any (base d m:Nat) (O P L:Value) (wd now given births:Int) (ks:List Kd) (ps:List Pd) (ls:List Ld) (s:ByteArray) (w:World) (hd:Dr w base d m O P L wd now given births ks ps ls) (hnd:(ks.map (·.sum)).Nodup) (hsz:∀k∈ks,(k.sum.size:Int)=wd) (hr:RefsOk ks) (hk:ks.length<=600) (hp:ps.length<=100) (hl:ls.length<=200):
 Calls Tryz.prog 180 #[.pointer (some ⟨d,0,none⟩),.string s] w fun e w'=>∃ok,e=.returned (.bool ok)/\(ok=true↔((∃p∈ps,p.sum=s)∨∃l∈ls,l.sum=s)∨∃k∈ks,s∈k.refs)/\Below w.heap.size w w':=by
 have HD:Hid _:=hd;clear hd;go_enter Tryz.func180,Tryz.ntmps180;go_wp2_with fail;refine(isHeld_any base d m O P L wd now given births ks ps ls s w HD.out hp hl).mono ?_;rintro e w1 ⟨ok1,rfl,h1,hb1⟩;have H1:Hid _:=h1;clear h1;cases ok1
 ·go_wp2_with fail
  refine(isRef_any base d m O P L wd now given births ks ps ls s w1 (Dr.below HD.out hb1) hnd hsz hr hk).mono ?_;rintro e w2 ⟨ok2,rfl,h2,hb2⟩;have H2:Hid _:=h2;clear h2;go_wp2;go_ret;exact⟨ok2,rfl,⟨(fun e=> .inr (H2.out.1 e)),(fun e=>e.elim (fun e=>by have:=H1.out.2 e;simp at this) H2.out.2)⟩,hb1.trans (hb2.mono hb1.size)⟩
 ·go_wp2
  go_ret;exact⟨true,rfl,⟨(fun _=> .inl (H1.out.1 (by trivial))),(fun _=>rfl)⟩,hb1⟩
set_option maxRecDepth 20000 in
set_option maxHeartbeats 1000000 in
theorem need_yes (base d m:Nat) (O P L:Value) (wd now given births:Int) (ks:List Kd) (ps:List Pd) (ls:List Ld) (s:ByteArray) (w:World) (hd:Dr w base d m O P L wd now given births ks ps ls) (hsz:∀k∈ks,(k.sum.size:Int)=wd) (hth:There ks s):
 Calls Tryz.prog 169 #[.pointer (some ⟨d,0,none⟩),.string s] w fun e w'=>e=.returned (.tuple #[])/\Below w.heap.size w w':=by
 obtain⟨n,f,hn,hM,hH⟩:=hd.map;obtain⟨ok,hok,hcl⟩:=shelf_has wd m n f ks w w.heap.size s w hM hH.holds hsz;obtain rfl:=hok.2 hth;obtain⟨c0,_⟩:=hd.box 0 _ rfl;obtain⟨c1,_⟩:=hd.box 1 _ rfl;have HC:Hid _:=hcl w (Below.refl _ _);clear hcl hok hd hM hH;go_enter Tryz.func169,Tryz.ntmps169;go_wp2_with fail;refine Calls.mono HC.out ?_;rintro e w1 ⟨rfl,hb1⟩;clear HC;go_wp2
 go_end0
 exact⟨rfl,hb1⟩
end Go.Proofs.YthkmpihfhkmaoaaGreatDoor
namespace Go.Proofs.YthkmpihfhkmaoaaGreatDoor
open Go.ChangeShapes Go.WideShapes Go.ChangeAt Go.RowKit
structure Tn (V:List Nat) (w w':World):Prop where
 os:w'.os=w.os
 tape:w'.tape=w.tape
 output:w'.output=w.output
 size:w.heap.size<=w'.heap.size
 block:∀b,b<w.heap.size->b∉V->w'.heap[b]?=w.heap[b]?
theorem Tn.of {V:List Nat} {w w':World} (h:Below w.heap.size w w'):Tn V w w':=⟨h.os,h.tape,h.output,h.size,fun b hb _=>h.block b hb⟩
theorem Tn.grown {V:List Nat} {w w':World} {g:Nat} (h:w.grownBy w' (some g)) (hg:g∈V):Tn V w w':=⟨h.os,h.tape,h.output,h.size,fun b hb hv=>h.block b hb (fun e=>hv (Option.some.inj e▸hg))⟩
theorem Tn.set {V:List Nat} (w:World) (g j:Nat) (v:Value) (hg:g∈V):Tn V w (w.setCell ⟨g,j,none⟩ v):=Tn.grown (rd_grown w g j v) hg
theorem Tn.trans {V:List Nat} {a b c:World} (h:Tn V a b) (k:Tn V b c):Tn V a c:=
 ⟨k.os.trans h.os,k.tape.trans h.tape,k.output.trans h.output,Nat.le_trans h.size k.size,fun q hq hv=>(k.block q (Nat.lt_of_lt_of_le hq h.size) hv).trans (h.block q hq hv)⟩
theorem Tn.below {V:List Nat} {w w':World} (h:Tn V w w') {B:Nat} (hB:B<=w.heap.size) (hV:∀b∈V,B<=b):Below B w w':=⟨h.os,h.tape,h.output,h.size,fun b hb=>h.block b (by omega) (fun hv=>by have:=hV b hv;omega)⟩
theorem Tn.mono {V V':List Nat} {w w':World} (h:Tn V w w') (hV:∀b∈V,b∈V'):Tn V' w w':=⟨h.os,h.tape,h.output,h.size,fun b hb hv=>h.block b hb (fun e=>hv (hV b e))⟩
theorem KMap.same {w w':World} {K:TypeId} {b n:Nat} {f:Lit->Option Value} (h:KMap w K b n f) (hb:w'.heap[b]?=w.heap[b]?):KMap w' K b n f:=by
 obtain⟨D,⟨es,clock,h1,h2⟩,h3⟩:=h;exact⟨D,⟨es,clock,hb.trans h1,h2⟩,h3⟩
theorem RefV.turn {w w':World} {base:Nat} {V:List Nat} {a:Option Addr} {ss:List ByteArray} (h:RefV w base V a ss) (ht:Tn V w w'):RefV w' base V a ss:=by
 rcases h with h|⟨b,off,ha,hb,hv,hx,hc⟩
 ·exact .inl h
 ·exact .inr ⟨b,off,ha,Nat.lt_of_lt_of_le hb ht.size,hv,(by rw[ht.block b hb hv];exact hx),fun i s hs=>(World.cell?_of_block (a:=⟨b,off+i,none⟩) (ht.block b hb hv)).trans (hc i s hs)⟩
theorem step_delete_run {P:Program} {w:World} {ops:Array Oper} {o:Oper} {a:Act} {K:Act->World->Prop} {Q:Exit->Act->World->Prop} {E:Prop} (hgd:o.guard=none) (s x:Operand) (t u:TypeId)
 (ho:o.op=.call {callee:=.builtin .delete,args:= #[s,x],argTypes:= #[t,u]}) {v xv:Value} {w':World} (hs:a.eval s=v) (hx:a.eval x=xv)
 (hr:(Builtin.delete_ #[t,u] o.type #[v,xv]).run P w=.ok (.tuple #[]) w') (h:K (a.put o.dst (.tuple #[])) w'):
 if Region.wanted o (yielded ops a.tmps)=true then Oper.wp P o a w K Q else E:=by
 have hw:Region.wanted o (yielded ops a.tmps)=true:=by simp[Region.wanted,hgd]
 rw[if_pos hw];unfold Oper.wp execOp;simp only[ho,resolve,invoke,builtin,Sem.run_bind,Sem.run_pure,Result.andThen_ok,List.map_toArray,List.map_cons,List.map_nil,hs,hx,hr];exact h
def dropK (ks:List Kd) (s:ByteArray):List Kd:=ks.filter (fun k=> !decide (k.sum=s))
theorem dropK_erase {ks:List Kd} (hnd:(ks.map (·.sum)).Nodup) {i:Nat} {k:Kd} (hk:ks[i]?=some k):dropK ks k.sum=ks.eraseIdx i:=by
 induction ks generalizing i with
 |nil=>simp at hk
 |cons x xs ih=>
  simp only[List.map_cons,List.nodup_cons,List.mem_map,not_exists,not_and] at hnd;cases i with
  |zero=>
   simp at hk;subst hk;unfold dropK;simp only[List.filter_cons,decide_true,Bool.not_true,Bool.false_eq_true,if_false,List.eraseIdx_zero,List.tail_cons];exact List.filter_eq_self.2 (fun y hy=>by simpa using hnd.1 y hy)
  |succ i=>
   have hk':xs[i]?=some k:=by simpa using hk
   have hm:=List.mem_of_getElem? hk';have hne:¬x.sum=k.sum:=fun e=>hnd.1 k hm e.symm;have:=ih hnd.2 hk';unfold dropK at *
   simp[hne,this]
theorem place_hit {ss:List ByteArray} {s:ByteArray} {i:Nat} (h:PlaceAt ss s i) (hs:s∈ss) (hsort:ss.Pairwise (fun a b=>less a b=true)):ss[i]?=some s:=by
 obtain⟨j,hj⟩:=List.getElem?_of_mem hs;have hjl:=(List.getElem?_eq_some_iff.1 hj).1;rcases Nat.lt_or_ge j i with h'|h'
 ·have:=h.lo j s h' hj
  rw[less_irrefl] at this;cases this
 ·rcases Nat.lt_or_ge i j with h''|h''
  ·have h1:=List.pairwise_iff_getElem.1 hsort i j (by omega) hjl h''
   have h2:=h.hi i _ (Nat.le_refl _) (List.getElem?_eq_getElem (by omega));obtain⟨_,e⟩:=List.getElem?_eq_some_iff.1 hj;rw[e] at h1;rw[h1] at h2;cases h2
  ·obtain rfl:j=i:=by omega
   exact hj
structure KsOk (wd:Int) (ks:List Kd):Prop where
 nd:(ks.map (·.sum)).Nodup
 sorted:(ks.map (·.sum)).Pairwise (fun a b=>less a b=true)
 sz:∀k∈ks,(k.sum.size:Int)=wd
 refs:RefsOk ks
 len:ks.length<=600
 w8:wd<=8
theorem HoldsV.drop {w w':World} {base:Nat} {V:List Nat} {wd:Int} {ks:List Kd} {f:Lit->Option Value} (h:HoldsV w base V wd ks f) (ht:Tn V w w') {s:ByteArray} (hs:(s.size:Int)=wd) (h8:wd<=8):HoldsV w' base V wd (dropK ks s) (ers f (keyL s)):=by
 intro t htz;by_cases hts:t=s
 ·subst hts
  exact .inl ⟨by simp[ers],fun⟨u,hu,hus⟩=>by simp[dropK,hus] at hu⟩
 ·have hne:keyL t≠keyL s:=fun e=>hts (key_inj e (by omega) (by omega))
  have he:ers f (keyL s) (keyL t)=f (keyL t):=by simp[ers,hne]
  rw[he];rcases h t htz with⟨h1,h2⟩|⟨u,ra,rc,hu,hus,hf,hr⟩
  ·exact .inl ⟨h1,fun⟨u,hu,hus⟩=>h2 ⟨u,(List.mem_filter.1 hu).1,hus⟩⟩
  ·exact .inr ⟨u,ra,rc,List.mem_filter.2 ⟨hu,by simp[hus,hts]⟩,hus,hf,hr.turn ht⟩
theorem Dr.apart {w w':World} {base d m:Nat} {O P L:Value} {wd now given births:Int} {ks:List Kd} {ps:List Pd} {ls:List Ld} (h:Dr w base d m O P L wd now given births ks ps ls) {R:Nat} (ht:Tn [R] w w') (hR:base<=R) (hV:R∉vB d m O P L) (hs:∀cur fz,w.heap[R]?≠some (.cells cur 9 fz)):Dr w' base d m O P L wd now given births ks ps ls:=by
 obtain⟨n,f,h1,h2,h3⟩:=h.map;have hst:∀b,b<w.heap.size->b∈vB d m O P L->w'.heap[b]?=w.heap[b]?:=fun b hb hv=>ht.block b hb (fun e=>hV (by simp at e;exact e▸hv))
 refine⟨CellsAt.same h.box (hst d h.box.lt (by simp[vB])),⟨n,f,h1,KMap.same h2 (hst m h2.lt (by simp[vB])),?_⟩,own_same h.ord (fun g hg=>hst g (own_lt h.ord hg).2 (by simp[vB,hg])),own_same h.pin (fun g hg=>hst g (own_lt h.pin hg).2 (by simp[vB,hg])),own_same h.lea (fun g hg=>hst g (own_lt h.lea hg).2 (by simp[vB,hg])),h.bd,h.bm,h.ap⟩;intro s hsz;rcases h3 s hsz with h'|⟨u,ra,rc,q1,q2,q3,q4⟩
 ·exact .inl h'
 ·refine .inr ⟨u,ra,rc,q1,q2,q3,?_⟩
  rcases q4 with q4|⟨b,off,ha,hb,hv,hx,hc⟩
  ·exact .inl q4
  ·have hne:b≠R:=by
    rcases hx with hx|⟨cur,fz,hx⟩
    ·omega
    ·exact fun e=>hs cur fz (e▸hx)
   have hbb:w'.heap[b]?=w.heap[b]?:=ht.block b hb (by simpa using hne);exact .inr ⟨b,off,ha,Nat.lt_of_lt_of_le hb ht.size,hv,(by rw[hbb];exact hx),fun i s hs=>(World.cell?_of_block (a:=⟨b,off+i,none⟩) hbb).trans (hc i s hs)⟩
set_option maxRecDepth 20000 in
set_option maxHeartbeats 4000000 in
theorem drop_yes (base d m:Nat) (O P L:Value) (wd now given births:Int) (ks:List Kd) (ps:List Pd) (ls:List Ld) (s:ByteArray) (w:World) (hd:Dr w base d m O P L wd now given births ks ps ls) (hok:KsOk wd ks) (hp:ps.length<=100) (hl:ls.length<=200) (hth:There ks s) (hfree:¬(((∃p∈ps,p.sum=s)∨∃l∈ls,l.sum=s)∨∃k∈ks,s∈k.refs)):
 Calls Tryz.prog 149 #[.pointer (some ⟨d,0,none⟩),.string s] w fun e w'=>e=.returned (.tuple #[])/\∃O',Dr w' base d m O' P L wd now given births (dropK ks s) ps ls/\O'.ownBlock=O.ownBlock/\Tn (vB d m O P L) w w':=by
 obtain⟨k0,hk0,hks⟩:=hth;have hth:There ks s:=⟨k0,hk0,hks⟩;have hsw:(s.size:Int)=wd:=hks▸hok.sz k0 hk0;have hlen:0<ks.length:=List.length_pos_of_mem hk0;obtain⟨g,cap,rfl,hgb,hgl⟩:=own_form hd.ord (fun e=>by have:=own_val hd.ord;obtain⟨a,c,e'⟩:=this;rw[e'] at e;injection e with _ h2 _;omega);have HD:Hid _:=hd;clear hd;go_enter Tryz.func149,Tryz.ntmps149;go_wp2_with fail
 refine(need_yes base d m _ P L wd now given births ks ps ls s w HD.out hok.sz hth).mono ?_;rintro e w1 ⟨rfl,hb1⟩;have HD1:Hid _:=Dr.below HD.out hb1;go_wp2_with fail;refine(isInUse_any base d m _ P L wd now given births ks ps ls s w1 HD1.out hok.nd hok.sz hok.refs hok.len hp hl).mono ?_;rintro e w2 ⟨ok,rfl,hok2,hb2⟩;obtain rfl:ok=false:=by
  cases ok with
  |false=>rfl
  |true=>exact absurd (hok2.1 rfl) hfree
 have HD2:Hid _:=Dr.below HD1.out hb2;clear hok2 HD1;go_wp2_with fail;refine(key_out s w2).mono ?_;rintro e w3 ⟨rfl,hb3⟩;obtain⟨W4,hW4⟩:∃W,W=w3.alloc (.cells #[.int .u8 (kB s 0),.int .u8 (kB s 1),.int .u8 (kB s 2),.int .u8 (kB s 3),.int .u8 (kB s 4),.int .u8 (kB s 5),.int .u8 (kB s 6),.int .u8 (kB s 7)] 162):=⟨_,rfl⟩
 have b34:Below w3.heap.size w3 W4:=by rw[hW4];exact(Below.refl _ _).alloc (Nat.le_refl _) _
 have k4:CellsAt W4 w3.heap.size (kCells s):=by rw[hW4];exact CellsAt.new w3 (kCells s) 162
 have B4:Below w.heap.size w W4:=((hb1.trans (hb2.mono hb1.size)).trans (hb3.mono (Nat.le_trans hb1.size hb2.size))).trans (b34.mono (Nat.le_trans (Nat.le_trans hb1.size hb2.size) hb3.size));have HD4:Hid _:=Dr.below (Dr.below HD2.out hb3) b34;have HW4:Hid _:=hW4;clear hW4 HD2;go_upto_region 4 with fail;rw[←HW4.out];clear HW4;obtain⟨n,f,hn,hM,hH⟩:=HD4.out.map
 obtain⟨w5,hr5,hM5,hg5⟩:=(hM.keep (Below.refl W4.heap.size W4).drew hM.lt).del keyed Tryz.underlying143 (key_lit s) 0;have hdl:=HD4.out.box.lt;have hap:=HD4.out.ap;have hdm:d≠m:=by
  intro e;unfold vB at hap;simp[e] at hap
 have hdg:d≠g/\m≠g:=by
  unfold vB at hap;simp[Value.ownBlock] at hap;omega
 have hml:m<w.heap.size:=(HD.out.map.choose_spec.choose_spec.2.1).lt;have hz4:w.heap.size<=w3.heap.size:=Nat.le_trans (Nat.le_trans hb1.size hb2.size) hb3.size;have hg5':W4.grownBy w5 (some m):=grown_undrew hg5;have k5:CellsAt w5 w3.heap.size (kCells s):=CellsAt.far' (v:=.int .u8 (kB s 0)) k4 hg5' (by omega);have x5:=CellsAt.far' HD4.out.box hg5' (fun e=>hdm e.symm)
 have P4:W4.drew.cell? ⟨d,1,none⟩=some (.map (some m))/\_:=⟨(HD4.out.box 1 _ rfl).1,box8 (w:=W4.drew) k4⟩;have P5:w5.cell? ⟨d,1,none⟩=some (.map (some m))/\_:=⟨(x5 1 _ rfl).1,box8 k5⟩;unfold keyV keyA at hr5
 go_region_held3 (fun X=>X.cell? ⟨d,1,none⟩=some (.map (some m))/\(X.cell? ⟨w3.heap.size,0,none⟩=some (.int .u8 (kB s 0))/\X.cell? ⟨w3.heap.size,1,none⟩=some (.int .u8 (kB s 1))/\X.cell? ⟨w3.heap.size,2,none⟩=some (.int .u8 (kB s 2))/\X.cell? ⟨w3.heap.size,3,none⟩=some (.int .u8 (kB s 3))/\X.cell? ⟨w3.heap.size,4,none⟩=some (.int .u8 (kB s 4))/\X.cell? ⟨w3.heap.size,5,none⟩=some (.int .u8 (kB s 5))/\X.cell? ⟨w3.heap.size,6,none⟩=some (.int .u8 (kB s 6))/\X.cell? ⟨w3.heap.size,7,none⟩=some (.int .u8 (kB s 7))))
  (first|with_reducible exact P4|with_reducible exact P5)
  (first|(refine step_delete_run (by rfl) (.tmp 21) (.tmp 22) 143 162 (by rfl) (by rfl) (by rfl) hr5 ?_))
 have ho5:w5.ownsRow base 162 8 (.slice (some ⟨g,0,none⟩) ks.length cap) ks.length (cells8 (ks.map (·.sum))):=World.ownsRow.kept HD4.out.ord hg5' (.inr (fun e=>hdg.2 (Option.some.inj e).symm));have HP:=place_any base d m g cap P L wd now given births ks s w5 x5 ho5 hok.len (by have:=hok.w8;omega) (fun x hx=>by have:=hok.sz x hx;omega) hok.sorted;obtain⟨q0,q1,q2,q3,q4,q5,q6,q7⟩:=box8 k5
 have HQ:Hid _:=HP;unfold keyV keyA at HQ;have HX5:Hid _:=And.intro x5 ho5;have H5:Hid _:=And.intro hM5 (And.intro hg5' hH);clear HP P4 P5 hr5 hM5 hg5 hg5' x5 ho5 k4 k5 hM;go_wp2_with fail;refine Calls.mono HQ.out ?_;rintro e w6 ⟨i,rfl,hpl,hb6⟩;have hgi:=place_hit hpl (List.mem_map.2 ⟨k0,hk0,hks⟩) hok.sorted;have hkl:=hok.len
 have hil:i<ks.length:=by have:=(List.getElem?_eq_some_iff.1 hgi).1;simpa using this
 have x6:=CellsAt.below HX5.out.1 hb6;obtain⟨y5,f5⟩:=x6 5 _ rfl;have ho6:w6.ownsRow base 162 8 (.slice (some ⟨g,0,none⟩) (ks.map (·.sum)).length cap) (ks.map (·.sum)).length (cells8 (ks.map (·.sum))):=by
  rw[List.length_map];exact own_below HX5.out.2 hb6
 have HDel:=deleteKey_any g cap i (ks.map (·.sum)) w6 base ho6 (by rw[List.length_map];exact hok.len) (by rw[List.length_map];exact hil);rw[List.length_map] at HDel;have HDl:Hid _:=HDel;have H6:Hid _:=And.intro hgi (And.intro x6 hb6);clear hpl hgi x6 HDel ho6 HQ q0 q1 q2 q3 q4 q5 q6 q7;go_wp2_with fail;refine Calls.mono HDl.out ?_;rintro e w7 ⟨rfl,ho7,hg7⟩
 have x7:=CellsAt.far' H6.out.2.1 hg7 (fun e=>hdg.1 e.symm);obtain⟨y7,f7⟩:=x7 5 _ rfl;have H7:Hid _:=And.intro x7 (And.intro ho7 hg7);clear x7 ho7 hg7 y5 f5 HDl;go_wp2
 go_end0
 have T3:Tn [d,m,g] W4 (w7.setCell ⟨d,5,none⟩ (.slice (some ⟨g,0,none⟩) (ks.length -1) cap)):=
  (((Tn.grown H5.out.2.1 (by simp)).trans (Tn.of H6.out.2.2)).trans (Tn.grown H7.out.2.2 (by simp))).trans (Tn.set w7 d 5 _ (by simp))
 have hsub:∀b∈[d,m,g],b∈vB d m (.slice (some ⟨g,0,none⟩) ks.length cap) P L:=by
  intro b hb;simp at hb;unfold vB;rcases hb with rfl|rfl|rfl<;>simp[Value.ownBlock]
 have hni:∀v:Value,(v=P∨v=L)->∀b,v.ownBlock=some b->b∉[d,m,g]:=by
  intro v hv b hb hin;unfold vB at hap;rcases hv with rfl|rfl
  ·simp only[List.nodup_cons,List.mem_cons,List.mem_append,Option.mem_toList,hb] at hap
   simp[Value.ownBlock] at hap hin
   grind
  ·simp only[List.nodup_cons,List.mem_cons,List.mem_append,Option.mem_toList,hb] at hap
   simp[Value.ownBlock] at hap hin
   grind
 have hgk:∃k,ks[i]?=some k/\k.sum=s:=by
  have:=H6.out.1;rw[List.getElem?_map] at this;cases hk:ks[i]? with
  |none=>rw[hk] at this;cases this
  |some k=>rw[hk] at this;exact⟨k,rfl,by simpa using this⟩
 obtain⟨ki,hki,hkis⟩:=hgk;have hdk:dropK ks s=ks.eraseIdx i:=hkis▸dropK_erase hok.nd hki;refine⟨rfl,.slice (some ⟨g,0,none⟩) (ks.length -1) cap,⟨CellsAt.set H7.out.1 5 _,⟨n,ers f (keyL s),hn,?_,?_⟩,?_,?_,?_,HD4.out.bd,HD4.out.bm,hap⟩,rfl,(Tn.of B4).trans (T3.mono hsub)⟩
 ·refine KMap.same (KMap.same (H5.out.1.keep H6.out.2.2 H5.out.1.lt) (H7.out.2.2.block m (Nat.lt_of_lt_of_le H5.out.1.lt H6.out.2.2.size) (fun e=>hdg.2 (Option.some.inj e)))) ?_
  exact Below.heap_setCell _ _ _ _ (fun e=>hdm e.symm)
 ·exact HoldsV.drop H5.out.2.2 (T3.mono hsub) hsw hok.w8
 ·rw[hdk]
  have h1:(ks.eraseIdx i).length=ks.length -1:=by rw[List.length_eraseIdx,if_pos hil]
  rw[h1];have h2:(ks.eraseIdx i).map (·.sum)=(ks.map (·.sum)).eraseIdx i:=by simp[List.eraseIdx_eq_take_drop_succ]
  rw[h2];exact own_set H7.out.2.1 (fun b hb=>by simp[Value.ownBlock] at hb;omega) 5 _
 ·exact own_same HD4.out.pin (fun b hb=>T3.block b (own_lt HD4.out.pin hb).2 (hni P (.inl rfl) b hb))
 ·exact own_same HD4.out.lea (fun b hb=>T3.block b (own_lt HD4.out.lea hb).2 (hni L (.inr rfl) b hb))
end Go.Proofs.YthkmpihfhkmaoaaGreatDoor
namespace Go.Proofs.YthkmpihfhkmaoaaGreatDoor
open Go.ChangeShapes Go.WideShapes Go.ChangeAt Go.RowKit
theorem Dr.lts {w:World} {base d m:Nat} {O P L:Value} {wd now given births:Int} {ks:List Kd} {ps:List Pd} {ls:List Ld} (hd:Dr w base d m O P L wd now given births ks ps ls):∀b∈vB d m O P L,b<w.heap.size:=by
 intro b hb;unfold vB at hb;simp only[List.mem_cons,List.mem_append,Option.mem_toList] at hb;rcases hb with rfl|rfl|hb|hb|hb
 ·exact hd.box.lt
 ·exact(hd.map.choose_spec.choose_spec.2.1).lt
 ·exact(own_lt hd.ord hb).2
 ·exact(own_lt hd.pin hb).2
 ·exact(own_lt hd.lea hb).2
def refV (c:Int) (a b:ByteArray):Value:=.iface 165 (.agg #[.int .i64 c,.string a,.string b])
set_option maxRecDepth 20000 in
set_option maxHeartbeats 2000000 in
theorem drop_held (base d m:Nat) (O P L:Value) (wd now given births:Int) (ks:List Kd) (ps:List Pd) (ls:List Ld) (s:ByteArray) (w:World) (hd:Dr w base d m O P L wd now given births ks ps ls) (hok:KsOk wd ks) (hp:ps.length<=100) (hl:ls.length<=200) (hth:There ks s) (huse:((∃p∈ps,p.sum=s)∨∃l∈ls,l.sum=s)∨∃k∈ks,s∈k.refs):
 Calls Tryz.prog 149 #[.pointer (some ⟨d,0,none⟩),.string s] w fun e w'=>e=.panicked [{v:=refV 6 ⟨#[]⟩ ⟨#[]⟩,recovered:=false}]/\Below w.heap.size w w':=by
 have HD:Hid _:=hd;clear hd;go_enter Tryz.func149,Tryz.ntmps149;go_wp2_with fail;refine(need_yes base d m O P L wd now given births ks ps ls s w HD.out hok.sz hth).mono ?_;rintro e w1 ⟨rfl,hb1⟩;have HD1:Hid _:=Dr.below HD.out hb1;go_wp2_with fail;refine(isInUse_any base d m O P L wd now given births ks ps ls s w1 HD1.out hok.nd hok.sz hok.refs hok.len hp hl).mono ?_;rintro e w2 ⟨ok,rfl,hok2,hb2⟩
 obtain rfl:=hok2.2 huse;clear hok2 HD1;go_wp2;exact⟨rfl,rfl,hb1.trans (hb2.mono hb1.size)⟩
def z12:List Value:=[.int .i64 0,.int .i64 0,.int .i64 0,.int .i64 0,.int .i64 0,.slice none 0 0,.slice none 0 0,.slice none 0 0,.string ⟨#[]⟩,.int .i64 0,.string ⟨#[]⟩,.string ⟨#[]⟩]
theorem z12at {w:World} {b:Nat} (h:CellsAt w b z12):(w.cell? ⟨b,0,none⟩=some (.int .i64 0)/\w.frozen? ⟨b,0,none⟩=false)/\(w.cell? ⟨b,1,none⟩=some (.int .i64 0)/\w.frozen? ⟨b,1,none⟩=false)/\(w.cell? ⟨b,2,none⟩=some (.int .i64 0)/\w.frozen? ⟨b,2,none⟩=false)/\(w.cell? ⟨b,3,none⟩=some (.int .i64 0)/\w.frozen? ⟨b,3,none⟩=false)/\(w.cell? ⟨b,4,none⟩=some (.int .i64 0)/\w.frozen? ⟨b,4,none⟩=false)/\(w.cell? ⟨b,5,none⟩=some (.slice none 0 0)/\w.frozen? ⟨b,5,none⟩=false)/\(w.cell? ⟨b,6,none⟩=some (.slice none 0 0)/\w.frozen? ⟨b,6,none⟩=false)/\(w.cell? ⟨b,7,none⟩=some (.slice none 0 0)/\w.frozen? ⟨b,7,none⟩=false)/\(w.cell? ⟨b,8,none⟩=some (.string ⟨#[]⟩)/\w.frozen? ⟨b,8,none⟩=false)/\(w.cell? ⟨b,9,none⟩=some (.int .i64 0)/\w.frozen? ⟨b,9,none⟩=false)/\(w.cell? ⟨b,10,none⟩=some (.string ⟨#[]⟩)/\w.frozen? ⟨b,10,none⟩=false)/\(w.cell? ⟨b,11,none⟩=some (.string ⟨#[]⟩)/\w.frozen? ⟨b,11,none⟩=false):=
 ⟨h 0 _ rfl,h 1 _ rfl,h 2 _ rfl,h 3 _ rfl,h 4 _ rfl,h 5 _ rfl,h 6 _ rfl,h 7 _ rfl,h 8 _ rfl,h 9 _ rfl,h 10 _ rfl,h 11 _ rfl⟩
theorem tn12 (w:World) (R:Nat) (a0 a1 a2 a3 a4 a5 a6 a7 a8 a9 a10 a11:Value):Tn [R] w ((((((((((((w.setCell ⟨R,0,none⟩ a0).setCell ⟨R,1,none⟩ a1).setCell ⟨R,2,none⟩ a2).setCell ⟨R,3,none⟩ a3).setCell ⟨R,4,none⟩ a4).setCell ⟨R,5,none⟩ a5).setCell ⟨R,6,none⟩ a6).setCell ⟨R,7,none⟩ a7).setCell ⟨R,8,none⟩ a8).setCell ⟨R,9,none⟩ a9).setCell ⟨R,10,none⟩ a10).setCell ⟨R,11,none⟩ a11):=
 have h:∀(x:World) (j:Nat) (v:Value),Tn [R] x (x.setCell ⟨R,j,none⟩ v):=fun x j v=>Tn.set x R j v (by simp)
 (((((((((((h w 0 a0).trans (h _ 1 a1)).trans (h _ 2 a2)).trans (h _ 3 a3)).trans (h _ 4 a4)).trans (h _ 5 a5)).trans (h _ 6 a6)).trans (h _ 7 a7)).trans (h _ 8 a8)).trans (h _ 9 a9)).trans (h _ 10 a10)).trans (h _ 11 a11)
theorem Tn.fresh {V:List Nat} {w w1 w':World} {R:Nat} (h1:Tn V w w1) (h2:Tn [R] w1 w') (hR:w.heap.size<=R):Tn V w w':=
 ⟨h2.os.trans h1.os,h2.tape.trans h1.tape,h2.output.trans h1.output,Nat.le_trans h1.size h2.size,fun b hb hv=>(h2.block b (Nat.lt_of_lt_of_le hb h1.size) (by simp;omega)).trans (h1.block b hb hv)⟩
def dropE (s:ByteArray):Array Value:= #[.int .i64 7,.string s,.string ⟨#[]⟩,.int .i64 0,.string ⟨#[]⟩,.slice none 0 0]
set_option maxRecDepth 20000 in
set_option maxHeartbeats 4000000 in
theorem changeDrop_yes (base d m:Nat) (O P L:Value) (wd now given births:Int) (ks:List Kd) (ps:List Pd) (ls:List Ld) (s:ByteArray) (w:World) (hd:Dr w base d m O P L wd now given births ks ps ls) (hok:KsOk wd ks) (hp:ps.length<=100) (hl:ls.length<=200) (hth:There ks s) (hfree:¬(((∃p∈ps,p.sum=s)∨∃l∈ls,l.sum=s)∨∃k∈ks,s∈k.refs)):
 Calls Tryz.prog 112 #[.pointer (some ⟨d,0,none⟩),.agg (dropE s)] w fun e w'=>e=.returned (.agg z12.toArray)/\∃O',Dr w' base d m O' P L wd now given births (dropK ks s) ps ls/\O'.ownBlock=O.ownBlock/\Tn (vB d m O P L) w w':=by
 obtain⟨W,hW⟩:∃W,W=((w.alloc (.cells #[.int .i64 7,.string s,.string ⟨#[]⟩,.int .i64 0,.string ⟨#[]⟩,.slice none 0 0] 45)).alloc (.cells #[.int .i64 0,.int .i64 0,.int .i64 0,.int .i64 0,.int .i64 0,.slice none 0 0,.slice none 0 0,.slice none 0 0,.string ⟨#[]⟩,.int .i64 0,.string ⟨#[]⟩,.string ⟨#[]⟩] 40)).alloc (.cells #[.int .i64 0,.int .i64 0,.int .i64 0,.int .i64 0,.int .i64 0,.slice none 0 0,.slice none 0 0,.slice none 0 0,.string ⟨#[]⟩,.int .i64 0,.string ⟨#[]⟩,.string ⟨#[]⟩] 40):=⟨_,rfl⟩
 have hB:Below w.heap.size w W:=by rw[hW];exact(((Below.refl _ _).alloc (Nat.le_refl _) _).alloc (by simp) _).alloc (by simp;omega) _
 have hzW:W.heap.size=w.heap.size+3:=by rw[hW];simp
 have e0:W.cell? ⟨w.heap.size,0,none⟩=some (.int .i64 7):=by rw[hW];simp[go_sem]
 have e1:W.cell? ⟨w.heap.size,1,none⟩=some (.string s):=by rw[hW];simp[go_sem]
 have zR:CellsAt W (w.heap.size+1) z12:=by
  have h1:=CellsAt.new (w.alloc (.cells #[.int .i64 7,.string s,.string ⟨#[]⟩,.int .i64 0,.string ⟨#[]⟩,.slice none 0 0] 45)) z12 40;rw[World.size_alloc] at h1;rw[hW];exact CellsAt.below (v:=.int .i64 0) h1 ((Below.refl _ _).alloc (Nat.le_refl _) _)
 have zO:CellsAt W (w.heap.size+2) z12:=by
  have h1:=CellsAt.new ((w.alloc (.cells #[.int .i64 7,.string s,.string ⟨#[]⟩,.int .i64 0,.string ⟨#[]⟩,.slice none 0 0] 45)).alloc (.cells z12.toArray 40)) z12 40;rw[World.size_alloc,World.size_alloc] at h1;rw[hW];exact h1
 have HD:Hid _:=hd.below hB;have HV:Hid (∀b∈vB d m O P L,b<w.heap.size):=by
  intro b hb;unfold vB at hb;simp only[List.mem_cons,List.mem_append,Option.mem_toList] at hb;rcases hb with rfl|rfl|hb|hb|hb
  ·exact hd.box.lt
  ·exact(hd.map.choose_spec.choose_spec.2.1).lt
  ·exact(own_lt hd.ord hb).2
  ·exact(own_lt hd.pin hb).2
  ·exact(own_lt hd.lea hb).2
 have HR:Hid (W.heap[w.heap.size+1]?=some (.cells #[.int .i64 0,.int .i64 0,.int .i64 0,.int .i64 0,.int .i64 0,.slice none 0 0,.slice none 0 0,.slice none 0 0,.string ⟨#[]⟩,.int .i64 0,.string ⟨#[]⟩,.string ⟨#[]⟩] 40)):=by
  show _=_;rw[hW,Below.heap_alloc _ _ _ (by simp)];have:=heap_alloc_new (w.alloc (.cells #[.int .i64 7,.string s,.string ⟨#[]⟩,.int .i64 0,.string ⟨#[]⟩,.slice none 0 0] 45)) (.cells #[.int .i64 0,.int .i64 0,.int .i64 0,.int .i64 0,.int .i64 0,.slice none 0 0,.slice none 0 0,.slice none 0 0,.string ⟨#[]⟩,.int .i64 0,.string ⟨#[]⟩,.string ⟨#[]⟩] 40);rw[World.size_alloc] at this;exact this
 have hbase:base<=w.heap.size:=by have:=hd.bd;have:=hd.box.lt;omega
 have HW:Hid _:=hW;have HZ:Hid _:=And.intro zR zO;have HzW:Hid _:=hzW;clear hW hd zR zO hzW;unfold dropE;go_enter Tryz.func112,Tryz.ntmps112;go_upto_region 2 with fail;rw[←HW.out];clear HW;go_wp2_with fail;refine(drop_yes base d m O P L wd now given births ks ps ls s W HD.out hok hp hl hth hfree).mono ?_;rintro e w1 ⟨rfl,O',hd1,hO,ht1⟩
 have zR1:CellsAt w1 (w.heap.size+1) z12:=CellsAt.same HZ.out.1 (ht1.block _ (by have:=HzW.out;omega) (fun h=>by have:=HV.out _ h;omega));have zO1:CellsAt w1 (w.heap.size+2) z12:=CellsAt.same HZ.out.2 (ht1.block _ (by have:=HzW.out;omega) (fun h=>by have:=HV.out _ h;omega));obtain⟨⟨y0,q0⟩,⟨y1,q1⟩,⟨y2,q2⟩,⟨y3,q3⟩,⟨y4,q4⟩,⟨y5,q5⟩,⟨y6,q6⟩,⟨y7,q7⟩,⟨y8,q8⟩,⟨y9,q9⟩,⟨y10,q10⟩,y11,q11⟩:=z12at zR1
 obtain⟨⟨v0,_⟩,⟨v1,_⟩,⟨v2,_⟩,⟨v3,_⟩,⟨v4,_⟩,⟨v5,_⟩,⟨v6,_⟩,⟨v7,_⟩,⟨v8,_⟩,⟨v9,_⟩,⟨v10,_⟩,v11,_⟩:=z12at zO1;have H1:Hid _:=And.intro hd1 (And.intro hO ht1);clear hd1 hO ht1 zR1 zO1 e0 e1 HD;go_wp2;have hRv:w.heap.size+1∉vB d m O' P L:=fun h=>by
  have:w.heap.size+1∈vB d m O P L:=by
   unfold vB at h ⊢;rw[H1.out.2.1] at h;exact h
  have:=HV.out _ this;omega
 have hRs:∀cur fz,w1.heap[w.heap.size+1]?≠some (.cells cur 9 fz):=fun cur fz e=>by
  have h1:=H1.out.2.2.block (w.heap.size+1) (by have:=HzW.out;omega) (fun h=>by have:=HV.out _ h;omega);rw[e,HR.out] at h1;simp at h1
 refine bodyPost_ret (v:=.agg z12.toArray) (by simp[results,Tryz.results112,go_sem,y0,y1,y2,y3,y4,y5,y6,y7,y8,y9,y10,y11,z12]) rfl ⟨rfl,O',Dr.apart H1.out.1 (tn12 w1 _ _ _ _ _ _ _ _ _ _ _ _ _) (by omega) hRv hRs,H1.out.2.1,Tn.fresh ((Tn.of hB).trans H1.out.2.2) (tn12 w1 _ _ _ _ _ _ _ _ _ _ _ _ _) (by omega)⟩
set_option maxRecDepth 20000 in
set_option maxHeartbeats 4000000 in
theorem changeDrop_held (base d m:Nat) (O P L:Value) (wd now given births:Int) (ks:List Kd) (ps:List Pd) (ls:List Ld) (s:ByteArray) (w:World) (hd:Dr w base d m O P L wd now given births ks ps ls) (hok:KsOk wd ks) (hp:ps.length<=100) (hl:ls.length<=200) (hth:There ks s) (huse:((∃p∈ps,p.sum=s)∨∃l∈ls,l.sum=s)∨∃k∈ks,s∈k.refs):
 Calls Tryz.prog 112 #[.pointer (some ⟨d,0,none⟩),.agg (dropE s)] w fun e w'=>e=.panicked [{v:=refV 6 ⟨#[]⟩ ⟨#[]⟩,recovered:=false}]/\Below w.heap.size w w':=by
 obtain⟨W,hW⟩:∃W,W=((w.alloc (.cells #[.int .i64 7,.string s,.string ⟨#[]⟩,.int .i64 0,.string ⟨#[]⟩,.slice none 0 0] 45)).alloc (.cells #[.int .i64 0,.int .i64 0,.int .i64 0,.int .i64 0,.int .i64 0,.slice none 0 0,.slice none 0 0,.slice none 0 0,.string ⟨#[]⟩,.int .i64 0,.string ⟨#[]⟩,.string ⟨#[]⟩] 40)).alloc (.cells #[.int .i64 0,.int .i64 0,.int .i64 0,.int .i64 0,.int .i64 0,.slice none 0 0,.slice none 0 0,.slice none 0 0,.string ⟨#[]⟩,.int .i64 0,.string ⟨#[]⟩,.string ⟨#[]⟩] 40):=⟨_,rfl⟩
 have hB:Below w.heap.size w W:=by rw[hW];exact(((Below.refl _ _).alloc (Nat.le_refl _) _).alloc (by simp) _).alloc (by simp;omega) _
 have e0:W.cell? ⟨w.heap.size,0,none⟩=some (.int .i64 7):=by rw[hW];simp[go_sem]
 have e1:W.cell? ⟨w.heap.size,1,none⟩=some (.string s):=by rw[hW];simp[go_sem]
 have HD:Hid _:=hd.below hB;have HW:Hid _:=hW;clear hW hd;unfold dropE;go_enter Tryz.func112,Tryz.ntmps112;go_upto_region 2 with fail;rw[←HW.out];clear HW;go_wp2_with fail;refine(drop_held base d m O P L wd now given births ks ps ls s W HD.out hok hp hl hth huse).mono ?_;rintro e w1 ⟨rfl,hb1⟩;exact⟨rfl,rfl,hB.trans (hb1.mono hB.size)⟩
set_option maxRecDepth 20000 in
set_option maxHeartbeats 1000000 in
theorem catch_idle (p:Addr) (w:World):
 CallsD Tryz.prog 111 #[.pointer (some p)] .returning w fun e u' w'=>e=.returned (.tuple #[])/\u'=.returning/\w'=w:=by
 have hnil:∀w:World,(binOp BinOp.eql 20 .nilIface .nilIface).run Tryz.prog w=.ok (.bool true) w:=fun _=>by kernel_rfl
 refine callsD_of_wpS Tryz.func111 rfl fun c₀ cs hu=> ?_;apply wpS_seq;apply wpS_region;simp[wpOpsS,go_sem,recoverD,hu,Tryz.ntmps111,Exit.thenS];refine wpS_of_wp ?_;change Code.wp Tryz.prog _ _ {tmps:= #[Value.pointer (some p),undef,undef,undef,Value.nilIface,undef,undef,undef,undef,undef,undef,undef,undef,undef,undef,undef,undef],defers:=[]} w;go_wp2;cases c₀
 simp_all [bodyPostS,results,Tryz.results111]
theorem set12 {w:World} {b:Nat} (h:CellsAt w b z12) (a0 a1 a2 a3 a4 a5 a6 a7 a8 a9 a10 a11:Value):CellsAt ((((((((((((w.setCell ⟨b,0,none⟩ a0).setCell ⟨b,1,none⟩ a1).setCell ⟨b,2,none⟩ a2).setCell ⟨b,3,none⟩ a3).setCell ⟨b,4,none⟩ a4).setCell ⟨b,5,none⟩ a5).setCell ⟨b,6,none⟩ a6).setCell ⟨b,7,none⟩ a7).setCell ⟨b,8,none⟩ a8).setCell ⟨b,9,none⟩ a9).setCell ⟨b,10,none⟩ a10).setCell ⟨b,11,none⟩ a11) b [a0,a1,a2,a3,a4,a5,a6,a7,a8,a9,a10,a11]:=
 ((((((((((((h.set 0 a0).set 1 a1).set 2 a2).set 3 a3).set 4 a4).set 5 a5).set 6 a6).set 7 a7).set 8 a8).set 9 a9).set 10 a10).set 11 a11)
def refC (c:Int) (a b:ByteArray):List Value:=[.int .i64 c,.int .i64 0,.int .i64 0,.int .i64 0,.int .i64 0,.slice none 0 0,.slice none 0 0,.slice none 0 0,.string ⟨#[]⟩,.int .i64 0,.string a,.string b]
set_option maxRecDepth 20000 in
set_option maxHeartbeats 2000000 in
theorem catch_panic (R:Nat) (c:Int) (a b:ByteArray) (w:World) (hz:CellsAt w R z12):
 CallsD Tryz.prog 111 #[.pointer (some ⟨R,0,none⟩)] (.panicking [{v:=refV c a b,recovered:=false}]) w fun e u' w'=>e=.returned (.tuple #[])/\u'=.panicking [{v:=refV c a b,recovered:=true}]/\CellsAt w' R (refC c a b)/\Tn [R] w w':=by
 have hnil:∀w:World,(binOp BinOp.eql 20 (.iface 165 (.agg #[.int .i64 c,.string a,.string b])) .nilIface).run Tryz.prog w=.ok (.bool false) w:=fun _=>by first|rfl|kernel_rfl
 have hta:∀w:World,(Instr.typeAssert (.iface 165 (.agg #[.int .i64 c,.string a,.string b])) 20 165 true).run Tryz.prog w=.ok (.tuple #[.agg #[.int .i64 c,.string a,.string b],.bool true]) w:=fun _=>by first|rfl|kernel_rfl
 obtain⟨⟨y0,q0⟩,⟨y1,q1⟩,⟨y2,q2⟩,⟨y3,q3⟩,⟨y4,q4⟩,⟨y5,q5⟩,⟨y6,q6⟩,⟨y7,q7⟩,⟨y8,q8⟩,⟨y9,q9⟩,⟨y10,q10⟩,y11,q11⟩:=z12at hz;have hRl:R<w.heap.size:=CellsAt.lt (v:=.int .i64 0) hz;have hne:¬w.heap.size=R:=by omega
 have hne':¬R=w.heap.size:=by omega
 unfold refV;refine callsD_of_wpS Tryz.func111 rfl fun c₀ cs hu=> ?_;apply wpS_seq;apply wpS_region;simp[wpOpsS,go_sem,recoverD,hu,Tryz.ntmps111,Exit.thenS];refine wpS_of_wp ?_
 change Code.wp Tryz.prog _ _ {tmps:= #[Value.pointer (some ⟨R,0,none⟩),undef,undef,undef,.iface 165 (.agg #[.int .i64 c,.string a,.string b]),undef,undef,undef,undef,undef,undef,undef,undef,undef,undef,undef,undef],defers:=[]} w;go_wp2;simp[bodyPostS,results,Tryz.results111]
 exact⟨CellsAt.below (v:=.int .i64 c) (set12 hz _ _ _ _ _ _ _ _ _ _ _ _) ((Below.refl _ _).alloc (Nat.le_refl _) _),(tn12 w R _ _ _ _ _ _ _ _ _ _ _ _).trans (Tn.of ((Below.refl _ _).alloc (Nat.le_refl _) _))⟩
set_option maxRecDepth 20000 in
set_option maxHeartbeats 4000000 in
theorem attemptDrop_yes (base d m:Nat) (O P L:Value) (wd now given births:Int) (ks:List Kd) (ps:List Pd) (ls:List Ld) (s:ByteArray) (w:World) (hd:Dr w base d m O P L wd now given births ks ps ls) (hok:KsOk wd ks) (hp:ps.length<=100) (hl:ls.length<=200) (hth:There ks s) (hfree:¬(((∃p∈ps,p.sum=s)∨∃l∈ls,l.sum=s)∨∃k∈ks,s∈k.refs)):
 Calls Tryz.prog 45 #[.pointer (some ⟨d,0,none⟩),.agg (dropE s)] w fun e w'=>e=.returned (.agg z12.toArray)/\∃O',Dr w' base d m O' P L wd now given births (dropK ks s) ps ls/\O'.ownBlock=O.ownBlock/\Tn (vB d m O P L) w w':=by
 have hmf:∀(fn:Fn) (first cap:Array Value) (w:World),(Instr.makeFunc fn first cap).run Tryz.prog w=.ok (.func fn first cap) w:=fun _ _ _ _=>rfl
 obtain⟨W,hW⟩:∃W,W=(w.alloc (.cells #[.int .i64 7,.string s,.string ⟨#[]⟩,.int .i64 0,.string ⟨#[]⟩,.slice none 0 0] 45)).alloc (.cells #[.int .i64 0,.int .i64 0,.int .i64 0,.int .i64 0,.int .i64 0,.slice none 0 0,.slice none 0 0,.slice none 0 0,.string ⟨#[]⟩,.int .i64 0,.string ⟨#[]⟩,.string ⟨#[]⟩] 40):=⟨_,rfl⟩
 have hB:Below w.heap.size w W:=by rw[hW];exact((Below.refl _ _).alloc (Nat.le_refl _) _).alloc (by simp) _
 have hzW:W.heap.size=w.heap.size+2:=by rw[hW];simp
 have e0:W.cell? ⟨w.heap.size,0,none⟩=some (.int .i64 7):=by rw[hW];simp[go_sem]
 have e1:W.cell? ⟨w.heap.size,1,none⟩=some (.string s):=by rw[hW];simp[go_sem]
 have e2:W.cell? ⟨w.heap.size,2,none⟩=some (.string ⟨#[]⟩):=by rw[hW];simp[go_sem]
 have e3:W.cell? ⟨w.heap.size,3,none⟩=some (.int .i64 0):=by rw[hW];simp[go_sem]
 have e4:W.cell? ⟨w.heap.size,4,none⟩=some (.string ⟨#[]⟩):=by rw[hW];simp[go_sem]
 have e5:W.cell? ⟨w.heap.size,5,none⟩=some (.slice none 0 0):=by rw[hW];simp[go_sem]
 have HR:Hid (W.heap[w.heap.size+1]?=some (.cells #[.int .i64 0,.int .i64 0,.int .i64 0,.int .i64 0,.int .i64 0,.slice none 0 0,.slice none 0 0,.slice none 0 0,.string ⟨#[]⟩,.int .i64 0,.string ⟨#[]⟩,.string ⟨#[]⟩] 40)):=by
  show _=_;have:=heap_alloc_new (w.alloc (.cells #[.int .i64 7,.string s,.string ⟨#[]⟩,.int .i64 0,.string ⟨#[]⟩,.slice none 0 0] 45)) (.cells #[.int .i64 0,.int .i64 0,.int .i64 0,.int .i64 0,.int .i64 0,.slice none 0 0,.slice none 0 0,.slice none 0 0,.string ⟨#[]⟩,.int .i64 0,.string ⟨#[]⟩,.string ⟨#[]⟩] 40);rw[World.size_alloc] at this;rw[hW];exact this
 have zR:CellsAt W (w.heap.size+1) z12:=by
  have h1:=CellsAt.new (w.alloc (.cells #[.int .i64 7,.string s,.string ⟨#[]⟩,.int .i64 0,.string ⟨#[]⟩,.slice none 0 0] 45)) z12 40;rw[World.size_alloc] at h1;rw[hW];exact h1
 have HD:Hid _:=hd.below hB;have HV:Hid (∀b∈vB d m O P L,b<w.heap.size):=hd.lts;have hbase:base<=w.heap.size:=by have:=hd.bd;have:=hd.box.lt;omega
 have HW:Hid _:=hW;have HZ:Hid _:=zR;have HzW:Hid _:=hzW;clear hW hd zR hzW;unfold dropE
 go_enter_defers Tryz.func45,Tryz.ntmps45
 go_upto_region 1 with fail;rw[←HW.out];clear HW;go_wp2_with fail;refine(changeDrop_yes base d m O P L wd now given births ks ps ls s W HD.out hok hp hl hth hfree).mono ?_;rintro e w1 ⟨rfl,O',hd1,hO,ht1⟩;have zR1:CellsAt w1 (w.heap.size+1) z12:=CellsAt.same HZ.out (ht1.block _ (by have:=HzW.out;omega) (fun h=>by have:=HV.out _ h;omega))
 obtain⟨⟨y0,q0⟩,⟨y1,q1⟩,⟨y2,q2⟩,⟨y3,q3⟩,⟨y4,q4⟩,⟨y5,q5⟩,⟨y6,q6⟩,⟨y7,q7⟩,⟨y8,q8⟩,⟨y9,q9⟩,⟨y10,q10⟩,y11,q11⟩:=z12at zR1;have H1:Hid _:=And.intro hd1 (And.intro hO ht1);clear hd1 hO ht1 zR1 e0 e1 e2 e3 e4 e5 HD;unfold z12;go_wp2;refine leaves_cons (f:=111) (args:= #[.pointer (some ⟨w.heap.size+1,0,none⟩)]) (by simp) (by simp[go_sem]) ?_;refine(catch_idle ⟨w.heap.size+1,0,none⟩ _).mono ?_
 rintro e u' w'' ⟨rfl,rfl,rfl⟩;have hRv:w.heap.size+1∉vB d m O' P L:=fun h=>by
  have:w.heap.size+1∈vB d m O P L:=by
   unfold vB at h ⊢;rw[H1.out.2.1] at h;exact h
  have:=HV.out _ this;omega
 have hRs:∀cur fz,w1.heap[w.heap.size+1]?≠some (.cells cur 9 fz):=fun cur fz e=>by
  have h1:=H1.out.2.2.block (w.heap.size+1) (by have:=HzW.out;omega) (fun h=>by have:=HV.out _ h;omega);rw[e,HR.out] at h1;simp at h1
 simp[Leaves,settle,results,Tryz.results45,go_sem,y0,y1,y2,y3,y4,y5,y6,y7,y8,y9,y10,y11];exact⟨rfl,O',Dr.apart H1.out.1 (tn12 w1 _ _ _ _ _ _ _ _ _ _ _ _ _) (by omega) hRv hRs,H1.out.2.1,Tn.fresh ((Tn.of hB).trans H1.out.2.2) (tn12 w1 _ _ _ _ _ _ _ _ _ _ _ _ _) (by omega)⟩
set_option maxRecDepth 20000 in
set_option maxHeartbeats 4000000 in
theorem attemptDrop_held (base d m:Nat) (O P L:Value) (wd now given births:Int) (ks:List Kd) (ps:List Pd) (ls:List Ld) (s:ByteArray) (w:World) (hd:Dr w base d m O P L wd now given births ks ps ls) (hok:KsOk wd ks) (hp:ps.length<=100) (hl:ls.length<=200) (hth:There ks s) (huse:((∃p∈ps,p.sum=s)∨∃l∈ls,l.sum=s)∨∃k∈ks,s∈k.refs):
 Calls Tryz.prog 45 #[.pointer (some ⟨d,0,none⟩),.agg (dropE s)] w fun e w'=>e=.returned (.agg (refC 6 ⟨#[]⟩ ⟨#[]⟩).toArray)/\Below w.heap.size w w':=by
 have hmf:∀(fn:Fn) (first cap:Array Value) (w:World),(Instr.makeFunc fn first cap).run Tryz.prog w=.ok (.func fn first cap) w:=fun _ _ _ _=>rfl
 obtain⟨W,hW⟩:∃W,W=(w.alloc (.cells #[.int .i64 7,.string s,.string ⟨#[]⟩,.int .i64 0,.string ⟨#[]⟩,.slice none 0 0] 45)).alloc (.cells #[.int .i64 0,.int .i64 0,.int .i64 0,.int .i64 0,.int .i64 0,.slice none 0 0,.slice none 0 0,.slice none 0 0,.string ⟨#[]⟩,.int .i64 0,.string ⟨#[]⟩,.string ⟨#[]⟩] 40):=⟨_,rfl⟩
 have hB:Below w.heap.size w W:=by rw[hW];exact((Below.refl _ _).alloc (Nat.le_refl _) _).alloc (by simp) _
 have hzW:W.heap.size=w.heap.size+2:=by rw[hW];simp
 have e0:W.cell? ⟨w.heap.size,0,none⟩=some (.int .i64 7):=by rw[hW];simp[go_sem]
 have e1:W.cell? ⟨w.heap.size,1,none⟩=some (.string s):=by rw[hW];simp[go_sem]
 have e2:W.cell? ⟨w.heap.size,2,none⟩=some (.string ⟨#[]⟩):=by rw[hW];simp[go_sem]
 have e3:W.cell? ⟨w.heap.size,3,none⟩=some (.int .i64 0):=by rw[hW];simp[go_sem]
 have e4:W.cell? ⟨w.heap.size,4,none⟩=some (.string ⟨#[]⟩):=by rw[hW];simp[go_sem]
 have e5:W.cell? ⟨w.heap.size,5,none⟩=some (.slice none 0 0):=by rw[hW];simp[go_sem]
 have zR:CellsAt W (w.heap.size+1) z12:=by
  have h1:=CellsAt.new (w.alloc (.cells #[.int .i64 7,.string s,.string ⟨#[]⟩,.int .i64 0,.string ⟨#[]⟩,.slice none 0 0] 45)) z12 40;rw[World.size_alloc] at h1;rw[hW];exact h1
 have HD:Hid _:=hd.below hB;have HW:Hid _:=hW;have HZ:Hid _:=zR;have HzW:Hid _:=hzW;clear hW hd zR hzW;unfold dropE
 go_enter_defers Tryz.func45,Tryz.ntmps45
 go_upto_region 1 with fail;rw[←HW.out];clear HW;go_wp2_with fail;refine(changeDrop_held base d m O P L wd now given births ks ps ls s W HD.out hok hp hl hth huse).mono ?_;rintro e w1 ⟨rfl,hb1⟩;have zR1:CellsAt w1 (w.heap.size+1) z12:=CellsAt.below (v:=.int .i64 0) HZ.out hb1;clear e0 e1 e2 e3 e4 e5 HD
 refine leaves_cons (f:=111) (args:= #[.pointer (some ⟨w.heap.size+1,0,none⟩)]) (by simp) (by simp[go_sem]) ?_;refine(catch_panic (w.heap.size+1) 6 ⟨#[]⟩ ⟨#[]⟩ w1 zR1).mono ?_;rintro e u' w'' ⟨rfl,rfl,hc,ht⟩;have y0:=(hc 0 _ rfl).1;have y1:=(hc 1 _ rfl).1;have y2:=(hc 2 _ rfl).1;have y3:=(hc 3 _ rfl).1;have y4:=(hc 4 _ rfl).1;have y5:=(hc 5 _ rfl).1;have y6:=(hc 6 _ rfl).1;have y7:=(hc 7 _ rfl).1
 have y8:=(hc 8 _ rfl).1;have y9:=(hc 9 _ rfl).1;have y10:=(hc 10 _ rfl).1;have y11:=(hc 11 _ rfl).1;simp[Leaves,settle,results,Tryz.results45,go_sem,y0,y1,y2,y3,y4,y5,y6,y7,y8,y9,y10,y11];exact⟨rfl,(hB.trans (hb1.mono hB.size)).trans (Tn.below ht (by have:=hb1.size;have:=HzW.out;omega) (by simp))⟩
end Go.Proofs.YthkmpihfhkmaoaaGreatDoor
