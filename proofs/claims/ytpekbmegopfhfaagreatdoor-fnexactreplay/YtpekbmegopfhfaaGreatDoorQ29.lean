import Derived.Test.YtpekbmegopfhfaaGreatDoorQ04
import Derived.Deep.RegionWith
import Derived.Deep.DrawnRows
import Derived.Test.YtpekbmegopfhfaaGreatDoorQ28
import Derived.Test.YtpekbmegopfhfaaGreatDoorQ12
import Derived.Test.YtpekbmegopfhfaaGreatDoorQ25
import Derived.RangeFuncNested
import Derived.Shelf.Abstract
import Derived.Shelf.RegionOpen
import Derived.RangeFuncBound
import Derived.RangeFuncCalls
import Derived.RangeFuncLeaves
import Derived.WalkKit
import Derived.OwnWalkIn
import Derived.TacticsInMore
import Derived.LoopNIn
import Derived.LoopIn
import Derived.Test.YtpekbmegopfhfaaGreatDoorQ01
namespace Go.Proofs.YtpekbmegopfhfaaGreatDoor
open Go.ChangeShapes Go.WideShapes Go.ChangeAt Go.RowKit
attribute [local go_sem↓] Go.wp_at_zero Go.wp_at_succ
set_option maxHeartbeats 400000 in
theorem eqKept_yes (k:Kd) (a a':Option Addr) (cap cap':Nat) (w:World) (hrow:SRow w w.heap.size a k.refs) (hrow':SRow w w.heap.size a' k.refs) (hl:k.refs.length<=1048576):
 Calls Tryz.prog 140 #[.agg #[.string k.sum,.int .i64 k.born,.string k.text,.slice a k.refs.length cap],.agg #[.string k.sum,.int .i64 k.born,.string k.text,.slice a' k.refs.length cap']] w fun e w'=>e=.returned (.bool true)/\Below w.heap.size w w':=by
 have hb:∀o1 o2,Below w.heap.size w ((w.alloc o1).alloc o2):=fun o1 o2=>((Below.refl _ _).alloc (Nat.le_refl _) _).alloc (by simp) _;go_enter Tryz.func140,Tryz.ntmps140;go_wp2_with fail;refine(eqThing_yes k.text a a' cap cap' k.refs _ (hrow.below' (hb _ _)) (hrow'.below' (hb _ _)) hl).mono ?_;rintro e w1 ⟨rfl,hb1⟩;go_wp2;go_ret;exact⟨rfl,(hb _ _).trans (hb1.mono (by simp;omega))⟩
set_option maxHeartbeats 400000 in
theorem eqPin_yes (p:Pd) (w:World):
 Calls Tryz.prog 141 #[.agg #[.string p.name,.string p.sum],.agg #[.string p.name,.string p.sum]] w fun e w'=>e=.returned (.bool true)/\Below w.heap.size w w':=by
 go_enter Tryz.func141,Tryz.ntmps141;go_wp2;go_ret;exact⟨rfl,((Below.refl _ _).alloc (Nat.le_refl _) _).alloc (by simp) _⟩
set_option maxHeartbeats 400000 in
theorem eqLease_yes (p:Ld) (w:World):
 Calls Tryz.prog 142 #[.agg #[.int .i64 p.num,.string p.sum,.int .i64 p.til],.agg #[.int .i64 p.num,.string p.sum,.int .i64 p.til]] w fun e w'=>e=.returned (.bool true)/\Below w.heap.size w w':=by
 go_enter Tryz.func142,Tryz.ntmps142;go_wp2;go_ret;exact⟨rfl,((Below.refl _ _).alloc (Nat.le_refl _) _).alloc (by simp) _⟩
set_option maxHeartbeats 400000 in
theorem eqPinS_yes (a a':Option Addr) (cap cap':Nat) (ps:List Pd) (w:World) (hrow:PRow w w.heap.size a ps) (hrow':PRow w w.heap.size a' ps) (hl:ps.length<=1048576):
 Calls Tryz.prog 100 #[.slice a ps.length cap,.slice a' ps.length cap'] w fun e w'=>e=.returned (.bool true)/\Below w.heap.size w w':=by
 go_enter Tryz.func100,Tryz.ntmps100;go_wp2
 go_loopw [5] (fun i wr=>∃k:Nat,k<=ps.length/\i=.int .i64 k/\Below w.heap.size w wr) (fun i _=>ps.length -(intOf i).toNat)
 case atStart=>exact⟨0,Nat.zero_le _,rfl,Below.refl _ _⟩
 case round=>
  obtain⟨k,hk,rfl,hbel⟩:=hrel;by_cases hlt:k<ps.length
  ·obtain⟨b,off,ha,hb,hc⟩:=(hrow.below hbel).at hlt
   obtain⟨b',off',ha',hb',hc'⟩:=(hrow'.below hbel).at hlt;subst ha ha';obtain⟨c0,c1⟩:=hc k _ (List.getElem?_eq_getElem hlt);obtain⟨d0,d1⟩:=hc' k _ (List.getElem?_eq_getElem hlt);clear hc hc' hrow hrow';generalize ps[k]=x at *
   go_wp2;go_region_with (go_at_call 141;refine(eqPin_yes x _).mono ?_;rintro e w1 ⟨rfl,hb1⟩)
   all_goals
    have hB:=hbel.drew.trans (hb1.mono hbel.size);go_wp2;exact⟨⟨k+1,by omega,by go_num,hB⟩,by simp[intOf];omega⟩
  ·go_wp2
   go_ret;exact⟨rfl,hbel⟩
set_option maxHeartbeats 400000 in
theorem eqLeaseS_yes (a a':Option Addr) (cap cap':Nat) (ls:List Ld) (w:World) (hrow:LRow w w.heap.size a ls) (hrow':LRow w w.heap.size a' ls) (hl:ls.length<=1048576):
 Calls Tryz.prog 101 #[.slice a ls.length cap,.slice a' ls.length cap'] w fun e w'=>e=.returned (.bool true)/\Below w.heap.size w w':=by
 go_enter Tryz.func101,Tryz.ntmps101;go_wp2
 go_loopw [5] (fun i wr=>∃k:Nat,k<=ls.length/\i=.int .i64 k/\Below w.heap.size w wr) (fun i _=>ls.length -(intOf i).toNat)
 case atStart=>exact⟨0,Nat.zero_le _,rfl,Below.refl _ _⟩
 case round=>
  obtain⟨k,hk,rfl,hbel⟩:=hrel;by_cases hlt:k<ls.length
  ·obtain⟨b,off,ha,hb,hc⟩:=(hrow.below hbel).at hlt
   obtain⟨b',off',ha',hb',hc'⟩:=(hrow'.below hbel).at hlt;subst ha ha';obtain⟨c0,c1,c2⟩:=hc k _ (List.getElem?_eq_getElem hlt);obtain⟨d0,d1,d2⟩:=hc' k _ (List.getElem?_eq_getElem hlt);clear hc hc' hrow hrow';generalize ls[k]=x at *
   go_wp2;go_region_with (go_at_call 142;refine(eqLease_yes x _).mono ?_;rintro e w1 ⟨rfl,hb1⟩)
   all_goals
    have hB:=hbel.drew.trans (hb1.mono hbel.size);go_wp2;exact⟨⟨k+1,by omega,by go_num,hB⟩,by simp[intOf];omega⟩
  ·go_wp2
   go_ret;exact⟨rfl,hbel⟩
set_option maxHeartbeats 1000000 in
theorem eqKeptS_yes (a a':Option Addr) (cap cap':Nat) (ks:List Kd) (w:World) (hrow:KRow w w.heap.size a ks) (hrow':KRow w w.heap.size a' ks) (hl:ks.length<=1048576) (hrl:∀k∈ks,k.refs.length<=1048576):
 Calls Tryz.prog 99 #[.slice a ks.length cap,.slice a' ks.length cap'] w fun e w'=>e=.returned (.bool true)/\Below w.heap.size w w':=by
 go_enter Tryz.func99,Tryz.ntmps99;go_wp2
 go_loopw [5] (fun i wr=>∃k:Nat,k<=ks.length/\i=.int .i64 k/\Below w.heap.size w wr) (fun i _=>ks.length -(intOf i).toNat)
 case atStart=>exact⟨0,Nat.zero_le _,rfl,Below.refl _ _⟩
 case round=>
  obtain⟨k,hk,rfl,hbel⟩:=hrel;by_cases hlt:k<ks.length
  ·obtain⟨b,off,ha,hb,hc⟩:=(hrow.below hbel).at hlt
   obtain⟨b',off',ha',hb',hc'⟩:=(hrow'.below hbel).at hlt;subst ha ha';obtain⟨c0,c1,c2,ra,rc,c3,hr⟩:=hc k _ (List.getElem?_eq_getElem hlt);obtain⟨d0,d1,d2,ra',rc',d3,hr'⟩:=hc' k _ (List.getElem?_eq_getElem hlt);have hrk:=hrl _ (List.getElem_mem hlt);clear hc hc' hrow hrow' hrl;generalize ks[k]=x at *
   have hcon:=eqKept_yes x ra ra' rc rc' wr.drew (hr.mono hbel.size) (hr'.mono hbel.size) hrk;have HC:Hid _:=hcon;clear hcon hr hr';go_wp2;go_region_with (go_at_call 140;refine Calls.mono HC.out ?_;rintro e w1 ⟨rfl,hb1⟩)
   all_goals
    have hB:=hbel.drew.trans (hb1.mono hbel.size);go_wp2;exact⟨⟨k+1,by omega,by go_num,hB⟩,by simp[intOf];omega⟩
  ·go_wp2
   go_ret;exact⟨rfl,hbel⟩
set_option maxHeartbeats 1000000 in
theorem eqState_yes (wd now given births:Int) (a p l a' p' l':Option Addr) (ac pc lc ac' pc' lc':Nat) (ks:List Kd) (ps:List Pd) (ls:List Ld) (w:World) (hrow:SRows w w.heap.size a p l ks ps ls) (hrow':SRows w w.heap.size a' p' l' ks ps ls) (hf:SFit ks ps ls):
 Calls Tryz.prog 48 #[.agg #[.int .i64 wd,.int .i64 now,.int .i64 given,.int .i64 births,.slice a ks.length ac,.slice p ps.length pc,.slice l ls.length lc],.agg #[.int .i64 wd,.int .i64 now,.int .i64 given,.int .i64 births,.slice a' ks.length ac',.slice p' ps.length pc',.slice l' ls.length lc']] w fun e w'=>e=.returned (.bool true)/\Below w.heap.size w w':=by
 have hb0:∀o1 o2,Below w.heap.size w ((w.alloc o1).alloc o2):=fun o1 o2=>((Below.refl _ _).alloc (Nat.le_refl _) _).alloc (by simp) _
 have hx:=SBox.below (SBox.new w wd now given births (.slice a ks.length ac) (.slice p ps.length pc) (.slice l ls.length lc) 28) ((Below.refl _ _).alloc (Nat.le_refl _) (.cells #[.int .i64 wd,.int .i64 now,.int .i64 given,.int .i64 births,.slice a' ks.length ac',.slice p' ps.length pc',.slice l' ls.length lc'] 28))
 have hy:=SBox.new (w.alloc (.cells #[.int .i64 wd,.int .i64 now,.int .i64 given,.int .i64 births,.slice a ks.length ac,.slice p ps.length pc,.slice l ls.length lc] 28)) wd now given births (.slice a' ks.length ac') (.slice p' ps.length pc') (.slice l' ls.length lc') 28;go_enter Tryz.func48,Tryz.ntmps48;go_wp2_with fail
 refine(eqKeptS_yes a a' ac ac' ks _ (hrow.below' (hb0 _ _)).k (hrow'.below' (hb0 _ _)).k hf.k hf.r).mono ?_;rintro e w1 ⟨rfl,hb1⟩;have hB1:=(hb0 _ _).trans (hb1.mono (by simp;omega));obtain⟨_,_,_,_,_,x5,x6,x7⟩:=hx.below hb1;obtain⟨_,_,_,_,_,y5,y6,y7⟩:=hy.below hb1;simp[go_sem] at y5 y6 y7;clear hb1 hx hy;go_wp2_with fail
 refine(eqPinS_yes p p' pc pc' ps _ (hrow.below' hB1).p (hrow'.below' hB1).p hf.p).mono ?_;rintro e w2 ⟨rfl,hb2⟩;have hB2:=hB1.trans (hb2.mono hB1.size);replace x6:=(hb2.cell (p:=⟨w.heap.size,6,none⟩) x7).trans x6;replace y6:=(hb2.cell (p:=⟨w.heap.size+1,6,none⟩) y7).trans y6;have z2:=hb2.size;clear hb2 x5 y5;go_wp2_with fail
 refine(eqLeaseS_yes l l' lc lc' ls _ (hrow.below' hB2).l (hrow'.below' hB2).l hf.l).mono ?_;rintro e w3 ⟨rfl,hb3⟩;go_wp2;go_ret;exact⟨rfl,hB2.trans (hb3.mono hB2.size)⟩
end Go.Proofs.YtpekbmegopfhfaaGreatDoor
namespace Go.Proofs.YtpekbmegopfhfaaGreatDoor
open Go.ChangeShapes Go.WideShapes Go.ChangeAt Go.RowKit
set_option maxRecDepth 20000 in
set_option maxHeartbeats 4000000 in
theorem eqChanged_row (code wd now given births le:Int) (sm aa bb:ByteArray) (ta pa la:Option Addr) (tc pc lc:Nat) (ta' pa' la':Option Addr) (tc' pc' lc':Nat) (ks:List Kd) (ps:List Pd) (ls:List Ld) (w:World) (hs:SRows w w.heap.size ta pa la ks ps ls) (hs':SRows w w.heap.size ta' pa' la' ks ps ls) (hf:SFit ks ps ls):
 Calls Tryz.prog 13 #[.agg #[.int .i64 code,.int .i64 wd,.int .i64 now,.int .i64 given,.int .i64 births,.slice ta ks.length tc,.slice pa ps.length pc,.slice la ls.length lc,.string sm,.int .i64 le,.string aa,.string bb],.agg #[.int .i64 code,.int .i64 wd,.int .i64 now,.int .i64 given,.int .i64 births,.slice ta' ks.length tc',.slice pa' ps.length pc',.slice la' ls.length lc',.string sm,.int .i64 le,.string aa,.string bb]] w fun e w'=>e=.returned (.bool true)/\Below w.heap.size w w':=by
 obtain⟨W,hW⟩:∃W,W=(w.alloc (.cells #[.int .i64 code,.int .i64 wd,.int .i64 now,.int .i64 given,.int .i64 births,.slice ta ks.length tc,.slice pa ps.length pc,.slice la ls.length lc,.string sm,.int .i64 le,.string aa,.string bb] 30)).alloc (.cells #[.int .i64 code,.int .i64 wd,.int .i64 now,.int .i64 given,.int .i64 births,.slice ta' ks.length tc',.slice pa' ps.length pc',.slice la' ls.length lc',.string sm,.int .i64 le,.string aa,.string bb] 30):=⟨_,rfl⟩
 have hb:Below w.heap.size w W:=by rw[hW];exact((Below.refl _ _).alloc (Nat.le_refl _) _).alloc (by simp) _
 have hz:CellsAt W w.heap.size [.int .i64 code,.int .i64 wd,.int .i64 now,.int .i64 given,.int .i64 births,.slice ta ks.length tc,.slice pa ps.length pc,.slice la ls.length lc,.string sm,.int .i64 le,.string aa,.string bb]:=by rw[hW];exact CellsAt.below (CellsAt.new w _ _) ((Below.refl _ _).alloc (Nat.le_refl _) _)
 have hy:CellsAt W (w.heap.size+1) [.int .i64 code,.int .i64 wd,.int .i64 now,.int .i64 given,.int .i64 births,.slice ta' ks.length tc',.slice pa' ps.length pc',.slice la' ls.length lc',.string sm,.int .i64 le,.string aa,.string bb]:=by
  have h1:=CellsAt.new (w.alloc (.cells #[.int .i64 code,.int .i64 wd,.int .i64 now,.int .i64 given,.int .i64 births,.slice ta ks.length tc,.slice pa ps.length pc,.slice la ls.length lc,.string sm,.int .i64 le,.string aa,.string bb] 30)) [.int .i64 code,.int .i64 wd,.int .i64 now,.int .i64 given,.int .i64 births,.slice ta' ks.length tc',.slice pa' ps.length pc',.slice la' ls.length lc',.string sm,.int .i64 le,.string aa,.string bb] 30
  rw[World.size_alloc] at h1;rw[hW];exact h1
 have HZ:Hid (CellsAt W w.heap.size [.int .i64 code,.int .i64 wd,.int .i64 now,.int .i64 given,.int .i64 births,.slice ta ks.length tc,.slice pa ps.length pc,.slice la ls.length lc,.string sm,.int .i64 le,.string aa,.string bb]/\CellsAt W (w.heap.size+1) [.int .i64 code,.int .i64 wd,.int .i64 now,.int .i64 given,.int .i64 births,.slice ta' ks.length tc',.slice pa' ps.length pc',.slice la' ls.length lc',.string sm,.int .i64 le,.string aa,.string bb]):=⟨hz,hy⟩
 have HQ:Hid (∀X,Below W.heap.size W X->Calls Tryz.prog 48 #[.agg #[.int .i64 wd,.int .i64 now,.int .i64 given,.int .i64 births,.slice ta ks.length tc,.slice pa ps.length pc,.slice la ls.length lc],.agg #[.int .i64 wd,.int .i64 now,.int .i64 given,.int .i64 births,.slice ta' ks.length tc',.slice pa' ps.length pc',.slice la' ls.length lc']] X fun e w'=>e=.returned (.bool true)/\Below X.heap.size X w'):=fun X hX=>by
  have hbX:=hb.trans (hX.mono hb.size);exact eqState_yes wd now given births ta pa la ta' pa' la' tc pc lc tc' pc' lc' ks ps ls X (hs.below' hbX) (hs'.below' hbX) hf
 have HB:Hid (Below w.heap.size w W):=hb;have HW:Hid _:=hW;obtain⟨c0,_⟩:=hz 0 _ rfl;obtain⟨c1,_⟩:=hz 1 _ rfl;obtain⟨c2,_⟩:=hz 2 _ rfl;obtain⟨c3,_⟩:=hz 3 _ rfl;obtain⟨c4,_⟩:=hz 4 _ rfl;obtain⟨c5,_⟩:=hz 5 _ rfl;obtain⟨c6,_⟩:=hz 6 _ rfl;obtain⟨c7,_⟩:=hz 7 _ rfl;obtain⟨c8,_⟩:=hz 8 _ rfl;obtain⟨c9,_⟩:=hz 9 _ rfl;obtain⟨c10,_⟩:=hz 10 _ rfl;obtain⟨c11,_⟩:=hz 11 _ rfl;obtain⟨e0,_⟩:=hy 0 _ rfl
 obtain⟨e1,_⟩:=hy 1 _ rfl;obtain⟨e2,_⟩:=hy 2 _ rfl;obtain⟨e3,_⟩:=hy 3 _ rfl;obtain⟨e4,_⟩:=hy 4 _ rfl;obtain⟨e5,_⟩:=hy 5 _ rfl;obtain⟨e6,_⟩:=hy 6 _ rfl;obtain⟨e7,_⟩:=hy 7 _ rfl;obtain⟨e8,_⟩:=hy 8 _ rfl;obtain⟨e9,_⟩:=hy 9 _ rfl;obtain⟨e10,_⟩:=hy 10 _ rfl;obtain⟨e11,_⟩:=hy 11 _ rfl;clear hW hz hy hs hs' hb;go_enter Tryz.func13,Tryz.ntmps13;go_upto_region 1 with fail;rw[←HW.out];clear HW
 go_wp2_with fail;refine Calls.mono (HQ.out W (Below.refl _ _)) ?_;rintro e w1 ⟨rfl,hb1⟩;have hB1:Below w.heap.size w w1:=HB.out.trans (hb1.mono HB.out.size);have z1:=CellsAt.below HZ.out.1 hb1;have y1:=CellsAt.below HZ.out.2 hb1;clear c0 c1 c2 c3 c4 c5 c6 c7 c8 c9 c10 c11 e0 e1 e2 e3 e4 e5 e6 e7 e8 e9 e10 e11;obtain⟨c8,_⟩:=z1 8 _ rfl;obtain⟨c9,_⟩:=z1 9 _ rfl;obtain⟨c10,_⟩:=z1 10 _ rfl
 obtain⟨c11,_⟩:=z1 11 _ rfl;obtain⟨e8,_⟩:=y1 8 _ rfl;obtain⟨e9,_⟩:=y1 9 _ rfl;obtain⟨e10,_⟩:=y1 10 _ rfl;obtain⟨e11,_⟩:=y1 11 _ rfl;have HB1:Hid (Below w.heap.size w w1):=hB1;clear z1 y1 HZ HQ hb1 hB1;go_wp2;go_ret;exact⟨rfl,HB1.out⟩
end Go.Proofs.YtpekbmegopfhfaaGreatDoor
namespace Go.Proofs.YtpekbmegopfhfaaGreatDoor
open Go.ChangeShapes Go.WideShapes Go.ChangeAt Go.RowKit
theorem SBox.same' {w w':World} {b:Nat} {wd now given births:Int} {T P L:Value} (h:SBox w b wd now given births T P L) (hb:w'.heap[b]?=w.heap[b]?) (hl:b<w'.heap.size):SBox w' b wd now given births T P L:=by
 obtain⟨h0,h1,h2,h3,h4,h5,h6,h7⟩:=h;have c:=fun j=>World.cell?_of_block (a:=⟨b,j,none⟩) hb;exact⟨(c 0).trans h0,(c 1).trans h1,(c 2).trans h2,(c 3).trans h3,(c 4).trans h4,(c 5).trans h5,(c 6).trans h6,hl⟩
theorem markKeptW (base k:Nat) (T:Value) (rs:List Value) (ks:List Kd) (w:World) (h:KAns w base T rs ks) (hk:1<=k) (hkn:k+ks.length *3+refsN ks<=100000000):
 Calls Tryz.prog 102 #[T,.int .i64 k] w fun e w'=>e=.returned (.int .i64 (k+ks.length *3+refsN ks:Nat))/\KAns w' base T rs (markK k ks)/\Tn (T.ownBlock.toList++rs.filterMap Value.ownBlock) w w':=by
 have h':=h;rcases h.things.2 with⟨rfl,hn⟩|⟨g,cap,cur,rfl,_⟩
 ·obtain rfl:=List.length_eq_zero_iff.1 hn
  refine(markKeptS_zero none 0 k w).mono ?_;rintro e w' ⟨rfl,rfl⟩;exact⟨by simp[refsN],h',Tn.of (Below.refl _ _)⟩
 ·exact markKeptX base g cap k rs ks w h' hk hkn
theorem heldKeptW (base k:Nat) (T:Value) (rs:List Value) (ks:List Kd) (w:World) (h:KAns w base T rs (markK k ks)) (hk:1<=k) (hkn:k+ks.length *3+refsN ks<=100000000):
 Calls Tryz.prog 105 #[T,.int .i64 k] w fun e w'=>e=.returned (.int .i64 (k+ks.length *3+refsN ks:Nat))/\Below w.heap.size w w':=by
 have h':=h;rcases h.things.2 with⟨rfl,hn⟩|⟨g,cap,cur,rfl,_⟩
 ·rw[markK_length] at hn
  obtain rfl:=List.length_eq_zero_iff.1 hn;refine(heldKeptS_zero none 0 k w).mono ?_;rintro e w' ⟨rfl,rfl⟩;exact⟨by simp[refsN],Below.refl _ _⟩
 ·rw[markK_length] at h' ⊢
  exact heldKeptX base g cap k rs ks w h' hk hkn
theorem markPinW (base k:Nat) (P:Value) (ps:List Pd) (w:World) (h:w.ownsRow base 134 2 P ps.length (rowC pC ps)) (hk:1<=k) (hkn:k+ps.length *2<=100000000):
 Calls Tryz.prog 103 #[P,.int .i64 k] w fun e w'=>e=.returned (.int .i64 (k+ps.length *2:Nat))/\w'.ownsRow base 134 2 P ps.length (rowC pC (markP k ps))/\Tn P.ownBlock.toList w w':=by
 have h':=h;rcases h.2 with⟨rfl,hn⟩|⟨g,cap,cur,rfl,_⟩
 ·obtain rfl:=List.length_eq_zero_iff.1 hn
  refine(markPinS_zero none 0 k w).mono ?_;rintro e w' ⟨rfl,rfl⟩;exact⟨by simp,h',Tn.of (Below.refl _ _)⟩
 ·refine(markPinX base g cap k ps w h' hk hkn).mono ?_
  rintro e w' ⟨rfl,h1,h2⟩;exact⟨rfl,h1,Tn.grown h2 (by simp[Value.ownBlock])⟩
theorem heldPinW (base k:Nat) (P:Value) (ps:List Pd) (w:World) (h:w.ownsRow base 134 2 P ps.length (rowC pC (markP k ps))) (hk:1<=k) (hkn:k+ps.length *2<=100000000):
 Calls Tryz.prog 106 #[P,.int .i64 k] w fun e w'=>e=.returned (.int .i64 (k+ps.length *2:Nat))/\Below w.heap.size w w':=by
 have h':=h;rcases h.2 with⟨rfl,hn⟩|⟨g,cap,cur,rfl,_⟩
 ·obtain rfl:=List.length_eq_zero_iff.1 hn
  refine(heldPinS_zero none 0 k w).mono ?_;rintro e w' ⟨rfl,rfl⟩;exact⟨by simp,Below.refl _ _⟩
 ·exact heldPinX base g cap k ps w h' hk hkn
theorem markLeaseW (base k:Nat) (P:Value) (ps:List Ld) (w:World) (h:w.ownsRow base 137 3 P ps.length (rowC lC ps)) (hk:1<=k) (hkn:k+ps.length *3<=100000000):
 Calls Tryz.prog 104 #[P,.int .i64 k] w fun e w'=>e=.returned (.int .i64 (k+ps.length *3:Nat))/\w'.ownsRow base 137 3 P ps.length (rowC lC (markL k ps))/\Tn P.ownBlock.toList w w':=by
 have h':=h;rcases h.2 with⟨rfl,hn⟩|⟨g,cap,cur,rfl,_⟩
 ·obtain rfl:=List.length_eq_zero_iff.1 hn
  refine(markLeaseS_zero none 0 k w).mono ?_;rintro e w' ⟨rfl,rfl⟩;exact⟨by simp,h',Tn.of (Below.refl _ _)⟩
 ·refine(markLeaseX base g cap k ps w h' hk hkn).mono ?_
  rintro e w' ⟨rfl,h1,h2⟩;exact⟨rfl,h1,Tn.grown h2 (by simp[Value.ownBlock])⟩
theorem heldLeaseW (base k:Nat) (P:Value) (ps:List Ld) (w:World) (h:w.ownsRow base 137 3 P ps.length (rowC lC (markL k ps))) (hk:1<=k) (hkn:k+ps.length *3<=100000000):
 Calls Tryz.prog 107 #[P,.int .i64 k] w fun e w'=>e=.returned (.int .i64 (k+ps.length *3:Nat))/\Below w.heap.size w w':=by
 have h':=h;rcases h.2 with⟨rfl,hn⟩|⟨g,cap,cur,rfl,_⟩
 ·obtain rfl:=List.length_eq_zero_iff.1 hn
  refine(heldLeaseS_zero none 0 k w).mono ?_;rintro e w' ⟨rfl,rfl⟩;exact⟨by simp,Below.refl _ _⟩
 ·exact heldLeaseX base g cap k ps w h' hk hkn
def cntS (ks:List Kd) (ps:List Pd) (ls:List Ld):Nat:=ks.length *3+refsN ks+ps.length *2+ls.length *3
theorem SAns.kans {w:World} {base:Nat} {T P L:Value} {rs:List Value} {ks:List Kd} {ps:List Pd} {ls:List Ld} (h:SAns w base T P L rs ks ps ls):KAns w base T rs ks:=by
 refine⟨h.len,h.things,h.refs,?_⟩;have:=h.nd;rw[blks_eq] at this;unfold blks at this;generalize T.ownBlock=t at *
 generalize P.ownBlock=p at *
 generalize L.ownBlock=l at *
 cases t<;>cases p<;>cases l<;>simp_all<;>grind
theorem KAns.same {w w':World} {base:Nat} {T:Value} {rs:List Value} {ks:List Kd} (h:KAns w base T rs ks) (hs:∀b,b<w.heap.size->b∈T.ownBlock.toList++rs.filterMap Value.ownBlock->w'.heap[b]?=w.heap[b]?):KAns w' base T rs ks:=
 ⟨h.len,own_same h.things (fun b hb=>hs b (own_lt h.things hb).2 (by simp[hb])),fun i k r hk hr=>own_same (h.refs i k r hk hr) (fun b hb=>hs b (own_lt (h.refs i k r hk hr) hb).2 (List.mem_append_right _ (List.mem_filterMap.2 ⟨r,List.mem_of_getElem? hr,hb⟩))),h.nd⟩
theorem nd3 {T P L:Option Nat} {R:List Nat} (h:(T.toList++(P.toList++(L.toList++R))).Nodup):(∀b∈T.toList++R,b∉P.toList/\b∉L.toList)/\(∀b∈P.toList,b∉T.toList++R/\b∉L.toList)/\(∀b∈L.toList,b∉T.toList++R/\b∉P.toList):=by
 cases T<;>cases P<;>cases L<;>simp_all<;>grind
set_option maxRecDepth 20000 in
set_option maxHeartbeats 2000000 in
theorem markStateX (wd now given births:Int) (base k:Nat) (T P L:Value) (rs:List Value) (ks:List Kd) (ps:List Pd) (ls:List Ld) (w:World) (h:SAns w base T P L rs ks ps ls) (hk:1<=k) (hkn:k+cntS ks ps ls<=100000000):
 Calls Tryz.prog 50 #[.agg #[.int .i64 wd,.int .i64 now,.int .i64 given,.int .i64 births,T,P,L],.int .i64 k] w fun e w'=>e=.returned (.int .i64 (k+cntS ks ps ls:Nat))/\SAns w' base T P L rs (markK k ks) (markP (k+ks.length *3+refsN ks) ps) (markL (k+ks.length *3+refsN ks+ps.length *2) ls)/\Tn (blks T P L rs) w w':=by
 have hnd:=h.nd;rw[blks_eq] at hnd;obtain⟨n1,n2,n3⟩:=nd3 hnd;have hb0:Below w.heap.size w (w.alloc (.cells #[.int .i64 wd,.int .i64 now,.int .i64 given,.int .i64 births,T,P,L] 28)):=(Below.refl _ _).alloc (Nat.le_refl _) _;have hx:=SBox.new w wd now given births T P L 28;obtain⟨W,hW⟩:∃W,W=w.alloc (.cells #[.int .i64 wd,.int .i64 now,.int .i64 given,.int .i64 births,T,P,L] 28):=⟨_,rfl⟩
 rw[←hW] at hb0 hx;have hlt:∀b∈blks T P L rs,b<w.heap.size:=by
  intro b hb;unfold blks at hb;simp only[List.mem_append,Option.mem_toList,List.mem_filterMap] at hb;rcases hb with hb|hb|hb|⟨r,hr,hb⟩
  ·exact(own_lt h.things hb).2
  ·exact(own_lt h.pins hb).2
  ·exact(own_lt h.leases hb).2
  ·obtain⟨i,hi⟩:=List.getElem?_of_mem hr
   have hil:=(List.getElem?_eq_some_iff.1 hi).1;have hl:=h.len;exact(own_lt (h.refs i ks[i] r (List.getElem?_eq_getElem (by omega)) hi) hb).2
 obtain⟨ta,tc,rfl⟩:=own_val h.things;obtain⟨pa,pc,rfl⟩:=own_val h.pins;obtain⟨la,lc,rfl⟩:=own_val h.leases;have HA:Hid _:=h;have HL:Hid _:=And.intro hlt (And.intro n1 (And.intro n2 n3));have HW:Hid _:=hW;have HX:Hid _:=hx;have hzW:w.heap.size<W.heap.size:=hx.2.2.2.2.2.2.2;have hc1:k+ks.length *3+refsN ks<=100000000:=by unfold cntS at hkn;omega
 have hc2:k+ks.length *3+refsN ks+ps.length *2<=100000000:=by unfold cntS at hkn;omega
 have hc3:k+ks.length *3+refsN ks+ps.length *2+ls.length *3<=100000000:=by unfold cntS at hkn;omega
 obtain⟨x0,x1,x2,x3,x4,x5,x6,x7⟩:=hx;clear h hlt n1 n2 n3 hW hnd x0 x1 x2 x3 hkn;go_enter Tryz.func50,Tryz.ntmps50;go_upto_region 1 with fail;rw[←HW.out];clear HW;have K0:KAns W base (.slice ta ks.length tc) rs ks:=KAns.same HA.out.kans (fun b hb _=>hb0.block b hb);go_wp2_with fail;refine(markKeptW base k _ rs ks W K0 hk hc1).mono ?_;rintro e w1 ⟨rfl,k1,t1⟩
 have hV1:∀b∈(Value.slice ta ks.length tc).ownBlock.toList++rs.filterMap Value.ownBlock,b∈blks (.slice ta ks.length tc) (.slice pa ps.length pc) (.slice la ls.length lc) rs:=fun b hb=>by
  unfold blks;rcases List.mem_append.1 hb with hb|hb
  ·exact List.mem_append_left _ hb
  ·exact List.mem_append_right _ (List.mem_append_right _ (List.mem_append_right _ hb))
 have hbx:∀{V:List Nat} {X Y:World},Tn V X Y->(∀b∈V,b∈blks (.slice ta ks.length tc) (.slice pa ps.length pc) (.slice la ls.length lc) rs)->W.heap.size<=X.heap.size->SBox X w.heap.size wd now given births (.slice ta ks.length tc) (.slice pa ps.length pc) (.slice la ls.length lc)->SBox Y w.heap.size wd now given births (.slice ta ks.length tc) (.slice pa ps.length pc) (.slice la ls.length lc):=fun ht hV hz hx=>hx.same' (ht.block _ (by omega) (fun e=>by have:=HL.out.1 _ (hV _ e);omega)) (Nat.lt_of_lt_of_le (Nat.lt_of_lt_of_le hzW hz) ht.size)
 have X1:=hbx t1 hV1 (Nat.le_refl _) HX.out;have X1c:=X1;obtain⟨_,_,_,_,_,y5,y6,_⟩:=X1c;have p1:w1.ownsRow base 134 2 (.slice pa ps.length pc) ps.length (rowC pC ps):=own_same (own_below HA.out.pins hb0) (fun b hb=>t1.block b (Nat.lt_of_lt_of_le (own_lt HA.out.pins hb).2 hb0.size) (HL.out.2.2.1 b (by simp[hb])).1);have H1:Hid _:=And.intro k1 (And.intro t1 X1);clear k1 t1 x4 x5 x6 K0 X1
 go_wp2_with fail;refine(markPinW base (k+ks.length *3+refsN ks) _ ps w1 p1 (by omega) hc2).mono ?_;rintro e w2 ⟨rfl,p2,t2⟩;have hV2:∀b∈(Value.slice pa ps.length pc).ownBlock.toList,b∈blks (.slice ta ks.length tc) (.slice pa ps.length pc) (.slice la ls.length lc) rs:=fun b hb=>by
  unfold blks;exact List.mem_append_right _ (List.mem_append_left _ hb)
 have X2:=hbx t2 hV2 H1.out.2.1.size H1.out.2.2;have X2c:=X2;obtain⟨_,_,_,_,_,_,z6,_⟩:=X2c
 have l2:w2.ownsRow base 137 3 (.slice la ls.length lc) ls.length (rowC lC ls):=own_same (own_same (own_below HA.out.leases hb0) (fun b hb=>H1.out.2.1.block b (Nat.lt_of_lt_of_le (own_lt HA.out.leases hb).2 hb0.size) (HL.out.2.2.2 b (by simp[hb])).1)) (fun b hb=>t2.block b (Nat.lt_of_lt_of_le (Nat.lt_of_lt_of_le (own_lt HA.out.leases hb).2 hb0.size) H1.out.2.1.size) (HL.out.2.2.2 b (by simp[hb])).2)
 have H2:Hid _:=And.intro p2 (And.intro t2 X2);clear p2 t2 p1 y5 y6 X2;go_wp2_with fail;refine(markLeaseW base (k+ks.length *3+refsN ks+ps.length *2) _ ls w2 l2 (by omega) hc3).mono ?_;rintro e w3 ⟨rfl,l3,t3⟩;have hV3:∀b∈(Value.slice la ls.length lc).ownBlock.toList,b∈blks (.slice ta ks.length tc) (.slice pa ps.length pc) (.slice la ls.length lc) rs:=fun b hb=>by
  unfold blks;exact List.mem_append_right _ (List.mem_append_right _ (List.mem_append_left _ hb))
 have H3:Hid _:=And.intro l3 t3;clear l3 t3 l2 z6;go_wp2;go_ret;obtain⟨k1,t1,_⟩:=H1.out;obtain⟨p2,t2,_⟩:=H2.out;obtain⟨l3,t3⟩:=H3.out;have hW1:=t1.size;have hW2:=t2.size
 refine⟨by rw[show k+cntS ks ps ls=k+ks.length *3+refsN ks+ps.length *2+ls.length *3 by unfold cntS;omega];rfl,⟨by rw[markK_length];exact HA.out.len,?_,?_,?_,?_,HA.out.nd⟩,(((Tn.of hb0).trans (t1.mono hV1)).trans (t2.mono hV2)).trans (t3.mono hV3)⟩
 ·exact own_same (own_same k1.things (fun b hb=>t2.block b (own_lt k1.things hb).2 (HL.out.2.1 b (by simp[hb])).1)) (fun b hb=>t3.block b (Nat.lt_of_lt_of_le (own_lt k1.things hb).2 hW2) (HL.out.2.1 b (by simp[hb])).2)
 ·intro i x r hx hr
  have ho:=k1.refs i x r hx hr;have hm:∀b,r.ownBlock=some b->b∈(Value.slice ta ks.length tc).ownBlock.toList++rs.filterMap Value.ownBlock:=fun b hb=>List.mem_append_right _ (List.mem_filterMap.2 ⟨r,List.mem_of_getElem? hr,hb⟩)
  exact own_same (own_same ho (fun b hb=>t2.block b (own_lt ho hb).2 (HL.out.2.1 b (hm b hb)).1)) (fun b hb=>t3.block b (Nat.lt_of_lt_of_le (own_lt ho hb).2 hW2) (HL.out.2.1 b (hm b hb)).2)
 ·rw[markP_length]
  exact own_same p2 (fun b hb=>t3.block b (own_lt p2 hb).2 (HL.out.2.2.1 b (by simp[hb])).2)
 ·rw[markL_length]
  exact l3
theorem SAns.below {w w':World} {base:Nat} {T P L:Value} {rs:List Value} {ks:List Kd} {ps:List Pd} {ls:List Ld} (h:SAns w base T P L rs ks ps ls) (hb:Below w.heap.size w w'):SAns w' base T P L rs ks ps ls:=
 ⟨h.len,own_below h.things hb,fun i k r hk hr=>own_below (h.refs i k r hk hr) hb,own_below h.pins hb,own_below h.leases hb,h.nd⟩
set_option maxRecDepth 20000 in
set_option maxHeartbeats 2000000 in
theorem heldStateX (wd now given births:Int) (base k:Nat) (T P L:Value) (rs:List Value) (ks:List Kd) (ps:List Pd) (ls:List Ld) (w:World) (h:SAns w base T P L rs (markK k ks) (markP (k+ks.length *3+refsN ks) ps) (markL (k+ks.length *3+refsN ks+ps.length *2) ls)) (hk:1<=k) (hkn:k+cntS ks ps ls<=100000000):
 Calls Tryz.prog 51 #[.agg #[.int .i64 wd,.int .i64 now,.int .i64 given,.int .i64 births,T,P,L],.int .i64 k] w fun e w'=>e=.returned (.int .i64 (k+cntS ks ps ls:Nat))/\Below w.heap.size w w':=by
 have hb0:Below w.heap.size w (w.alloc (.cells #[.int .i64 wd,.int .i64 now,.int .i64 given,.int .i64 births,T,P,L] 28)):=(Below.refl _ _).alloc (Nat.le_refl _) _;have hx:=SBox.new w wd now given births T P L 28;obtain⟨W,hW⟩:∃W,W=w.alloc (.cells #[.int .i64 wd,.int .i64 now,.int .i64 given,.int .i64 births,T,P,L] 28):=⟨_,rfl⟩;rw[←hW] at hb0 hx;obtain⟨ta,tc,rfl⟩:=own_val h.things
 obtain⟨pa,pc,rfl⟩:=own_val h.pins;obtain⟨la,lc,rfl⟩:=own_val h.leases;have HA:Hid _:=h.below hb0;have HW:Hid _:=hW;have HX:Hid _:=hx;have hc1:k+ks.length *3+refsN ks<=100000000:=by unfold cntS at hkn;omega
 have hc2:k+ks.length *3+refsN ks+ps.length *2<=100000000:=by unfold cntS at hkn;omega
 have hc3:k+ks.length *3+refsN ks+ps.length *2+ls.length *3<=100000000:=by unfold cntS at hkn;omega
 obtain⟨x0,x1,x2,x3,x4,x5,x6,x7⟩:=hx;clear h hW x0 x1 x2 x3 hkn;go_enter Tryz.func51,Tryz.ntmps51;go_upto_region 1 with fail;rw[←HW.out];clear HW;go_wp2_with fail;refine(heldKeptW base k _ rs ks W HA.out.kans hk hc1).mono ?_;rintro e w1 ⟨rfl,hb1⟩;have X1:=SBox.below HX.out hb1;obtain⟨_,_,_,_,_,y5,y6,_⟩:=X1;have p1:=own_below HA.out.pins hb1;rw[markP_length] at p1
 have e1:¬(((k+ks.length *3+refsN ks:Nat):Int)<0):=by omega
 clear x4 x5 x6;rw[markP_length] at *
 go_wp2_with fail;refine(heldPinW base (k+ks.length *3+refsN ks) _ ps w1 p1 (by omega) hc2).mono ?_;rintro e w2 ⟨rfl,hb2⟩;have X2:=SBox.below (SBox.below HX.out hb1) hb2;obtain⟨_,_,_,_,_,_,z6,_⟩:=X2;have l2:=own_below (own_below HA.out.leases hb1) hb2;rw[markL_length] at *
 have e2:¬(((k+ks.length *3+refsN ks+ps.length *2:Nat):Int)<0):=by omega
 clear y5 y6 p1;go_wp2_with fail;refine(heldLeaseW base (k+ks.length *3+refsN ks+ps.length *2) _ ls w2 l2 (by omega) hc3).mono ?_;rintro e w3 ⟨rfl,hb3⟩;have e3:¬(((k+ks.length *3+refsN ks+ps.length *2+ls.length *3:Nat):Int)<0):=by omega
 clear z6 l2;go_wp2;go_ret;exact⟨by rw[show k+cntS ks ps ls=k+ks.length *3+refsN ks+ps.length *2+ls.length *3 by unfold cntS;omega];rfl,((hb0.trans (hb1.mono hb0.size)).trans (hb2.mono (Nat.le_trans hb0.size hb1.size))).trans (hb3.mono (Nat.le_trans (Nat.le_trans hb0.size hb1.size) hb2.size))⟩
end Go.Proofs.YtpekbmegopfhfaaGreatDoor
namespace Go.Proofs.YtpekbmegopfhfaaGreatDoor
open Go.ChangeShapes Go.WideShapes Go.ChangeAt Go.RowKit
set_option maxRecDepth 20000 in
set_option maxHeartbeats 2000000 in
theorem markChangedX (code wd now given births le:Int) (sm aa bb:ByteArray) (base k:Nat) (T P L:Value) (rs:List Value) (ks:List Kd) (ps:List Pd) (ls:List Ld) (w:World) (h:SAns w base T P L rs ks ps ls) (hk:1<=k) (hkn:k+cntS ks ps ls<=100000000):
 Calls Tryz.prog 16 #[.agg #[.int .i64 code,.int .i64 wd,.int .i64 now,.int .i64 given,.int .i64 births,T,P,L,.string sm,.int .i64 le,.string aa,.string bb],.int .i64 k] w fun e w'=>e=.returned (.int .i64 (k+cntS ks ps ls:Nat))/\SAns w' base T P L rs (markK k ks) (markP (k+ks.length *3+refsN ks) ps) (markL (k+ks.length *3+refsN ks+ps.length *2) ls)/\Tn (blks T P L rs) w w':=by
 obtain⟨ta,tc,rfl⟩:=own_val h.things;obtain⟨pa,pc,rfl⟩:=own_val h.pins;obtain⟨la,lc,rfl⟩:=own_val h.leases;obtain⟨W,hW⟩:∃W,W=w.alloc (.cells #[.int .i64 code,.int .i64 wd,.int .i64 now,.int .i64 given,.int .i64 births,.slice ta ks.length tc,.slice pa ps.length pc,.slice la ls.length lc,.string sm,.int .i64 le,.string aa,.string bb] 30):=⟨_,rfl⟩
 have hb:Below w.heap.size w W:=by rw[hW];exact(Below.refl _ _).alloc (Nat.le_refl _) _
 have hz:CellsAt W w.heap.size [.int .i64 code,.int .i64 wd,.int .i64 now,.int .i64 given,.int .i64 births,.slice ta ks.length tc,.slice pa ps.length pc,.slice la ls.length lc,.string sm,.int .i64 le,.string aa,.string bb]:=by rw[hW];exact CellsAt.new w _ _
 have HB:Hid (Below w.heap.size w W):=hb;have HM:Hid _:=markStateX wd now given births base k _ _ _ rs ks ps ls W (h.below hb) hk hkn;obtain⟨c1,_⟩:=hz 1 _ rfl;obtain⟨c2,_⟩:=hz 2 _ rfl;obtain⟨c3,_⟩:=hz 3 _ rfl;obtain⟨c4,_⟩:=hz 4 _ rfl;obtain⟨c5,_⟩:=hz 5 _ rfl;obtain⟨c6,_⟩:=hz 6 _ rfl;obtain⟨c7,_⟩:=hz 7 _ rfl;have HW:Hid _:=hW;clear h hW hz hb;go_enter Tryz.func16,Tryz.ntmps16
 go_upto_region 1 with fail;rw[←HW.out];clear HW;go_wp2_with fail;refine Calls.mono HM.out ?_;rintro e w1 ⟨rfl,h1,h2⟩;have H1:Hid _:=And.intro h1 h2;clear h1 h2 HM c1 c2 c3 c4 c5 c6 c7;go_wp2;go_ret;exact⟨rfl,H1.out.1,(Tn.of HB.out).trans H1.out.2⟩
set_option maxRecDepth 20000 in
set_option maxHeartbeats 2000000 in
theorem heldChangedX (code wd now given births le:Int) (sm aa bb:ByteArray) (base k:Nat) (T P L:Value) (rs:List Value) (ks:List Kd) (ps:List Pd) (ls:List Ld) (w:World) (h:SAns w base T P L rs (markK k ks) (markP (k+ks.length *3+refsN ks) ps) (markL (k+ks.length *3+refsN ks+ps.length *2) ls)) (hk:1<=k) (hkn:k+cntS ks ps ls<=100000000):
 Calls Tryz.prog 17 #[.agg #[.int .i64 code,.int .i64 wd,.int .i64 now,.int .i64 given,.int .i64 births,T,P,L,.string sm,.int .i64 le,.string aa,.string bb],.int .i64 k] w fun e w'=>e=.returned (.int .i64 (k+cntS ks ps ls:Nat))/\Below w.heap.size w w':=by
 obtain⟨ta,tc,rfl⟩:=own_val h.things;obtain⟨pa,pc,rfl⟩:=own_val h.pins;obtain⟨la,lc,rfl⟩:=own_val h.leases;have hst:=h;rw[markK_length,markP_length,markL_length] at hst ⊢
 obtain⟨W,hW⟩:∃W,W=w.alloc (.cells #[.int .i64 code,.int .i64 wd,.int .i64 now,.int .i64 given,.int .i64 births,.slice ta ks.length tc,.slice pa ps.length pc,.slice la ls.length lc,.string sm,.int .i64 le,.string aa,.string bb] 30):=⟨_,rfl⟩;have hb:Below w.heap.size w W:=by rw[hW];exact(Below.refl _ _).alloc (Nat.le_refl _) _
 have hz:CellsAt W w.heap.size [.int .i64 code,.int .i64 wd,.int .i64 now,.int .i64 given,.int .i64 births,.slice ta ks.length tc,.slice pa ps.length pc,.slice la ls.length lc,.string sm,.int .i64 le,.string aa,.string bb]:=by rw[hW];exact CellsAt.new w _ _
 have HB:Hid (Below w.heap.size w W):=hb;have HM:Hid _:=heldStateX wd now given births base k _ _ _ rs ks ps ls W (hst.below hb) hk hkn;obtain⟨c1,_⟩:=hz 1 _ rfl;obtain⟨c2,_⟩:=hz 2 _ rfl;obtain⟨c3,_⟩:=hz 3 _ rfl;obtain⟨c4,_⟩:=hz 4 _ rfl;obtain⟨c5,_⟩:=hz 5 _ rfl;obtain⟨c6,_⟩:=hz 6 _ rfl;obtain⟨c7,_⟩:=hz 7 _ rfl;have HW:Hid _:=hW;have e1:¬(((k+cntS ks ps ls:Nat):Int)<0):=by omega
 clear h hst hW hz hb;go_enter Tryz.func17,Tryz.ntmps17;go_upto_region 1 with fail;rw[←HW.out];clear HW;go_wp2_with fail;refine Calls.mono HM.out ?_;rintro e w1 ⟨rfl,h1⟩;have H1:Hid (Below w.heap.size w w1):=HB.out.trans (h1.mono HB.out.size);clear h1 HM c1 c2 c3 c4 c5 c6 c7;go_wp2;go_ret;exact⟨rfl,H1.out⟩
end Go.Proofs.YtpekbmegopfhfaaGreatDoor
namespace Go.Proofs.YtpekbmegopfhfaaGreatDoor
open Go.ChangeShapes Go.WideShapes Go.ChangeAt Go.RowKit
theorem nilS (w:World) (base:Nat):SAns w base (.slice none 0 0) (.slice none 0 0) (.slice none 0 0) [] [] [] []:=
 ⟨rfl,⟨rfl,.inl ⟨rfl,rfl⟩⟩,fun i k r hk=>(by simp at hk),⟨rfl,.inl ⟨rfl,rfl⟩⟩,⟨rfl,.inl ⟨rfl,rfl⟩⟩,List.nodup_nil⟩
structure An where
 code:Int
 wd:Int
 now:Int
 given:Int
 births:Int
 le:Int
 sm:ByteArray
 a:ByteArray
 b:ByteArray
 ks:List Kd
 ps:List Pd
 ls:List Ld
end Go.Proofs.YtpekbmegopfhfaaGreatDoor
namespace Go.Proofs.YtpekbmegopfhfaaGreatDoor
open Go.ChangeShapes Go.WideShapes Go.ChangeAt Go.RowKit
def r0:Rs:=⟨⟨#[]⟩,0,0,0,0,[],[],[]⟩
def Stp (wd:Int) (r:Rs) (x:ByteArray) (r':Rs):Prop:=(rdE x wd).ok=true/\AYes wd r.now r.given r.births r.ks r.ps r.ls (rdE x wd).k (rdE x wd).sum (rdE x wd).name (rdE x wd).n (rdE x wd).t (rdE x wd).ss r'
def Bad (wd:Int) (r:Rs) (x:ByteArray):Prop:=(rdE x wd).ok=false∨∃c a b,ANo wd r.now r.given r.births r.ks r.ps r.ls (rdE x wd).k (rdE x wd).sum (rdE x wd).name (rdE x wd).n (rdE x wd).t (rdE x wd).ss c a b
def Run (wd:Int):Rs->List ByteArray->Rs->Prop
 |r,[],r'=>r'=r
 |r,x::xs,r'=>∃r1,Stp wd r x r1/\Run wd r1 xs r'
def RunNo (wd:Int) (xs:List ByteArray) (n:Nat):Prop:=∃k r x,n=k+1/\xs[k]?=some x/\Run wd r0 (xs.take k) r/\Bad wd r x
def Rs.ok (wd:Int) (r:Rs):Prop:=ROk wd r.now r.given r.births r.ks r.ps r.ls
theorem Run.snoc {wd:Int} {x:ByteArray} {r1 r2:Rs} (h2:Stp wd r1 x r2):∀{xs:List ByteArray} {r:Rs},Run wd r xs r1->Run wd r (xs++[x]) r2
 |[],r,h=>by
  obtain rfl:r1=r:=h;exact⟨r2,h2,rfl⟩
 |y::ys,r,h=>by
  obtain⟨r3,h3,h4⟩:=h;exact⟨r3,h3,Run.snoc h2 h4⟩
theorem Stp.det {wd:Int} {r a b:Rs} {x:ByteArray} (h:Stp wd r x a) (k:Stp wd r x b):a=b:=h.2.det k.2
theorem Stp.ok {wd:Int} {r r':Rs} {x:ByteArray} (h:Stp wd r x r') (hr:r.ok wd):r'.ok wd:=ROk.step hr (rdE_sound h.1).1 h.2
theorem Stp.not {wd:Int} {r r':Rs} {x:ByteArray} (h:Stp wd r x r') (hr:r.ok wd):¬Bad wd r x:=by
 rintro(e|⟨c,a,b,e⟩)
 ·rw[h.1] at e
  cases e
 ·exact e.not hr.kso.nd h.2
theorem Run.det {wd:Int}:∀{xs:List ByteArray} {r a b:Rs},Run wd r xs a->Run wd r xs b->a=b
 |[],r,a,b,h,k=>by
  have h1:a=r:=h;have h2:b=r:=k;rw[h1,h2]
 |x::xs,r,a,b,h,k=>by
  obtain⟨r1,h1,h2⟩:=h;obtain⟨r2,k1,k2⟩:=k;obtain rfl:=h1.det k1;exact Run.det h2 k2
theorem Run.ok {wd:Int}:∀{xs:List ByteArray} {r r':Rs},Run wd r xs r'->r.ok wd->r'.ok wd
 |[],r,r',h,hr=>by
  obtain rfl:r'=r:=h;exact hr
 |x::xs,r,r',h,hr=>by
  obtain⟨r1,h1,h2⟩:=h;exact Run.ok h2 (h1.ok hr)
theorem Run.at {wd:Int}:∀{xs:List ByteArray} {r r':Rs},Run wd r xs r'->∀{k:Nat} {x:ByteArray},xs[k]?=some x->∃r1 r2,Run wd r (xs.take k) r1/\Stp wd r1 x r2
 |[],r,r',h,k,x,hx=>by simp at hx
 |y::ys,r,r',h,k,x,hx=>by
  obtain⟨r3,h3,h4⟩:=h;cases k with
  |zero=>
   simp at hx;subst hx;exact⟨r,r3,rfl,h3⟩
  |succ k=>
   obtain⟨r1,r2,h5,h6⟩:=Run.at h4 (k:=k) (x:=x) (by simpa using hx);exact⟨r1,r2,⟨r3,h3,h5⟩,h6⟩
theorem r0_ok {wd:Int} (h1:1<=wd) (h8:wd<=8):r0.ok wd:=ROk.zero h1 h8
theorem RunNo.not {wd:Int} {xs:List ByteArray} {n:Nat} {r:Rs} (h1:1<=wd) (h8:wd<=8) (h:RunNo wd xs n):¬Run wd r0 xs r:=fun hr=>by
 obtain⟨k,r1,x,rfl,hx,h2,h3⟩:=h;obtain⟨r2,r3,h4,h5⟩:=hr.at hx;obtain rfl:=h2.det h4;exact h5.not (h2.ok (r0_ok h1 h8)) h3
theorem RunNo.le {wd:Int} {xs:List ByteArray} {n m:Nat} (h1:1<=wd) (h8:wd<=8) (h:RunNo wd xs n) (k:RunNo wd xs m):m<=n:=by
 obtain⟨i,r1,x,rfl,hx,h2,h3⟩:=h;obtain⟨j,r2,y,rfl,hy,k2,k3⟩:=k;rcases Nat.lt_or_ge i j with hlt|hge
 ·obtain⟨r4,r5,h4,h5⟩:=k2.at (k:=i) (x:=x) (by rw[List.getElem?_take_of_lt hlt];exact hx)
  rw[List.take_take,Nat.min_eq_left (by omega)] at h4;obtain rfl:=h2.det h4;exact absurd h3 (h5.not (h2.ok (r0_ok h1 h8)))
 ·omega
theorem RunNo.det {wd:Int} {xs:List ByteArray} {n m:Nat} (h1:1<=wd) (h8:wd<=8) (h:RunNo wd xs n) (k:RunNo wd xs m):n=m:=Nat.le_antisymm (k.le h1 h8 h) (h.le h1 h8 k)
def RTo (wd:Int) (xs:List ByteArray) (x:An):Prop:=
 (¬((1<=wd/\wd<=8)/\xs.length<=4000)/\x=⟨1,0,0,0,0,0,⟨#[]⟩,⟨#[]⟩,⟨#[]⟩,[],[],[]⟩)∨
 (((1<=wd/\wd<=8)/\xs.length<=4000)/\(
   (∃n:Nat,RunNo wd xs n/\x=⟨7,0,0,0,0,n,⟨#[]⟩,⟨#[]⟩,⟨#[]⟩,[],[],[]⟩)∨
   (∃r,Run wd r0 xs r/\x=⟨0,wd,r.now,r.given,r.births,0,⟨#[]⟩,⟨#[]⟩,⟨#[]⟩,r.ks,r.ps,r.ls⟩)))
theorem RTo.det {wd:Int} {xs:List ByteArray} {x y:An} (h:RTo wd xs x) (k:RTo wd xs y):x=y:=by
 rcases h with⟨n1,rfl⟩|⟨g1,h⟩<;>rcases k with⟨n2,rfl⟩|⟨g2,k⟩
 ·rfl
 ·exact absurd g2 n1
 ·exact absurd g1 n2
 ·rcases h with⟨n,h,rfl⟩|⟨r,h,rfl⟩<;>rcases k with⟨m,k,rfl⟩|⟨q,k,rfl⟩
  ·obtain rfl:=h.det g1.1.1 g1.1.2 k
   rfl
  ·exact absurd k (h.not g1.1.1 g1.1.2)
  ·exact absurd h (k.not g1.1.1 g1.1.2)
  ·obtain rfl:=h.det k
   rfl
end Go.Proofs.YtpekbmegopfhfaaGreatDoor
namespace Go.Proofs.YtpekbmegopfhfaaGreatDoor
open Go.RowKit
def notRow:Obj->Bool
 |.cells _ t _=> !(t==9||t==139||t==134||t==137)
 |_=>true
structure KeepsB (B:Nat) (W W':World):Prop where
 size:W.heap.size<=W'.heap.size
 same:∀b o,B<=b->W.heap[b]?=some o->notRow o=true->W'.heap[b]?=some o
theorem KeepsB.refl (B:Nat) (W:World):KeepsB B W W:=⟨Nat.le_refl _,fun _ _ _ h _=>h⟩
theorem KeepsB.trans {B:Nat} {X Y Z:World} (h:KeepsB B X Y) (k:KeepsB B Y Z):KeepsB B X Z:=⟨Nat.le_trans h.size k.size,fun b o hb hx ho=>k.same b o hb (h.same b o hb hx ho) ho⟩
theorem KeepsB.mono {B B':Nat} {W W':World} (h:KeepsB B W W') (hB:B<=B'):KeepsB B' W W':=⟨h.size,fun b o hb=>h.same b o (by omega)⟩
def Stable (B:Nat) (J:Nat->World->Prop):Prop:=
 ∀k W W' row,J k W->W.grownBy W' row->(∀r,row=some r->B<=r/\∃o,W.heap[r]?=some o/\notRow o=true)->J k W'
theorem Stable.mono {B B':Nat} {J:Nat->World->Prop} (h:Stable B J) (hB:B<=B'):Stable B' J:=
 fun k W W' row hj hg hr=>h k W W' row hj hg (fun r e=>⟨Nat.le_trans hB (hr r e).1,(hr r e).2⟩)
theorem Stable.putObj {B:Nat} {J:Nat->World->Prop} (h:Stable B J) {k:Nat} {W:World} {l:Nat} {o:Obj} (o':Obj) (hj:J k W) (hB:B<=l) (hl:W.heap[l]?=some o) (ho:notRow o=true):J k (W.putObj l o'):=
 h k W _ (some l) hj (grownBy_putObj' W l o') (fun r e=>by cases e;exact⟨hB,o,hl,ho⟩)
theorem Stable.alloc {B:Nat} {J:Nat->World->Prop} (h:Stable B J) {k:Nat} {W:World} (o:Obj) (hj:J k W):J k (W.alloc o):=
 h k W _ none hj ⟨rfl,rfl,rfl,by simp,fun i hi _=>Below.heap_alloc W o i hi⟩ (fun r e=>by cases e)
def IterOk (P:Program) (gf:Nat) (ar:Nat->Array Value) (xs:List ByteArray) (n0:Nat) (w:World):Prop:=
 ∀(l:Nat) (J Jx:Nat->World->Prop) (W:World),Below w.heap.size w W->Stable W.heap.size J->Stable W.heap.size Jx->
  (∀k W1 s,xs[k]?=some s->J k W1->W.heap.size<=W1.heap.size->∀m,YieldAt Fence.wide m P l #[.string s] W1 fun e W'=>
    KeepsB W.heap.size W1 W'/\((e=.returned (.bool true)/\J (k+1) W'/\Below n0 W1 W')∨(e=.returned (.bool false)/\Jx (k+1) W')))->
  J 0 W->∀m,CallsIn Fence.wide m P gf (ar l) W fun e W'=>(∃v,e=.returned v)/\(J xs.length W'∨∃k,Jx k W')
def roundQ (n0 B:Nat) (I:Nat->World->Prop) (Ix:Nat->World->Prop) (k:Nat) (W:World):Exit->Act->World->Prop
 |.normal,_,W'=>KeepsB B W W'/\I (k+1) W'/\Below n0 W W'
 |.ret,_,W'=>KeepsB B W W'/\Ix (k+1) W'
 |_,_,_=>False
theorem wp_range {P:Program} {n:Nat} {g:Operand} {ps:Array Tmp} {assign body:Code} {Q:Exit->Act->World->Prop} {a:Act} {w:World}
 {gf:Nat} {pre lb:Array Value} (hg:a.eval g=.func (.func gf) pre lb) (eg:∀args w,(callFunc gf args).run P w=.ok (.enter gf args) w)
 {xs:List ByteArray} {n0:Nat} (hseq:IterOk P gf (fun l=>pre++ #[.func (.yield l) #[] #[]]++lb) xs n0 w) (hn0:n0<=w.heap.size) (hps:ps.size=1)
 (I Ix:Nat->World->Prop) (hI:Stable w.heap.size I) (hIx:Stable w.heap.size Ix) (h0:I 0 w) (a1:ByteArray->Act)
 (hassign:∀(l m:Nat) (s:ByteArray) (W:World) (K:Act->World->Prop),K (a1 s) W->
   assign.wpIn (Fence.wide.inRound l) m P (Exit.then K (fun _ _ _=>False)) {tmps:=(ps.zip #[.string s]).foldl (fun t (p,v)=>t.setIfInBounds p v) a.tmps,defers:=[]} W)
 (hbody:∀(l m k:Nat) (s:ByteArray) (W:World),xs[k]?=some s->I k W->w.heap.size+2<=W.heap.size->body.wpIn (Fence.wide.inRound l) m P (roundQ n0 w.heap.size I Ix k W) (a1 s) W)
 (hdone:∀(D:Nat) (W:World),w.heap.size<=D->I xs.length W->W.heap[D]?=some (.deferred (some []))->Q .normal {a with defers:={target:=.collected D,args:= #[]}::a.defers} W)
 (hstop:∀(D k:Nat) (W:World),w.heap.size<=D->Ix k W->W.heap[D]?=some (.deferred (some []))->Code.ret.wpIn Fence.wide n P Q {a with defers:={target:=.collected D,args:= #[]}::a.defers} W):
 (Code.rangeFunc g ps assign body).wpIn Fence.wide n P Q a w:=by
 refine wpIn_rangeFunc ?_;intro fn hfn;obtain⟨rec,hrec⟩:∃rec:LoopState->Option Code->Loop,rec=fun st pe=>{state:=st,pending:=pe,fn,tmps:=a.tmps,params:=ps,assign,body,defers:=w.heap.size}:=⟨_,rfl⟩;obtain⟨V,hV⟩:∃V,V=(w.alloc (.deferred (some []))).alloc (.loop (rec .ready none)):=⟨_,rfl⟩;have hVs:V.heap.size=w.heap.size+2:=by rw[hV];simp
 have hVl:V.heap[w.heap.size+1]?=some (.loop (rec .ready none)):=by
  have:=World.alloc_heap_new (w.alloc (.deferred (some []))) (.loop (rec .ready none));rw[World.size_alloc] at this;rw[hV];exact this
 have hVd:V.heap[w.heap.size]?=some (.deferred (some [])):=by
  rw[hV];exact(Below.heap_alloc _ _ _ (by simp)).trans (World.alloc_heap_new w _)
 have hVb:Below w.heap.size w V:=by
  rw[hV];exact((Below.refl _ w).alloc (Nat.le_refl _) _).alloc (by simp) _
 have hVI:I 0 V:=by rw[hV];exact hI.alloc _ (hI.alloc _ h0)
 refine⟨w.heap.size+1,[{target:=.collected w.heap.size,args:= #[]}],V,{target:=.fn (.func gf) lb,args:=pre++ #[.func (.yield (w.heap.size+1)) #[] #[]]},V,gf,
  pre++ #[.func (.yield (w.heap.size+1)) #[] #[]]++lb,V,?_,?_,fun _ _=>trivial,?_,fun h=>by simp[Fence.wide] at h,?_⟩
 ·rw[hV,hrec];exact run_enterLoop_outer _ _ _ _ _
 ·simp only[resolve,hg]
  simp[go_sem]
 ·simp[invoke,go_sem,eg]
 ·have hnr:∀{A:World} {row:Option Nat},(∀r,row=some r->V.heap.size<=r/\∃o:Obj,A.heap[r]?=some o/\notRow o=true)->(∀r,row=some r->w.heap.size<=r/\∃o:Obj,A.heap[r]?=some o/\notRow o=true):=
   fun hr r e=>⟨by have:=(hr r e).1;omega,(hr r e).2⟩
  have hkeep:∀{A B:World} {row:Option Nat} {k:Nat} {o:Obj},A.grownBy B row->(∀r,row=some r->V.heap.size<=r/\∃o:Obj,A.heap[r]?=some o/\notRow o=true)->k<V.heap.size->A.heap[k]?=some o->B.heap[k]?=some o:=
   fun {A B row k o} hg' hr hk ho=>(hg'.block k (Array.getElem?_eq_some_iff.1 ho).1 (fun e=>by have:=(hr k e.symm).1;omega)).trans ho
  refine(hseq (w.heap.size+1)
   (fun k W=>I k W/\W.heap[w.heap.size+1]?=some (.loop (rec .ready none))/\W.heap[w.heap.size]?=some (.deferred (some [])))
   (fun k W=>Ix k W/\W.heap[w.heap.size+1]?=some (.loop (rec .done (some .ret)))/\W.heap[w.heap.size]?=some (.deferred (some [])))
   V hVb
   (fun s A B row hs hg' hr=>⟨hI s A B row hs.1 hg' (hnr hr),hkeep hg' hr (by omega) hs.2.1,hkeep hg' hr (by omega) hs.2.2⟩)
   (fun s A B row hs hg' hr=>⟨hIx s A B row hs.1 hg' (hnr hr),hkeep hg' hr (by omega) hs.2.1,hkeep hg' hr (by omega) hs.2.2⟩)
   ?_ ⟨hVI,hVl,hVd⟩ _).mono ?_
  ·rintro k W s hxs ⟨hi,hl,hk⟩ hVW m
   have hlt:w.heap.size+1<W.heap.size:=(Array.getElem?_eq_some_iff.1 hl).1;have hy:=run_yield (P:=P) (args:= #[.string s]) hl (by rw[hrec];exact hps.symm);rw[hrec] at hy;refine⟨fn,_,assign,body,hy,roundIn_of_wpIn hfn (hassign _ _ s W _ ?_)⟩;clear hy;refine⟨_,run_beginRound hl (by rw[hrec]),?_⟩
   have hl2:(W.putObj (w.heap.size+1) (.loop {rec .ready none with state:=.busy})).heap[w.heap.size+1]?=some (.loop {rec .ready none with state:=.busy}):=World.putObj_heap_same hlt;have hk2:(W.putObj (w.heap.size+1) (.loop {rec .ready none with state:=.busy})).heap[w.heap.size]?=some (.deferred (some [])):=(World.putObj_heap_other (by omega)).trans hk
   refine wpIn_mono (hbody _ _ k s _ hxs (hI.putObj _ hi (by omega) hl rfl) (by rw[World.putObj_size];omega)) ?_;have fin:∀(jump:Option Code) (W3:World),KeepsB w.heap.size (W.putObj (w.heap.size+1) (.loop {rec .ready none with state:=.busy})) W3->
    (Instr.endRound (w.heap.size+1) jump).run P W3=.ok (.bool jump.isNone) (W3.putObj (w.heap.size+1) (.loop (rec (if jump.isNone then .ready else .done) jump)))/\
    W3.heap[w.heap.size+1]?=some (.loop {rec .ready none with state:=.busy})/\
    (W3.putObj (w.heap.size+1) (.loop (rec (if jump.isNone then .ready else .done) jump))).heap[w.heap.size+1]?=some (.loop (rec (if jump.isNone then .ready else .done) jump))/\
    (W3.putObj (w.heap.size+1) (.loop (rec (if jump.isNone then .ready else .done) jump))).heap[w.heap.size]?=some (.deferred (some []))/\
    KeepsB V.heap.size W (W3.putObj (w.heap.size+1) (.loop (rec (if jump.isNone then .ready else .done) jump))):=fun jump W3 hk3=>by
    have hl3:=hk3.same _ _ (by omega) hl2 rfl;have:=run_endRound (P:=P) jump hl3;have hK5:KeepsB V.heap.size W (W3.putObj (w.heap.size+1) (.loop (rec (if jump.isNone then .ready else .done) jump))):=by
     refine⟨by have:=hk3.size;rw[World.putObj_size] at this ⊢;exact this,fun b o hb ho hn=> ?_⟩;rw[World.putObj_heap_other (by omega)];exact hk3.same b o (by omega) ((World.putObj_heap_other (by omega)).trans ho) hn
    refine⟨?_,hl3,World.putObj_heap_same (Array.getElem?_eq_some_iff.1 hl3).1,(World.putObj_heap_other (by omega)).trans (hk3.same _ _ (Nat.le_refl _) hk2 rfl),hK5⟩;rw[hrec] at this ⊢;exact this
   rintro e a3 W3 hp;have hb1:∀o,Below n0 W (W.putObj (w.heap.size+1) o):=fun o=>⟨rfl,rfl,rfl,by simp,fun i hi=>World.putObj_heap_other (by omega)⟩;cases e with
   |normal=>
    obtain⟨hk3,hi3,hbl⟩:=hp;obtain⟨hr,hl3,hl4,hk4,hk5⟩:=fin none W3 hk3;exact⟨_,_,hr,hk5,.inl ⟨rfl,⟨hI.putObj _ hi3 (by omega) hl3 rfl,hl4,hk4⟩,((hb1 _).trans hbl).trans ⟨rfl,rfl,rfl,by simp,fun i hi=>World.putObj_heap_other (by omega)⟩⟩⟩
   |ret=>
    obtain⟨hk3,hi3⟩:=hp;obtain⟨hr,hl3,hl4,hk4,hk5⟩:=fin (some .ret) W3 hk3;exact⟨_,_,hr,hk5,.inr ⟨rfl,hIx.putObj _ hi3 (by omega) hl3 rfl,hl4,hk4⟩⟩
   |exit id=>exact hp.elim
   |goto t=>exact hp.elim
   |panic ch=>exact hp.elim
   |outgrown=>exact hp.elim
  ·rintro e W2 ⟨⟨v,rfl⟩,(⟨hi,hl,hk⟩|⟨k,hi,hl,hk⟩)⟩
   ·exact⟨none,_,by have:=run_endLoop (P:=P) hl (by rw[hrec];simp);rw[hrec] at this;exact this,hdone _ _ (Nat.le_refl _) (hI.putObj _ hi (by omega) hl rfl) ((World.putObj_heap_other (by omega)).trans hk)⟩
   ·exact⟨some .ret,_,by have:=run_endLoop (P:=P) hl (by rw[hrec];simp);rw[hrec] at this;exact this,hstop _ k _ (Nat.le_refl _) (hIx.putObj _ hi (by omega) hl rfl) ((World.putObj_heap_other (by omega)).trans hk)⟩
end Go.Proofs.YtpekbmegopfhfaaGreatDoor
namespace Go.Proofs.YtpekbmegopfhfaaGreatDoor
open Go.RowKit
attribute [local go_sem] Oper.semAt_some
set_option maxRecDepth 100000 in
set_option maxHeartbeats 2000000 in
theorem kept_iter (a:Option Addr) (cap:Nat) (ss:List ByteArray) (n0:Nat) (w:World) (hrow:SRow w n0 a ss) (hn0:n0<=w.heap.size) (hl:ss.length<=maxLen):
 IterOk Tryz.prog 109 (fun l=> #[.agg #[.slice a ss.length cap],.func (.yield l) #[] #[]]) ss n0 w:=by
 intro l J Jx W hW hJ hJx hY h0 m;unfold maxLen at hl;have hrow':=hrow.below (hW.mono hn0);refine callsIn_of_wp Tryz.func109 rfl trivial ?_ rfl;simp only[Tryz.ntmps109,List.size_toArray,List.length_cons,List.length_nil,Nat.reduceAdd,Nat.reduceSub,Array.replicate_succ,Array.replicate_zero,List.push_toArray,List.append_toArray,List.nil_append,List.cons_append]
 gi_wp2
 gi_loopw [9] (fun i wr=>∃k:Nat,k<=ss.length/\i=.int .i64 k/\J k wr/\Below n0 W wr/\W.heap.size<=wr.heap.size)
  (fun i _=>ss.length -(intOf i).toNat)
 case atStart=>exact⟨0,Nat.zero_le _,rfl,hJ.alloc _ h0,(Below.refl _ _).alloc (Nat.le_trans hn0 hW.size) _,by simp⟩
 case round=>
  obtain⟨k,hk,rfl,hJs,hnx,hsz⟩:=hrel;by_cases hlt:k<ss.length
  ·obtain⟨b,off,ha,hb,hc⟩:=(hrow'.below hnx).at hlt
   subst ha;have hck:=hc k ss[k] (List.getElem?_eq_getElem hlt);obtain⟨fn,tmps,assign,body,hy,hR⟩:=hY k wr ss[k] (List.getElem?_eq_getElem hlt) hJs hsz (m -1);clear hc hrow hrow' hY;generalize ss[k]=s at *
   gi_wp2
   refine⟨fun h=>by simp[Fence.wide] at h,hR.mono ?_⟩;rintro e W3 ⟨hK,(⟨rfl,hJ3,hk3⟩|⟨rfl,hJx3⟩)⟩
   ·gi_wp2
    go_roundw
    case rel=>exact⟨k+1,by omega,by simp,hJ3,hnx.trans hk3,Nat.le_trans hsz hK.size⟩
    case measure=>simp[intOf];omega
   ·gi_wp2
    refine bodyPost_ret (results_none rfl _ _ _) rfl ?_;exact⟨⟨_,rfl⟩,.inr ⟨_,hJx3⟩⟩
  ·obtain rfl:k=ss.length:=by omega
   gi_wp2
   go_end0
   exact⟨⟨_,rfl⟩,.inl hJs⟩
set_option maxRecDepth 100000 in
set_option maxHeartbeats 2000000 in
theorem open_iter (v:Value) (a:Option Addr) (cap:Nat) (ss:List ByteArray) (n0:Nat) (w:World) (hrow:SRow w n0 a ss) (hn0:n0<=w.heap.size) (hl:ss.length<=maxLen):
 IterOk Tryz.prog 110 (fun l=> #[.agg #[v,.slice a ss.length cap],.func (.yield l) #[] #[]]) ss n0 w:=by
 intro l J Jx W hW hJ hJx hY h0 m;unfold maxLen at hl;have hrow':=hrow.below (hW.mono hn0);refine callsIn_of_wp Tryz.func110 rfl trivial ?_ rfl;simp only[Tryz.ntmps110,List.size_toArray,List.length_cons,List.length_nil,Nat.reduceAdd,Nat.reduceSub,Array.replicate_succ,Array.replicate_zero,List.push_toArray,List.append_toArray,List.nil_append,List.cons_append]
 gi_wp2
 gi_loopw [9] (fun i wr=>∃k:Nat,k<=ss.length/\i=.int .i64 k/\J k wr/\Below n0 W wr/\W.heap.size<=wr.heap.size)
  (fun i _=>ss.length -(intOf i).toNat)
 case atStart=>exact⟨0,Nat.zero_le _,rfl,hJ.alloc _ h0,(Below.refl _ _).alloc (Nat.le_trans hn0 hW.size) _,by simp⟩
 case round=>
  obtain⟨k,hk,rfl,hJs,hnx,hsz⟩:=hrel;by_cases hlt:k<ss.length
  ·obtain⟨b,off,ha,hb,hc⟩:=(hrow'.below hnx).at hlt
   subst ha;have hck:=hc k ss[k] (List.getElem?_eq_getElem hlt);obtain⟨fn,tmps,assign,body,hy,hR⟩:=hY k wr ss[k] (List.getElem?_eq_getElem hlt) hJs hsz (m -1);clear hc hrow hrow' hY;generalize ss[k]=s at *
   gi_wp2
   refine⟨fun h=>by simp[Fence.wide] at h,hR.mono ?_⟩;rintro e W3 ⟨hK,(⟨rfl,hJ3,hk3⟩|⟨rfl,hJx3⟩)⟩
   ·gi_wp2
    go_roundw
    case rel=>exact⟨k+1,by omega,by simp,hJ3,hnx.trans hk3,Nat.le_trans hsz hK.size⟩
    case measure=>simp[intOf];omega
   ·gi_wp2
    refine bodyPost_ret (results_none rfl _ _ _) rfl ?_;exact⟨⟨_,rfl⟩,.inr ⟨_,hJx3⟩⟩
  ·obtain rfl:k=ss.length:=by omega
   gi_wp2
   go_end0
   exact⟨⟨_,rfl⟩,.inl hJs⟩
end Go.Proofs.YtpekbmegopfhfaaGreatDoor
