import Derived.Test.YtpekbmegopfhfaaGreatDoorW38
import Derived.Test.YtpekbmegopfhfaaGreatDoorW09
import Derived.Test.YtpekbmegopfhfaaGreatDoorW06
import Derived.Deep.MidRow
import Derived.Test.YtpekbmegopfhfaaGreatDoorW05
import Derived.Deep.RegionWith
import Derived.Deep.DeepCutAuto
import Derived.Test.YtpekbmegopfhfaaGreatDoorW27
namespace Go.Proofs.YtpekbmegopfhfaaGreatDoor
open Go.ChangeShapes Go.WideShapes Go.ChangeAt Go.RowKit
theorem own_tn {V:List Nat} {w w':World} {lo:Nat} {e:TypeId} {size:Nat} {v:Value} {n:Nat} {xs:List Value} (h:w.ownsRow lo e size v n xs) (ht:Tn V w w') (hV:∀b∈V,b<lo):w'.ownsRow lo e size v n xs:=
 own_same h (fun q hq=>ht.block q (own_lt h hq).2 (fun hin=>by have h1:=hV q hin;have h2:=(own_lt h hq).1;omega))
theorem SOwn.tn {V:List Nat} {w w':World} {lo g p l:Nat} {ks:List Kd} {ps:List Pd} {ls:List Ld} (h:SOwn w lo g p l ks ps ls) (ht:Tn V w w') (hV:∀b∈V,b<lo):SOwn w' lo g p l ks ps ls:=by
 obtain ⟨xs,ho,hk⟩:=h.k
 obtain ⟨xp,hp,hp'⟩:=h.p
 obtain ⟨xl,hl,hl'⟩:=h.l
 refine ⟨⟨xs,own_tn ho ht hV,fun i x hx=> ?_⟩,⟨xp,own_tn hp ht hV,hp'⟩,⟨xl,own_tn hl ht hV,hl'⟩⟩
 obtain ⟨c0,c1,c2,g',c3,hr⟩:=hk i x hx
 exact ⟨c0,c1,c2,g',c3,own_tn hr ht (fun b hb=>by have h1:=hV b hb;have h2:=(ho.lt g rfl).1;omega)⟩
theorem SOwn.keep {w w':World} {lo g p l:Nat} {ks:List Kd} {ps:List Pd} {ls:List Ld} (h:SOwn w lo g p l ks ps ls) (hb:Below w.heap.size w w'):SOwn w' lo g p l ks ps ls:=⟨h.k.keep hb,h.p.keep hb,h.l.keep hb⟩
theorem CellsAt.there {w:World} {B:Nat} {l:List Value} (h:CellsAt w B l):w.there B 0 l.length:=fun j hj=>by
 obtain ⟨h1,h2⟩:=h j _ (List.getElem?_eq_getElem hj)
 rw [Nat.zero_add]
 exact ⟨by rw [h1];rfl,h2⟩
theorem CellsAt.range {w:World} {B:Nat} {l:List Value} (h:CellsAt w B l):w.rangeAt B 0 l:=fun j v hv=>by
 rw [Nat.zero_add]
 exact (h j v hv).1
theorem tn_cells (B:Nat):∀(vs:List Value) (o:Nat) (w:World),Tn [B] w (w.setCells B o vs)
 |[],_,w=>Tn.of (Below.refl _ _)
 |v::r,o,w=>(Tn.set w B o v (by simp)).trans (tn_cells B r (o+1) (w.setCell ⟨B,o,none⟩ v))
theorem CellsAt.setAll {w:World} {B:Nat} {l:List Value} (h:CellsAt w B l) (vs:List Value) (hl:vs.length=l.length):CellsAt (w.setCells B 0 vs) B vs:=fun j v hj=>by
 have hlt:=(List.getElem?_eq_some_iff.1 hj).1
 have h1:=World.rangeAt_setCells_same w B 0 vs (hl▸h.there) j v hj
 rw [Nat.zero_add] at h1
 refine ⟨h1,?_⟩
 rw [World.frozen?_setCells]
 exact (h j _ (List.getElem?_eq_getElem (by omega))).2
set_option maxRecDepth 20000 in
set_option maxHeartbeats 4000000 in
theorem toVault_any (v:Vd) (a:Va) (w:World) (hr:VRows w w.heap.size a v) (hf:VFit v):
 Calls Tryz.prog 29 #[.agg #[.int .i64 v.wd,.int .i64 v.lim,.slice a.sa v.ss.length a.sc,.slice a.ta v.tt.length a.tc,.int .i64 v.sw,.int .i64 v.now,.int .i64 v.given,.int .i64 v.births,.slice a.ka v.ks.length a.kc,.slice a.pa v.ps.length a.pc,.slice a.la v.ls.length a.lc,.int .i64 v.ph,.slice a.qa v.qs.length a.qc,.slice a.ma v.ms.length a.mc,.int .i64 v.top,.int .i64 v.at_,.int .i64 v.ro]] w fun e w'=>∃b:Va,e=.returned (.agg #[.int .i64 v.wd,.int .i64 v.lim,.slice b.sa v.ss.length b.sc,.slice b.ta v.tt.length b.tc,.int .i64 v.sw,.int .i64 v.now,.int .i64 v.given,.int .i64 v.births,.slice b.ka v.ks.length b.kc,.slice b.pa v.ps.length b.pc,.slice b.la v.ls.length b.lc,.int .i64 v.ph,.slice b.qa v.qs.length b.qc,.slice b.ma v.ms.length b.mc,.int .i64 v.top,.int .i64 v.at_,.int .i64 v.ro])/\VRows w' w'.heap.size b v/\VCap b v/\Below w.heap.size w w':=by
 obtain ⟨W,hW⟩:∃W,W=((w.alloc (.cells #[.int .i64 v.wd,.int .i64 v.lim,.slice a.sa v.ss.length a.sc,.slice a.ta v.tt.length a.tc,.int .i64 v.sw,.int .i64 v.now,.int .i64 v.given,.int .i64 v.births,.slice a.ka v.ks.length a.kc,.slice a.pa v.ps.length a.pc,.slice a.la v.ls.length a.lc,.int .i64 v.ph,.slice a.qa v.qs.length a.qc,.slice a.ma v.ms.length a.mc,.int .i64 v.top,.int .i64 v.at_,.int .i64 v.ro] 60)).alloc (.cells #[.int .i64 0,.int .i64 0,.slice none 0 0,.slice none 0 0,.int .i64 0,.int .i64 0,.int .i64 0,.int .i64 0,.slice none 0 0,.slice none 0 0,.slice none 0 0,.int .i64 0,.slice none 0 0,.slice none 0 0,.int .i64 0,.int .i64 0,.int .i64 0] 44)).alloc (.cells #[.int .i64 v.wd,.int .i64 v.lim,.slice none 0 0,.slice none 0 0,.int .i64 0,.int .i64 0,.int .i64 0,.int .i64 0,.slice none 0 0,.slice none 0 0,.slice none 0 0,.int .i64 0,.slice none 0 0,.slice none 0 0,.int .i64 0,.int .i64 0,.int .i64 0] 44):=⟨_,rfl⟩
 have bW:Below w.heap.size w W:=by rw [hW];exact (((Below.refl _ _).alloc (Nat.le_refl _) _).alloc (by simp) _).alloc (by simp;omega) _
 have zW:W.heap.size=w.heap.size+3:=by rw [hW];simp
 have HX0:Hid (CellsAt W w.heap.size [.int .i64 v.wd,.int .i64 v.lim,.slice a.sa v.ss.length a.sc,.slice a.ta v.tt.length a.tc,.int .i64 v.sw,.int .i64 v.now,.int .i64 v.given,.int .i64 v.births,.slice a.ka v.ks.length a.kc,.slice a.pa v.ps.length a.pc,.slice a.la v.ls.length a.lc,.int .i64 v.ph,.slice a.qa v.qs.length a.qc,.slice a.ma v.ms.length a.mc,.int .i64 v.top,.int .i64 v.at_,.int .i64 v.ro]):=by show CellsAt W w.heap.size [.int .i64 v.wd,.int .i64 v.lim,.slice a.sa v.ss.length a.sc,.slice a.ta v.tt.length a.tc,.int .i64 v.sw,.int .i64 v.now,.int .i64 v.given,.int .i64 v.births,.slice a.ka v.ks.length a.kc,.slice a.pa v.ps.length a.pc,.slice a.la v.ls.length a.lc,.int .i64 v.ph,.slice a.qa v.qs.length a.qc,.slice a.ma v.ms.length a.mc,.int .i64 v.top,.int .i64 v.at_,.int .i64 v.ro];rw [hW];exact CellsAt.below (CellsAt.below (CellsAt.new w _ 60) ((Below.refl _ _).alloc (Nat.le_refl _) _)) ((Below.refl _ _).alloc (Nat.le_refl _) _)
 have HX1:Hid (CellsAt W (w.heap.size+1) [.int .i64 0,.int .i64 0,.slice none 0 0,.slice none 0 0,.int .i64 0,.int .i64 0,.int .i64 0,.int .i64 0,.slice none 0 0,.slice none 0 0,.slice none 0 0,.int .i64 0,.slice none 0 0,.slice none 0 0,.int .i64 0,.int .i64 0,.int .i64 0]):=by
  have h1:=CellsAt.new (w.alloc (.cells #[.int .i64 v.wd,.int .i64 v.lim,.slice a.sa v.ss.length a.sc,.slice a.ta v.tt.length a.tc,.int .i64 v.sw,.int .i64 v.now,.int .i64 v.given,.int .i64 v.births,.slice a.ka v.ks.length a.kc,.slice a.pa v.ps.length a.pc,.slice a.la v.ls.length a.lc,.int .i64 v.ph,.slice a.qa v.qs.length a.qc,.slice a.ma v.ms.length a.mc,.int .i64 v.top,.int .i64 v.at_,.int .i64 v.ro] 60)) [.int .i64 0,.int .i64 0,.slice none 0 0,.slice none 0 0,.int .i64 0,.int .i64 0,.int .i64 0,.int .i64 0,.slice none 0 0,.slice none 0 0,.slice none 0 0,.int .i64 0,.slice none 0 0,.slice none 0 0,.int .i64 0,.int .i64 0,.int .i64 0] 44
  rw [World.size_alloc] at h1
  show CellsAt W (w.heap.size+1) [.int .i64 0,.int .i64 0,.slice none 0 0,.slice none 0 0,.int .i64 0,.int .i64 0,.int .i64 0,.int .i64 0,.slice none 0 0,.slice none 0 0,.slice none 0 0,.int .i64 0,.slice none 0 0,.slice none 0 0,.int .i64 0,.int .i64 0,.int .i64 0]
  rw [hW]
  exact CellsAt.below (v:=.int .i64 0) h1 ((Below.refl _ _).alloc (Nat.le_refl _) _)
 have HX2:Hid (CellsAt W (w.heap.size+1+1) [.int .i64 v.wd,.int .i64 v.lim,.slice none 0 0,.slice none 0 0,.int .i64 0,.int .i64 0,.int .i64 0,.int .i64 0,.slice none 0 0,.slice none 0 0,.slice none 0 0,.int .i64 0,.slice none 0 0,.slice none 0 0,.int .i64 0,.int .i64 0,.int .i64 0]):=by
  have h1:=CellsAt.new ((w.alloc (.cells #[.int .i64 v.wd,.int .i64 v.lim,.slice a.sa v.ss.length a.sc,.slice a.ta v.tt.length a.tc,.int .i64 v.sw,.int .i64 v.now,.int .i64 v.given,.int .i64 v.births,.slice a.ka v.ks.length a.kc,.slice a.pa v.ps.length a.pc,.slice a.la v.ls.length a.lc,.int .i64 v.ph,.slice a.qa v.qs.length a.qc,.slice a.ma v.ms.length a.mc,.int .i64 v.top,.int .i64 v.at_,.int .i64 v.ro] 60)).alloc (.cells #[.int .i64 0,.int .i64 0,.slice none 0 0,.slice none 0 0,.int .i64 0,.int .i64 0,.int .i64 0,.int .i64 0,.slice none 0 0,.slice none 0 0,.slice none 0 0,.int .i64 0,.slice none 0 0,.slice none 0 0,.int .i64 0,.int .i64 0,.int .i64 0] 44)) [.int .i64 v.wd,.int .i64 v.lim,.slice none 0 0,.slice none 0 0,.int .i64 0,.int .i64 0,.int .i64 0,.int .i64 0,.slice none 0 0,.slice none 0 0,.slice none 0 0,.int .i64 0,.slice none 0 0,.slice none 0 0,.int .i64 0,.int .i64 0,.int .i64 0] 44
  rw [World.size_alloc,World.size_alloc] at h1
  show CellsAt W (w.heap.size+1+1) [.int .i64 v.wd,.int .i64 v.lim,.slice none 0 0,.slice none 0 0,.int .i64 0,.int .i64 0,.int .i64 0,.int .i64 0,.slice none 0 0,.slice none 0 0,.slice none 0 0,.int .i64 0,.slice none 0 0,.slice none 0 0,.int .i64 0,.int .i64 0,.int .i64 0]
  rw [hW]
  exact h1
 have HR:Hid (∀X,Below w.heap.size w X->VRows X X.heap.size a v):=fun X hX=>hr.below' hX
 have HW:Hid _:=hW
 have HBW:Hid (Below w.heap.size w W):=bW
 obtain ⟨y0,y1,y2,y3,y4,y5,y6,y7,y8,y9,y10,y11,y12,y13,y14,y15,y16⟩:=c17 HX0.out
 clear hW hr bW
 go_enter Tryz.func29,Tryz.ntmps29
 go_wp2_with fail
 rw [←HW.out]
 clear HW y0 y1 y2 y3 y4 y5 y6 y7 y8 y9 y10 y11 y12 y13 y14 y15 y16
 refine (toLog_any a.sa a.ta a.sc a.tc v.ss v.tt W (HR.out W HBW.out).s (HR.out W HBW.out).t hf.s hf.t).mono ?_
 rintro e w1 ⟨g,k,rfl,hg,hk,ho1,ho1',hb1⟩
 obtain ⟨W1,hW1⟩:∃X,X=((w1.setCell ⟨w.heap.size+1+1,2,none⟩ (.slice (some ⟨g,0,none⟩) v.ss.length v.ss.length)).setCell ⟨w.heap.size+1+1,3,none⟩ (.slice (some ⟨k,0,none⟩) v.tt.length v.tt.length)):=⟨_,rfl⟩
 have hz1:=hb1.size
 have t1:Tn [w.heap.size+1+1] w1 W1:=by
  rw [hW1]
  exact (Tn.set _ _ _ _ (by simp)).trans (Tn.set _ _ _ _ (by simp))
 have zW1:W1.heap.size=w1.heap.size:=by rw [hW1];simp
 have HA1:Hid (CellsAt W1 w.heap.size [.int .i64 v.wd,.int .i64 v.lim,.slice a.sa v.ss.length a.sc,.slice a.ta v.tt.length a.tc,.int .i64 v.sw,.int .i64 v.now,.int .i64 v.given,.int .i64 v.births,.slice a.ka v.ks.length a.kc,.slice a.pa v.ps.length a.pc,.slice a.la v.ls.length a.lc,.int .i64 v.ph,.slice a.qa v.qs.length a.qc,.slice a.ma v.ms.length a.mc,.int .i64 v.top,.int .i64 v.at_,.int .i64 v.ro]):=CellsAt.same (CellsAt.below HX0.out hb1) (t1.block _ (by omega) (by simp<;>omega))
 have HB1:Hid (CellsAt W1 (w.heap.size+1) [.int .i64 0,.int .i64 0,.slice none 0 0,.slice none 0 0,.int .i64 0,.int .i64 0,.int .i64 0,.int .i64 0,.slice none 0 0,.slice none 0 0,.slice none 0 0,.int .i64 0,.slice none 0 0,.slice none 0 0,.int .i64 0,.int .i64 0,.int .i64 0]):=CellsAt.same (CellsAt.below (v:=.int .i64 0) HX1.out hb1) (t1.block _ (by omega) (by simp<;>omega))
 have HC1:Hid (CellsAt W1 (w.heap.size+1+1) [.int .i64 v.wd,.int .i64 v.lim,.slice (some ⟨g,0,none⟩) v.ss.length v.ss.length,.slice (some ⟨k,0,none⟩) v.tt.length v.tt.length,.int .i64 0,.int .i64 0,.int .i64 0,.int .i64 0,.slice none 0 0,.slice none 0 0,.slice none 0 0,.int .i64 0,.slice none 0 0,.slice none 0 0,.int .i64 0,.int .i64 0,.int .i64 0]):=by
  have h1:=CellsAt.below HX2.out hb1
  show CellsAt W1 (w.heap.size+1+1) [.int .i64 v.wd,.int .i64 v.lim,.slice (some ⟨g,0,none⟩) v.ss.length v.ss.length,.slice (some ⟨k,0,none⟩) v.tt.length v.tt.length,.int .i64 0,.int .i64 0,.int .i64 0,.int .i64 0,.slice none 0 0,.slice none 0 0,.slice none 0 0,.int .i64 0,.slice none 0 0,.slice none 0 0,.int .i64 0,.int .i64 0,.int .i64 0]
  rw [hW1]
  exact ((h1.set 2 _).set 3 _)
 have HBW1:Hid (Below w.heap.size w W1):=(HBW.out.trans (hb1.mono HBW.out.size)).trans (t1.below (by omega) (by simp<;>omega))
 have HO1:Hid (W1.ownsRow W.heap.size 9 1 (.slice (some ⟨g,0,none⟩) v.ss.length v.ss.length) v.ss.length (v.ss.map Value.string)):=own_tn ho1 t1 (by simp;omega)
 have HO2:Hid (W1.ownsRow W.heap.size 9 1 (.slice (some ⟨k,0,none⟩) v.tt.length v.tt.length) v.tt.length (v.tt.map Value.string)):=own_tn ho1' t1 (by simp;omega)
 obtain ⟨y0,y1,y2,y3,y4,y5,y6,y7,y8,y9,y10,y11,y12,y13,y14,y15,y16⟩:=c17 (CellsAt.below HX0.out hb1)
 obtain ⟨e2,f2⟩:=CellsAt.below HX2.out hb1 2 _ rfl
 obtain ⟨e3,f3⟩:=CellsAt.below HX2.out hb1 3 _ rfl
 have HW1:Hid _:=hW1
 clear hW1 ho1 ho1' HBW
 go_wp2_with fail
 rw [←HW1.out]
 clear HW1 f2 f3 e2 e3 y0 y1 y2 y3 y4 y5 y6 y7 y8 y9 y10 y11 y12 y13 y14 y15 y16
 refine (toState_any v.sw v.now v.given v.births a.ka a.pa a.la a.kc a.pc a.lc v.ks v.ps v.ls W1 (HR.out W1 HBW1.out).st hf.st).mono ?_
 rintro e w2 ⟨g3,q3,r3,rfl,ho2,hb2⟩
 obtain ⟨W2,hW2⟩:∃X,X=(((((((w2.setCell ⟨w.heap.size+1+1,4,none⟩ (.int .i64 v.sw)).setCell ⟨w.heap.size+1+1,5,none⟩ (.int .i64 v.now)).setCell ⟨w.heap.size+1+1,6,none⟩ (.int .i64 v.given)).setCell ⟨w.heap.size+1+1,7,none⟩ (.int .i64 v.births)).setCell ⟨w.heap.size+1+1,8,none⟩ (.slice (some ⟨g3,0,none⟩) v.ks.length v.ks.length)).setCell ⟨w.heap.size+1+1,9,none⟩ (.slice (some ⟨q3,0,none⟩) v.ps.length v.ps.length)).setCell ⟨w.heap.size+1+1,10,none⟩ (.slice (some ⟨r3,0,none⟩) v.ls.length v.ls.length)):=⟨_,rfl⟩
 have hz2:=hb2.size
 have t2:Tn [w.heap.size+1+1] w2 W2:=by
  rw [hW2]
  exact ((((((Tn.set _ _ _ _ (by simp)).trans (Tn.set _ _ _ _ (by simp))).trans (Tn.set _ _ _ _ (by simp))).trans (Tn.set _ _ _ _ (by simp))).trans (Tn.set _ _ _ _ (by simp))).trans (Tn.set _ _ _ _ (by simp))).trans (Tn.set _ _ _ _ (by simp))
 have zW2:W2.heap.size=w2.heap.size:=by rw [hW2];simp
 have HA2:Hid (CellsAt W2 w.heap.size [.int .i64 v.wd,.int .i64 v.lim,.slice a.sa v.ss.length a.sc,.slice a.ta v.tt.length a.tc,.int .i64 v.sw,.int .i64 v.now,.int .i64 v.given,.int .i64 v.births,.slice a.ka v.ks.length a.kc,.slice a.pa v.ps.length a.pc,.slice a.la v.ls.length a.lc,.int .i64 v.ph,.slice a.qa v.qs.length a.qc,.slice a.ma v.ms.length a.mc,.int .i64 v.top,.int .i64 v.at_,.int .i64 v.ro]):=CellsAt.same (CellsAt.below HA1.out hb2) (t2.block _ (by omega) (by simp<;>omega))
 have HB2:Hid (CellsAt W2 (w.heap.size+1) [.int .i64 0,.int .i64 0,.slice none 0 0,.slice none 0 0,.int .i64 0,.int .i64 0,.int .i64 0,.int .i64 0,.slice none 0 0,.slice none 0 0,.slice none 0 0,.int .i64 0,.slice none 0 0,.slice none 0 0,.int .i64 0,.int .i64 0,.int .i64 0]):=CellsAt.same (CellsAt.below (v:=.int .i64 0) HB1.out hb2) (t2.block _ (by omega) (by simp<;>omega))
 have HC2:Hid (CellsAt W2 (w.heap.size+1+1) [.int .i64 v.wd,.int .i64 v.lim,.slice (some ⟨g,0,none⟩) v.ss.length v.ss.length,.slice (some ⟨k,0,none⟩) v.tt.length v.tt.length,.int .i64 v.sw,.int .i64 v.now,.int .i64 v.given,.int .i64 v.births,.slice (some ⟨g3,0,none⟩) v.ks.length v.ks.length,.slice (some ⟨q3,0,none⟩) v.ps.length v.ps.length,.slice (some ⟨r3,0,none⟩) v.ls.length v.ls.length,.int .i64 0,.slice none 0 0,.slice none 0 0,.int .i64 0,.int .i64 0,.int .i64 0]):=by
  have h1:=CellsAt.below HC1.out hb2
  show CellsAt W2 (w.heap.size+1+1) [.int .i64 v.wd,.int .i64 v.lim,.slice (some ⟨g,0,none⟩) v.ss.length v.ss.length,.slice (some ⟨k,0,none⟩) v.tt.length v.tt.length,.int .i64 v.sw,.int .i64 v.now,.int .i64 v.given,.int .i64 v.births,.slice (some ⟨g3,0,none⟩) v.ks.length v.ks.length,.slice (some ⟨q3,0,none⟩) v.ps.length v.ps.length,.slice (some ⟨r3,0,none⟩) v.ls.length v.ls.length,.int .i64 0,.slice none 0 0,.slice none 0 0,.int .i64 0,.int .i64 0,.int .i64 0]
  rw [hW2]
  exact (((((((h1.set 4 _).set 5 _).set 6 _).set 7 _).set 8 _).set 9 _).set 10 _)
 have HBW2:Hid (Below w.heap.size w W2):=(HBW1.out.trans (hb2.mono HBW1.out.size)).trans (t2.below (by omega) (by simp<;>omega))
 replace HO1:Hid (W2.ownsRow W.heap.size 9 1 (.slice (some ⟨g,0,none⟩) v.ss.length v.ss.length) v.ss.length (v.ss.map Value.string)):=own_tn (own_below HO1.out hb2) t2 (by simp;omega)
 replace HO2:Hid (W2.ownsRow W.heap.size 9 1 (.slice (some ⟨k,0,none⟩) v.tt.length v.tt.length) v.tt.length (v.tt.map Value.string)):=own_tn (own_below HO2.out hb2) t2 (by simp;omega)
 have HO3:Hid (SOwn W2 W1.heap.size g3 q3 r3 v.ks v.ps v.ls):=ho2.tn t2 (by simp;omega)
 obtain ⟨y0,y1,y2,y3,y4,y5,y6,y7,y8,y9,y10,y11,y12,y13,y14,y15,y16⟩:=c17 (CellsAt.below HA1.out hb2)
 obtain ⟨e4,f4⟩:=CellsAt.below HC1.out hb2 4 _ rfl
 obtain ⟨e5,f5⟩:=CellsAt.below HC1.out hb2 5 _ rfl
 obtain ⟨e6,f6⟩:=CellsAt.below HC1.out hb2 6 _ rfl
 obtain ⟨e7,f7⟩:=CellsAt.below HC1.out hb2 7 _ rfl
 obtain ⟨e8,f8⟩:=CellsAt.below HC1.out hb2 8 _ rfl
 obtain ⟨e9,f9⟩:=CellsAt.below HC1.out hb2 9 _ rfl
 obtain ⟨e10,f10⟩:=CellsAt.below HC1.out hb2 10 _ rfl
 have HW2:Hid _:=hW2
 clear hW2 ho2 HBW1
 go_wp2_with fail
 rw [←HW2.out]
 clear HW2 f4 f5 f6 f7 f8 f9 f10 e4 e5 e6 e7 e8 e9 e10 y0 y1 y2 y3 y4 y5 y6 y7 y8 y9 y10 y11 y12 y13 y14 y15 y16
 refine (toRound_any v.ph v.top v.at_ v.ro a.qa a.ma a.qc a.mc v.qs v.ms W2 (HR.out W2 HBW2.out).q (HR.out W2 HBW2.out).m hf.r).mono ?_
 rintro e w3 ⟨g5,k5,rfl,_,_,ho4,ho4',hb3⟩
 obtain ⟨W3,hW3⟩:∃X,X=((((((w3.setCell ⟨w.heap.size+1+1,11,none⟩ (.int .i64 v.ph)).setCell ⟨w.heap.size+1+1,12,none⟩ (.slice (some ⟨g5,0,none⟩) v.qs.length v.qs.length)).setCell ⟨w.heap.size+1+1,13,none⟩ (.slice (some ⟨k5,0,none⟩) v.ms.length v.ms.length)).setCell ⟨w.heap.size+1+1,14,none⟩ (.int .i64 v.top)).setCell ⟨w.heap.size+1+1,15,none⟩ (.int .i64 v.at_)).setCell ⟨w.heap.size+1+1,16,none⟩ (.int .i64 v.ro)):=⟨_,rfl⟩
 have hz3:=hb3.size
 have t3:Tn [w.heap.size+1+1] w3 W3:=by
  rw [hW3]
  exact (((((Tn.set _ _ _ _ (by simp)).trans (Tn.set _ _ _ _ (by simp))).trans (Tn.set _ _ _ _ (by simp))).trans (Tn.set _ _ _ _ (by simp))).trans (Tn.set _ _ _ _ (by simp))).trans (Tn.set _ _ _ _ (by simp))
 have zW3:W3.heap.size=w3.heap.size:=by rw [hW3];simp
 have HA3:Hid (CellsAt W3 w.heap.size [.int .i64 v.wd,.int .i64 v.lim,.slice a.sa v.ss.length a.sc,.slice a.ta v.tt.length a.tc,.int .i64 v.sw,.int .i64 v.now,.int .i64 v.given,.int .i64 v.births,.slice a.ka v.ks.length a.kc,.slice a.pa v.ps.length a.pc,.slice a.la v.ls.length a.lc,.int .i64 v.ph,.slice a.qa v.qs.length a.qc,.slice a.ma v.ms.length a.mc,.int .i64 v.top,.int .i64 v.at_,.int .i64 v.ro]):=CellsAt.same (CellsAt.below HA2.out hb3) (t3.block _ (by omega) (by simp<;>omega))
 have HB3:Hid (CellsAt W3 (w.heap.size+1) [.int .i64 0,.int .i64 0,.slice none 0 0,.slice none 0 0,.int .i64 0,.int .i64 0,.int .i64 0,.int .i64 0,.slice none 0 0,.slice none 0 0,.slice none 0 0,.int .i64 0,.slice none 0 0,.slice none 0 0,.int .i64 0,.int .i64 0,.int .i64 0]):=CellsAt.same (CellsAt.below (v:=.int .i64 0) HB2.out hb3) (t3.block _ (by omega) (by simp<;>omega))
 have HC3:Hid (CellsAt W3 (w.heap.size+1+1) [.int .i64 v.wd,.int .i64 v.lim,.slice (some ⟨g,0,none⟩) v.ss.length v.ss.length,.slice (some ⟨k,0,none⟩) v.tt.length v.tt.length,.int .i64 v.sw,.int .i64 v.now,.int .i64 v.given,.int .i64 v.births,.slice (some ⟨g3,0,none⟩) v.ks.length v.ks.length,.slice (some ⟨q3,0,none⟩) v.ps.length v.ps.length,.slice (some ⟨r3,0,none⟩) v.ls.length v.ls.length,.int .i64 v.ph,.slice (some ⟨g5,0,none⟩) v.qs.length v.qs.length,.slice (some ⟨k5,0,none⟩) v.ms.length v.ms.length,.int .i64 v.top,.int .i64 v.at_,.int .i64 v.ro]):=by
  have h1:=CellsAt.below HC2.out hb3
  show CellsAt W3 (w.heap.size+1+1) [.int .i64 v.wd,.int .i64 v.lim,.slice (some ⟨g,0,none⟩) v.ss.length v.ss.length,.slice (some ⟨k,0,none⟩) v.tt.length v.tt.length,.int .i64 v.sw,.int .i64 v.now,.int .i64 v.given,.int .i64 v.births,.slice (some ⟨g3,0,none⟩) v.ks.length v.ks.length,.slice (some ⟨q3,0,none⟩) v.ps.length v.ps.length,.slice (some ⟨r3,0,none⟩) v.ls.length v.ls.length,.int .i64 v.ph,.slice (some ⟨g5,0,none⟩) v.qs.length v.qs.length,.slice (some ⟨k5,0,none⟩) v.ms.length v.ms.length,.int .i64 v.top,.int .i64 v.at_,.int .i64 v.ro]
  rw [hW3]
  exact ((((((h1.set 11 _).set 12 _).set 13 _).set 14 _).set 15 _).set 16 _)
 have HBW3:Hid (Below w.heap.size w W3):=(HBW2.out.trans (hb3.mono HBW2.out.size)).trans (t3.below (by omega) (by simp<;>omega))
 obtain ⟨W4,hW4⟩:∃X,X=W3.setCells (w.heap.size+1) 0 [.int .i64 v.wd,.int .i64 v.lim,.slice (some ⟨g,0,none⟩) v.ss.length v.ss.length,.slice (some ⟨k,0,none⟩) v.tt.length v.tt.length,.int .i64 v.sw,.int .i64 v.now,.int .i64 v.given,.int .i64 v.births,.slice (some ⟨g3,0,none⟩) v.ks.length v.ks.length,.slice (some ⟨q3,0,none⟩) v.ps.length v.ps.length,.slice (some ⟨r3,0,none⟩) v.ls.length v.ls.length,.int .i64 v.ph,.slice (some ⟨g5,0,none⟩) v.qs.length v.qs.length,.slice (some ⟨k5,0,none⟩) v.ms.length v.ms.length,.int .i64 v.top,.int .i64 v.at_,.int .i64 v.ro]:=⟨_,rfl⟩
 have t4:Tn [w.heap.size+1] W3 W4:=by rw [hW4];exact tn_cells _ _ _ _
 have x4:CellsAt W4 (w.heap.size+1) [.int .i64 v.wd,.int .i64 v.lim,.slice (some ⟨g,0,none⟩) v.ss.length v.ss.length,.slice (some ⟨k,0,none⟩) v.tt.length v.tt.length,.int .i64 v.sw,.int .i64 v.now,.int .i64 v.given,.int .i64 v.births,.slice (some ⟨g3,0,none⟩) v.ks.length v.ks.length,.slice (some ⟨q3,0,none⟩) v.ps.length v.ps.length,.slice (some ⟨r3,0,none⟩) v.ls.length v.ls.length,.int .i64 v.ph,.slice (some ⟨g5,0,none⟩) v.qs.length v.qs.length,.slice (some ⟨k5,0,none⟩) v.ms.length v.ms.length,.int .i64 v.top,.int .i64 v.at_,.int .i64 v.ro]:=by rw [hW4];exact HB3.out.setAll _ rfl
 have HF:Hid (VRows W4 W4.heap.size ⟨some ⟨g,0,none⟩,v.ss.length,some ⟨k,0,none⟩,v.tt.length,some ⟨g3,0,none⟩,v.ks.length,some ⟨q3,0,none⟩,v.ps.length,some ⟨r3,0,none⟩,v.ls.length,some ⟨g5,0,none⟩,v.qs.length,some ⟨k5,0,none⟩,v.ms.length⟩ v/\Below w.heap.size w W4):=
  ⟨⟨SRow.own (own_tn (own_tn (own_below HO1.out hb3) t3 (by simp;omega)) t4 (by simp;omega)),SRow.own (own_tn (own_tn (own_below HO2.out hb3) t3 (by simp;omega)) t4 (by simp;omega)),(((HO3.out.keep hb3).tn t3 (by simp;omega)).tn t4 (by simp;omega)).rows,SRow.own (own_tn (own_tn ho4 t3 (by simp;omega)) t4 (by simp;omega)),SRow.own (own_tn (own_tn ho4' t3 (by simp;omega)) t4 (by simp;omega))⟩,HBW3.out.trans (t4.below (by omega) (by simp))⟩
 obtain ⟨e11,f11⟩:=CellsAt.below HC2.out hb3 11 _ rfl
 obtain ⟨e12,f12⟩:=CellsAt.below HC2.out hb3 12 _ rfl
 obtain ⟨e13,f13⟩:=CellsAt.below HC2.out hb3 13 _ rfl
 obtain ⟨e14,f14⟩:=CellsAt.below HC2.out hb3 14 _ rfl
 obtain ⟨e15,f15⟩:=CellsAt.below HC2.out hb3 15 _ rfl
 obtain ⟨e16,f16⟩:=CellsAt.below HC2.out hb3 16 _ rfl
 have HW3:Hid _:=hW3
 have HW4:Hid _:=hW4
 have HX4':Hid _:=x4
 clear hW4 hW3 ho4 ho4' HO1 HO2 HO3 x4 t4 t3
 go_upto_region 7 with fail
 rw [←HW3.out]
 clear HW3 e11 f11 e12 f12 e13 f13 e14 f14 e15 f15 e16 f16
 have hone:(#[.int .i64 v.wd,.int .i64 v.lim,.slice (some ⟨g,0,none⟩) v.ss.length v.ss.length,.slice (some ⟨k,0,none⟩) v.tt.length v.tt.length,.int .i64 v.sw,.int .i64 v.now,.int .i64 v.given,.int .i64 v.births,.slice (some ⟨g3,0,none⟩) v.ks.length v.ks.length,.slice (some ⟨q3,0,none⟩) v.ps.length v.ps.length,.slice (some ⟨r3,0,none⟩) v.ls.length v.ls.length,.int .i64 v.ph,.slice (some ⟨g5,0,none⟩) v.qs.length v.qs.length,.slice (some ⟨k5,0,none⟩) v.ms.length v.ms.length,.int .i64 v.top,.int .i64 v.at_,.int .i64 v.ro]:Array Value).all (·.oneCell')=true:=by simp [Value.oneCell']
 have hthere:W3.there (w.heap.size+1) 0 17:=HB3.out.there
 have HIn:Hid _:=And.intro hone hthere
 clear hone hthere
 go_wp2_with (first
  |refine wpList_load_mid rfl 44 _ rfl (w.heap.size+1+1) 0 rfl [.int .i64 v.wd,.int .i64 v.lim,.slice (some ⟨g,0,none⟩) v.ss.length v.ss.length,.slice (some ⟨k,0,none⟩) v.tt.length v.tt.length,.int .i64 v.sw,.int .i64 v.now,.int .i64 v.given,.int .i64 v.births,.slice (some ⟨g3,0,none⟩) v.ks.length v.ks.length,.slice (some ⟨q3,0,none⟩) v.ps.length v.ps.length,.slice (some ⟨r3,0,none⟩) v.ls.length v.ls.length,.int .i64 v.ph,.slice (some ⟨g5,0,none⟩) v.qs.length v.qs.length,.slice (some ⟨k5,0,none⟩) v.ms.length v.ms.length,.int .i64 v.top,.int .i64 v.at_,.int .i64 v.ro] _ HC3.out.range Tryz.underlying44 rfl (by kernel_rfl) ?_
  |refine wpList_store_mid rfl 44 _ _ rfl (w.heap.size+1) 0 #[.int .i64 v.wd,.int .i64 v.lim,.slice (some ⟨g,0,none⟩) v.ss.length v.ss.length,.slice (some ⟨k,0,none⟩) v.tt.length v.tt.length,.int .i64 v.sw,.int .i64 v.now,.int .i64 v.given,.int .i64 v.births,.slice (some ⟨g3,0,none⟩) v.ks.length v.ks.length,.slice (some ⟨q3,0,none⟩) v.ps.length v.ps.length,.slice (some ⟨r3,0,none⟩) v.ls.length v.ls.length,.int .i64 v.ph,.slice (some ⟨g5,0,none⟩) v.qs.length v.qs.length,.slice (some ⟨k5,0,none⟩) v.ms.length v.ms.length,.int .i64 v.top,.int .i64 v.at_,.int .i64 v.ro] rfl rfl HIn.out.2 (by kernel_rfl) HIn.out.1 ?_)
 rw [←HW4.out]
 obtain ⟨m0,m1,m2,m3,m4,m5,m6,m7,m8,m9,m10,m11,m12,m13,m14,m15,m16⟩:=c17 HX4'.out
 refine bodyPost_ret (v:=.agg #[.int .i64 v.wd,.int .i64 v.lim,.slice (some ⟨g,0,none⟩) v.ss.length v.ss.length,.slice (some ⟨k,0,none⟩) v.tt.length v.tt.length,.int .i64 v.sw,.int .i64 v.now,.int .i64 v.given,.int .i64 v.births,.slice (some ⟨g3,0,none⟩) v.ks.length v.ks.length,.slice (some ⟨q3,0,none⟩) v.ps.length v.ps.length,.slice (some ⟨r3,0,none⟩) v.ls.length v.ls.length,.int .i64 v.ph,.slice (some ⟨g5,0,none⟩) v.qs.length v.qs.length,.slice (some ⟨k5,0,none⟩) v.ms.length v.ms.length,.int .i64 v.top,.int .i64 v.at_,.int .i64 v.ro]) (by simp [results,Tryz.results29,go_sem,m0,m1,m2,m3,m4,m5,m6,m7,m8,m9,m10,m11,m12,m13,m14,m15,m16]) rfl ?_
 exact ⟨_,rfl,HF.out.1,⟨(fun e=>by cases e),(fun e=>by cases e),Nat.le_refl _⟩,HF.out.2⟩
end Go.Proofs.YtpekbmegopfhfaaGreatDoor
namespace Go.Proofs.YtpekbmegopfhfaaGreatDoor
open Go.ChangeShapes Go.WideShapes Go.ChangeAt Go.RowKit
set_option maxRecDepth 20000 in
set_option maxHeartbeats 2000000 in
theorem equalS_any (a b:Option Addr) (c d:Nat) (ss tt:List ByteArray) (w:World) (hr:SRow w w.heap.size a ss) (hq:SRow w w.heap.size b tt) (hl:ss.length<=100000) (hl':tt.length<=1048576):
 Calls Tryz.prog 177 #[.slice a ss.length c,.slice b tt.length d] w fun e w'=>Says (ss=tt) w w' e:=by
 have HR:Hid (∀X,Below w.heap.size w X->SRow X w.heap.size a ss/\SRow X w.heap.size b tt):=fun X hX=>⟨hr.below hX,hq.below hX⟩
 clear hr hq
 by_cases hlen:ss.length=tt.length
 ·have hle:((ss.length:Int) !=(tt.length:Int))=false:=by simp;omega
  have HLen:Hid (ss.length=tt.length):=hlen
  clear hlen
  go_enter Tryz.func177,Tryz.ntmps177
  go_wp2
  go_loopw [13] (fun i wr=>∃k:Nat,k<=ss.length/\i=.int .i64 k/\Hid (ss.take k=tt.take k/\Below w.heap.size w wr)) (fun i _=>ss.length -(intOf i).toNat)
  case atStart=>exact ⟨0,Nat.zero_le _,rfl,⟨by simp,Below.refl _ _⟩⟩
  case round=>
   obtain ⟨k,hk,rfl,HI⟩:=hrel
   by_cases hlt:k<ss.length
   ·have hlt':k<tt.length:=by have:=HLen.out;omega
    obtain ⟨rb,ro,ha,hrb,hrc⟩:=(HR.out wr HI.out.2).1.at hlt
    obtain ⟨qb,qo,hb,hqb,hqc⟩:=(HR.out wr HI.out.2).2.at hlt'
    subst ha hb
    have c0:=hrc k _ (List.getElem?_eq_getElem hlt)
    have d0:=hqc k _ (List.getElem?_eq_getElem hlt')
    have hz:=HI.out.2.size
    have hlr:rb<wr.heap.size:=Nat.lt_of_lt_of_le hrb hz
    have hlq:qb<wr.heap.size:=Nat.lt_of_lt_of_le hqb hz
    have HT1:Hid (ss.take (k+1)=ss.take k++[ss[k]]):=List.take_succ_eq_append_getElem hlt
    have HT2:Hid (tt.take (k+1)=tt.take k++[tt[k]]):=List.take_succ_eq_append_getElem hlt'
    have HN:Hid (∀x y,ss[k]?=some x->tt[k]?=some y->x≠y->ss≠tt):=fun x y h1 h2 hne e=>by
     subst e
     rw [h1] at h2
     exact hne (Option.some.inj h2)
    have HG1:Hid (ss[k]?=some ss[k]):=List.getElem?_eq_getElem hlt
    have HG2:Hid (tt[k]?=some tt[k]):=List.getElem?_eq_getElem hlt'
    have hkt:(k:Int)<tt.length:=by omega
    clear hrc hqc
    generalize ss[k]=x at *
    generalize tt[k]=y at *
    have HB:Hid (Below w.heap.size w wr):=HI.out.2
    by_cases hxy:x=y
    ·subst hxy
     have hxe:(x.toList !=x.toList)=false:=by simp
     go_wp2
     go_region
     all_goals go_wp2
     all_goals exact ⟨⟨k+1,by omega,by go_num,⟨by rw [HT1.out,HT2.out,HI.out.1],HB.out.drew⟩⟩,by simp [intOf];omega⟩
    ·have hxe:(x.toList==y.toList)=false:=beq_ne hxy
     have hxe2:(x.toList !=y.toList)=true:=by simp [bne,hxe]
     go_wp2
     go_region
     all_goals go_wp2
     all_goals go_ret
     all_goals exact Says.no (fun h=>HN.out x y HG1.out HG2.out hxy h) HB.out.drew
   ·obtain rfl:k=ss.length:=by omega
    have hfin:=HI.out.1
    rw [List.take_of_length_le (Nat.le_refl _),List.take_of_length_le (by have:=HLen.out;omega)] at hfin
    go_wp2
    go_ret
    exact Says.yes hfin HI.out.2
 ·have hle:((ss.length:Int)==(tt.length:Int))=false:=by simp;omega
  have hle2:((ss.length:Int) !=(tt.length:Int))=true:=by simp;omega
  go_enter Tryz.func177,Tryz.ntmps177
  go_wp2
  go_ret
  exact Says.no (fun h=>hlen (by rw [h])) (Below.refl _ _)
end Go.Proofs.YtpekbmegopfhfaaGreatDoor
namespace Go.Proofs.YtpekbmegopfhfaaGreatDoor
open Go.ChangeShapes Go.WideShapes Go.ChangeAt Go.RowKit
theorem Kd.eq_iff (x y:Kd):x=y↔x.sum=y.sum/\x.born=y.born/\x.text=y.text/\x.refs=y.refs:=by
 cases x
 cases y
 simp
set_option maxRecDepth 20000 in
set_option maxHeartbeats 2000000 in
theorem sameKept_any (x y:Kd) (a b:Option Addr) (c d:Nat) (w:World) (hr:SRow w w.heap.size a x.refs) (hq:SRow w w.heap.size b y.refs) (hl:x.refs.length<=100000) (hl':y.refs.length<=1048576):
 Calls Tryz.prog 150 #[.agg #[.string x.sum,.int .i64 x.born,.string x.text,.slice a x.refs.length c],.agg #[.string y.sum,.int .i64 y.born,.string y.text,.slice b y.refs.length d]] w fun e w'=>Says (x=y) w w' e:=by
 obtain ⟨W,hW⟩:∃W,W=(w.alloc (.cells #[.string x.sum,.int .i64 x.born,.string x.text,.slice a x.refs.length c] 114)).alloc (.cells #[.string y.sum,.int .i64 y.born,.string y.text,.slice b y.refs.length d] 114):=⟨_,rfl⟩
 have bW:Below w.heap.size w W:=by rw [hW];exact ((Below.refl _ _).alloc (Nat.le_refl _) _).alloc (by simp) _
 have x0:CellsAt W w.heap.size [.string x.sum,.int .i64 x.born,.string x.text,.slice a x.refs.length c]:=by rw [hW];exact CellsAt.below (CellsAt.new w _ 114) ((Below.refl _ _).alloc (Nat.le_refl _) _)
 have x1:CellsAt W (w.heap.size+1) [.string y.sum,.int .i64 y.born,.string y.text,.slice b y.refs.length d]:=by
  have h1:=CellsAt.new (w.alloc (.cells #[.string x.sum,.int .i64 x.born,.string x.text,.slice a x.refs.length c] 114)) [.string y.sum,.int .i64 y.born,.string y.text,.slice b y.refs.length d] 114
  rw [World.size_alloc] at h1
  rw [hW]
  exact h1
 have HQ:Hid _:=equalS_any a b c d x.refs y.refs W (hr.below' bW) (hq.below' bW) hl hl'
 obtain ⟨u0,_⟩:=x0 0 _ rfl
 obtain ⟨u1,_⟩:=x0 1 _ rfl
 obtain ⟨u2,_⟩:=x0 2 _ rfl
 obtain ⟨u3,_⟩:=x0 3 _ rfl
 obtain ⟨v0,_⟩:=x1 0 _ rfl
 obtain ⟨v1,_⟩:=x1 1 _ rfl
 obtain ⟨v2,_⟩:=x1 2 _ rfl
 obtain ⟨v3,_⟩:=x1 3 _ rfl
 have HW:Hid _:=hW
 have HE:Hid _:=Kd.eq_iff x y
 clear hW hr hq x0 x1
 by_cases h1:x.sum=y.sum
 ·have e1:(x.sum.toList==y.sum.toList)=true:=by rw [h1];simp
  have H1:Hid (x.sum=y.sum):=h1
  clear h1
  by_cases h2:x.born=y.born
  ·have e2:(x.born==y.born)=true:=by simp [h2]
   have H2:Hid (x.born=y.born):=h2
   clear h2
   by_cases h3:x.text=y.text
   ·have e3:(x.text.toList==y.text.toList)=true:=by rw [h3];simp
    have H3:Hid (x.text=y.text):=h3
    clear h3
    go_enter Tryz.func150,Tryz.ntmps150
    go_upto_region 1 with fail
    rw [←HW.out]
    clear HW
    go_wp2_with fail
    refine Calls.mono HQ.out ?_
    rintro e w1 ⟨bb,rfl,hbb,hb1⟩
    have hB:Below w.heap.size w w1:=bW.trans (hb1.mono bW.size)
    clear u0 u1 u2 u3 v0 v1 v2 v3
    go_wp2
    go_ret
    exact ⟨bb,rfl,by rw [hbb,HE.out];exact ⟨fun h=>⟨H1.out,H2.out,H3.out,h⟩,fun h=>h.2.2.2⟩,hB⟩
   ·have e3:(x.text.toList==y.text.toList)=false:=beq_ne h3
    go_enter Tryz.func150,Tryz.ntmps150
    go_upto_region 1 with fail
    rw [←HW.out]
    go_wp2_with fail
    all_goals (try go_wp2)
    all_goals (try go_ret)
    all_goals exact Says.no (fun h=>h3 (by rw [h])) bW
  ·have e2:(x.born==y.born)=false:=by simp [h2]
   go_enter Tryz.func150,Tryz.ntmps150
   go_upto_region 1 with fail
   rw [←HW.out]
   go_wp2_with fail
   all_goals (try go_wp2)
   all_goals (try go_ret)
   all_goals exact Says.no (fun h=>h2 (by rw [h])) bW
 ·have e1:(x.sum.toList==y.sum.toList)=false:=beq_ne h1
  go_enter Tryz.func150,Tryz.ntmps150
  go_upto_region 1 with fail
  rw [←HW.out]
  go_wp2_with fail
  all_goals (try go_wp2)
  all_goals (try go_ret)
  all_goals exact Says.no (fun h=>h1 (by rw [h])) bW
end Go.Proofs.YtpekbmegopfhfaaGreatDoor
namespace Go.Proofs.YtpekbmegopfhfaaGreatDoor
open Go.ChangeShapes Go.WideShapes Go.ChangeAt Go.RowKit
set_option maxRecDepth 20000 in
set_option maxHeartbeats 2000000 in
theorem equalKept_any (a b:Option Addr) (c d:Nat) (ks ls:List Kd) (w:World) (hr:KRow w w.heap.size a ks) (hq:KRow w w.heap.size b ls) (hl:ks.length<=100000) (hl':ls.length<=1048576) (h1:∀k∈ks,k.refs.length<=100000) (h2:∀k∈ls,k.refs.length<=1048576):
 Calls Tryz.prog 149 #[.slice a ks.length c,.slice b ls.length d,.func (.func 150) #[] #[]] w fun e w'=>Says (ks=ls) w w' e:=by
 have HR:Hid (∀X,Below w.heap.size w X->KRow X w.heap.size a ks/\KRow X w.heap.size b ls):=fun X hX=>⟨hr.below hX,hq.below hX⟩
 clear hr hq
 by_cases hlen:ks.length=ls.length
 ·have hle:((ks.length:Int) !=(ls.length:Int))=false:=by simp;omega
  have HLen:Hid (ks.length=ls.length):=hlen
  clear hlen
  go_enter Tryz.func149,Tryz.ntmps149
  go_wp2
  go_loopw [17] (fun i wr=>∃k:Nat,k<=ks.length/\i=.int .i64 k/\Hid (ks.take k=ls.take k/\Below w.heap.size w wr)) (fun i _=>ks.length -(intOf i).toNat)
  case atStart=>exact ⟨0,Nat.zero_le _,rfl,⟨by simp,Below.refl _ _⟩⟩
  case round=>
   obtain ⟨k,hk,rfl,HI⟩:=hrel
   by_cases hlt:k<ks.length
   ·have hlt':k<ls.length:=by have:=HLen.out;omega
    obtain ⟨rb,ro,ha,hrb,hrc⟩:=(HR.out wr HI.out.2).1.at hlt
    obtain ⟨qb,qo,hb,hqb,hqc⟩:=(HR.out wr HI.out.2).2.at hlt'
    subst ha hb
    obtain ⟨c0,c1,c2,ra,rc,c3,hra⟩:=hrc k _ (List.getElem?_eq_getElem hlt)
    obtain ⟨d0,d1,d2,rb',rc',d3,hrb'⟩:=hqc k _ (List.getElem?_eq_getElem hlt')
    have hz:=HI.out.2.size
    have hlr:rb<wr.heap.size:=Nat.lt_of_lt_of_le hrb hz
    have hlq:qb<wr.heap.size:=Nat.lt_of_lt_of_le hqb hz
    have HT1:Hid (ks.take (k+1)=ks.take k++[ks[k]]):=List.take_succ_eq_append_getElem hlt
    have HT2:Hid (ls.take (k+1)=ls.take k++[ls[k]]):=List.take_succ_eq_append_getElem hlt'
    have HN:Hid (∀x y,ks[k]?=some x->ls[k]?=some y->x≠y->ks≠ls):=fun x y h1 h2 hne e=>by
     subst e
     rw [h1] at h2
     exact hne (Option.some.inj h2)
    have HG1:Hid (ks[k]?=some ks[k]):=List.getElem?_eq_getElem hlt
    have HG2:Hid (ls[k]?=some ls[k]):=List.getElem?_eq_getElem hlt'
    have hx1:=h1 _ (List.getElem_mem hlt)
    have hx2:=h2 _ (List.getElem_mem hlt')
    have hkt:(k:Int)<ls.length:=by omega
    clear hrc hqc
    generalize ks[k]=x at *
    generalize ls[k]=y at *
    obtain ⟨U,hU⟩:∃U,U=(wr.alloc (.cells #[.string x.sum,.int .i64 x.born,.string x.text,.slice ra x.refs.length rc] 114)).alloc (.cells #[.string y.sum,.int .i64 y.born,.string y.text,.slice rb' y.refs.length rc'] 114):=⟨_,rfl⟩
    have bU:Below wr.heap.size wr U:=by rw [hU];exact ((Below.refl _ _).alloc (Nat.le_refl _) _).alloc (by simp) _
    have HB:Hid (Below w.heap.size w U):=HI.out.2.trans (bU.mono hz)
    have xU:CellsAt U wr.heap.size [.string x.sum,.int .i64 x.born,.string x.text,.slice ra x.refs.length rc]:=by rw [hU];exact CellsAt.below (CellsAt.new wr _ 114) ((Below.refl _ _).alloc (Nat.le_refl _) _)
    have yU:CellsAt U (wr.heap.size+1) [.string y.sum,.int .i64 y.born,.string y.text,.slice rb' y.refs.length rc']:=by
     have h1:=CellsAt.new (wr.alloc (.cells #[.string x.sum,.int .i64 x.born,.string x.text,.slice ra x.refs.length rc] 114)) [.string y.sum,.int .i64 y.born,.string y.text,.slice rb' y.refs.length rc'] 114
     rw [World.size_alloc] at h1
     rw [hU]
     exact h1
    have HS:Hid _:=sameKept_any x y ra rb' rc rc' U (SRow.below' (SRow.mono hra hz) bU) (SRow.below' (SRow.mono hrb' hz) bU) hx1 hx2
    obtain ⟨m0,_⟩:=xU 0 _ rfl
    obtain ⟨m1,_⟩:=xU 1 _ rfl
    obtain ⟨m2,_⟩:=xU 2 _ rfl
    obtain ⟨m3,_⟩:=xU 3 _ rfl
    obtain ⟨n0,_⟩:=yU 0 _ rfl
    obtain ⟨n1,_⟩:=yU 1 _ rfl
    obtain ⟨n2,_⟩:=yU 2 _ rfl
    obtain ⟨n3,_⟩:=yU 3 _ rfl
    have HU:Hid _:=hU
    clear hU xU yU hra hrb' bU
    go_upto_region 7 with fail
    rw [←HU.out]
    clear HU c0 c1 c2 c3 d0 d1 d2 d3
    go_wp2_with fail
    refine Calls.mono HS.out ?_
    rintro e w1 ⟨bb,rfl,hbb,hb1⟩
    have HB1:Hid (Below w.heap.size w w1):=HB.out.trans (hb1.mono HB.out.size)
    clear m0 m1 m2 m3 n0 n1 n2 n3 HS hb1
    cases bb with
    |true=>
     have hxy:x=y:=hbb.1 rfl
     go_wp2
     exact ⟨⟨k+1,by omega,by go_num,⟨by rw [HT1.out,HT2.out,HI.out.1,hxy],HB1.out⟩⟩,by simp [intOf];omega⟩
    |false=>
     have hxy:x≠y:=fun e=>by have:=hbb.2 e;cases this
     go_wp2
     go_ret
     exact Says.no (fun h=>HN.out x y HG1.out HG2.out hxy h) HB1.out
   ·obtain rfl:k=ks.length:=by omega
    have hfin:=HI.out.1
    rw [List.take_of_length_le (Nat.le_refl _),List.take_of_length_le (by have:=HLen.out;omega)] at hfin
    go_wp2
    go_ret
    exact Says.yes hfin HI.out.2
 ·have hle:((ks.length:Int)==(ls.length:Int))=false:=by simp;omega
  have hle2:((ks.length:Int) !=(ls.length:Int))=true:=by simp;omega
  go_enter Tryz.func149,Tryz.ntmps149
  go_wp2
  go_ret
  exact Says.no (fun h=>hlen (by rw [h])) (Below.refl _ _)
end Go.Proofs.YtpekbmegopfhfaaGreatDoor
namespace Go.Proofs.YtpekbmegopfhfaaGreatDoor
open Go.ChangeShapes Go.WideShapes Go.ChangeAt Go.RowKit
set_option maxRecDepth 20000 in
set_option maxHeartbeats 2000000 in
theorem equalP_any (a b:Option Addr) (c d:Nat) (ss tt:List Pd) (w:World) (hr:PRow w w.heap.size a ss) (hq:PRow w w.heap.size b tt) (hl:ss.length<=100000) (hl':tt.length<=1048576):
 Calls Tryz.prog 151 #[.slice a ss.length c,.slice b tt.length d] w fun e w'=>Says (ss=tt) w w' e:=by
 have HR:Hid (∀X,Below w.heap.size w X->PRow X w.heap.size a ss/\PRow X w.heap.size b tt):=fun X hX=>⟨hr.below hX,hq.below hX⟩
 clear hr hq
 by_cases hlen:ss.length=tt.length
 ·have hle:((ss.length:Int) !=(tt.length:Int))=false:=by simp;omega
  have HLen:Hid (ss.length=tt.length):=hlen
  clear hlen
  go_enter Tryz.func151,Tryz.ntmps151
  go_wp2
  go_loopw [13] (fun i wr=>∃k:Nat,k<=ss.length/\i=.int .i64 k/\Hid (ss.take k=tt.take k/\Below w.heap.size w wr)) (fun i _=>ss.length -(intOf i).toNat)
  case atStart=>exact ⟨0,Nat.zero_le _,rfl,⟨by simp,Below.refl _ _⟩⟩
  case round=>
   obtain ⟨k,hk,rfl,HI⟩:=hrel
   by_cases hlt:k<ss.length
   ·have hlt':k<tt.length:=by have:=HLen.out;omega
    obtain ⟨rb,ro,ha,hrb,hrc⟩:=(HR.out wr HI.out.2).1.at hlt
    obtain ⟨qb,qo,hb,hqb,hqc⟩:=(HR.out wr HI.out.2).2.at hlt'
    subst ha hb
    obtain ⟨c0,c1⟩:=hrc k _ (List.getElem?_eq_getElem hlt)
    obtain ⟨d0,d1⟩:=hqc k _ (List.getElem?_eq_getElem hlt')
    have hz:=HI.out.2.size
    have hlr:rb<wr.heap.size:=Nat.lt_of_lt_of_le hrb hz
    have hlq:qb<wr.heap.size:=Nat.lt_of_lt_of_le hqb hz
    have HT1:Hid (ss.take (k+1)=ss.take k++[ss[k]]):=List.take_succ_eq_append_getElem hlt
    have HT2:Hid (tt.take (k+1)=tt.take k++[tt[k]]):=List.take_succ_eq_append_getElem hlt'
    have HN:Hid (∀x y,ss[k]?=some x->tt[k]?=some y->x≠y->ss≠tt):=fun x y h1 h2 hne e=>by
     subst e
     rw [h1] at h2
     exact hne (Option.some.inj h2)
    have HG1:Hid (ss[k]?=some ss[k]):=List.getElem?_eq_getElem hlt
    have HG2:Hid (tt[k]?=some tt[k]):=List.getElem?_eq_getElem hlt'
    have hkt:(k:Int)<tt.length:=by omega
    clear hrc hqc
    generalize ss[k]=x at *
    generalize tt[k]=y at *
    have HB:Hid (Below w.heap.size w wr):=HI.out.2
    by_cases hxy:x=y
    ·subst hxy
     go_wp2
     go_region
     all_goals go_wp2
     all_goals exact ⟨⟨k+1,by omega,by go_num,⟨by rw [HT1.out,HT2.out,HI.out.1],HB.out.drew⟩⟩,by simp [intOf];omega⟩
    ·by_cases hn:x.name=y.name
     ·have hs:¬x.sum.toList=y.sum.toList:=fun e=>hxy (by
       have e2:=toL_inj e
       cases x
       cases y
       simp_all)
      have hn':x.name.toList=y.name.toList:=by rw [hn]
      have HX:Hid (x≠y):=hxy
      clear hn hxy
      go_wp2
      go_region
      all_goals go_wp2
      all_goals go_ret
      all_goals exact Says.no (fun h=>HN.out x y HG1.out HG2.out HX.out h) HB.out.drew
     ·have hn':¬x.name.toList=y.name.toList:=fun e=>hn (toL_inj e)
      have HX:Hid (x≠y):=hxy
      clear hn hxy
      go_wp2
      go_region
      all_goals go_wp2
      all_goals go_ret
      all_goals exact Says.no (fun h=>HN.out x y HG1.out HG2.out HX.out h) HB.out.drew
   ·obtain rfl:k=ss.length:=by omega
    have hfin:=HI.out.1
    rw [List.take_of_length_le (Nat.le_refl _),List.take_of_length_le (by have:=HLen.out;omega)] at hfin
    go_wp2
    go_ret
    exact Says.yes hfin HI.out.2
 ·have hle:((ss.length:Int)==(tt.length:Int))=false:=by simp;omega
  have hle2:((ss.length:Int) !=(tt.length:Int))=true:=by simp;omega
  go_enter Tryz.func151,Tryz.ntmps151
  go_wp2
  go_ret
  exact Says.no (fun h=>hlen (by rw [h])) (Below.refl _ _)
end Go.Proofs.YtpekbmegopfhfaaGreatDoor
namespace Go.Proofs.YtpekbmegopfhfaaGreatDoor
open Go.ChangeShapes Go.WideShapes Go.ChangeAt Go.RowKit
set_option maxRecDepth 20000 in
set_option maxHeartbeats 2000000 in
theorem equalL_any (a b:Option Addr) (c d:Nat) (ss tt:List Ld) (w:World) (hr:LRow w w.heap.size a ss) (hq:LRow w w.heap.size b tt) (hl:ss.length<=100000) (hl':tt.length<=1048576):
 Calls Tryz.prog 152 #[.slice a ss.length c,.slice b tt.length d] w fun e w'=>Says (ss=tt) w w' e:=by
 have HR:Hid (∀X,Below w.heap.size w X->LRow X w.heap.size a ss/\LRow X w.heap.size b tt):=fun X hX=>⟨hr.below hX,hq.below hX⟩
 clear hr hq
 by_cases hlen:ss.length=tt.length
 ·have hle:((ss.length:Int) !=(tt.length:Int))=false:=by simp;omega
  have HLen:Hid (ss.length=tt.length):=hlen
  clear hlen
  go_enter Tryz.func152,Tryz.ntmps152
  go_wp2
  go_loopw [13] (fun i wr=>∃k:Nat,k<=ss.length/\i=.int .i64 k/\Hid (ss.take k=tt.take k/\Below w.heap.size w wr)) (fun i _=>ss.length -(intOf i).toNat)
  case atStart=>exact ⟨0,Nat.zero_le _,rfl,⟨by simp,Below.refl _ _⟩⟩
  case round=>
   obtain ⟨k,hk,rfl,HI⟩:=hrel
   by_cases hlt:k<ss.length
   ·have hlt':k<tt.length:=by have:=HLen.out;omega
    obtain ⟨rb,ro,ha,hrb,hrc⟩:=(HR.out wr HI.out.2).1.at hlt
    obtain ⟨qb,qo,hb,hqb,hqc⟩:=(HR.out wr HI.out.2).2.at hlt'
    subst ha hb
    obtain ⟨c0,c1,c2⟩:=hrc k _ (List.getElem?_eq_getElem hlt)
    obtain ⟨d0,d1,d2⟩:=hqc k _ (List.getElem?_eq_getElem hlt')
    have hz:=HI.out.2.size
    have hlr:rb<wr.heap.size:=Nat.lt_of_lt_of_le hrb hz
    have hlq:qb<wr.heap.size:=Nat.lt_of_lt_of_le hqb hz
    have HT1:Hid (ss.take (k+1)=ss.take k++[ss[k]]):=List.take_succ_eq_append_getElem hlt
    have HT2:Hid (tt.take (k+1)=tt.take k++[tt[k]]):=List.take_succ_eq_append_getElem hlt'
    have HN:Hid (∀x y,ss[k]?=some x->tt[k]?=some y->x≠y->ss≠tt):=fun x y h1 h2 hne e=>by
     subst e
     rw [h1] at h2
     exact hne (Option.some.inj h2)
    have HG1:Hid (ss[k]?=some ss[k]):=List.getElem?_eq_getElem hlt
    have HG2:Hid (tt[k]?=some tt[k]):=List.getElem?_eq_getElem hlt'
    have hkt:(k:Int)<tt.length:=by omega
    clear hrc hqc
    generalize ss[k]=x at *
    generalize tt[k]=y at *
    have HB:Hid (Below w.heap.size w wr):=HI.out.2
    by_cases hxy:x=y
    ·subst hxy
     go_wp2
     go_region
     all_goals go_wp2
     all_goals exact ⟨⟨k+1,by omega,by go_num,⟨by rw [HT1.out,HT2.out,HI.out.1],HB.out.drew⟩⟩,by simp [intOf];omega⟩
    ·have HX:Hid (x≠y):=hxy
     by_cases hn:x.num=y.num
     ·by_cases hs:x.sum=y.sum
      ·have ht:¬x.til=y.til:=fun e=>hxy (by
        cases x
        cases y
        simp_all)
       have hs':x.sum.toList=y.sum.toList:=by rw [hs]
       clear hs hxy
       go_wp2
       go_region
       all_goals go_wp2
       all_goals go_ret
       all_goals exact Says.no (fun h=>HN.out x y HG1.out HG2.out HX.out h) HB.out.drew
      ·have hs':¬x.sum.toList=y.sum.toList:=fun e=>hs (toL_inj e)
       clear hs hxy
       go_wp2
       go_region
       all_goals go_wp2
       all_goals go_ret
       all_goals exact Says.no (fun h=>HN.out x y HG1.out HG2.out HX.out h) HB.out.drew
     ·clear hxy
      go_wp2
      go_region
      all_goals go_wp2
      all_goals go_ret
      all_goals exact Says.no (fun h=>HN.out x y HG1.out HG2.out HX.out h) HB.out.drew
   ·obtain rfl:k=ss.length:=by omega
    have hfin:=HI.out.1
    rw [List.take_of_length_le (Nat.le_refl _),List.take_of_length_le (by have:=HLen.out;omega)] at hfin
    go_wp2
    go_ret
    exact Says.yes hfin HI.out.2
 ·have hle:((ss.length:Int)==(tt.length:Int))=false:=by simp;omega
  have hle2:((ss.length:Int) !=(tt.length:Int))=true:=by simp;omega
  go_enter Tryz.func152,Tryz.ntmps152
  go_wp2
  go_ret
  exact Says.no (fun h=>hlen (by rw [h])) (Below.refl _ _)
end Go.Proofs.YtpekbmegopfhfaaGreatDoor
namespace Go.Proofs.YtpekbmegopfhfaaGreatDoor
open Go.ChangeShapes Go.WideShapes Go.ChangeAt Go.RowKit
set_option maxRecDepth 20000 in
set_option maxHeartbeats 4000000 in
theorem sameState_any (wd now given births wd' now' given' births':Int) (a p l a' p' l':Option Addr) (ac pc lc ac' pc' lc':Nat) (ks ks':List Kd) (ps ps':List Pd) (ls ls':List Ld) (w:World) (hr:SRows w w.heap.size a p l ks ps ls) (hq:SRows w w.heap.size a' p' l' ks' ps' ls') (hl:ks.length<=100000/\ps.length<=100000/\ls.length<=100000) (hl':ks'.length<=1048576/\ps'.length<=1048576/\ls'.length<=1048576) (h1:∀k∈ks,k.refs.length<=100000) (h2:∀k∈ks',k.refs.length<=1048576):
 Calls Tryz.prog 119 #[.agg #[.int .i64 wd,.int .i64 now,.int .i64 given,.int .i64 births,.slice a ks.length ac,.slice p ps.length pc,.slice l ls.length lc],.agg #[.int .i64 wd',.int .i64 now',.int .i64 given',.int .i64 births',.slice a' ks'.length ac',.slice p' ps'.length pc',.slice l' ls'.length lc']] w fun e w'=>Says ((wd=wd'/\now=now'/\given=given'/\births=births')/\ks=ks'/\ps=ps'/\ls=ls') w w' e:=by
 obtain ⟨W,hW⟩:∃W,W=(w.alloc (.cells #[.int .i64 wd,.int .i64 now,.int .i64 given,.int .i64 births,.slice a ks.length ac,.slice p ps.length pc,.slice l ls.length lc] 28)).alloc (.cells #[.int .i64 wd',.int .i64 now',.int .i64 given',.int .i64 births',.slice a' ks'.length ac',.slice p' ps'.length pc',.slice l' ls'.length lc'] 28):=⟨_,rfl⟩
 have bW:Below w.heap.size w W:=by rw [hW];exact ((Below.refl _ _).alloc (Nat.le_refl _) _).alloc (by simp) _
 have x0:CellsAt W w.heap.size [.int .i64 wd,.int .i64 now,.int .i64 given,.int .i64 births,.slice a ks.length ac,.slice p ps.length pc,.slice l ls.length lc]:=by rw [hW];exact CellsAt.below (CellsAt.new w _ 28) ((Below.refl _ _).alloc (Nat.le_refl _) _)
 have x1:CellsAt W (w.heap.size+1) [.int .i64 wd',.int .i64 now',.int .i64 given',.int .i64 births',.slice a' ks'.length ac',.slice p' ps'.length pc',.slice l' ls'.length lc']:=by
  have h1:=CellsAt.new (w.alloc (.cells #[.int .i64 wd,.int .i64 now,.int .i64 given,.int .i64 births,.slice a ks.length ac,.slice p ps.length pc,.slice l ls.length lc] 28)) [.int .i64 wd',.int .i64 now',.int .i64 given',.int .i64 births',.slice a' ks'.length ac',.slice p' ps'.length pc',.slice l' ls'.length lc'] 28
  rw [World.size_alloc] at h1
  rw [hW]
  exact h1
 have HX:Hid (∀X,Below W.heap.size W X->CellsAt X w.heap.size [.int .i64 wd,.int .i64 now,.int .i64 given,.int .i64 births,.slice a ks.length ac,.slice p ps.length pc,.slice l ls.length lc]/\CellsAt X (w.heap.size+1) [.int .i64 wd',.int .i64 now',.int .i64 given',.int .i64 births',.slice a' ks'.length ac',.slice p' ps'.length pc',.slice l' ls'.length lc']/\Below w.heap.size w X):=fun X hX=>⟨CellsAt.below x0 hX,CellsAt.below x1 hX,bW.trans (hX.mono bW.size)⟩
 have HK:Hid _:=equalKept_any a a' ac ac' ks ks' W (hr.below' bW).k (hq.below' bW).k hl.1 hl'.1 h1 h2
 have HP:Hid (∀X,Below W.heap.size W X->Calls Tryz.prog 151 #[.slice p ps.length pc,.slice p' ps'.length pc'] X fun e w'=>Says (ps=ps') X w' e):=fun X hX=>equalP_any p p' pc pc' ps ps' X (hr.below' (bW.trans (hX.mono bW.size))).p (hq.below' (bW.trans (hX.mono bW.size))).p hl.2.1 hl'.2.1
 have HL:Hid (∀X,Below W.heap.size W X->Calls Tryz.prog 152 #[.slice l ls.length lc,.slice l' ls'.length lc'] X fun e w'=>Says (ls=ls') X w' e):=fun X hX=>equalL_any l l' lc lc' ls ls' X (hr.below' (bW.trans (hX.mono bW.size))).l (hq.below' (bW.trans (hX.mono bW.size))).l hl.2.2 hl'.2.2
 obtain ⟨u0,_⟩:=x0 0 _ rfl
 obtain ⟨v0,_⟩:=x1 0 _ rfl
 obtain ⟨u1,_⟩:=x0 1 _ rfl
 obtain ⟨v1,_⟩:=x1 1 _ rfl
 obtain ⟨u2,_⟩:=x0 2 _ rfl
 obtain ⟨v2,_⟩:=x1 2 _ rfl
 obtain ⟨u3,_⟩:=x0 3 _ rfl
 obtain ⟨v3,_⟩:=x1 3 _ rfl
 obtain ⟨u4,_⟩:=x0 4 _ rfl
 obtain ⟨v4,_⟩:=x1 4 _ rfl
 obtain ⟨u5,_⟩:=x0 5 _ rfl
 obtain ⟨v5,_⟩:=x1 5 _ rfl
 obtain ⟨u6,_⟩:=x0 6 _ rfl
 obtain ⟨v6,_⟩:=x1 6 _ rfl
 have HW:Hid _:=hW
 clear hW hr hq x0 x1
 by_cases e1:wd=wd'
 ·have b1:(wd==wd')=true:=by simp [e1]
  have E1:Hid (wd=wd'):=e1
  clear e1
  by_cases e2:now=now'
  ·have b2:(now==now')=true:=by simp [e2]
   have E2:Hid (now=now'):=e2
   clear e2
   by_cases e3:given=given'
   ·have b3:(given==given')=true:=by simp [e3]
    have E3:Hid (given=given'):=e3
    clear e3
    by_cases e4:births=births'
    ·have b4:(births==births')=true:=by simp [e4]
     have E4:Hid (births=births'):=e4
     clear e4
     go_enter Tryz.func119,Tryz.ntmps119
     go_upto_region 1 with fail
     rw [←HW.out]
     clear HW
     go_wp2_with fail
     refine Calls.mono HK.out ?_
     rintro e w1 ⟨bb,rfl,hbb,hb1⟩
     obtain ⟨x0,x1,hB1⟩:=HX.out w1 hb1
     have HB1:Hid (Below W.heap.size W w1):=hb1
     clear u0 v0 u1 v1 u2 v2 u3 v3 u4 v4 u5 v5 u6 v6
     obtain ⟨u0,_⟩:=x0 0 _ rfl
     obtain ⟨v0,_⟩:=x1 0 _ rfl
     obtain ⟨u1,_⟩:=x0 1 _ rfl
     obtain ⟨v1,_⟩:=x1 1 _ rfl
     obtain ⟨u2,_⟩:=x0 2 _ rfl
     obtain ⟨v2,_⟩:=x1 2 _ rfl
     obtain ⟨u3,_⟩:=x0 3 _ rfl
     obtain ⟨v3,_⟩:=x1 3 _ rfl
     obtain ⟨u4,_⟩:=x0 4 _ rfl
     obtain ⟨v4,_⟩:=x1 4 _ rfl
     obtain ⟨u5,_⟩:=x0 5 _ rfl
     obtain ⟨v5,_⟩:=x1 5 _ rfl
     obtain ⟨u6,_⟩:=x0 6 _ rfl
     obtain ⟨v6,_⟩:=x1 6 _ rfl
     clear x0 x1
     cases bb with
     |false=>
      have hne:ks≠ks':=fun e=>by have:=hbb.2 e;cases this
      go_wp2_with fail
      all_goals (try go_wp2)
      all_goals (try go_ret)
      all_goals exact Says.no (fun h=>hne h.2.1) hB1
     |true=>
      have HKs:Hid (ks=ks'):=hbb.1 rfl
      clear hbb
      go_wp2_with fail
      refine Calls.mono (HP.out w1 HB1.out) ?_
      rintro e w2 ⟨bb,rfl,hbb,hb2⟩
      have HB2:Hid (Below W.heap.size W w2):=HB1.out.trans (hb2.mono HB1.out.size)
      obtain ⟨x0,x1,hB2⟩:=HX.out w2 HB2.out
      clear u0 v0 u1 v1 u2 v2 u3 v3 u4 v4 u5 v5 u6 v6
      obtain ⟨u0,_⟩:=x0 0 _ rfl
      obtain ⟨v0,_⟩:=x1 0 _ rfl
      obtain ⟨u1,_⟩:=x0 1 _ rfl
      obtain ⟨v1,_⟩:=x1 1 _ rfl
      obtain ⟨u2,_⟩:=x0 2 _ rfl
      obtain ⟨v2,_⟩:=x1 2 _ rfl
      obtain ⟨u3,_⟩:=x0 3 _ rfl
      obtain ⟨v3,_⟩:=x1 3 _ rfl
      obtain ⟨u4,_⟩:=x0 4 _ rfl
      obtain ⟨v4,_⟩:=x1 4 _ rfl
      obtain ⟨u5,_⟩:=x0 5 _ rfl
      obtain ⟨v5,_⟩:=x1 5 _ rfl
      obtain ⟨u6,_⟩:=x0 6 _ rfl
      obtain ⟨v6,_⟩:=x1 6 _ rfl
      clear x0 x1
      cases bb with
      |false=>
       have hne:ps≠ps':=fun e=>by have:=hbb.2 e;cases this
       go_wp2_with fail
       all_goals (try go_wp2)
       all_goals (try go_ret)
       all_goals exact Says.no (fun h=>hne h.2.2.1) hB2
      |true=>
       have HPs:Hid (ps=ps'):=hbb.1 rfl
       clear hbb
       go_wp2_with fail
       refine Calls.mono (HL.out w2 HB2.out) ?_
       rintro e w3 ⟨bb,rfl,hbb,hb3⟩
       have hB3:Below w.heap.size w w3:=hB2.trans (hb3.mono hB2.size)
       clear u0 v0 u1 v1 u2 v2 u3 v3 u4 v4 u5 v5 u6 v6
       go_wp2
       go_ret
       exact ⟨bb,rfl,⟨fun h=>⟨⟨E1.out,E2.out,E3.out,E4.out⟩,HKs.out,HPs.out,hbb.1 h⟩,fun h=>hbb.2 h.2.2.2⟩,hB3⟩
    ·have b4:(births==births')=false:=by simp [e4]
     go_enter Tryz.func119,Tryz.ntmps119
     go_upto_region 1 with fail
     rw [←HW.out]
     clear HW
     go_wp2_with fail
     all_goals (try go_wp2)
     all_goals (try go_ret)
     all_goals exact Says.no (by first|exact id|exact fun h=>e4 h.1.2.2.2) bW
   ·have b3:(given==given')=false:=by simp [e3]
    go_enter Tryz.func119,Tryz.ntmps119
    go_upto_region 1 with fail
    rw [←HW.out]
    clear HW
    go_wp2_with fail
    all_goals (try go_wp2)
    all_goals (try go_ret)
    all_goals exact Says.no (by first|exact id|exact fun h=>e3 h.1.2.2.1) bW
  ·have b2:(now==now')=false:=by simp [e2]
   go_enter Tryz.func119,Tryz.ntmps119
   go_upto_region 1 with fail
   rw [←HW.out]
   clear HW
   go_wp2_with fail
   all_goals (try go_wp2)
   all_goals (try go_ret)
   all_goals exact Says.no (by first|exact id|exact fun h=>e2 h.1.2.1) bW
 ·have b1:(wd==wd')=false:=by simp [e1]
  go_enter Tryz.func119,Tryz.ntmps119
  go_upto_region 1 with fail
  rw [←HW.out]
  clear HW
  go_wp2_with fail
  all_goals (try go_wp2)
  all_goals (try go_ret)
  all_goals exact Says.no (by first|exact id|exact fun h=>e1 h.1.1) bW
end Go.Proofs.YtpekbmegopfhfaaGreatDoor
