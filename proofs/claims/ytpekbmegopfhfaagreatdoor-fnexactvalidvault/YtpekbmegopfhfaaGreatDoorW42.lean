import Derived.Test.YtpekbmegopfhfaaGreatDoorW38
import Derived.Test.YtpekbmegopfhfaaGreatDoorW41
import Derived.Test.YtpekbmegopfhfaaGreatDoorW39
import Derived.Deep.RegionWith
import Derived.Deep.DeepCutAuto
import Derived.Deep.MidRow
import Derived.Deep.RegionHeld3
namespace Go.Proofs.YtpekbmegopfhfaaGreatDoor
namespace ExactValidVault
open Go.ChangeShapes Go.WideShapes Go.ChangeAt Go.RowKit
set_option maxRecDepth 20000 in
set_option maxHeartbeats 8000000 in
theorem walk (v:Vd) (a:Va) (w:World) (hE:Env w) (hr:VRows w w.heap.size a v) (hm:VMem v):
 Calls Tryz.prog 5 #[.agg #[.int .i64 v.wd,.int .i64 v.lim,.slice a.sa v.ss.length a.sc,.slice a.ta v.tt.length a.tc,.int .i64 v.sw,.int .i64 v.now,.int .i64 v.given,.int .i64 v.births,.slice a.ka v.ks.length a.kc,.slice a.pa v.ps.length a.pc,.slice a.la v.ls.length a.lc,.int .i64 v.ph,.slice a.qa v.qs.length a.qc,.slice a.ma v.ms.length a.mc,.int .i64 v.top,.int .i64 v.at_,.int .i64 v.ro]] w fun e w'=>e=.returned (.bool true)/\Below w.heap.size w w':=by
 obtain ⟨W,hW⟩:∃W,W=w.alloc (.cells #[.int .i64 v.wd,.int .i64 v.lim,.slice a.sa v.ss.length a.sc,.slice a.ta v.tt.length a.tc,.int .i64 v.sw,.int .i64 v.now,.int .i64 v.given,.int .i64 v.births,.slice a.ka v.ks.length a.kc,.slice a.pa v.ps.length a.pc,.slice a.la v.ls.length a.lc,.int .i64 v.ph,.slice a.qa v.qs.length a.qc,.slice a.ma v.ms.length a.mc,.int .i64 v.top,.int .i64 v.at_,.int .i64 v.ro] 60):=⟨_,rfl⟩
 have bW:Below w.heap.size w W:=by rw [hW];exact (Below.refl _ _).alloc (Nat.le_refl _) _
 have zW:W.heap.size=w.heap.size+1:=by rw [hW];simp
 have xW:CellsAt W w.heap.size [.int .i64 v.wd,.int .i64 v.lim,.slice a.sa v.ss.length a.sc,.slice a.ta v.tt.length a.tc,.int .i64 v.sw,.int .i64 v.now,.int .i64 v.given,.int .i64 v.births,.slice a.ka v.ks.length a.kc,.slice a.pa v.ps.length a.pc,.slice a.la v.ls.length a.lc,.int .i64 v.ph,.slice a.qa v.qs.length a.qc,.slice a.ma v.ms.length a.mc,.int .i64 v.top,.int .i64 v.at_,.int .i64 v.ro]:=by rw [hW];exact CellsAt.new w [.int .i64 v.wd,.int .i64 v.lim,.slice a.sa v.ss.length a.sc,.slice a.ta v.tt.length a.tc,.int .i64 v.sw,.int .i64 v.now,.int .i64 v.given,.int .i64 v.births,.slice a.ka v.ks.length a.kc,.slice a.pa v.ps.length a.pc,.slice a.la v.ls.length a.lc,.int .i64 v.ph,.slice a.qa v.qs.length a.qc,.slice a.ma v.ms.length a.mc,.int .i64 v.top,.int .i64 v.at_,.int .i64 v.ro] 60
 have HX:Hid (∀X,Below W.heap.size W X->X.rangeAt w.heap.size 0 [.int .i64 v.wd,.int .i64 v.lim,.slice a.sa v.ss.length a.sc,.slice a.ta v.tt.length a.tc,.int .i64 v.sw,.int .i64 v.now,.int .i64 v.given,.int .i64 v.births,.slice a.ka v.ks.length a.kc,.slice a.pa v.ps.length a.pc,.slice a.la v.ls.length a.lc,.int .i64 v.ph,.slice a.qa v.qs.length a.qc,.slice a.ma v.ms.length a.mc,.int .i64 v.top,.int .i64 v.at_,.int .i64 v.ro]/\Below w.heap.size w X):=fun X hX=>⟨(CellsAt.below xW hX).range,bW.trans (hX.mono bW.size)⟩
 have HW:Hid _:=hW
 have HZ:Hid _:=szVault_any v a W (hr.below' bW) hm
 have HT:Hid (VFit v->∀X,Below W.heap.size W X->Calls Tryz.prog 29 #[.agg #[.int .i64 v.wd,.int .i64 v.lim,.slice a.sa v.ss.length a.sc,.slice a.ta v.tt.length a.tc,.int .i64 v.sw,.int .i64 v.now,.int .i64 v.given,.int .i64 v.births,.slice a.ka v.ks.length a.kc,.slice a.pa v.ps.length a.pc,.slice a.la v.ls.length a.lc,.int .i64 v.ph,.slice a.qa v.qs.length a.qc,.slice a.ma v.ms.length a.mc,.int .i64 v.top,.int .i64 v.at_,.int .i64 v.ro]] X fun e w'=>∃b:Va,e=.returned (.agg #[.int .i64 v.wd,.int .i64 v.lim,.slice b.sa v.ss.length b.sc,.slice b.ta v.tt.length b.tc,.int .i64 v.sw,.int .i64 v.now,.int .i64 v.given,.int .i64 v.births,.slice b.ka v.ks.length b.kc,.slice b.pa v.ps.length b.pc,.slice b.la v.ls.length b.lc,.int .i64 v.ph,.slice b.qa v.qs.length b.qc,.slice b.ma v.ms.length b.mc,.int .i64 v.top,.int .i64 v.at_,.int .i64 v.ro])/\VRows w' w'.heap.size b v/\VCap b v/\Below X.heap.size X w'):=fun hf X hX=>toVault_any v a X (hr.below' (bW.trans (hX.mono bW.size))) hf
 have HS:Hid (VFit v->∀(X:World) (b:Va),VRows X X.heap.size b v->VCap b v->Calls Tryz.prog 28 #[.agg #[.int .i64 v.wd,.int .i64 v.lim,.slice b.sa v.ss.length b.sc,.slice b.ta v.tt.length b.tc,.int .i64 v.sw,.int .i64 v.now,.int .i64 v.given,.int .i64 v.births,.slice b.ka v.ks.length b.kc,.slice b.pa v.ps.length b.pc,.slice b.la v.ls.length b.lc,.int .i64 v.ph,.slice b.qa v.qs.length b.qc,.slice b.ma v.ms.length b.mc,.int .i64 v.top,.int .i64 v.at_,.int .i64 v.ro]] X fun e w'=>Says (VOk v) X w' e):=fun hf X b h1 h2=>sValidVault_any v b X h1 h2 hf
 have HI:Hid (VFit v->∀(X:World) (b:Va),Below w.heap.size w X->VRows X X.heap.size b v->Calls Tryz.prog 30 #[.agg #[.int .i64 v.wd,.int .i64 v.lim,.slice b.sa v.ss.length b.sc,.slice b.ta v.tt.length b.tc,.int .i64 v.sw,.int .i64 v.now,.int .i64 v.given,.int .i64 v.births,.slice b.ka v.ks.length b.kc,.slice b.pa v.ps.length b.pc,.slice b.la v.ls.length b.lc,.int .i64 v.ph,.slice b.qa v.qs.length b.qc,.slice b.ma v.ms.length b.mc,.int .i64 v.top,.int .i64 v.at_,.int .i64 v.ro]] X fun e w'=>Says (VOk v) X w' e):=fun hf X b h0 h1=>iValidVault_any v b X h1 hf (hE.below h0)
 clear hW xW hr hm hE
 go_enter Tryz.func5,Tryz.ntmps5
 go_upto_region 1 with fail
 rw [←HW.out]
 clear HW
 as_aux_lemma=>
 go_wp2_with (refine wpList_load_mid rfl 60 _ rfl (w.heap.size) 0 rfl [.int .i64 v.wd,.int .i64 v.lim,.slice a.sa v.ss.length a.sc,.slice a.ta v.tt.length a.tc,.int .i64 v.sw,.int .i64 v.now,.int .i64 v.given,.int .i64 v.births,.slice a.ka v.ks.length a.kc,.slice a.pa v.ps.length a.pc,.slice a.la v.ls.length a.lc,.int .i64 v.ph,.slice a.qa v.qs.length a.qc,.slice a.ma v.ms.length a.mc,.int .i64 v.top,.int .i64 v.at_,.int .i64 v.ro] _ (HX.out W (Below.refl _ _)).1 Tryz.underlying60 rfl (by kernel_rfl) ?_)
 refine Calls.mono HZ.out ?_
 rintro e w1 ⟨r1,rfl,hb1,hf1⟩
 have HB1:Hid (Below W.heap.size W w1):=hb1
 clear hb1 HZ
 try generalize (.agg #[.int .i64 v.wd,.int .i64 v.lim,.slice a.sa v.ss.length a.sc,.slice a.ta v.tt.length a.tc,.int .i64 v.sw,.int .i64 v.now,.int .i64 v.given,.int .i64 v.births,.slice a.ka v.ks.length a.kc,.slice a.pa v.ps.length a.pc,.slice a.la v.ls.length a.lc,.int .i64 v.ph,.slice a.qa v.qs.length a.qc,.slice a.ma v.ms.length a.mc,.int .i64 v.top,.int .i64 v.at_,.int .i64 v.ro]:Value)=dv_a1
 by_cases n1:r1<0
 ·clear hf1
  go_wp2
  go_ret
  exact ⟨rfl,(HX.out w1 HB1.out).2⟩
 have hf:=hf1 (by omega)
 replace HT:Hid _:=HT.out hf
 replace HS:Hid _:=HS.out hf
 replace HI:Hid _:=HI.out hf
 have HF:Hid (VFit v):=hf
 clear hf hf1
 as_aux_lemma=>
 go_wp2_with (refine wpList_load_mid rfl 60 _ rfl (w.heap.size) 0 rfl [.int .i64 v.wd,.int .i64 v.lim,.slice a.sa v.ss.length a.sc,.slice a.ta v.tt.length a.tc,.int .i64 v.sw,.int .i64 v.now,.int .i64 v.given,.int .i64 v.births,.slice a.ka v.ks.length a.kc,.slice a.pa v.ps.length a.pc,.slice a.la v.ls.length a.lc,.int .i64 v.ph,.slice a.qa v.qs.length a.qc,.slice a.ma v.ms.length a.mc,.int .i64 v.top,.int .i64 v.at_,.int .i64 v.ro] _ (HX.out w1 HB1.out).1 Tryz.underlying60 rfl (by kernel_rfl) ?_)
 refine (HT.out w1 HB1.out).mono ?_
 rintro e w2 ⟨b2,rfl,hr2,hc2,hb2⟩
 have HB2:Hid (Below W.heap.size W w2):=HB1.out.trans (hb2.mono HB1.out.size)
 try generalize (.agg #[.int .i64 v.wd,.int .i64 v.lim,.slice a.sa v.ss.length a.sc,.slice a.ta v.tt.length a.tc,.int .i64 v.sw,.int .i64 v.now,.int .i64 v.given,.int .i64 v.births,.slice a.ka v.ks.length a.kc,.slice a.pa v.ps.length a.pc,.slice a.la v.ls.length a.lc,.int .i64 v.ph,.slice a.qa v.qs.length a.qc,.slice a.ma v.ms.length a.mc,.int .i64 v.top,.int .i64 v.at_,.int .i64 v.ro]:Value)=dv_a2
 as_aux_lemma=>
 go_wp2_with fail
 refine (HS.out w2 b2 hr2 hc2).mono ?_
 rintro e w3 ⟨o,rfl,ho,hb3⟩
 have HB3:Hid (Below W.heap.size W w3):=HB2.out.trans (hb3.mono HB2.out.size)
 have HO:Hid (o=true↔VOk v):=ho
 clear hr2 hc2 hb2 hb3 ho HS
 try generalize (.agg #[.int .i64 v.wd,.int .i64 v.lim,.slice b2.sa v.ss.length b2.sc,.slice b2.ta v.tt.length b2.tc,.int .i64 v.sw,.int .i64 v.now,.int .i64 v.given,.int .i64 v.births,.slice b2.ka v.ks.length b2.kc,.slice b2.pa v.ps.length b2.pc,.slice b2.la v.ls.length b2.lc,.int .i64 v.ph,.slice b2.qa v.qs.length b2.qc,.slice b2.ma v.ms.length b2.mc,.int .i64 v.top,.int .i64 v.at_,.int .i64 v.ro]:Value)=dv_b2
 as_aux_lemma=>
 go_wp2_with (refine wpList_load_mid rfl 60 _ rfl (w.heap.size) 0 rfl [.int .i64 v.wd,.int .i64 v.lim,.slice a.sa v.ss.length a.sc,.slice a.ta v.tt.length a.tc,.int .i64 v.sw,.int .i64 v.now,.int .i64 v.given,.int .i64 v.births,.slice a.ka v.ks.length a.kc,.slice a.pa v.ps.length a.pc,.slice a.la v.ls.length a.lc,.int .i64 v.ph,.slice a.qa v.qs.length a.qc,.slice a.ma v.ms.length a.mc,.int .i64 v.top,.int .i64 v.at_,.int .i64 v.ro] _ (HX.out w3 HB3.out).1 Tryz.underlying60 rfl (by kernel_rfl) ?_)
 refine (HT.out w3 HB3.out).mono ?_
 rintro e w4 ⟨b4,rfl,hr4,hc4,hb4⟩
 have HB4:Hid (Below W.heap.size W w4):=HB3.out.trans (hb4.mono HB3.out.size)
 have xZ:=CellsAt.new w4 [.int .i64 0,.int .i64 0,.slice none 0 0,.slice none 0 0,.int .i64 0,.int .i64 0,.int .i64 0,.int .i64 0,.slice none 0 0,.slice none 0 0,.slice none 0 0,.int .i64 0,.slice none 0 0,.slice none 0 0,.int .i64 0,.int .i64 0,.int .i64 0] 44
 obtain ⟨W4,hW4⟩:∃X,X=(w4.alloc (.cells #[.int .i64 0,.int .i64 0,.slice none 0 0,.slice none 0 0,.int .i64 0,.int .i64 0,.int .i64 0,.int .i64 0,.slice none 0 0,.slice none 0 0,.slice none 0 0,.int .i64 0,.slice none 0 0,.slice none 0 0,.int .i64 0,.int .i64 0,.int .i64 0] 44)).setCells w4.heap.size 0 [.int .i64 v.wd,.int .i64 v.lim,.slice b4.sa v.ss.length b4.sc,.slice b4.ta v.tt.length b4.tc,.int .i64 v.sw,.int .i64 v.now,.int .i64 v.given,.int .i64 v.births,.slice b4.ka v.ks.length b4.kc,.slice b4.pa v.ps.length b4.pc,.slice b4.la v.ls.length b4.lc,.int .i64 v.ph,.slice b4.qa v.qs.length b4.qc,.slice b4.ma v.ms.length b4.mc,.int .i64 v.top,.int .i64 v.at_,.int .i64 v.ro]:=⟨_,rfl⟩
 have bW4:Below w4.heap.size w4 W4:=by rw [hW4];exact ((Below.refl _ _).alloc (Nat.le_refl _) _).trans ((tn_cells _ _ _ _).below (by simp) (by simp))
 have HX4:Hid (CellsAt W4 w4.heap.size [.int .i64 v.wd,.int .i64 v.lim,.slice b4.sa v.ss.length b4.sc,.slice b4.ta v.tt.length b4.tc,.int .i64 v.sw,.int .i64 v.now,.int .i64 v.given,.int .i64 v.births,.slice b4.ka v.ks.length b4.kc,.slice b4.pa v.ps.length b4.pc,.slice b4.la v.ls.length b4.lc,.int .i64 v.ph,.slice b4.qa v.qs.length b4.qc,.slice b4.ma v.ms.length b4.mc,.int .i64 v.top,.int .i64 v.at_,.int .i64 v.ro]):=by
  show CellsAt W4 w4.heap.size [.int .i64 v.wd,.int .i64 v.lim,.slice b4.sa v.ss.length b4.sc,.slice b4.ta v.tt.length b4.tc,.int .i64 v.sw,.int .i64 v.now,.int .i64 v.given,.int .i64 v.births,.slice b4.ka v.ks.length b4.kc,.slice b4.pa v.ps.length b4.pc,.slice b4.la v.ls.length b4.lc,.int .i64 v.ph,.slice b4.qa v.qs.length b4.qc,.slice b4.ma v.ms.length b4.mc,.int .i64 v.top,.int .i64 v.at_,.int .i64 v.ro]
  rw [hW4]
  exact xZ.setAll _ rfl
 have hone:(#[.int .i64 v.wd,.int .i64 v.lim,.slice b4.sa v.ss.length b4.sc,.slice b4.ta v.tt.length b4.tc,.int .i64 v.sw,.int .i64 v.now,.int .i64 v.given,.int .i64 v.births,.slice b4.ka v.ks.length b4.kc,.slice b4.pa v.ps.length b4.pc,.slice b4.la v.ls.length b4.lc,.int .i64 v.ph,.slice b4.qa v.qs.length b4.qc,.slice b4.ma v.ms.length b4.mc,.int .i64 v.top,.int .i64 v.at_,.int .i64 v.ro]:Array Value).all (·.oneCell')=true:=by simp [Value.oneCell']
 have hthere:(w4.alloc (.cells #[.int .i64 0,.int .i64 0,.slice none 0 0,.slice none 0 0,.int .i64 0,.int .i64 0,.int .i64 0,.int .i64 0,.slice none 0 0,.slice none 0 0,.slice none 0 0,.int .i64 0,.slice none 0 0,.slice none 0 0,.int .i64 0,.int .i64 0,.int .i64 0] 44)).there w4.heap.size 0 17:=xZ.there
 have HIn:Hid _:=And.intro hone hthere
 have HW4:Hid _:=hW4
 have HBW4:Hid (Below W.heap.size W W4):=HB4.out.trans (bW4.mono HB4.out.size)
 have HR4:Hid (VRows W4 W4.heap.size b4 v):=hr4.below' bW4
 clear hone hthere xZ hW4 hr4 hc4 hb4 bW4
 try generalize (.agg #[.int .i64 v.wd,.int .i64 v.lim,.slice a.sa v.ss.length a.sc,.slice a.ta v.tt.length a.tc,.int .i64 v.sw,.int .i64 v.now,.int .i64 v.given,.int .i64 v.births,.slice a.ka v.ks.length a.kc,.slice a.pa v.ps.length a.pc,.slice a.la v.ls.length a.lc,.int .i64 v.ph,.slice a.qa v.qs.length a.qc,.slice a.ma v.ms.length a.mc,.int .i64 v.top,.int .i64 v.at_,.int .i64 v.ro]:Value)=dv_a3
 as_aux_lemma=>
 go_upto_region 7 with (refine wpList_store_mid rfl 44 _ _ rfl (w4.heap.size) 0 #[.int .i64 v.wd,.int .i64 v.lim,.slice b4.sa v.ss.length b4.sc,.slice b4.ta v.tt.length b4.tc,.int .i64 v.sw,.int .i64 v.now,.int .i64 v.given,.int .i64 v.births,.slice b4.ka v.ks.length b4.kc,.slice b4.pa v.ps.length b4.pc,.slice b4.la v.ls.length b4.lc,.int .i64 v.ph,.slice b4.qa v.qs.length b4.qc,.slice b4.ma v.ms.length b4.mc,.int .i64 v.top,.int .i64 v.at_,.int .i64 v.ro] rfl rfl HIn.out.2 (by kernel_rfl) HIn.out.1 ?_)
 rw [←HW4.out]
 clear HW4 HIn
 try generalize (.agg #[.int .i64 v.wd,.int .i64 v.lim,.slice b4.sa v.ss.length b4.sc,.slice b4.ta v.tt.length b4.tc,.int .i64 v.sw,.int .i64 v.now,.int .i64 v.given,.int .i64 v.births,.slice b4.ka v.ks.length b4.kc,.slice b4.pa v.ps.length b4.pc,.slice b4.la v.ls.length b4.lc,.int .i64 v.ph,.slice b4.qa v.qs.length b4.qc,.slice b4.ma v.ms.length b4.mc,.int .i64 v.top,.int .i64 v.at_,.int .i64 v.ro]:Value)=dv_b4
 as_aux_lemma=>
 go_wp2_with (refine wpList_load_mid rfl 44 _ rfl (w4.heap.size) 0 rfl [.int .i64 v.wd,.int .i64 v.lim,.slice b4.sa v.ss.length b4.sc,.slice b4.ta v.tt.length b4.tc,.int .i64 v.sw,.int .i64 v.now,.int .i64 v.given,.int .i64 v.births,.slice b4.ka v.ks.length b4.kc,.slice b4.pa v.ps.length b4.pc,.slice b4.la v.ls.length b4.lc,.int .i64 v.ph,.slice b4.qa v.qs.length b4.qc,.slice b4.ma v.ms.length b4.mc,.int .i64 v.top,.int .i64 v.at_,.int .i64 v.ro] _ HX4.out.range Tryz.underlying44 rfl (by kernel_rfl) ?_)
 refine (HI.out W4 b4 (HX.out W4 HBW4.out).2 HR4.out).mono ?_
 rintro e w5 ⟨o5,rfl,ho5,hb5⟩
 obtain rfl:o=o5:=by
  have h1:=HO.out
  cases o<;>cases o5<;>simp_all
 have HB5:Hid (Below W.heap.size W w5):=HBW4.out.trans (hb5.mono HBW4.out.size)
 have HX5:Hid _:=CellsAt.below HX4.out hb5
 have HR5:Hid (VRows w5 w5.heap.size b4 v):=HR4.out.below' hb5
 clear ho5 HO hb5 HI HX4 HR4
 try generalize (.agg #[.int .i64 v.wd,.int .i64 v.lim,.slice b4.sa v.ss.length b4.sc,.slice b4.ta v.tt.length b4.tc,.int .i64 v.sw,.int .i64 v.now,.int .i64 v.given,.int .i64 v.births,.slice b4.ka v.ks.length b4.kc,.slice b4.pa v.ps.length b4.pc,.slice b4.la v.ls.length b4.lc,.int .i64 v.ph,.slice b4.qa v.qs.length b4.qc,.slice b4.ma v.ms.length b4.mc,.int .i64 v.top,.int .i64 v.at_,.int .i64 v.ro]:Value)=dv_b5
 as_aux_lemma=>
 go_upto_region 10 with fail
 go_cut [26] (fun u wx=>u=.bool false/\Hid (Below w.heap.size w wx))
 case first=>
  have HSx:Hid (∀X,Below w5.heap.size w5 X->X.rangeAt w4.heap.size 0 [.int .i64 v.wd,.int .i64 v.lim,.slice b4.sa v.ss.length b4.sc,.slice b4.ta v.tt.length b4.tc,.int .i64 v.sw,.int .i64 v.now,.int .i64 v.given,.int .i64 v.births,.slice b4.ka v.ks.length b4.kc,.slice b4.pa v.ps.length b4.pc,.slice b4.la v.ls.length b4.lc,.int .i64 v.ph,.slice b4.qa v.qs.length b4.qc,.slice b4.ma v.ms.length b4.mc,.int .i64 v.top,.int .i64 v.at_,.int .i64 v.ro]/\X.rangeAt w.heap.size 0 [.int .i64 v.wd,.int .i64 v.lim,.slice a.sa v.ss.length a.sc,.slice a.ta v.tt.length a.tc,.int .i64 v.sw,.int .i64 v.now,.int .i64 v.given,.int .i64 v.births,.slice a.ka v.ks.length a.kc,.slice a.pa v.ps.length a.pc,.slice a.la v.ls.length a.lc,.int .i64 v.ph,.slice a.qa v.qs.length a.qc,.slice a.ma v.ms.length a.mc,.int .i64 v.top,.int .i64 v.at_,.int .i64 v.ro]):=fun X hX=>⟨(CellsAt.below HX5.out hX).range,(HX.out X (HB5.out.trans (hX.mono HB5.out.size))).1⟩
  refine wp_region_held_drew (S:=fun X=>X.rangeAt w4.heap.size 0 [.int .i64 v.wd,.int .i64 v.lim,.slice b4.sa v.ss.length b4.sc,.slice b4.ta v.tt.length b4.tc,.int .i64 v.sw,.int .i64 v.now,.int .i64 v.given,.int .i64 v.births,.slice b4.ka v.ks.length b4.kc,.slice b4.pa v.ps.length b4.pc,.slice b4.la v.ls.length b4.lc,.int .i64 v.ph,.slice b4.qa v.qs.length b4.qc,.slice b4.ma v.ms.length b4.mc,.int .i64 v.top,.int .i64 v.at_,.int .i64 v.ro]/\X.rangeAt w.heap.size 0 [.int .i64 v.wd,.int .i64 v.lim,.slice a.sa v.ss.length a.sc,.slice a.ta v.tt.length a.tc,.int .i64 v.sw,.int .i64 v.now,.int .i64 v.given,.int .i64 v.births,.slice a.ka v.ks.length a.kc,.slice a.pa v.ps.length a.pc,.slice a.la v.ls.length a.lc,.int .i64 v.ph,.slice a.qa v.qs.length a.qc,.slice a.ma v.ms.length a.mc,.int .i64 v.top,.int .i64 v.at_,.int .i64 v.ro]) (by kernel_rfl) (HSx.out _ (Below.refl _ _).drew) (fun hS=> ?_)
  refine wpAnyH_take (i:=0) (v:=.agg #[.int .i64 v.wd,.int .i64 v.lim,.slice b4.sa v.ss.length b4.sc,.slice b4.ta v.tt.length b4.tc,.int .i64 v.sw,.int .i64 v.now,.int .i64 v.given,.int .i64 v.births,.slice b4.ka v.ks.length b4.kc,.slice b4.pa v.ps.length b4.pc,.slice b4.la v.ls.length b4.lc,.int .i64 v.ph,.slice b4.qa v.qs.length b4.qc,.slice b4.ma v.ms.length b4.mc,.int .i64 v.top,.int .i64 v.at_,.int .i64 v.ro]) rfl (by kernel_rfl) (by kernel_rfl) (by kernel_rfl) (fun _ _ _ h=>h) (yieldsIf_load_mid (by rfl) 44 _ rfl w4.heap.size 0 rfl [.int .i64 v.wd,.int .i64 v.lim,.slice b4.sa v.ss.length b4.sc,.slice b4.ta v.tt.length b4.tc,.int .i64 v.sw,.int .i64 v.now,.int .i64 v.given,.int .i64 v.births,.slice b4.ka v.ks.length b4.kc,.slice b4.pa v.ps.length b4.pc,.slice b4.la v.ls.length b4.lc,.int .i64 v.ph,.slice b4.qa v.qs.length b4.qc,.slice b4.ma v.ms.length b4.mc,.int .i64 v.top,.int .i64 v.at_,.int .i64 v.ro] _ (fun X h=>h.1) Tryz.underlying44 rfl (by kernel_rfl)) hS ?_
  simp only [Act.put,List.setIfInBounds_toArray]
  refine wpAnyH_take (i:=1) (v:=.agg #[.int .i64 v.wd,.int .i64 v.lim,.slice a.sa v.ss.length a.sc,.slice a.ta v.tt.length a.tc,.int .i64 v.sw,.int .i64 v.now,.int .i64 v.given,.int .i64 v.births,.slice a.ka v.ks.length a.kc,.slice a.pa v.ps.length a.pc,.slice a.la v.ls.length a.lc,.int .i64 v.ph,.slice a.qa v.qs.length a.qc,.slice a.ma v.ms.length a.mc,.int .i64 v.top,.int .i64 v.at_,.int .i64 v.ro]) rfl (by kernel_rfl) (by kernel_rfl) (by kernel_rfl) (fun _ _ _ h=>h) (yieldsIf_load_mid (by rfl) 60 _ rfl w.heap.size 0 rfl [.int .i64 v.wd,.int .i64 v.lim,.slice a.sa v.ss.length a.sc,.slice a.ta v.tt.length a.tc,.int .i64 v.sw,.int .i64 v.now,.int .i64 v.given,.int .i64 v.births,.slice a.ka v.ks.length a.kc,.slice a.pa v.ps.length a.pc,.slice a.la v.ls.length a.lc,.int .i64 v.ph,.slice a.qa v.qs.length a.qc,.slice a.ma v.ms.length a.mc,.int .i64 v.top,.int .i64 v.at_,.int .i64 v.ro] _ (fun X h=>h.2) Tryz.underlying60 rfl (by kernel_rfl)) hS ?_
  simp only [Act.put]
  refine wpAnyH_ready (rs:=[2]) (by kernel_rfl) (by simp) ?_
  refine AllReadyH.cons rfl (fun K hK=> ?_) AllReadyH.nil
  go_simp
  refine (HT.out w5.drew HB5.out.drew).mono ?_
  rintro e w6 ⟨b6,rfl,hr6,hc6,hb6⟩
  have h56:Below w5.heap.size w5 w6:=(Below.refl w5.heap.size w5).drew.trans hb6
  have hr56:=HR5.out.below' h56
  go_simp
  refine hK.out _ _ (HSx.out w6 h56) (fun hS6=> ?_)
  clear hK K
  refine wpAnyH_ready (rs:=[3]) (by kernel_rfl) (by simp) ?_
  refine AllReadyH.cons rfl (fun K hK=> ?_) AllReadyH.nil
  go_simp
  refine (eqVault_yes v b4 b6 w6 hr56 hr6 HF.out).mono ?_
  rintro e w7 ⟨rfl,hb7⟩
  have h57:=h56.trans (hb7.mono h56.size)
  go_simp
  refine hK.out _ _ (HSx.out w7 h57) (fun hS7=> ?_)
  clear hK K
  refine wpAnyH_ready (rs:=[4]) (by kernel_rfl) (by simp) ?_
  refine AllReadyH.cons rfl (fun K hK=> ?_) AllReadyH.nil
  go_simp
  refine hK.out _ _ (HSx.out w7 h57) (fun hS8=> ?_)
  clear hK K
  refine wpAnyH_done (by kernel_rfl) ?_ _
  go_wp2_with fail
  go_meet
  exact ⟨rfl,(HX.out w5 HB5.out).2.trans (h57.mono (HX.out w5 HB5.out).2.size)⟩
 case rest=>
  obtain ⟨rfl,HE⟩:=hcut
  go_wp2
  go_ret
  exact ⟨rfl,HE.out⟩
end ExactValidVault
end Go.Proofs.YtpekbmegopfhfaaGreatDoor
