import Derived.Test.YtpekbmegopfhfaaGreatDoorW28
import Derived.Test.YtpekbmegopfhfaaGreatDoorW33
import Derived.Test.YtpekbmegopfhfaaGreatDoorW37
import Derived.Deep.RegionWith
import Derived.Deep.DeepCutAuto
import Derived.Deep.RegionHeld3
import Derived.Test.YtpekbmegopfhfaaGreatDoorW31
import Derived.Test.YtpekbmegopfhfaaGreatDoorW04
import Derived.Test.YtpekbmegopfhfaaGreatDoorW32
namespace Go.Proofs.YtpekbmegopfhfaaGreatDoor
open Go.ChangeShapes Go.WideShapes Go.ChangeAt Go.RowKit
structure VSt (w wx:World) (v:Vd) (a:Va) (b:Nat) (o:An) (ta pa la:Option Addr) (tc pc lc:Nat):Prop where
 box:CellsAt wx b [.int .i64 o.code,.int .i64 o.wd,.int .i64 o.now,.int .i64 o.given,.int .i64 o.births,.slice ta o.ks.length tc,.slice pa o.ps.length pc,.slice la o.ls.length lc,.string o.sm,.int .i64 o.le,.string o.a,.string o.b]
 rows:SRows wx wx.heap.size ta pa la o.ks o.ps o.ls
 rto:RTo v.wd (v.ss++v.tt) o
 vbox:CellsAt wx w.heap.size [.int .i64 v.wd,.int .i64 v.lim,.slice a.sa v.ss.length a.sc,.slice a.ta v.tt.length a.tc,.int .i64 v.sw,.int .i64 v.now,.int .i64 v.given,.int .i64 v.births,.slice a.ka v.ks.length a.kc,.slice a.pa v.ps.length a.pc,.slice a.la v.ls.length a.lc,.int .i64 v.ph,.slice a.qa v.qs.length a.qc,.slice a.ma v.ms.length a.mc,.int .i64 v.top,.int .i64 v.at_,.int .i64 v.ro]
 bel:Below w.heap.size w wx
theorem VSt.fin {w w2 w4:World} {v:Vd} {a:Va} {b:Nat} {o:An} {ta pa la:Option Addr} {tc pc lc:Nat} (hto:RTo v.wd (v.ss++v.tt) o) (hS:∀X,Tn [b] w4 X->SRows X X.heap.size ta pa la o.ks o.ps o.ls) (hw:Below w.heap.size w w2) (h24:Below w2.heap.size w2 w4) (hx:CellsAt w2 w.heap.size [.int .i64 v.wd,.int .i64 v.lim,.slice a.sa v.ss.length a.sc,.slice a.ta v.tt.length a.tc,.int .i64 v.sw,.int .i64 v.now,.int .i64 v.given,.int .i64 v.births,.slice a.ka v.ks.length a.kc,.slice a.pa v.ps.length a.pc,.slice a.la v.ls.length a.lc,.int .i64 v.ph,.slice a.qa v.qs.length a.qc,.slice a.ma v.ms.length a.mc,.int .i64 v.top,.int .i64 v.at_,.int .i64 v.ro]) (hlt:w.heap.size<w2.heap.size) (hz:CellsAt w4 b z12) (hb:w2.heap.size<=b):
 VSt w ((((((((((((w4.setCell ⟨b,0,none⟩ (.int .i64 o.code)).setCell ⟨b,1,none⟩ (.int .i64 o.wd)).setCell ⟨b,2,none⟩ (.int .i64 o.now)).setCell ⟨b,3,none⟩ (.int .i64 o.given)).setCell ⟨b,4,none⟩ (.int .i64 o.births)).setCell ⟨b,5,none⟩ (.slice ta o.ks.length tc)).setCell ⟨b,6,none⟩ (.slice pa o.ps.length pc)).setCell ⟨b,7,none⟩ (.slice la o.ls.length lc)).setCell ⟨b,8,none⟩ (.string o.sm)).setCell ⟨b,9,none⟩ (.int .i64 o.le)).setCell ⟨b,10,none⟩ (.string o.a)).setCell ⟨b,11,none⟩ (.string o.b)) v a b o ta pa la tc pc lc:=by
 have ht:=tn12 w4 b (.int .i64 o.code) (.int .i64 o.wd) (.int .i64 o.now) (.int .i64 o.given) (.int .i64 o.births) (.slice ta o.ks.length tc) (.slice pa o.ps.length pc) (.slice la o.ls.length lc) (.string o.sm) (.int .i64 o.le) (.string o.a) (.string o.b)
 have hz4:=h24.size
 refine ⟨set12 hz _ _ _ _ _ _ _ _ _ _ _ _,?_,hto,?_,?_⟩
 ·exact hS _ ht
 ·exact CellsAt.same (CellsAt.below hx h24) (ht.block _ (by omega) (by simp;omega))
 ·exact (hw.trans (h24.mono hw.size)).trans (ht.below (by have:=hw.size;omega) (fun j hj=>by simp at hj;have:=hw.size;omega))
set_option maxRecDepth 100000 in
set_option maxHeartbeats 8000000 in
theorem sValidVault_any (v:Vd) (a:Va) (w:World) (hr:VRows w w.heap.size a v) (hc:VCap a v) (hf:VFit v):
 Calls Tryz.prog 28 #[.agg #[.int .i64 v.wd,.int .i64 v.lim,.slice a.sa v.ss.length a.sc,.slice a.ta v.tt.length a.tc,.int .i64 v.sw,.int .i64 v.now,.int .i64 v.given,.int .i64 v.births,.slice a.ka v.ks.length a.kc,.slice a.pa v.ps.length a.pc,.slice a.la v.ls.length a.lc,.int .i64 v.ph,.slice a.qa v.qs.length a.qc,.slice a.ma v.ms.length a.mc,.int .i64 v.top,.int .i64 v.at_,.int .i64 v.ro]] w fun e w'=>Says (VOk v) w w' e:=by
 obtain ⟨W,hW⟩:∃W,W=w.alloc (.cells #[.int .i64 v.wd,.int .i64 v.lim,.slice a.sa v.ss.length a.sc,.slice a.ta v.tt.length a.tc,.int .i64 v.sw,.int .i64 v.now,.int .i64 v.given,.int .i64 v.births,.slice a.ka v.ks.length a.kc,.slice a.pa v.ps.length a.pc,.slice a.la v.ls.length a.lc,.int .i64 v.ph,.slice a.qa v.qs.length a.qc,.slice a.ma v.ms.length a.mc,.int .i64 v.top,.int .i64 v.at_,.int .i64 v.ro] 44):=⟨_,rfl⟩
 have bW:Below w.heap.size w W:=by rw [hW];exact (Below.refl _ _).alloc (Nat.le_refl _) _
 have zW:W.heap.size=w.heap.size+1:=by rw [hW];simp
 have xW:CellsAt W w.heap.size [.int .i64 v.wd,.int .i64 v.lim,.slice a.sa v.ss.length a.sc,.slice a.ta v.tt.length a.tc,.int .i64 v.sw,.int .i64 v.now,.int .i64 v.given,.int .i64 v.births,.slice a.ka v.ks.length a.kc,.slice a.pa v.ps.length a.pc,.slice a.la v.ls.length a.lc,.int .i64 v.ph,.slice a.qa v.qs.length a.qc,.slice a.ma v.ms.length a.mc,.int .i64 v.top,.int .i64 v.at_,.int .i64 v.ro]:=by rw [hW];exact CellsAt.new w [.int .i64 v.wd,.int .i64 v.lim,.slice a.sa v.ss.length a.sc,.slice a.ta v.tt.length a.tc,.int .i64 v.sw,.int .i64 v.now,.int .i64 v.given,.int .i64 v.births,.slice a.ka v.ks.length a.kc,.slice a.pa v.ps.length a.pc,.slice a.la v.ls.length a.lc,.int .i64 v.ph,.slice a.qa v.qs.length a.qc,.slice a.ma v.ms.length a.mc,.int .i64 v.top,.int .i64 v.at_,.int .i64 v.ro] 44
 have HX:Hid (CellsAt W w.heap.size [.int .i64 v.wd,.int .i64 v.lim,.slice a.sa v.ss.length a.sc,.slice a.ta v.tt.length a.tc,.int .i64 v.sw,.int .i64 v.now,.int .i64 v.given,.int .i64 v.births,.slice a.ka v.ks.length a.kc,.slice a.pa v.ps.length a.pc,.slice a.la v.ls.length a.lc,.int .i64 v.ph,.slice a.qa v.qs.length a.qc,.slice a.ma v.ms.length a.mc,.int .i64 v.top,.int .i64 v.at_,.int .i64 v.ro]):=xW
 have HR:Hid (VRows w w.heap.size a v):=hr
 have HW:Hid _:=hW
 have HC1:Hid _:=swidth_any v.wd W
 have HC2:Hid _:=range_any v.lim 0 1000000 W
 have HC3:Hid _:=sValidLog_any a.sa a.ta a.sc a.tc v.ss v.tt W w.heap.size bW.size (hr.s.below bW) (hr.t.below bW) hf.s hf.t hf.ss hf.tt
 obtain ⟨y0,y1,y2,y3,y4,y5,y6,y7,y8,y9,y10,y11,y12,y13,y14,y15,y16⟩:=c17 xW
 clear hW xW hr
 by_cases hwd:1<=v.wd/\v.wd<=8
 ·rw [decide_eq_true hwd] at HC1
  by_cases hlim:0<=v.lim/\v.lim<=1000000
  ·rw [decide_eq_true hlim] at HC2
   cases hlog:okLog v.ss v.tt with
   |true=>
    rw [hlog] at HC3
    have hll:=okLog_le hlog
    obtain ⟨xs,hxs⟩:∃xs,xs=v.ss++v.tt:=⟨_,rfl⟩
    have HA:Hid (∀X,Below W.heap.size W X->Calls Tryz.prog 54 #[.agg #[.slice a.sa v.ss.length a.sc,.slice a.ta v.tt.length a.tc]] X fun e w'=>∃g cap,e=.returned (.slice (some ⟨g,0,none⟩) xs.length cap)/\w'.ownsRow X.heap.size 9 1 (.slice (some ⟨g,0,none⟩) xs.length cap) xs.length (xs.map Value.string)/\Below X.heap.size X w'):=fun X hX=>by
     have hb:=bW.trans (hX.mono bW.size)
     rw [hxs]
     exact l7All_any a.sa a.ta a.sc a.tc v.ss v.tt X (HR.out.s.below' hb) (HR.out.t.below' hb) hc.s hc.t hf.s hf.t
    have HS:Hid (∀(X:World) (g cap:Nat),SRow X X.heap.size (some ⟨g,0,none⟩) xs->Calls Tryz.prog 10 #[.int .i64 v.wd,.slice (some ⟨g,0,none⟩) xs.length cap] X fun e w'=>∃(o:An) (ta:Option Addr) (tc:Nat) (pa:Option Addr) (pc:Nat) (la:Option Addr) (lc:Nat) (rs:List Value),e=.returned (.agg #[.int .i64 o.code,.int .i64 o.wd,.int .i64 o.now,.int .i64 o.given,.int .i64 o.births,.slice ta o.ks.length tc,.slice pa o.ps.length pc,.slice la o.ls.length lc,.string o.sm,.int .i64 o.le,.string o.a,.string o.b])/\RTo v.wd xs o/\SAns w' X.heap.size (.slice ta o.ks.length tc) (.slice pa o.ps.length pc) (.slice la o.ls.length lc) rs o.ks o.ps o.ls/\Below X.heap.size X w'):=fun X g cap h=>by
     refine (sReplay_any v.wd _ _ xs X h (by rw [hxs];omega) (fun s hs=>by rw [hxs] at hs;rcases List.mem_append.1 hs with h|h;exact hf.ss s h;exact hf.tt s h)).mono ?_
     rintro e w' ⟨o,T,P,L,rs,hto,rfl,hS,hb⟩
     obtain ⟨ta,tc,pa,pc,la,lc,rfl,rfl,rfl,_⟩:=hS.rows
     exact ⟨o,ta,tc,pa,pc,la,lc,rs,rfl,hto,hS,hb⟩
    have HXs:Hid (xs=v.ss++v.tt):=hxs
    clear hxs
    have HM:Hid (v.ms.length<=a.mc):=hc.m
    clear hc
    go_enter Tryz.func28,Tryz.ntmps28
    go_wp2_with fail
    rw [←HW.out]
    refine Calls.mono HC1.out ?_
    rintro e w1 ⟨rfl,hw1⟩
    replace hw1:=hw1.symm
    subst hw1
    go_wp2_with fail
    refine Calls.mono HC2.out ?_
    rintro e w1 ⟨rfl,hw1⟩
    replace hw1:=hw1.symm
    subst hw1
    go_wp2_with fail
    refine Calls.mono HC3.out ?_
    rintro e w2 ⟨rfl,hb2⟩
    have x2:=CellsAt.below HX.out hb2
    have z2:w.heap.size+1<=w2.heap.size:=by have:=hb2.size;omega
    have HB2:Hid (Below W.heap.size W w2):=hb2
    have HX2:Hid (CellsAt w2 w.heap.size [.int .i64 v.wd,.int .i64 v.lim,.slice a.sa v.ss.length a.sc,.slice a.ta v.tt.length a.tc,.int .i64 v.sw,.int .i64 v.now,.int .i64 v.given,.int .i64 v.births,.slice a.ka v.ks.length a.kc,.slice a.pa v.ps.length a.pc,.slice a.la v.ls.length a.lc,.int .i64 v.ph,.slice a.qa v.qs.length a.qc,.slice a.ma v.ms.length a.mc,.int .i64 v.top,.int .i64 v.at_,.int .i64 v.ro]):=x2
    have HBw:Hid (Below w.heap.size w w2):=bW.trans (hb2.mono bW.size)
    clear y0 y1 y2 y3 y4 y5 y6 y7 y8 y9 y10 y11 y12 y13 y14 y15 y16 HC1 HC2 HC3 hb2 HW
    obtain ⟨y0,y1,y2,y3,_⟩:=c17 x2
    clear x2
    go_upto_region 3 with fail
    generalize (.agg #[.int .i64 v.wd,.int .i64 v.lim,.slice a.sa v.ss.length a.sc,.slice a.ta v.tt.length a.tc,.int .i64 v.sw,.int .i64 v.now,.int .i64 v.given,.int .i64 v.births,.slice a.ka v.ks.length a.kc,.slice a.pa v.ps.length a.pc,.slice a.la v.ls.length a.lc,.int .i64 v.ph,.slice a.qa v.qs.length a.qc,.slice a.ma v.ms.length a.mc,.int .i64 v.top,.int .i64 v.at_,.int .i64 v.ro]:Value)=dv0
    go_cut [3] (fun u wx=>∃(b:Nat) (o:An) (ta pa la:Option Addr) (tc pc lc:Nat),u=.pointer (some ⟨b,0,none⟩)/\Hid (VSt w wx v a b o ta pa la tc pc lc))
    case first=>
     have HSR:Hid (∀X,Below w2.heap.size w2 X->X.cell? ⟨w.heap.size,0,none⟩=some (.int .i64 v.wd)/\X.cell? ⟨w.heap.size,2,none⟩=some (.slice a.sa v.ss.length a.sc)/\X.cell? ⟨w.heap.size,3,none⟩=some (.slice a.ta v.tt.length a.tc)):=fun X hX=>by
      obtain ⟨u0,u1,u2,u3,_⟩:=c17 (CellsAt.below HX2.out hX)
      exact ⟨u0,u2,u3⟩
     have HL:Hid (∀X,Below w2.heap.size w2 X->Below W.heap.size W X):=fun X hX=>HB2.out.trans (hX.mono HB2.out.size)
     have D0:Below w2.heap.size w2 w2.drew:=(Below.refl _ _).drew
     have D1:∀o,Below w2.heap.size w2 (w2.alloc o).drew:=fun o=>((Below.refl _ _).alloc (Nat.le_refl _) _).drew
     clear y0 y1 y2 y3
     go_region_held3 (fun X=>X.cell? ⟨w.heap.size,0,none⟩=some (.int .i64 v.wd)/\X.cell? ⟨w.heap.size,2,none⟩=some (.slice a.sa v.ss.length a.sc)/\X.cell? ⟨w.heap.size,3,none⟩=some (.slice a.ta v.tt.length a.tc))
      (first
        |with_reducible exact HSR.out _ D0
        |with_reducible exact HSR.out _ (D1 _)
        |with_reducible exact HSR.out _ B3
        |with_reducible exact HSR.out _ (B3.alloc B3.size _)
        |with_reducible exact HSR.out _ B4
        |with_reducible exact HSR.out _ (B4.alloc B4.size _)
        |with_reducible exact HSR.out _ (B4.trans ((tn12 w4 _ _ _ _ _ _ _ _ _ _ _ _ _).below B4.size (by intro x hx;simp at hx;omega))))
      (first
        |(go_at_call 54;guard_target=~Calls Tryz.prog 54 _ (World.drew (World.alloc w2 _)) _;refine Calls.mono (HA.out (w2.alloc (.cells #[.int .i64 0,.int .i64 0,.int .i64 0,.int .i64 0,.int .i64 0,.slice none 0 0,.slice none 0 0,.slice none 0 0,.string ⟨#[]⟩,.int .i64 0,.string ⟨#[]⟩,.string ⟨#[]⟩] 30)).drew (HL.out _ (D1 _))) ?_;rintro e w3 ⟨g,cap,rfl,ho3,hw3⟩;have B3:Below w2.heap.size w2 w3:=(D1 _).trans (hw3.mono (by simp));have hr3:=SRow.own ho3;clear ho3;have zA:CellsAt w3 w2.heap.size z12:=CellsAt.below (v:=.int .i64 0) (w:=(w2.alloc (.cells #[.int .i64 0,.int .i64 0,.int .i64 0,.int .i64 0,.int .i64 0,.slice none 0 0,.slice none 0 0,.slice none 0 0,.string ⟨#[]⟩,.int .i64 0,.string ⟨#[]⟩,.string ⟨#[]⟩] 30))) (CellsAt.new w2 z12 30) (below_undrew hw3))
        |(go_at_call 54;guard_target=~Calls Tryz.prog 54 _ (World.drew w2) _;refine Calls.mono (HA.out w2.drew (HL.out _ D0)) ?_;rintro e w3 ⟨g,cap,rfl,ho3,hw3⟩;have B3:Below w2.heap.size w2 w3:=D0.trans hw3;have hr3:=SRow.own ho3;clear ho3;have nA:=B3)
        |(go_at_call 10;have tag:=zA;refine Calls.mono (HS.out w3 g cap hr3) ?_;rintro e w4 ⟨o,ta,tc,pa,pc,la,lc,rs,rfl,hto,hS4,hw4⟩;have HRD:Hid _:=And.intro hto hS4;clear hto hS4 hr3;have B4:Below w2.heap.size w2 w4:=B3.trans (hw4.mono B3.size);have zA5:CellsAt w4 w2.heap.size z12:=CellsAt.below (v:=.int .i64 0) zA hw4;have hlt5:w2.heap.size<w3.heap.size:=CellsAt.lt (v:=.int .i64 0) zA;have hle5:w2.heap.size<=w2.heap.size:=Nat.le_refl _;obtain ⟨⟨t0,q0⟩,⟨t1,q1⟩,⟨t2,q2⟩,⟨t3,q3⟩,⟨t4,q4⟩,⟨t5,q5⟩,⟨t6,q6⟩,⟨t7,q7⟩,⟨t8,q8⟩,⟨t9,q9⟩,⟨t10,q10⟩,t11,q11⟩:=z12at zA5)
        |(go_at_call 10;guard_target=~Calls Tryz.prog 10 _ (World.alloc w3 _) _;refine Calls.mono (HS.out (w3.alloc (.cells #[.int .i64 0,.int .i64 0,.int .i64 0,.int .i64 0,.int .i64 0,.slice none 0 0,.slice none 0 0,.slice none 0 0,.string ⟨#[]⟩,.int .i64 0,.string ⟨#[]⟩,.string ⟨#[]⟩] 30)) g cap (hr3.below' ((Below.refl _ _).alloc (Nat.le_refl _) _))) ?_;rintro e w4 ⟨o,ta,tc,pa,pc,la,lc,rs,rfl,hto,hS4,hw4⟩;have HRD:Hid _:=And.intro hto hS4;clear hto hS4 hr3;have B4:Below w2.heap.size w2 w4:=(B3.alloc B3.size _).trans (hw4.mono (by have:=B3.size;simp;omega));have zB5:CellsAt w4 w3.heap.size z12:=CellsAt.below (v:=.int .i64 0) (w:=(w3.alloc (.cells #[.int .i64 0,.int .i64 0,.int .i64 0,.int .i64 0,.int .i64 0,.slice none 0 0,.slice none 0 0,.slice none 0 0,.string ⟨#[]⟩,.int .i64 0,.string ⟨#[]⟩,.string ⟨#[]⟩] 30))) (CellsAt.new w3 z12 30) hw4;have hle5:w2.heap.size<=w3.heap.size:=B3.size;obtain ⟨⟨t0,q0⟩,⟨t1,q1⟩,⟨t2,q2⟩,⟨t3,q3⟩,⟨t4,q4⟩,⟨t5,q5⟩,⟨t6,q6⟩,⟨t7,q7⟩,⟨t8,q8⟩,⟨t9,q9⟩,⟨t10,q10⟩,t11,q11⟩:=z12at zB5)
        |(go_at_call 10;have tag:=nA;refine Calls.mono (HS.out w3 g cap hr3) ?_;rintro e w4 ⟨o,ta,tc,pa,pc,la,lc,rs,rfl,hto,hS4,hw4⟩;have HRD:Hid _:=And.intro hto hS4;clear hto hS4 hr3;have B4:Below w2.heap.size w2 w4:=B3.trans (hw4.mono B3.size);have nD:=nA))
     all_goals
      go_wp2_with fail
      go_meet
     all_goals first
      |(have tag:=zA5
        exact ⟨w2.heap.size,o,ta,pa,la,tc,pc,lc,rfl,VSt.fin (HXs.out▸HRD.out.1) (fun X ht=>SAns.get (HRD.out.2.turn ht (by simp;exact hlt5))) HBw.out B4 HX2.out (by omega) zA5 hle5⟩)
      |(have tag:=zB5
        exact ⟨w3.heap.size,o,ta,pa,la,tc,pc,lc,rfl,VSt.fin (HXs.out▸HRD.out.1) (fun X ht=>SAns.get (HRD.out.2.turn ht (by simp))) HBw.out B4 HX2.out (by omega) zB5 hle5⟩)
      |(have tag:=nD
        exact ⟨w4.heap.size,o,ta,pa,la,tc,pc,lc,rfl,⟨CellsAt.new w4 [.int .i64 o.code,.int .i64 o.wd,.int .i64 o.now,.int .i64 o.given,.int .i64 o.births,.slice ta o.ks.length tc,.slice pa o.ps.length pc,.slice la o.ls.length lc,.string o.sm,.int .i64 o.le,.string o.a,.string o.b] 30,(SAns.get HRD.out.2).below' ((Below.refl _ _).alloc (Nat.le_refl _) _),HXs.out▸HRD.out.1,CellsAt.below (CellsAt.below HX2.out B4) ((Below.refl _ _).alloc (Nat.le_refl _) _),(HBw.out.trans (B4.mono HBw.out.size)).alloc (Nat.le_trans HBw.out.size B4.size) _⟩⟩)
    case rest=>
     clear y0 y1 y2 y3 HA HS
     obtain ⟨b,o,ta,pa,la,tc,pc,lc,rfl,HV⟩:=hcut
     rcases HV.out.rto with ⟨hno,_⟩|⟨_,⟨n,hrn,ho⟩|⟨r,hrn,ho⟩⟩
     ·exact absurd ⟨hwd,hll⟩ hno
     ·have hcode:o.code=7:=by rw [ho]
      obtain ⟨m0,_⟩:=HV.out.box 0 _ rfl
      rw [hcode] at m0
      have HBe:Hid (Below w.heap.size w wc):=HV.out.bel
      have HNo:Hid (¬VOk v):=fun ⟨r,h⟩=>RunNo.not hwd.1 hwd.2 hrn h.run
      clear ho hrn HV
      go_wp2
      go_ret
      exact Says.no HNo.out HBe.out
     ·subst ho
      have hro:=hrn.ok (r0_ok hwd.1 hwd.2)
      obtain ⟨⟨m0,_⟩,⟨m1,_⟩,⟨m2,_⟩,⟨m3,_⟩,⟨m4,_⟩,⟨m5,_⟩,⟨m6,_⟩,m7,_⟩:=c12 HV.out.box
      obtain ⟨y0,y1,y2,y3,y4,y5,y6,y7,y8,y9,y10,y11,y12,y13,y14,y15,y16⟩:=c17 HV.out.vbox
      have HBe:Hid (Below w.heap.size w wc):=HV.out.bel
      have hr':=HR.out.st.keep HBe.out
      have HSm:Hid _:=l7SameState_any v.wd r.now r.given r.births v.sw v.now v.given v.births ta pa la a.ka a.pa a.la tc pc lc a.kc a.pc a.lc r.ks v.ks r.ps v.ps r.ls v.ls wc HV.out.rows (hr'.mono HBe.out.size) ⟨by have:=hro.kso.len;omega,by have:=hro.np;omega,by have:=hro.nl;omega⟩ ⟨hf.st.k,hf.st.p,hf.st.l⟩ (fun k hk=>by have:=hro.r30 k hk;omega) hf.st.r
      have HVb:Hid _:=HV.out.vbox
      have HRun:Hid (Run v.wd r0 (v.ss++v.tt) r):=hrn
      have HRo:Hid (r.births<=1000000000):=hro.births1
      clear hr' hro HV
      go_wp2_with fail
      refine Calls.mono HSm.out ?_
      rintro e w5 ⟨bb,rfl,hbb,hb5⟩
      have HB5:Hid (Below w.heap.size w w5):=HBe.out.trans (hb5.mono HBe.out.size)
      have x5:=CellsAt.below HVb.out hb5
      clear m0 m1 m2 m3 m4 m5 m6 m7 y0 y1 y2 y3 y4 y5 y6 y7 y8 y9 y10 y11 y12 y13 y14 y15 y16 HSm hb5 hrn
      cases bb with
      |false=>
       have HNo:Hid (¬VOk v):=fun ⟨r',h⟩=>by
        obtain rfl:=HRun.out.det h.run
        have:=hbb.2 h.same
        cases this
       clear hbb x5 HVb
       go_wp2
       go_ret
       exact Says.no HNo.out HB5.out
      |true=>
       have HSame:Hid _:=hbb.1 rfl
       obtain ⟨y0,y1,y2,y3,y4,y5,y6,y7,y8,y9,y10,y11,y12,y13,y14,y15,y16⟩:=c17 x5
       have HL6:Hid _:=l6Ok_any v.sw v.now v.given v.births v.ph v.top v.at_ v.ro (.slice a.ka v.ks.length a.kc) (.slice a.pa v.ps.length a.pc) (.slice a.la v.ls.length a.lc) a.qa a.ma a.qc a.mc v.qs v.ms w5 (HR.out.q.below' HB5.out) (HR.out.m.below' HB5.out) hf.r HM.out (by have h1:=HSame.out.1.2.2.2;have h2:=HRo.out;omega)
       clear hbb x5 HVb
       go_wp2_with fail
       refine Calls.mono HL6.out ?_
       rintro e w6 ⟨bb,rfl,hbb,hb6⟩
       have HB6:Hid (Below w.heap.size w w6):=HB5.out.trans (hb6.mono HB5.out.size)
       have HN:Hid (bb=true↔VOk v):=by
        have h1:=HSame.out.1.1
        rw [←h1] at hbb
        refine ⟨fun h=>⟨r,hwd,hlim,hlog,HRun.out,HSame.out,hbb.1 h⟩,fun ⟨r',h⟩=>hbb.2 h.round⟩
       clear y0 y1 y2 y3 y4 y5 y6 y7 y8 y9 y10 y11 y12 y13 y14 y15 y16 HL6 hbb hb6
       go_wp2
       go_ret
       exact ⟨bb,rfl,HN.out,HB6.out⟩
   |false=>
    rw [hlog] at HC3
    go_enter Tryz.func28,Tryz.ntmps28
    go_wp2_with fail
    rw [←HW.out]
    refine Calls.mono HC1.out ?_
    rintro e w1 ⟨rfl,hw1⟩
    replace hw1:=hw1.symm
    subst hw1
    go_wp2_with fail
    refine Calls.mono HC2.out ?_
    rintro e w1 ⟨rfl,hw1⟩
    replace hw1:=hw1.symm
    subst hw1
    go_wp2_with fail
    refine Calls.mono HC3.out ?_
    rintro e w2 ⟨rfl,hb2⟩
    have HBw:Hid (Below w.heap.size w w2):=bW.trans (hb2.mono bW.size)
    clear y0 y1 y2 y3 y4 y5 y6 y7 y8 y9 y10 y11 y12 y13 y14 y15 y16
    go_wp2
    go_ret
    exact Says.no (fun ⟨r,h⟩=>by have:=h.log;rw [hlog] at this;cases this) HBw.out
  ·rw [decide_eq_false hlim] at HC2
   go_enter Tryz.func28,Tryz.ntmps28
   go_wp2_with fail
   rw [←HW.out]
   refine Calls.mono HC1.out ?_
   rintro e w1 ⟨rfl,hw1⟩
   replace hw1:=hw1.symm
   subst hw1
   go_wp2_with fail
   refine Calls.mono HC2.out ?_
   rintro e w1 ⟨rfl,hw1⟩
   replace hw1:=hw1.symm
   subst hw1
   clear y0 y1 y2 y3 y4 y5 y6 y7 y8 y9 y10 y11 y12 y13 y14 y15 y16
   go_wp2
   go_ret
   exact Says.no (fun ⟨r,h⟩=>hlim h.lim) bW
 ·rw [decide_eq_false hwd] at HC1
  go_enter Tryz.func28,Tryz.ntmps28
  go_wp2_with fail
  rw [←HW.out]
  refine Calls.mono HC1.out ?_
  rintro e w1 ⟨rfl,hw1⟩
  replace hw1:=hw1.symm
  subst hw1
  clear y0 y1 y2 y3 y4 y5 y6 y7 y8 y9 y10 y11 y12 y13 y14 y15 y16
  go_wp2
  go_ret
  exact Says.no (fun ⟨r,h⟩=>hwd h.wd) bW
end Go.Proofs.YtpekbmegopfhfaaGreatDoor
namespace Go.Proofs.YtpekbmegopfhfaaGreatDoor
open Go.ChangeShapes Go.WideShapes Go.ChangeAt Go.RowKit
structure VMem (v:Vd):Prop where
 s:v.ss.length<=maxLen
 ss:∀s∈v.ss,s.size<=maxLen
 t:v.tt.length<=maxLen
 tt:∀s∈v.tt,s.size<=maxLen
 k:KMem v.ks
 p:PMem v.ps
 l:LMem v.ls
 q:v.qs.length<=maxLen
 qs:∀s∈v.qs,s.size<=maxLen
 m:v.ms.length<=maxLen
 ms:∀s∈v.ms,s.size<=maxLen
set_option maxHeartbeats 1000000 in
theorem szVault_any (v:Vd) (a:Va) (w:World) (hr:VRows w w.heap.size a v) (hm:VMem v):
 Calls Tryz.prog 27 #[.agg #[.int .i64 v.wd,.int .i64 v.lim,.slice a.sa v.ss.length a.sc,.slice a.ta v.tt.length a.tc,.int .i64 v.sw,.int .i64 v.now,.int .i64 v.given,.int .i64 v.births,.slice a.ka v.ks.length a.kc,.slice a.pa v.ps.length a.pc,.slice a.la v.ls.length a.lc,.int .i64 v.ph,.slice a.qa v.qs.length a.qc,.slice a.ma v.ms.length a.mc,.int .i64 v.top,.int .i64 v.at_,.int .i64 v.ro],.int .i64 1048576] w fun e w'=>∃r:Int,e=.returned (.int .i64 r)/\Below w.heap.size w w'/\(0<=r->VFit v):=by
 obtain ⟨W,hW⟩:∃W,W=w.alloc (.cells #[.int .i64 v.wd,.int .i64 v.lim,.slice a.sa v.ss.length a.sc,.slice a.ta v.tt.length a.tc,.int .i64 v.sw,.int .i64 v.now,.int .i64 v.given,.int .i64 v.births,.slice a.ka v.ks.length a.kc,.slice a.pa v.ps.length a.pc,.slice a.la v.ls.length a.lc,.int .i64 v.ph,.slice a.qa v.qs.length a.qc,.slice a.ma v.ms.length a.mc,.int .i64 v.top,.int .i64 v.at_,.int .i64 v.ro] 60):=⟨_,rfl⟩
 have bW:Below w.heap.size w W:=by rw [hW];exact (Below.refl _ _).alloc (Nat.le_refl _) _
 have xW:CellsAt W w.heap.size [.int .i64 v.wd,.int .i64 v.lim,.slice a.sa v.ss.length a.sc,.slice a.ta v.tt.length a.tc,.int .i64 v.sw,.int .i64 v.now,.int .i64 v.given,.int .i64 v.births,.slice a.ka v.ks.length a.kc,.slice a.pa v.ps.length a.pc,.slice a.la v.ls.length a.lc,.int .i64 v.ph,.slice a.qa v.qs.length a.qc,.slice a.ma v.ms.length a.mc,.int .i64 v.top,.int .i64 v.at_,.int .i64 v.ro]:=by rw [hW];exact CellsAt.new w [.int .i64 v.wd,.int .i64 v.lim,.slice a.sa v.ss.length a.sc,.slice a.ta v.tt.length a.tc,.int .i64 v.sw,.int .i64 v.now,.int .i64 v.given,.int .i64 v.births,.slice a.ka v.ks.length a.kc,.slice a.pa v.ps.length a.pc,.slice a.la v.ls.length a.lc,.int .i64 v.ph,.slice a.qa v.qs.length a.qc,.slice a.ma v.ms.length a.mc,.int .i64 v.top,.int .i64 v.at_,.int .i64 v.ro] 60
 have HX:Hid (∀X,Below W.heap.size W X->CellsAt X w.heap.size [.int .i64 v.wd,.int .i64 v.lim,.slice a.sa v.ss.length a.sc,.slice a.ta v.tt.length a.tc,.int .i64 v.sw,.int .i64 v.now,.int .i64 v.given,.int .i64 v.births,.slice a.ka v.ks.length a.kc,.slice a.pa v.ps.length a.pc,.slice a.la v.ls.length a.lc,.int .i64 v.ph,.slice a.qa v.qs.length a.qc,.slice a.ma v.ms.length a.mc,.int .i64 v.top,.int .i64 v.at_,.int .i64 v.ro]):=fun X hX=>CellsAt.below xW hX
 have HW:Hid _:=hW
 have HR:Hid (VRows w w.heap.size a v):=hr
 have HM:Hid (VMem v):=hm
 have hL:Calls Tryz.prog 18 #[.agg #[.slice a.sa v.ss.length a.sc,.slice a.ta v.tt.length a.tc],.int .i64 1048576] W fun e w'=>∃r:Int,e=.returned (.int .i64 r)/\Below W.heap.size W w'/\r<=1048576/\(0<=r->(v.ss.length:Int)+bulk v.ss+v.tt.length+bulk v.tt<=1048576):=by
  by_cases hfit:(v.ss.length:Int)+bulk v.ss+v.tt.length+bulk v.tt<=1048576
  ·refine (szLog_yes a.sa a.ta a.sc a.tc v.ss v.tt 1048576 W (hr.s.below' bW) (hr.t.below' bW) (by omega) hfit).mono ?_
   rintro e w' ⟨rfl,hb⟩
   exact ⟨_,rfl,hb,by omega,fun _=>hfit⟩
  ·refine (szLog_no a.sa a.ta a.sc a.tc v.ss v.tt 1048576 W (hr.s.below' bW) (hr.t.below' bW) hm.s hm.ss hm.t hm.tt (by omega) (by omega) (by omega)).mono ?_
   rintro e w' ⟨rfl,hb⟩
   exact ⟨_,rfl,hb,by omega,fun h=>by omega⟩
 have HL:Hid _:=hL
 obtain ⟨y0,y1,y2,y3,y4,y5,y6,y7,y8,y9,y10,y11,y12,y13,y14,y15,y16⟩:=c17 xW
 clear hW xW hr hm hL
 go_enter Tryz.func27,Tryz.ntmps27
 go_wp2_with fail
 rw [←HW.out]
 refine Calls.mono HL.out ?_
 rintro e w1 ⟨r1,rfl,hb1,hr1,hf1⟩
 have HB1:Hid (Below W.heap.size W w1):=hb1
 have HBw:Hid (Below w.heap.size w w1):=bW.trans (hb1.mono bW.size)
 clear y0 y1 y2 y3 y4 y5 y6 y7 y8 y9 y10 y11 y12 y13 y14 y15 y16 hb1 HL HW
 by_cases n1:r1<0
 ·go_wp2
  go_ret
  exact ⟨_,rfl,HBw.out,fun h=>by omega⟩
 ·have HF1:Hid ((v.ss.length:Int)+bulk v.ss+v.tt.length+bulk v.tt<=1048576):=hf1 (by omega)
  obtain ⟨y0,y1,y2,y3,y4,y5,y6,y7,y8,y9,y10,y11,y12,y13,y14,y15,y16⟩:=c17 (HX.out w1 HB1.out)
  have HS:Hid _:=szState_le v.sw v.now v.given v.births a.ka a.pa a.la a.kc a.pc a.lc v.ks v.ps v.ls r1 w1 (HR.out.st.below' HBw.out) HM.out.k HM.out.p HM.out.l (by omega) (by omega)
  clear hf1
  go_wp2_with fail
  refine Calls.mono HS.out ?_
  rintro e w2 ⟨r2,rfl,hb2,hr2,hf2⟩
  have HB2:Hid (Below W.heap.size W w2):=HB1.out.trans (hb2.mono HB1.out.size)
  have HBw2:Hid (Below w.heap.size w w2):=HBw.out.trans (hb2.mono HBw.out.size)
  clear y0 y1 y2 y3 y4 y5 y6 y7 y8 y9 y10 y11 y12 y13 y14 y15 y16 hb2 HS
  by_cases n2:r2<0
  ·go_wp2
   go_ret
   exact ⟨_,rfl,HBw2.out,fun h=>by omega⟩
  ·have HF2:Hid (SFit v.ks v.ps v.ls):=hf2 (by omega)
   obtain ⟨y0,y1,y2,y3,y4,y5,y6,y7,y8,y9,y10,y11,y12,y13,y14,y15,y16⟩:=c17 (HX.out w2 HB2.out)
   have HR2:Hid _:=szRound_any v.ph v.top v.at_ v.ro a.qa a.ma a.qc a.mc v.qs v.ms r2 w2 (HR.out.q.below' HBw2.out) (HR.out.m.below' HBw2.out) HM.out.q HM.out.qs HM.out.m HM.out.ms (by omega) (by omega)
   clear hf2
   go_wp2_with fail
   refine Calls.mono HR2.out ?_
   rintro e w3 ⟨r3,rfl,hb3,hf3⟩
   have HBw3:Hid (Below w.heap.size w w3):=HBw2.out.trans (hb3.mono HBw2.out.size)
   have HF3:Hid (0<=r3->VFit v):=fun h=>by
    have h1:=HF1.out
    refine ⟨by omega,by omega,fun s hs=> ?_,fun s hs=> ?_,HF2.out,hf3 h⟩
    ·obtain ⟨i,hi⟩:=List.getElem?_of_mem hs
     have:=le_bulk v.ss i s hi
     omega
    ·obtain ⟨i,hi⟩:=List.getElem?_of_mem hs
     have:=le_bulk v.tt i s hi
     omega
   clear y0 y1 y2 y3 y4 y5 y6 y7 y8 y9 y10 y11 y12 y13 y14 y15 y16 hb3 HR2 hf3
   by_cases n3:r3<0
   ·go_wp2
    go_ret
    exact ⟨_,rfl,HBw3.out,fun h=>by omega⟩
   ·go_wp2
    go_ret
    exact ⟨_,rfl,HBw3.out,HF3.out⟩
set_option maxHeartbeats 2000000 in
theorem eqVault_yes (v:Vd) (a b:Va) (w:World) (hr:VRows w w.heap.size a v) (hq:VRows w w.heap.size b v) (hf:VFit v):
 Calls Tryz.prog 22 #[.agg #[.int .i64 v.wd,.int .i64 v.lim,.slice a.sa v.ss.length a.sc,.slice a.ta v.tt.length a.tc,.int .i64 v.sw,.int .i64 v.now,.int .i64 v.given,.int .i64 v.births,.slice a.ka v.ks.length a.kc,.slice a.pa v.ps.length a.pc,.slice a.la v.ls.length a.lc,.int .i64 v.ph,.slice a.qa v.qs.length a.qc,.slice a.ma v.ms.length a.mc,.int .i64 v.top,.int .i64 v.at_,.int .i64 v.ro],.agg #[.int .i64 v.wd,.int .i64 v.lim,.slice b.sa v.ss.length b.sc,.slice b.ta v.tt.length b.tc,.int .i64 v.sw,.int .i64 v.now,.int .i64 v.given,.int .i64 v.births,.slice b.ka v.ks.length b.kc,.slice b.pa v.ps.length b.pc,.slice b.la v.ls.length b.lc,.int .i64 v.ph,.slice b.qa v.qs.length b.qc,.slice b.ma v.ms.length b.mc,.int .i64 v.top,.int .i64 v.at_,.int .i64 v.ro]] w fun e w'=>e=.returned (.bool true)/\Below w.heap.size w w':=by
 obtain ⟨W,hW⟩:∃W,W=(w.alloc (.cells #[.int .i64 v.wd,.int .i64 v.lim,.slice a.sa v.ss.length a.sc,.slice a.ta v.tt.length a.tc,.int .i64 v.sw,.int .i64 v.now,.int .i64 v.given,.int .i64 v.births,.slice a.ka v.ks.length a.kc,.slice a.pa v.ps.length a.pc,.slice a.la v.ls.length a.lc,.int .i64 v.ph,.slice a.qa v.qs.length a.qc,.slice a.ma v.ms.length a.mc,.int .i64 v.top,.int .i64 v.at_,.int .i64 v.ro] 44)).alloc (.cells #[.int .i64 v.wd,.int .i64 v.lim,.slice b.sa v.ss.length b.sc,.slice b.ta v.tt.length b.tc,.int .i64 v.sw,.int .i64 v.now,.int .i64 v.given,.int .i64 v.births,.slice b.ka v.ks.length b.kc,.slice b.pa v.ps.length b.pc,.slice b.la v.ls.length b.lc,.int .i64 v.ph,.slice b.qa v.qs.length b.qc,.slice b.ma v.ms.length b.mc,.int .i64 v.top,.int .i64 v.at_,.int .i64 v.ro] 44):=⟨_,rfl⟩
 have bW:Below w.heap.size w W:=by rw [hW];exact ((Below.refl _ _).alloc (Nat.le_refl _) _).alloc (by simp) _
 have x0:CellsAt W w.heap.size [.int .i64 v.wd,.int .i64 v.lim,.slice a.sa v.ss.length a.sc,.slice a.ta v.tt.length a.tc,.int .i64 v.sw,.int .i64 v.now,.int .i64 v.given,.int .i64 v.births,.slice a.ka v.ks.length a.kc,.slice a.pa v.ps.length a.pc,.slice a.la v.ls.length a.lc,.int .i64 v.ph,.slice a.qa v.qs.length a.qc,.slice a.ma v.ms.length a.mc,.int .i64 v.top,.int .i64 v.at_,.int .i64 v.ro]:=by rw [hW];exact CellsAt.below (CellsAt.new w _ 44) ((Below.refl _ _).alloc (Nat.le_refl _) _)
 have x1:CellsAt W (w.heap.size+1) [.int .i64 v.wd,.int .i64 v.lim,.slice b.sa v.ss.length b.sc,.slice b.ta v.tt.length b.tc,.int .i64 v.sw,.int .i64 v.now,.int .i64 v.given,.int .i64 v.births,.slice b.ka v.ks.length b.kc,.slice b.pa v.ps.length b.pc,.slice b.la v.ls.length b.lc,.int .i64 v.ph,.slice b.qa v.qs.length b.qc,.slice b.ma v.ms.length b.mc,.int .i64 v.top,.int .i64 v.at_,.int .i64 v.ro]:=by
  have h1:=CellsAt.new (w.alloc (.cells #[.int .i64 v.wd,.int .i64 v.lim,.slice a.sa v.ss.length a.sc,.slice a.ta v.tt.length a.tc,.int .i64 v.sw,.int .i64 v.now,.int .i64 v.given,.int .i64 v.births,.slice a.ka v.ks.length a.kc,.slice a.pa v.ps.length a.pc,.slice a.la v.ls.length a.lc,.int .i64 v.ph,.slice a.qa v.qs.length a.qc,.slice a.ma v.ms.length a.mc,.int .i64 v.top,.int .i64 v.at_,.int .i64 v.ro] 44)) [.int .i64 v.wd,.int .i64 v.lim,.slice b.sa v.ss.length b.sc,.slice b.ta v.tt.length b.tc,.int .i64 v.sw,.int .i64 v.now,.int .i64 v.given,.int .i64 v.births,.slice b.ka v.ks.length b.kc,.slice b.pa v.ps.length b.pc,.slice b.la v.ls.length b.lc,.int .i64 v.ph,.slice b.qa v.qs.length b.qc,.slice b.ma v.ms.length b.mc,.int .i64 v.top,.int .i64 v.at_,.int .i64 v.ro] 44
  rw [World.size_alloc] at h1
  rw [hW]
  exact h1
 have HX:Hid (∀X,Below W.heap.size W X->CellsAt X w.heap.size [.int .i64 v.wd,.int .i64 v.lim,.slice a.sa v.ss.length a.sc,.slice a.ta v.tt.length a.tc,.int .i64 v.sw,.int .i64 v.now,.int .i64 v.given,.int .i64 v.births,.slice a.ka v.ks.length a.kc,.slice a.pa v.ps.length a.pc,.slice a.la v.ls.length a.lc,.int .i64 v.ph,.slice a.qa v.qs.length a.qc,.slice a.ma v.ms.length a.mc,.int .i64 v.top,.int .i64 v.at_,.int .i64 v.ro]/\CellsAt X (w.heap.size+1) [.int .i64 v.wd,.int .i64 v.lim,.slice b.sa v.ss.length b.sc,.slice b.ta v.tt.length b.tc,.int .i64 v.sw,.int .i64 v.now,.int .i64 v.given,.int .i64 v.births,.slice b.ka v.ks.length b.kc,.slice b.pa v.ps.length b.pc,.slice b.la v.ls.length b.lc,.int .i64 v.ph,.slice b.qa v.qs.length b.qc,.slice b.ma v.ms.length b.mc,.int .i64 v.top,.int .i64 v.at_,.int .i64 v.ro]):=fun X hX=>⟨CellsAt.below x0 hX,CellsAt.below x1 hX⟩
 have HR:Hid _:=And.intro (hr.below' bW) (hq.below' bW)
 have HW:Hid _:=hW
 obtain ⟨y0,y1,y2,y3,y4,y5,y6,y7,y8,y9,y10,y11,y12,y13,y14,y15,y16⟩:=c17 x0
 obtain ⟨z0,z1,z2,z3,z4,z5,z6,z7,z8,z9,z10,z11,z12,z13,z14,z15,z16⟩:=c17 x1
 clear hW x0 x1 hr hq
 have HL:Hid _:=eqLog_yes a.sa a.ta b.sa b.ta a.sc a.tc b.sc b.tc v.ss v.tt W HR.out.1.s HR.out.1.t HR.out.2.s HR.out.2.t hf.s hf.t
 go_enter Tryz.func22,Tryz.ntmps22
 go_upto_region 1 with fail
 rw [←HW.out]
 clear HW
 go_wp2_with fail
 refine Calls.mono HL.out ?_
 rintro e w1 ⟨rfl,hb1⟩
 have HB1:Hid (Below W.heap.size W w1):=hb1
 clear y0 y1 y2 y3 y4 y5 y6 y7 y8 y9 y10 y11 y12 y13 y14 y15 y16 z0 z1 z2 z3 z4 z5 z6 z7 z8 z9 z10 z11 z12 z13 z14 z15 z16 hb1 HL
 obtain ⟨y0,y1,y2,y3,y4,y5,y6,y7,y8,y9,y10,y11,y12,y13,y14,y15,y16⟩:=c17 (HX.out w1 HB1.out).1
 obtain ⟨z0,z1,z2,z3,z4,z5,z6,z7,z8,z9,z10,z11,z12,z13,z14,z15,z16⟩:=c17 (HX.out w1 HB1.out).2
 have HS:Hid _:=eqState_yes v.sw v.now v.given v.births a.ka a.pa a.la b.ka b.pa b.la a.kc a.pc a.lc b.kc b.pc b.lc v.ks v.ps v.ls w1 (HR.out.1.st.below' HB1.out) (HR.out.2.st.below' HB1.out) hf.st
 go_wp2_with fail
 refine Calls.mono HS.out ?_
 rintro e w2 ⟨rfl,hb2⟩
 have HB2:Hid (Below W.heap.size W w2):=HB1.out.trans (hb2.mono HB1.out.size)
 clear y0 y1 y2 y3 y4 y5 y6 y7 y8 y9 y10 y11 y12 y13 y14 y15 y16 z0 z1 z2 z3 z4 z5 z6 z7 z8 z9 z10 z11 z12 z13 z14 z15 z16 hb2 HS
 obtain ⟨y0,y1,y2,y3,y4,y5,y6,y7,y8,y9,y10,y11,y12,y13,y14,y15,y16⟩:=c17 (HX.out w2 HB2.out).1
 obtain ⟨z0,z1,z2,z3,z4,z5,z6,z7,z8,z9,z10,z11,z12,z13,z14,z15,z16⟩:=c17 (HX.out w2 HB2.out).2
 have HQ:Hid _:=eqRound_yes v.ph v.top v.at_ v.ro a.qa a.ma b.qa b.ma a.qc a.mc b.qc b.mc v.qs v.ms w2 (HR.out.1.q.below' HB2.out) (HR.out.1.m.below' HB2.out) (HR.out.2.q.below' HB2.out) (HR.out.2.m.below' HB2.out) hf.r
 go_wp2_with fail
 refine Calls.mono HQ.out ?_
 rintro e w3 ⟨rfl,hb3⟩
 have HB3:Hid (Below w.heap.size w w3):=bW.trans ((HB2.out.trans (hb3.mono HB2.out.size)).mono bW.size)
 clear y0 y1 y2 y3 y4 y5 y6 y7 y8 y9 y10 y11 y12 y13 y14 y15 y16 z0 z1 z2 z3 z4 z5 z6 z7 z8 z9 z10 z11 z12 z13 z14 z15 z16 hb3 HQ
 go_wp2
 go_ret
 exact ⟨rfl,HB3.out⟩
end Go.Proofs.YtpekbmegopfhfaaGreatDoor
