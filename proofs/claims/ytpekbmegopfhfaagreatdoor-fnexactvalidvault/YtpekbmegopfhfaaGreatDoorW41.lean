import Derived.Test.YtpekbmegopfhfaaGreatDoorW39
import Derived.Test.YtpekbmegopfhfaaGreatDoorW33
import Derived.Test.YtpekbmegopfhfaaGreatDoorW36
import Derived.Test.YtpekbmegopfhfaaGreatDoorW40
import Derived.Test.YtpekbmegopfhfaaGreatDoorW37
import Derived.Test.YtpekbmegopfhfaaGreatDoorW32
import Derived.Deep.RegionWith
import Derived.Deep.DeepCutAuto
import Derived.Deep.RegionHeld3
namespace Go.Proofs.YtpekbmegopfhfaaGreatDoor
open Go.ChangeShapes Go.WideShapes Go.ChangeAt Go.RowKit
theorem CellsAt.mid {w:World} {B:Nat} (l1 l2 l3:List Value) (h:CellsAt w B (l1++(l2++l3))):w.rangeAt B l1.length l2:=fun j v hv=>by
 refine (h (l1.length+j) v ?_).1
 rw [List.getElem?_append_right (by omega),Nat.add_sub_cancel_left,List.getElem?_append_left (List.getElem?_eq_some_iff.1 hv).1]
 exact hv
theorem ilimit_any (n:Int) (w:World):
 Calls Tryz.prog 56 #[.int .i64 n] w fun e w'=>e=.returned (.bool (decide (0<=n/\n<=1000000)))/\w'=w:=by
 by_cases h1:0<=n
 ·by_cases h2:n<=1000000
  ·go_enter Tryz.func56,Tryz.ntmps56
   go_wp2
   go_ret
   exact ⟨ret_b (by simp [h1,h2]),rfl⟩
  ·have h2':decide (n<=1000000)=false:=by simpa using h2
   go_enter Tryz.func56,Tryz.ntmps56
   go_wp2
   go_ret
   exact ⟨rfl,rfl⟩
 ·have h1':decide (0<=n)=false:=by simpa using h1
  go_enter Tryz.func56,Tryz.ntmps56
  go_wp2
  go_ret
  exact ⟨rfl,rfl⟩
structure Desk (w:World) (lo k d m base:Nat) (O P L:Value) (v:Vd) (a:Va) (r:Rs):Prop where
 box:CellsAt w k [.int .i32 0,.int .u32 0,.int .i64 v.wd,.int .i64 v.lim,.slice a.sa v.ss.length a.sc,.slice a.ta v.tt.length a.tc,.int .i64 v.sw,.int .i64 v.now,.int .i64 v.given,.int .i64 v.births,.slice a.ka v.ks.length a.kc,.slice a.pa v.ps.length a.pc,.slice a.la v.ls.length a.lc,.int .i64 v.ph,.slice a.qa v.qs.length a.qc,.slice a.ma v.ms.length a.mc,.int .i64 v.top,.int .i64 v.at_,.int .i64 v.ro,.pointer (some ⟨d,0,none⟩)]
 dr:Dr w base d m O P L v.wd r.now r.given r.births r.ks r.ps r.ls
 hlo:lo<=base
 hlk:lo<=k
 lt:∀b∈vB d m O P L,b<k
def Rpl (w w':World) (v:Vd) (p:Value) (n:Int):Prop:=
 (∃k:Nat,RunNo v.wd (v.ss++v.tt) k/\p=.pointer none/\n=k)∨(∃r d m O P L base,Run v.wd r0 (v.ss++v.tt) r/\p=.pointer (some ⟨d,0,none⟩)/\n=0/\Dr w' base d m O P L v.wd r.now r.given r.births r.ks r.ps r.ls/\w.heap.size<=base)
set_option maxRecDepth 100000 in
set_option maxHeartbeats 8000000 in
theorem deskOf_any (v:Vd) (a:Va) (w:World) (hr:VRows w w.heap.size a v) (hf:VFit v) (hE:Env w):
 Calls Tryz.prog 71 #[.agg #[.int .i64 v.wd,.int .i64 v.lim,.slice a.sa v.ss.length a.sc,.slice a.ta v.tt.length a.tc,.int .i64 v.sw,.int .i64 v.now,.int .i64 v.given,.int .i64 v.births,.slice a.ka v.ks.length a.kc,.slice a.pa v.ps.length a.pc,.slice a.la v.ls.length a.lc,.int .i64 v.ph,.slice a.qa v.qs.length a.qc,.slice a.ma v.ms.length a.mc,.int .i64 v.top,.int .i64 v.at_,.int .i64 v.ro]] w fun e w'=>Below w.heap.size w w'/\((¬VOk v/\e=.returned (.tuple #[.pointer none,.bool false]))∨(∃r k d m O P L base,VaultOk v r/\e=.returned (.tuple #[.pointer (some ⟨k,0,none⟩),.bool true])/\Desk w' w.heap.size k d m base O P L v a r)):=by
 obtain ⟨W,hW⟩:∃W,W=w.alloc (.cells #[.int .i64 v.wd,.int .i64 v.lim,.slice a.sa v.ss.length a.sc,.slice a.ta v.tt.length a.tc,.int .i64 v.sw,.int .i64 v.now,.int .i64 v.given,.int .i64 v.births,.slice a.ka v.ks.length a.kc,.slice a.pa v.ps.length a.pc,.slice a.la v.ls.length a.lc,.int .i64 v.ph,.slice a.qa v.qs.length a.qc,.slice a.ma v.ms.length a.mc,.int .i64 v.top,.int .i64 v.at_,.int .i64 v.ro] 44):=⟨_,rfl⟩
 have bW:Below w.heap.size w W:=by rw [hW];exact (Below.refl _ _).alloc (Nat.le_refl _) _
 have zW:W.heap.size=w.heap.size+1:=by rw [hW];simp
 have xW:CellsAt W w.heap.size [.int .i64 v.wd,.int .i64 v.lim,.slice a.sa v.ss.length a.sc,.slice a.ta v.tt.length a.tc,.int .i64 v.sw,.int .i64 v.now,.int .i64 v.given,.int .i64 v.births,.slice a.ka v.ks.length a.kc,.slice a.pa v.ps.length a.pc,.slice a.la v.ls.length a.lc,.int .i64 v.ph,.slice a.qa v.qs.length a.qc,.slice a.ma v.ms.length a.mc,.int .i64 v.top,.int .i64 v.at_,.int .i64 v.ro]:=by rw [hW];exact CellsAt.new w [.int .i64 v.wd,.int .i64 v.lim,.slice a.sa v.ss.length a.sc,.slice a.ta v.tt.length a.tc,.int .i64 v.sw,.int .i64 v.now,.int .i64 v.given,.int .i64 v.births,.slice a.ka v.ks.length a.kc,.slice a.pa v.ps.length a.pc,.slice a.la v.ls.length a.lc,.int .i64 v.ph,.slice a.qa v.qs.length a.qc,.slice a.ma v.ms.length a.mc,.int .i64 v.top,.int .i64 v.at_,.int .i64 v.ro] 44
 have HX:Hid (CellsAt W w.heap.size [.int .i64 v.wd,.int .i64 v.lim,.slice a.sa v.ss.length a.sc,.slice a.ta v.tt.length a.tc,.int .i64 v.sw,.int .i64 v.now,.int .i64 v.given,.int .i64 v.births,.slice a.ka v.ks.length a.kc,.slice a.pa v.ps.length a.pc,.slice a.la v.ls.length a.lc,.int .i64 v.ph,.slice a.qa v.qs.length a.qc,.slice a.ma v.ms.length a.mc,.int .i64 v.top,.int .i64 v.at_,.int .i64 v.ro]):=xW
 have HR:Hid (VRows w w.heap.size a v):=hr
 have HW:Hid _:=hW
 have HC1:Hid _:=iwidth_any v.wd W
 have HC2:Hid _:=ilimit_any v.lim W
 have HC3:Hid _:=iValidLog_any a.sa a.ta a.sc a.tc v.ss v.tt W (hr.s.below' bW) (hr.t.below' bW) hf.s hf.t hf.ss hf.tt
 obtain ⟨y0,y1,y2,y3,y4,y5,y6,y7,y8,y9,y10,y11,y12,y13,y14,y15,y16⟩:=c17 xW
 clear hW xW hr
 by_cases hwd:1<=v.wd/\v.wd<=8
 ·rw [decide_eq_true hwd] at HC1
  by_cases hlim:0<=v.lim/\v.lim<=1000000
  ·rw [decide_eq_true hlim] at HC2
   cases hlog:okLog v.ss v.tt with
   |true=>
    rw [hlog] at HC3
    have hll:=okLog_le hlog
    have hl1:v.ss.length<=4000:=by rw [List.length_append] at hll;omega
    have hl2:v.tt.length<=4000:=by rw [List.length_append] at hll;omega
    have HD:Hid (∀X,Calls Tryz.prog 58 #[.agg #[.slice a.sa v.ss.length a.sc,.slice a.ta v.tt.length a.tc]] X fun e w'=>e=.returned (.agg #[.slice a.sa v.ss.length a.sc,.slice a.ta v.tt.length a.tc])/\Below X.heap.size X w'):=fun X=>diskOf_any a.sa a.ta v.ss.length v.tt.length a.sc a.tc X
    have HP:Hid (∀X,Below w.heap.size w X->Calls Tryz.prog 45 #[.int .i64 v.wd,.func (.func 59) #[.agg #[.slice a.sa v.ss.length a.sc,.slice a.ta v.tt.length a.tc]] #[]] X fun e w'=>∃p n,e=.returned (.tuple #[p,.int .i64 n])/\Hid (Rpl X w' v p n)/\Below X.heap.size X w'):=fun X hX=>by
     refine (replay_any v.wd 59 #[.agg #[.slice a.sa v.ss.length a.sc,.slice a.ta v.tt.length a.tc]] #[] (v.ss++v.tt) X hwd.1 hwd.2 (by omega) (fun s hs=>by rcases List.mem_append.1 hs with h|h;exact hf.ss s h;exact hf.tt s h) (hE.below hX) (enters_of Tryz.func59 (by kernel_rfl) rfl) (fun V hV=>by
      have hb:=hX.trans (hV.mono hX.size)
      have h1:=all_iter a.sa a.ta a.sc a.tc v.ss v.tt X.heap.size V ((HR.out.s.below hb).mono hX.size) ((HR.out.t.below hb).mono hX.size) hV.size (by unfold maxLen;omega) (by unfold maxLen;omega)
      simpa using h1)).mono ?_
     rintro e w' ⟨hb,⟨n,hno,rfl⟩|⟨r,d,m,O,P,L,base,hrun,rfl,hdr,hbase⟩⟩
     ·exact ⟨_,_,rfl,.inl ⟨n,hno,rfl,rfl⟩,hb⟩
     ·exact ⟨_,_,rfl,.inr ⟨r,d,m,O,P,L,base,hrun,rfl,rfl,hdr,hbase⟩,hb⟩
    clear hE
    go_enter Tryz.func71,Tryz.ntmps71
    go_wp2_with fail
    rw [←HW.out]
    refine Calls.mono HC1.out ?_
    rintro e w1 ⟨rfl,hw1⟩
    replace hw1:=hw1.symm
    subst hw1
    go_wp2_with fail
    refine Calls.mono HC2.out ?_
    rintro e w1 ⟨rfl,hw1⟩
    replace hw1:=hw1.symm
    subst hw1
    go_wp2_with fail
    refine Calls.mono HC3.out ?_
    rintro e w2 ⟨rfl,hb2⟩
    have x2:=CellsAt.below HX.out hb2
    have z2:w.heap.size+1<=w2.heap.size:=by have:=hb2.size;omega
    have HX2:Hid (CellsAt w2 w.heap.size [.int .i64 v.wd,.int .i64 v.lim,.slice a.sa v.ss.length a.sc,.slice a.ta v.tt.length a.tc,.int .i64 v.sw,.int .i64 v.now,.int .i64 v.given,.int .i64 v.births,.slice a.ka v.ks.length a.kc,.slice a.pa v.ps.length a.pc,.slice a.la v.ls.length a.lc,.int .i64 v.ph,.slice a.qa v.qs.length a.qc,.slice a.ma v.ms.length a.mc,.int .i64 v.top,.int .i64 v.at_,.int .i64 v.ro]):=x2
    have HBw:Hid (Below w.heap.size w w2):=bW.trans (hb2.mono bW.size)
    clear y0 y1 y2 y3 y4 y5 y6 y7 y8 y9 y10 y11 y12 y13 y14 y15 y16 HC1 HC2 HC3 hb2 HW
    obtain ⟨y0,y1,y2,y3,_⟩:=c17 x2
    clear x2
    go_upto_region 3 with fail
    generalize (.agg #[.int .i64 v.wd,.int .i64 v.lim,.slice a.sa v.ss.length a.sc,.slice a.ta v.tt.length a.tc,.int .i64 v.sw,.int .i64 v.now,.int .i64 v.given,.int .i64 v.births,.slice a.ka v.ks.length a.kc,.slice a.pa v.ps.length a.pc,.slice a.la v.ls.length a.lc,.int .i64 v.ph,.slice a.qa v.qs.length a.qc,.slice a.ma v.ms.length a.mc,.int .i64 v.top,.int .i64 v.at_,.int .i64 v.ro]:Value)=dv0
    go_cut [4,5] (fun p u wx=>∃n:Int,u=.int .i64 n/\Hid (Rpl w wx v p n/\Below w2.heap.size w2 wx))
    case first=>
     go_region_with (first
      |(go_at_call 58;refine (HD.out w2.drew).mono ?_;rintro e w3 ⟨rfl,hw3⟩;have h23:Below w2.heap.size w2 w3:=(Below.refl w2.heap.size w2).drew.trans hw3;obtain ⟨u0,u1,u2,u3,_⟩:=c17 (CellsAt.below HX2.out h23);have hB3:=HBw.out.trans (h23.mono HBw.out.size))
      |(go_at_call 45;refine (HP.out w3 hB3).mono ?_;rintro e w4 ⟨p,n,rfl,hR4,hw4⟩;have h24:=h23.trans (hw4.mono h23.size)))
     all_goals
      go_wp2_with fail
      go_meet
      refine ⟨n,rfl,?_,h24⟩
      rcases hR4.out with h|⟨r,d,m,O,P,L,base,q1,q2,q3,q4,q5⟩
      ·exact .inl h
      ·exact .inr ⟨r,d,m,O,P,L,base,q1,q2,q3,q4,Nat.le_trans hB3.size q5⟩
    case rest=>
     clear y0 y1 y2 y3 HD HP
     obtain ⟨n,rfl,HQ⟩:=hcut
     have HXc:Hid _:=CellsAt.below HX2.out HQ.out.2
     have HBc:Hid (Below w.heap.size w wc):=HBw.out.trans (HQ.out.2.mono HBw.out.size)
     rcases HQ.out.1 with ⟨k,hno,hp,hn⟩|⟨r,d,m,O,P,L,base,hrun,hp,hn,hdr,hbase⟩
     ·subst hp hn
      have hn1:0<(k:Int):=by obtain ⟨j,_,_,rfl,_⟩:=hno;omega
      have hn2:0<k:=by omega
      have hn3:decide (0<k)=true:=decide_eq_true hn2
      have HNo:Hid (¬VOk v):=fun ⟨r,h⟩=>RunNo.not hwd.1 hwd.2 hno h.run
      clear hno HQ
      go_upto_region 4 with fail
      go_region
      all_goals go_wp2
      all_goals refine bodyPost_ret (v:=.tuple #[.pointer none,.bool false]) (by simp [results,Tryz.results71,go_sem]) rfl ?_
      all_goals exact ⟨HBc.out.drew,.inl ⟨HNo.out,rfl⟩⟩
     ·subst hp hn
      have hro:=hrun.ok (r0_ok hwd.1 hwd.2)
      have HRun:Hid (Run v.wd r0 (v.ss++v.tt) r):=hrun
      have HDr:Hid (∀X,Below wc.heap.size wc X->Dr X base d m O P L v.wd r.now r.given r.births r.ks r.ps r.ls):=fun X hX=>hdr.below hX
      have HBase:Hid (w.heap.size<=base):=hbase
      have HSt:Hid (∀X,Below wc.heap.size wc X->Calls Tryz.prog 47 #[.pointer (some ⟨d,0,none⟩)] X fun e w'=>∃(ta:Option Addr) (tc:Nat) (pa:Option Addr) (pc:Nat) (la:Option Addr) (lc:Nat),e=.returned (.agg #[.int .i64 v.wd,.int .i64 r.now,.int .i64 r.given,.int .i64 r.births,.slice ta r.ks.length tc,.slice pa r.ps.length pc,.slice la r.ls.length lc])/\SRows w' w'.heap.size ta pa la r.ks r.ps r.ls/\Below X.heap.size X w'):=fun X hX=>by
       refine (state_any base d m O P L v.wd r.now r.given r.births r.ks r.ps r.ls X (hdr.below hX) hro.kso.nd hro.kso.sz hro.kso.len hro.np hro.nl hro.r30).mono ?_
       rintro e w' ⟨T,P',L',rs,rfl,hS,hb⟩
       obtain ⟨ta,tc,pa,pc,la,lc,rfl,rfl,rfl,hg⟩:=hS.rows
       exact ⟨ta,tc,pa,pc,la,lc,rfl,hg,hb⟩
      have HSm:Hid (∀(X:World) (ta pa la:Option Addr) (tc pc lc:Nat),Below w.heap.size w X->SRows X X.heap.size ta pa la r.ks r.ps r.ls->Calls Tryz.prog 119 #[.agg #[.int .i64 v.wd,.int .i64 r.now,.int .i64 r.given,.int .i64 r.births,.slice ta r.ks.length tc,.slice pa r.ps.length pc,.slice la r.ls.length lc],.agg #[.int .i64 v.sw,.int .i64 v.now,.int .i64 v.given,.int .i64 v.births,.slice a.ka v.ks.length a.kc,.slice a.pa v.ps.length a.pc,.slice a.la v.ls.length a.lc]] X fun e w'=>Says ((v.wd=v.sw/\r.now=v.now/\r.given=v.given/\r.births=v.births)/\r.ks=v.ks/\r.ps=v.ps/\r.ls=v.ls) X w' e):=fun X ta pa la tc pc lc hX hS=>sameState_any v.wd r.now r.given r.births v.sw v.now v.given v.births ta pa la a.ka a.pa a.la tc pc lc a.kc a.pc a.lc r.ks v.ks r.ps v.ps r.ls v.ls X hS ((HR.out.st.keep hX).mono hX.size) ⟨by have:=hro.kso.len;omega,by have:=hro.np;omega,by have:=hro.nl;omega⟩ ⟨hf.st.k,hf.st.p,hf.st.l⟩ (fun k hk=>by have:=hro.r30 k hk;omega) hf.st.r
      have HRd:Hid (∀X,Below w.heap.size w X->Calls Tryz.prog 120 #[.agg #[.int .i64 v.ph,.slice a.qa v.qs.length a.qc,.slice a.ma v.ms.length a.mc,.int .i64 v.top,.int .i64 v.at_,.int .i64 v.ro],.int .i64 v.wd,.int .i64 r.births] X fun e w'=>Says (RoundOk v.wd r.births v.ph v.top v.at_ v.ro v.qs v.ms) X w' e):=fun X hX=>validRound_any v.ph v.top v.at_ v.ro v.wd r.births a.qa a.ma a.qc a.mc v.qs v.ms X (HR.out.q.below' hX) (HR.out.m.below' hX) hf.r hwd.2 hro.births1
      clear hrun hdr hbase hro HQ
      obtain ⟨y0,y1,y2,y3,y4,y5,y6,y7,y8,y9,y10,y11,y12,y13,y14,y15,y16⟩:=c17 HXc.out
      have HCc:Hid (∀X,Below wc.heap.size wc X->CellsAt X w.heap.size [.int .i64 v.wd,.int .i64 v.lim,.slice a.sa v.ss.length a.sc,.slice a.ta v.tt.length a.tc,.int .i64 v.sw,.int .i64 v.now,.int .i64 v.given,.int .i64 v.births,.slice a.ka v.ks.length a.kc,.slice a.pa v.ps.length a.pc,.slice a.la v.ls.length a.lc,.int .i64 v.ph,.slice a.qa v.qs.length a.qc,.slice a.ma v.ms.length a.mc,.int .i64 v.top,.int .i64 v.at_,.int .i64 v.ro]):=fun X hX=>CellsAt.below HXc.out hX
      have HSR:Hid (∀X,Below wc.heap.size wc X->X.cell? ⟨w.heap.size,4,none⟩=some (.int .i64 v.sw)/\X.cell? ⟨w.heap.size,5,none⟩=some (.int .i64 v.now)/\X.cell? ⟨w.heap.size,6,none⟩=some (.int .i64 v.given)/\X.cell? ⟨w.heap.size,7,none⟩=some (.int .i64 v.births)/\X.cell? ⟨w.heap.size,8,none⟩=some (.slice a.ka v.ks.length a.kc)/\X.cell? ⟨w.heap.size,9,none⟩=some (.slice a.pa v.ps.length a.pc)/\X.cell? ⟨w.heap.size,10,none⟩=some (.slice a.la v.ls.length a.lc)/\X.cell? ⟨w.heap.size,11,none⟩=some (.int .i64 v.ph)/\X.cell? ⟨w.heap.size,12,none⟩=some (.slice a.qa v.qs.length a.qc)/\X.cell? ⟨w.heap.size,13,none⟩=some (.slice a.ma v.ms.length a.mc)/\X.cell? ⟨w.heap.size,14,none⟩=some (.int .i64 v.top)/\X.cell? ⟨w.heap.size,15,none⟩=some (.int .i64 v.at_)/\X.cell? ⟨w.heap.size,16,none⟩=some (.int .i64 v.ro)/\X.cell? ⟨d,0,none⟩=some (.int .i64 v.wd)/\X.cell? ⟨d,4,none⟩=some (.int .i64 r.births)):=fun X hX=>by
       obtain ⟨n0,n1,n2,n3,n4,n5,n6,n7,n8,n9,n10,n11,n12,n13,n14,n15,n16⟩:=c17 (HCc.out X hX)
       exact ⟨n4,n5,n6,n7,n8,n9,n10,n11,n12,n13,n14,n15,n16,((HDr.out X hX).box 0 _ rfl).1,((HDr.out X hX).box 4 _ rfl).1⟩
      have HL:Hid (∀X,Below wc.heap.size wc X->Below w.heap.size w X):=fun X hX=>HBc.out.trans (hX.mono HBc.out.size)
      have D0:Below wc.heap.size wc wc.drew:=(Below.refl _ _).drew
      by_cases hP:(v.wd=v.sw/\r.now=v.now/\r.given=v.given/\r.births=v.births)/\r.ks=v.ks/\r.ps=v.ps/\r.ls=v.ls
      ·by_cases hQ:RoundOk v.wd r.births v.ph v.top v.at_ v.ro v.qs v.ms
       ·have HOk:Hid (VaultOk v r):=⟨hwd,hlim,hlog,HRun.out,hP,hP.1.2.2.2▸hQ⟩
        have HPP:Hid _:=hP
        have HQQ:Hid _:=hQ
        clear hP hQ
        go_upto_region 4 with fail
        generalize (.agg #[.int .i64 v.wd,.int .i64 v.lim,.slice a.sa v.ss.length a.sc,.slice a.ta v.tt.length a.tc,.int .i64 v.sw,.int .i64 v.now,.int .i64 v.given,.int .i64 v.births,.slice a.ka v.ks.length a.kc,.slice a.pa v.ps.length a.pc,.slice a.la v.ls.length a.lc,.int .i64 v.ph,.slice a.qa v.qs.length a.qc,.slice a.ma v.ms.length a.mc,.int .i64 v.top,.int .i64 v.at_,.int .i64 v.ro]:Value)=dv0
        go_cut [56] (fun u wx=>u=.bool false/\Hid (Below wc.heap.size wc wx))
        case first=>
         clear y0 y1 y2 y3 y4 y5 y6 y7 y8 y9 y10 y11 y12 y13 y14 y15 y16
         go_region_held3 (fun X=>X.cell? ⟨w.heap.size,4,none⟩=some (.int .i64 v.sw)/\X.cell? ⟨w.heap.size,5,none⟩=some (.int .i64 v.now)/\X.cell? ⟨w.heap.size,6,none⟩=some (.int .i64 v.given)/\X.cell? ⟨w.heap.size,7,none⟩=some (.int .i64 v.births)/\X.cell? ⟨w.heap.size,8,none⟩=some (.slice a.ka v.ks.length a.kc)/\X.cell? ⟨w.heap.size,9,none⟩=some (.slice a.pa v.ps.length a.pc)/\X.cell? ⟨w.heap.size,10,none⟩=some (.slice a.la v.ls.length a.lc)/\X.cell? ⟨w.heap.size,11,none⟩=some (.int .i64 v.ph)/\X.cell? ⟨w.heap.size,12,none⟩=some (.slice a.qa v.qs.length a.qc)/\X.cell? ⟨w.heap.size,13,none⟩=some (.slice a.ma v.ms.length a.mc)/\X.cell? ⟨w.heap.size,14,none⟩=some (.int .i64 v.top)/\X.cell? ⟨w.heap.size,15,none⟩=some (.int .i64 v.at_)/\X.cell? ⟨w.heap.size,16,none⟩=some (.int .i64 v.ro)/\X.cell? ⟨d,0,none⟩=some (.int .i64 v.wd)/\X.cell? ⟨d,4,none⟩=some (.int .i64 r.births))
          (first
            |with_reducible exact HSR.out _ D0
            |with_reducible exact HSR.out _ B5
            |with_reducible exact HSR.out _ B6
            |with_reducible exact HSR.out _ B7)
          (first
            |(go_at_call 47;refine Calls.mono (HSt.out wc.drew D0) ?_;rintro e w5 ⟨ta,tc,pa,pc,la,lc,rfl,hS5,hw5⟩;have B5:Below wc.heap.size wc w5:=D0.trans hw5)
            |(go_at_call 119;refine Calls.mono (HSm.out w5 ta pa la tc pc lc (HL.out _ B5) hS5) ?_;rintro e w6 ⟨bb,rfl,hbb,hw6⟩;have B6:=B5.trans (hw6.mono B5.size);clear hS5;obtain rfl:bb=true:=hbb.2 HPP.out;clear hbb)
            |(go_at_call 120;refine Calls.mono (HRd.out w6 (HL.out _ B6)) ?_;rintro e w7 ⟨cc,rfl,hcc,hw7⟩;have B7:=B6.trans (hw7.mono B6.size);obtain rfl:cc=true:=hcc.2 HQQ.out;clear hcc))
         all_goals (go_wp2_with fail;go_meet;exact ⟨rfl,B7⟩)
        case rest=>
         clear y0 y1 y2 y3 y4 y5 y6 y7 y8 y9 y10 y11 y12 y13 y14 y15 y16
         obtain ⟨rfl,HBX⟩:=hcut
         have hBx:Below w.heap.size w _:=HBc.out.trans (HBX.out.mono HBc.out.size)
         have HRng:Hid _:=(HCc.out _ HBX.out).range
         have HD':Hid _:=HDr.out _ HBX.out
         go_wp2_with (refine wpList_load_mid rfl 44 _ rfl w.heap.size 0 rfl [.int .i64 v.wd,.int .i64 v.lim,.slice a.sa v.ss.length a.sc,.slice a.ta v.tt.length a.tc,.int .i64 v.sw,.int .i64 v.now,.int .i64 v.given,.int .i64 v.births,.slice a.ka v.ks.length a.kc,.slice a.pa v.ps.length a.pc,.slice a.la v.ls.length a.lc,.int .i64 v.ph,.slice a.qa v.qs.length a.qc,.slice a.ma v.ms.length a.mc,.int .i64 v.top,.int .i64 v.at_,.int .i64 v.ro] _ HRng.out Tryz.underlying44 rfl (by kernel_rfl) ?_)
         refine bodyPost_ret (v:=.tuple #[.pointer (some ⟨wc.heap.size,0,none⟩),.bool true]) (by simp [results,Tryz.results71,go_sem]) rfl ?_
         refine ⟨hBx.alloc hBx.size _,.inr ⟨r,_,d,m,O,P,L,base,HOk.out,rfl,CellsAt.new _ [.int .i32 0,.int .u32 0,.int .i64 v.wd,.int .i64 v.lim,.slice a.sa v.ss.length a.sc,.slice a.ta v.tt.length a.tc,.int .i64 v.sw,.int .i64 v.now,.int .i64 v.given,.int .i64 v.births,.slice a.ka v.ks.length a.kc,.slice a.pa v.ps.length a.pc,.slice a.la v.ls.length a.lc,.int .i64 v.ph,.slice a.qa v.qs.length a.qc,.slice a.ma v.ms.length a.mc,.int .i64 v.top,.int .i64 v.at_,.int .i64 v.ro,.pointer (some ⟨d,0,none⟩)] 164,(HD'.out).below ((Below.refl _ _).alloc (Nat.le_refl _) _),HBase.out,hBx.size,fun b hb=>HD'.out.lts b hb⟩⟩
       ·have HNo:Hid (¬VOk v):=fun ⟨r',h⟩=>by
         obtain rfl:=HRun.out.det h.run
         exact hQ (by rw [hP.1.2.2.2];exact h.round)
        have HPP:Hid _:=hP
        have HQQ:Hid _:=hQ
        clear hP hQ
        go_upto_region 4 with fail
        generalize (.agg #[.int .i64 v.wd,.int .i64 v.lim,.slice a.sa v.ss.length a.sc,.slice a.ta v.tt.length a.tc,.int .i64 v.sw,.int .i64 v.now,.int .i64 v.given,.int .i64 v.births,.slice a.ka v.ks.length a.kc,.slice a.pa v.ps.length a.pc,.slice a.la v.ls.length a.lc,.int .i64 v.ph,.slice a.qa v.qs.length a.qc,.slice a.ma v.ms.length a.mc,.int .i64 v.top,.int .i64 v.at_,.int .i64 v.ro]:Value)=dv0
        go_cut [56] (fun u wx=>u=.bool true/\Hid (Below wc.heap.size wc wx))
        case first=>
         clear y0 y1 y2 y3 y4 y5 y6 y7 y8 y9 y10 y11 y12 y13 y14 y15 y16
         go_region_held3 (fun X=>X.cell? ⟨w.heap.size,4,none⟩=some (.int .i64 v.sw)/\X.cell? ⟨w.heap.size,5,none⟩=some (.int .i64 v.now)/\X.cell? ⟨w.heap.size,6,none⟩=some (.int .i64 v.given)/\X.cell? ⟨w.heap.size,7,none⟩=some (.int .i64 v.births)/\X.cell? ⟨w.heap.size,8,none⟩=some (.slice a.ka v.ks.length a.kc)/\X.cell? ⟨w.heap.size,9,none⟩=some (.slice a.pa v.ps.length a.pc)/\X.cell? ⟨w.heap.size,10,none⟩=some (.slice a.la v.ls.length a.lc)/\X.cell? ⟨w.heap.size,11,none⟩=some (.int .i64 v.ph)/\X.cell? ⟨w.heap.size,12,none⟩=some (.slice a.qa v.qs.length a.qc)/\X.cell? ⟨w.heap.size,13,none⟩=some (.slice a.ma v.ms.length a.mc)/\X.cell? ⟨w.heap.size,14,none⟩=some (.int .i64 v.top)/\X.cell? ⟨w.heap.size,15,none⟩=some (.int .i64 v.at_)/\X.cell? ⟨w.heap.size,16,none⟩=some (.int .i64 v.ro)/\X.cell? ⟨d,0,none⟩=some (.int .i64 v.wd)/\X.cell? ⟨d,4,none⟩=some (.int .i64 r.births))
          (first
            |with_reducible exact HSR.out _ D0
            |with_reducible exact HSR.out _ B5
            |with_reducible exact HSR.out _ B6
            |with_reducible exact HSR.out _ B7)
          (first
            |(go_at_call 47;refine Calls.mono (HSt.out wc.drew D0) ?_;rintro e w5 ⟨ta,tc,pa,pc,la,lc,rfl,hS5,hw5⟩;have B5:Below wc.heap.size wc w5:=D0.trans hw5)
            |(go_at_call 119;refine Calls.mono (HSm.out w5 ta pa la tc pc lc (HL.out _ B5) hS5) ?_;rintro e w6 ⟨bb,rfl,hbb,hw6⟩;have B6:=B5.trans (hw6.mono B5.size);clear hS5;obtain rfl:bb=true:=hbb.2 HPP.out;clear hbb)
            |(go_at_call 120;refine Calls.mono (HRd.out w6 (HL.out _ B6)) ?_;rintro e w7 ⟨cc,rfl,hcc,hw7⟩;have B7:=B6.trans (hw7.mono B6.size);obtain rfl:cc=false:=(by cases cc with|false=>rfl|true=>exact absurd (hcc.1 rfl) HQQ.out);clear hcc))
         all_goals (go_wp2_with fail;go_meet;exact ⟨rfl,B7⟩)
        case rest=>
         clear y0 y1 y2 y3 y4 y5 y6 y7 y8 y9 y10 y11 y12 y13 y14 y15 y16
         obtain ⟨rfl,HBX⟩:=hcut
         have hBx:Below w.heap.size w _:=HBc.out.trans (HBX.out.mono HBc.out.size)
         go_wp2
         refine bodyPost_ret (v:=.tuple #[.pointer none,.bool false]) (by simp [results,Tryz.results71,go_sem]) rfl ?_
         exact ⟨hBx,.inl ⟨HNo.out,rfl⟩⟩
      ·have HNo:Hid (¬VOk v):=fun ⟨r',h⟩=>by
        obtain rfl:=HRun.out.det h.run
        exact hP h.same
       have HPP:Hid _:=hP
       clear hP
       go_upto_region 4 with fail
       generalize (.agg #[.int .i64 v.wd,.int .i64 v.lim,.slice a.sa v.ss.length a.sc,.slice a.ta v.tt.length a.tc,.int .i64 v.sw,.int .i64 v.now,.int .i64 v.given,.int .i64 v.births,.slice a.ka v.ks.length a.kc,.slice a.pa v.ps.length a.pc,.slice a.la v.ls.length a.lc,.int .i64 v.ph,.slice a.qa v.qs.length a.qc,.slice a.ma v.ms.length a.mc,.int .i64 v.top,.int .i64 v.at_,.int .i64 v.ro]:Value)=dv0
       go_cut [56] (fun u wx=>u=.bool true/\Hid (Below wc.heap.size wc wx))
       case first=>
        clear y0 y1 y2 y3 y4 y5 y6 y7 y8 y9 y10 y11 y12 y13 y14 y15 y16
        have HSx:Hid (∀X,Below wc.heap.size wc X->X.rangeAt w.heap.size 4 [.int .i64 v.sw,.int .i64 v.now,.int .i64 v.given,.int .i64 v.births,.slice a.ka v.ks.length a.kc,.slice a.pa v.ps.length a.pc,.slice a.la v.ls.length a.lc]):=fun X hX=>CellsAt.mid [.int .i64 v.wd,.int .i64 v.lim,.slice a.sa v.ss.length a.sc,.slice a.ta v.tt.length a.tc] [.int .i64 v.sw,.int .i64 v.now,.int .i64 v.given,.int .i64 v.births,.slice a.ka v.ks.length a.kc,.slice a.pa v.ps.length a.pc,.slice a.la v.ls.length a.lc] [.int .i64 v.ph,.slice a.qa v.qs.length a.qc,.slice a.ma v.ms.length a.mc,.int .i64 v.top,.int .i64 v.at_,.int .i64 v.ro] (HCc.out X hX)
        refine wp_region_held_drew (S:=fun X=>X.rangeAt w.heap.size 4 [.int .i64 v.sw,.int .i64 v.now,.int .i64 v.given,.int .i64 v.births,.slice a.ka v.ks.length a.kc,.slice a.pa v.ps.length a.pc,.slice a.la v.ls.length a.lc]) (by kernel_rfl) (HSx.out _ D0) (fun hS=> ?_)
        refine wpAnyH_take (i:=0) (oi:={dst:=some 32,op:=Op.move (Operand.tmp 5),type:=3,pos:= "l7_vault.go:191",after:= #[],guard:=none}) (v:=.int .i64 0) rfl (by kernel_rfl) (by kernel_rfl) (by kernel_rfl) (fun _ _ _ h=>h) (Or.inl ⟨by rfl,fun _ _=>by go_simp⟩) hS ?_
        try simp only [Act.put,List.setIfInBounds_toArray,List.set_cons_zero,List.set_cons_succ]
        refine wpAnyH_take (i:=1) (oi:={dst:=some 33,op:=Op.binOp BinOp.gtr 3 (Operand.tmp 32) (Operand.const (Value.int IntKind.i64 0)) 3,type:=4,pos:= "l7_vault.go:191",after:= #[{on:=0,ground:=Ground.data}],guard:=none}) (v:=.bool false) rfl (by kernel_rfl) (by kernel_rfl) (by kernel_rfl) (fun _ _ _ h=>h) (Or.inl ⟨by rfl,fun _ _=>by go_simp⟩) hS ?_
        try simp only [Act.put,List.setIfInBounds_toArray,List.set_cons_zero,List.set_cons_succ]
        refine wpAnyH_take (i:=2) (oi:={dst:=some 34,op:=Op.move (Operand.tmp 33),type:=4,pos:= "l7_vault.go:191",after:= #[{on:=1,ground:=Ground.data}],guard:=none}) (v:=.bool false) rfl (by kernel_rfl) (by kernel_rfl) (by kernel_rfl) (fun _ _ _ h=>h) (Or.inl ⟨by rfl,fun _ _=>by go_simp⟩) hS ?_
        try simp only [Act.put,List.setIfInBounds_toArray,List.set_cons_zero,List.set_cons_succ]
        refine wpAnyH_take (i:=3) (oi:={dst:=some 35,op:=Op.move (Operand.tmp 4),type:=82,pos:= "l7_vault.go:191",after:= #[{on:=2,ground:=Ground.guard}],guard:=some (2,false)}) (v:=.pointer (some ⟨d,0,none⟩)) rfl (by kernel_rfl) (by kernel_rfl) (by kernel_rfl) (fun _ _ _ h=>h) (Or.inl ⟨by rfl,fun _ _=>by go_simp⟩) hS ?_
        try simp only [Act.put,List.setIfInBounds_toArray,List.set_cons_zero,List.set_cons_succ]
        refine wpAnyH_take (i:=5) (oi:={dst:=some 37,op:=Op.fieldAddr 44 (Operand.tmp 1) 3,type:=0,pos:= "l7_vault.go:191",after:= #[{on:=2,ground:=Ground.guard}],guard:=some (2,false)}) (v:=.pointer (some ⟨w.heap.size,4,none⟩)) rfl (by kernel_rfl) (by kernel_rfl) (by kernel_rfl) (fun _ _ _ h=>h) (Or.inl ⟨by rfl,fun _ _=>by go_simp⟩) hS ?_
        try simp only [Act.put,List.setIfInBounds_toArray,List.set_cons_zero,List.set_cons_succ]
        refine wpAnyH_take (i:=6) (oi:={dst:=some 38,op:=Op.load 28 (Operand.tmp 37),type:=28,pos:= "l7_vault.go:191",after:= #[{on:=5,ground:=Ground.data},{on:=2,ground:=Ground.guard}],guard:=some (2,false)}) (v:=.agg #[.int .i64 v.sw,.int .i64 v.now,.int .i64 v.given,.int .i64 v.births,.slice a.ka v.ks.length a.kc,.slice a.pa v.ps.length a.pc,.slice a.la v.ls.length a.lc]) rfl (by kernel_rfl) (by kernel_rfl) (by kernel_rfl) (fun _ _ _ h=>h) (yieldsIf_load_mid (by rfl) 28 _ rfl w.heap.size 4 rfl [.int .i64 v.sw,.int .i64 v.now,.int .i64 v.given,.int .i64 v.births,.slice a.ka v.ks.length a.kc,.slice a.pa v.ps.length a.pc,.slice a.la v.ls.length a.lc] _ (fun X h=>h) Tryz.underlying28 rfl (by kernel_rfl)) hS ?_
        try simp only [Act.put,List.setIfInBounds_toArray,List.set_cons_zero,List.set_cons_succ]
        refine wpAnyH_ready (rs:=[4]) (by kernel_rfl) (by simp) ?_
        refine AllReadyH.cons (o:={dst:=some 36,op:=Op.call {callee:=Callee.value (Operand.func 47),args:= #[Operand.tmp 35],argTypes:= #[82]},type:=28,pos:= "l7_vault.go:191",after:= #[{on:=3,ground:=Ground.data},{on:=2,ground:=Ground.chain},{on:=2,ground:=Ground.guard}],guard:=some (2,false)}) rfl (fun K hK=> ?_) AllReadyH.nil
        go_simp
        refine Calls.mono (HSt.out wc.drew D0) ?_
        rintro e w5 ⟨ta,tc,pa,pc,la,lc,rfl,hS5,hw5⟩
        have B5:Below wc.heap.size wc w5:=D0.trans hw5
        try go_simp
        refine hK.out _ _ (HSx.out w5 B5) (fun hSb=> ?_)
        clear hK K
        refine wpAnyH_ready (rs:=[7]) (by kernel_rfl) (by simp) ?_
        refine AllReadyH.cons (o:={dst:=some 39,op:=Op.call {callee:=Callee.value (Operand.func 119),args:= #[Operand.tmp 36,Operand.tmp 38],argTypes:= #[28,28]},type:=4,pos:= "l7_vault.go:191",after:= #[{on:=4,ground:=Ground.data},{on:=6,ground:=Ground.data},{on:=4,ground:=Ground.chain},{on:=2,ground:=Ground.guard}],guard:=some (2,false)}) rfl (fun K hK=> ?_) AllReadyH.nil
        go_simp
        refine Calls.mono (HSm.out w5 ta pa la tc pc lc (HL.out _ B5) hS5) ?_
        rintro e w6 ⟨bb,rfl,hbb,hw6⟩
        have B6:=B5.trans (hw6.mono B5.size)
        obtain rfl:bb=false:=(by cases bb with|false=>rfl|true=>exact absurd (hbb.1 rfl) HPP.out)
        clear hbb hS5
        try go_simp
        refine hK.out _ _ (HSx.out w6 B6) (fun hSc=> ?_)
        clear hK K
        refine wpAnyH_take (i:=8) (oi:={dst:=some 40,op:=Op.unOp UnOp.not 4 (Operand.tmp 39),type:=4,pos:= "l7_vault.go:191",after:= #[{on:=7,ground:=Ground.data},{on:=2,ground:=Ground.guard}],guard:=some (2,false)}) (v:=.bool true) rfl (by kernel_rfl) (by kernel_rfl) (by kernel_rfl) (fun _ _ _ h=>h) (Or.inl ⟨by rfl,fun _ _=>by go_simp⟩) hSc ?_
        try simp only [Act.put,List.setIfInBounds_toArray,List.set_cons_zero,List.set_cons_succ]
        refine wpAnyH_take (i:=9) (oi:={dst:=some 41,op:=Op.pick (Operand.tmp 34) (Operand.const (Value.bool true)) (Operand.tmp 40),type:=4,pos:= "l7_vault.go:191",after:= #[{on:=2,ground:=Ground.data},{on:=8,ground:=Ground.data}],guard:=none}) (v:=.bool true) rfl (by kernel_rfl) (by kernel_rfl) (by kernel_rfl) (fun _ _ _ h=>h) (Or.inl ⟨by rfl,fun _ _=>by go_simp⟩) hSc ?_
        try simp only [Act.put,List.setIfInBounds_toArray,List.set_cons_zero,List.set_cons_succ]
        refine wpAnyH_take (i:=10) (oi:={dst:=some 42,op:=Op.move (Operand.tmp 41),type:=4,pos:= "l7_vault.go:191",after:= #[{on:=9,ground:=Ground.data},{on:=7,ground:=Ground.chain}],guard:=none}) (v:=.bool true) rfl (by kernel_rfl) (by kernel_rfl) (by kernel_rfl) (fun _ _ _ h=>h) (Or.inl ⟨by rfl,fun _ _=>by go_simp⟩) hSc ?_
        try simp only [Act.put,List.setIfInBounds_toArray,List.set_cons_zero,List.set_cons_succ]
        refine wpAnyH_take (i:=11) (oi:={dst:=some 43,op:=Op.fieldAddr 44 (Operand.tmp 1) 4,type:=0,pos:= "l7_vault.go:191",after:= #[{on:=10,ground:=Ground.guard}],guard:=some (10,false)}) (v:=undef) rfl (by kernel_rfl) (by kernel_rfl) (by kernel_rfl) (fun _ _ _ h=>h) (Or.inr ⟨by rfl,rfl⟩) hSc ?_
        try simp only [Act.put,List.setIfInBounds_toArray,List.set_cons_zero,List.set_cons_succ]
        refine wpAnyH_take (i:=12) (oi:={dst:=some 44,op:=Op.load 42 (Operand.tmp 43),type:=42,pos:= "l7_vault.go:191",after:= #[{on:=11,ground:=Ground.data},{on:=10,ground:=Ground.guard}],guard:=some (10,false)}) (v:=undef) rfl (by kernel_rfl) (by kernel_rfl) (by kernel_rfl) (fun _ _ _ h=>h) (Or.inr ⟨by rfl,rfl⟩) hSc ?_
        try simp only [Act.put,List.setIfInBounds_toArray,List.set_cons_zero,List.set_cons_succ]
        refine wpAnyH_take (i:=13) (oi:={dst:=some 45,op:=Op.move (Operand.tmp 4),type:=82,pos:= "l7_vault.go:191",after:= #[{on:=10,ground:=Ground.guard}],guard:=some (10,false)}) (v:=undef) rfl (by kernel_rfl) (by kernel_rfl) (by kernel_rfl) (fun _ _ _ h=>h) (Or.inr ⟨by rfl,rfl⟩) hSc ?_
        try simp only [Act.put,List.setIfInBounds_toArray,List.set_cons_zero,List.set_cons_succ]
        refine wpAnyH_take (i:=14) (oi:={dst:=some 46,op:=Op.nilCheck (Operand.tmp 45),type:=0,pos:= "l7_vault.go:191",after:= #[{on:=13,ground:=Ground.data},{on:=10,ground:=Ground.guard}],guard:=some (10,false)}) (v:=undef) rfl (by kernel_rfl) (by kernel_rfl) (by kernel_rfl) (fun _ _ _ h=>h) (Or.inr ⟨by rfl,rfl⟩) hSc ?_
        try simp only [Act.put,List.setIfInBounds_toArray,List.set_cons_zero,List.set_cons_succ]
        refine wpAnyH_take (i:=15) (oi:={dst:=some 47,op:=Op.fieldAddr 131 (Operand.tmp 46) 0,type:=0,pos:= "l7_vault.go:191",after:= #[{on:=14,ground:=Ground.data},{on:=10,ground:=Ground.guard}],guard:=some (10,false)}) (v:=undef) rfl (by kernel_rfl) (by kernel_rfl) (by kernel_rfl) (fun _ _ _ h=>h) (Or.inr ⟨by rfl,rfl⟩) hSc ?_
        try simp only [Act.put,List.setIfInBounds_toArray,List.set_cons_zero,List.set_cons_succ]
        refine wpAnyH_take (i:=16) (oi:={dst:=some 48,op:=Op.fieldAddr 128 (Operand.tmp 47) 0,type:=0,pos:= "l7_vault.go:191",after:= #[{on:=15,ground:=Ground.data},{on:=10,ground:=Ground.guard}],guard:=some (10,false)}) (v:=undef) rfl (by kernel_rfl) (by kernel_rfl) (by kernel_rfl) (fun _ _ _ h=>h) (Or.inr ⟨by rfl,rfl⟩) hSc ?_
        try simp only [Act.put,List.setIfInBounds_toArray,List.set_cons_zero,List.set_cons_succ]
        refine wpAnyH_take (i:=17) (oi:={dst:=some 49,op:=Op.load 3 (Operand.tmp 48),type:=3,pos:= "l7_vault.go:191",after:= #[{on:=16,ground:=Ground.data},{on:=10,ground:=Ground.guard}],guard:=some (10,false)}) (v:=undef) rfl (by kernel_rfl) (by kernel_rfl) (by kernel_rfl) (fun _ _ _ h=>h) (Or.inr ⟨by rfl,rfl⟩) hSc ?_
        try simp only [Act.put,List.setIfInBounds_toArray,List.set_cons_zero,List.set_cons_succ]
        refine wpAnyH_take (i:=18) (oi:={dst:=some 50,op:=Op.move (Operand.tmp 4),type:=82,pos:= "l7_vault.go:191",after:= #[{on:=10,ground:=Ground.guard}],guard:=some (10,false)}) (v:=undef) rfl (by kernel_rfl) (by kernel_rfl) (by kernel_rfl) (fun _ _ _ h=>h) (Or.inr ⟨by rfl,rfl⟩) hSc ?_
        try simp only [Act.put,List.setIfInBounds_toArray,List.set_cons_zero,List.set_cons_succ]
        refine wpAnyH_take (i:=19) (oi:={dst:=some 51,op:=Op.nilCheck (Operand.tmp 50),type:=0,pos:= "l7_vault.go:191",after:= #[{on:=18,ground:=Ground.data},{on:=10,ground:=Ground.guard}],guard:=some (10,false)}) (v:=undef) rfl (by kernel_rfl) (by kernel_rfl) (by kernel_rfl) (fun _ _ _ h=>h) (Or.inr ⟨by rfl,rfl⟩) hSc ?_
        try simp only [Act.put,List.setIfInBounds_toArray,List.set_cons_zero,List.set_cons_succ]
        refine wpAnyH_take (i:=20) (oi:={dst:=some 52,op:=Op.fieldAddr 131 (Operand.tmp 51) 3,type:=0,pos:= "l7_vault.go:191",after:= #[{on:=19,ground:=Ground.data},{on:=10,ground:=Ground.guard}],guard:=some (10,false)}) (v:=undef) rfl (by kernel_rfl) (by kernel_rfl) (by kernel_rfl) (fun _ _ _ h=>h) (Or.inr ⟨by rfl,rfl⟩) hSc ?_
        try simp only [Act.put,List.setIfInBounds_toArray,List.set_cons_zero,List.set_cons_succ]
        refine wpAnyH_take (i:=21) (oi:={dst:=some 53,op:=Op.load 3 (Operand.tmp 52),type:=3,pos:= "l7_vault.go:191",after:= #[{on:=20,ground:=Ground.data},{on:=10,ground:=Ground.guard}],guard:=some (10,false)}) (v:=undef) rfl (by kernel_rfl) (by kernel_rfl) (by kernel_rfl) (fun _ _ _ h=>h) (Or.inr ⟨by rfl,rfl⟩) hSc ?_
        try simp only [Act.put,List.setIfInBounds_toArray,List.set_cons_zero,List.set_cons_succ]
        refine wpAnyH_take (i:=22) (oi:={dst:=some 54,op:=Op.call {callee:=Callee.value (Operand.func 120),args:= #[Operand.tmp 44,Operand.tmp 49,Operand.tmp 53],argTypes:= #[42,3,3]},type:=4,pos:= "l7_vault.go:191",after:= #[{on:=12,ground:=Ground.data},{on:=17,ground:=Ground.data},{on:=21,ground:=Ground.data},{on:=10,ground:=Ground.chain},{on:=10,ground:=Ground.guard}],guard:=some (10,false)}) (v:=undef) rfl (by kernel_rfl) (by kernel_rfl) (by kernel_rfl) (fun _ _ _ h=>h) (Or.inr ⟨by rfl,rfl⟩) hSc ?_
        try simp only [Act.put,List.setIfInBounds_toArray,List.set_cons_zero,List.set_cons_succ]
        refine wpAnyH_take (i:=23) (oi:={dst:=some 55,op:=Op.unOp UnOp.not 4 (Operand.tmp 54),type:=4,pos:= "l7_vault.go:191",after:= #[{on:=22,ground:=Ground.data},{on:=10,ground:=Ground.guard}],guard:=some (10,false)}) (v:=undef) rfl (by kernel_rfl) (by kernel_rfl) (by kernel_rfl) (fun _ _ _ h=>h) (Or.inr ⟨by rfl,rfl⟩) hSc ?_
        try simp only [Act.put,List.setIfInBounds_toArray,List.set_cons_zero,List.set_cons_succ]
        refine wpAnyH_take (i:=24) (oi:={dst:=some 56,op:=Op.pick (Operand.tmp 42) (Operand.const (Value.bool true)) (Operand.tmp 55),type:=4,pos:= "l7_vault.go:191",after:= #[{on:=10,ground:=Ground.data},{on:=23,ground:=Ground.data}],guard:=none}) (v:=.bool true) rfl (by kernel_rfl) (by kernel_rfl) (by kernel_rfl) (fun _ _ _ h=>h) (Or.inl ⟨by rfl,fun _ _=>by go_simp⟩) hSc ?_
        try simp only [Act.put,List.setIfInBounds_toArray,List.set_cons_zero,List.set_cons_succ]
        refine wpAnyH_done (by kernel_rfl) ?_ _
        go_wp2_with fail
        go_meet
        exact ⟨rfl,B6⟩
       case rest=>
        clear y0 y1 y2 y3 y4 y5 y6 y7 y8 y9 y10 y11 y12 y13 y14 y15 y16
        obtain ⟨rfl,HBX⟩:=hcut
        have hBx:Below w.heap.size w _:=HBc.out.trans (HBX.out.mono HBc.out.size)
        go_wp2
        refine bodyPost_ret (v:=.tuple #[.pointer none,.bool false]) (by simp [results,Tryz.results71,go_sem]) rfl ?_
        exact ⟨hBx,.inl ⟨HNo.out,rfl⟩⟩
   |false=>
    rw [hlog] at HC3
    have hlogF:okLog v.ss v.tt=true->False:=fun h=>by rw [hlog] at h;cases h
    go_enter Tryz.func71,Tryz.ntmps71
    go_wp2_with fail
    rw [←HW.out]
    refine Calls.mono HC1.out ?_
    rintro e w1 ⟨rfl,hw1⟩
    replace hw1:=hw1.symm
    subst hw1
    go_wp2_with fail
    refine Calls.mono HC2.out ?_
    rintro e w1 ⟨rfl,hw1⟩
    replace hw1:=hw1.symm
    subst hw1
    go_wp2_with fail
    refine Calls.mono HC3.out ?_
    rintro e w2 ⟨rfl,hb2⟩
    have hBw:Below w.heap.size w w2:=bW.trans (hb2.mono bW.size)
    clear y0 y1 y2 y3 y4 y5 y6 y7 y8 y9 y10 y11 y12 y13 y14 y15 y16
    go_wp2
    refine bodyPost_ret (v:=.tuple #[.pointer none,.bool false]) (by simp [results,Tryz.results71,go_sem]) rfl ?_
    exact ⟨hBw,.inl ⟨fun ⟨r,h⟩=>hlogF h.log,rfl⟩⟩
  ·rw [decide_eq_false hlim] at HC2
   go_enter Tryz.func71,Tryz.ntmps71
   go_wp2_with fail
   rw [←HW.out]
   refine Calls.mono HC1.out ?_
   rintro e w1 ⟨rfl,hw1⟩
   replace hw1:=hw1.symm
   subst hw1
   go_wp2_with fail
   refine Calls.mono HC2.out ?_
   rintro e w1 ⟨rfl,hw1⟩
   replace hw1:=hw1.symm
   subst hw1
   clear y0 y1 y2 y3 y4 y5 y6 y7 y8 y9 y10 y11 y12 y13 y14 y15 y16
   go_wp2
   refine bodyPost_ret (v:=.tuple #[.pointer none,.bool false]) (by simp [results,Tryz.results71,go_sem]) rfl ?_
   exact ⟨bW,.inl ⟨fun ⟨r,h⟩=>hlim h.lim,rfl⟩⟩
 ·rw [decide_eq_false hwd] at HC1
  go_enter Tryz.func71,Tryz.ntmps71
  go_wp2_with fail
  rw [←HW.out]
  refine Calls.mono HC1.out ?_
  rintro e w1 ⟨rfl,hw1⟩
  replace hw1:=hw1.symm
  subst hw1
  clear y0 y1 y2 y3 y4 y5 y6 y7 y8 y9 y10 y11 y12 y13 y14 y15 y16
  go_wp2
  refine bodyPost_ret (v:=.tuple #[.pointer none,.bool false]) (by simp [results,Tryz.results71,go_sem]) rfl ?_
  exact ⟨bW,.inl ⟨fun ⟨r,h⟩=>hwd h.wd,rfl⟩⟩
set_option maxRecDepth 20000 in
set_option maxHeartbeats 2000000 in
theorem iValidVault_any (v:Vd) (a:Va) (w:World) (hr:VRows w w.heap.size a v) (hf:VFit v) (hE:Env w):
 Calls Tryz.prog 30 #[.agg #[.int .i64 v.wd,.int .i64 v.lim,.slice a.sa v.ss.length a.sc,.slice a.ta v.tt.length a.tc,.int .i64 v.sw,.int .i64 v.now,.int .i64 v.given,.int .i64 v.births,.slice a.ka v.ks.length a.kc,.slice a.pa v.ps.length a.pc,.slice a.la v.ls.length a.lc,.int .i64 v.ph,.slice a.qa v.qs.length a.qc,.slice a.ma v.ms.length a.mc,.int .i64 v.top,.int .i64 v.at_,.int .i64 v.ro]] w fun e w'=>Says (VOk v) w w' e:=by
 obtain ⟨W,hW⟩:∃W,W=w.alloc (.cells #[.int .i64 v.wd,.int .i64 v.lim,.slice a.sa v.ss.length a.sc,.slice a.ta v.tt.length a.tc,.int .i64 v.sw,.int .i64 v.now,.int .i64 v.given,.int .i64 v.births,.slice a.ka v.ks.length a.kc,.slice a.pa v.ps.length a.pc,.slice a.la v.ls.length a.lc,.int .i64 v.ph,.slice a.qa v.qs.length a.qc,.slice a.ma v.ms.length a.mc,.int .i64 v.top,.int .i64 v.at_,.int .i64 v.ro] 44):=⟨_,rfl⟩
 have bW:Below w.heap.size w W:=by rw [hW];exact (Below.refl _ _).alloc (Nat.le_refl _) _
 have xW:CellsAt W w.heap.size [.int .i64 v.wd,.int .i64 v.lim,.slice a.sa v.ss.length a.sc,.slice a.ta v.tt.length a.tc,.int .i64 v.sw,.int .i64 v.now,.int .i64 v.given,.int .i64 v.births,.slice a.ka v.ks.length a.kc,.slice a.pa v.ps.length a.pc,.slice a.la v.ls.length a.lc,.int .i64 v.ph,.slice a.qa v.qs.length a.qc,.slice a.ma v.ms.length a.mc,.int .i64 v.top,.int .i64 v.at_,.int .i64 v.ro]:=by rw [hW];exact CellsAt.new w [.int .i64 v.wd,.int .i64 v.lim,.slice a.sa v.ss.length a.sc,.slice a.ta v.tt.length a.tc,.int .i64 v.sw,.int .i64 v.now,.int .i64 v.given,.int .i64 v.births,.slice a.ka v.ks.length a.kc,.slice a.pa v.ps.length a.pc,.slice a.la v.ls.length a.lc,.int .i64 v.ph,.slice a.qa v.qs.length a.qc,.slice a.ma v.ms.length a.mc,.int .i64 v.top,.int .i64 v.at_,.int .i64 v.ro] 44
 have HW:Hid _:=hW
 have HD:Hid _:=deskOf_any v a W (hr.below' bW) hf (hE.below bW)
 obtain ⟨y0,y1,y2,y3,y4,y5,y6,y7,y8,y9,y10,y11,y12,y13,y14,y15,y16⟩:=c17 xW
 clear hW xW hr hE hf
 go_enter Tryz.func30,Tryz.ntmps30
 go_upto_region 1 with fail
 rw [←HW.out]
 clear HW
 go_wp2_with fail
 refine Calls.mono HD.out ?_
 rintro e w1 ⟨hb1,⟨hno,rfl⟩|⟨r,k,d,m,O,P,L,base,hok,rfl,_⟩⟩
 ·clear y0 y1 y2 y3 y4 y5 y6 y7 y8 y9 y10 y11 y12 y13 y14 y15 y16
  go_wp2
  go_ret
  exact Says.no hno (bW.trans (hb1.mono bW.size))
 ·have HOk:Hid (VOk v):=⟨r,hok⟩
  clear y0 y1 y2 y3 y4 y5 y6 y7 y8 y9 y10 y11 y12 y13 y14 y15 y16 hok
  go_wp2
  go_ret
  exact Says.yes HOk.out (bW.trans (hb1.mono bW.size))
end Go.Proofs.YtpekbmegopfhfaaGreatDoor
