import Derived.Test.YtpekbmegopfhfaaGreatDoorK28
import Derived.Test.YtpekbmegopfhfaaGreatDoorK32
set_option maxRecDepth 100000
set_option maxHeartbeats 16000000
namespace Go.Proofs.YtpekbmegopfhfaaGreatDoor
open Go.ChangeShapes Go.WideShapes Go.ChangeAt Go.RowKit _root_.Go.Proofs.Tryz
theorem Aa.mid {w:World} {B:Nat} (l1 l2 l3:List Value) (h:Aa w B (l1++(l2++l3))):w.rangeAt B l1.length l2:=fun j v hv=>by
 refine(h (l1.length+j) v ?_).1;rw[List.getElem?_append_right (by omega),Nat.add_sub_cancel_left,List.getElem?_append_left (XC hv).1];exact hv
theorem Kj (n:Int) (w:World):
 Calls prog 56 #[XJ n] w fun e w'=>e=.returned (.bool (decide (0<=n/\n<=1000000)))/\w'=w:=by
 by_cases h1:0<=n
 ·by_cases h2:n<=1000000
  ·go_enter func56,ntmps56
   go_wp2;go_ret;exact⟨Ao (by simp[h1,h2]),rfl⟩
  ·have zA:decide (n<=1000000)=false:=by simpa using h2
   go_enter func56,ntmps56;go_wp2;go_ret;exact⟨rfl,rfl⟩
 ·have zB:decide (0<=n)=false:=by simpa using h1
  go_enter func56,ntmps56;go_wp2;go_ret;exact⟨rfl,rfl⟩
structure WL (w:World) (lo k d m base:Nat) (O P L:Value) (v:Vd) (a:Va) (r:Rs):Prop where
 box:Aa w k [.int .i32 0,.int .u32 0,XJ v.wd,XJ v.lim,.slice a.sa v.ss.length a.sc,.slice a.ta v.tt.length a.tc,XJ v.sw,XJ v.now,XJ v.given,XJ v.births,.slice a.ka v.ks.length a.kc,.slice a.pa v.ps.length a.pc,.slice a.la v.ls.length a.lc,XJ v.ph,.slice a.qa v.qs.length a.qc,.slice a.ma v.ms.length a.mc,XJ v.top,XJ v.at_,XJ v.ro,.pointer (some ⟨d,0,none⟩)]
 dr:Dr w base d m O P L v.wd r.now r.given r.births r.ks r.ps r.ls
 hlo:lo<=base
 hlk:lo<=k
 lt:∀b∈vB d m O P L,b<k
 far:base+4<=m
 ty:∃cur,w.heap[k]?=some (.cells cur 164)
def Wy (w w':World) (v:Vd) (p:Value) (n:Int):Prop:=
 (∃k:Nat,Ev v.wd (v.ss++v.tt) k/\p=.pointer none/\n=k)∨(∃r d m O P L base,CV v.wd r0 (v.ss++v.tt) r/\p=.pointer (some ⟨d,0,none⟩)/\n=0/\Dr w' base d m O P L v.wd r.now r.given r.births r.ks r.ps r.ls/\(w.heap.size<=base/\base+4<=m))
theorem Qj (v:Vd) (a:Va) (w:World) (hr:Cb w w.heap.size a v) (hf:CK v) (hE:Env w):
 Calls prog 71 #[.agg #[XJ v.wd,XJ v.lim,.slice a.sa v.ss.length a.sc,.slice a.ta v.tt.length a.tc,XJ v.sw,XJ v.now,XJ v.given,XJ v.births,.slice a.ka v.ks.length a.kc,.slice a.pa v.ps.length a.pc,.slice a.la v.ls.length a.lc,XJ v.ph,.slice a.qa v.qs.length a.qc,.slice a.ma v.ms.length a.mc,XJ v.top,XJ v.at_,XJ v.ro]] w fun e w'=>Xz w w'/\((¬Cj v/\e=.returned (.tuple #[.pointer none,.bool false]))∨(∃r k d m O P L base,Ga v r/\e=.returned (.tuple #[.pointer (some ⟨k,0,none⟩),.bool true])/\WL w' w.heap.size k d m base O P L v a r)):=by
 obtain⟨W,hW⟩:∃W,W=w.alloc (.cells #[XJ v.wd,XJ v.lim,.slice a.sa v.ss.length a.sc,.slice a.ta v.tt.length a.tc,XJ v.sw,XJ v.now,XJ v.given,XJ v.births,.slice a.ka v.ks.length a.kc,.slice a.pa v.ps.length a.pc,.slice a.la v.ls.length a.lc,XJ v.ph,.slice a.qa v.qs.length a.qc,.slice a.ma v.ms.length a.mc,XJ v.top,XJ v.at_,XJ v.ro] 44):=⟨_,rfl⟩;have bW:=(Aq hW).1;have zW:=(Aq hW).2.1
 have xW:=(Aq hW).2.2;have HX:Hid (Aa W _ _):=(Aq hW).2.2;have HR:Hid _:=hr;have HW:Hid _:=hW;have zU:Hid _:=JE v.wd W;have zY:Hid _:=Kj v.lim W;have yB:Hid _:=FJ a.sa a.ta a.sc a.tc v.ss v.tt W (hr.s.below' bW) (hr.t.below' bW) hf.s hf.t hf.ss hf.tt;obtain⟨y0,y1,y2,y3,y4,y5,y6,y7,y8,y9,zJ,zM,zG,zK,zI,zE,zF⟩:=EG xW;clear hW xW hr;by_cases hwd:1<=v.wd/\v.wd<=8
 ·rw[decide_eq_true hwd] at zU
  by_cases hlim:0<=v.lim/\v.lim<=1000000
  ·rw[decide_eq_true hlim] at zY
   cases hlog:Ci v.ss v.tt with
   |true=>
    rw[hlog] at yB;have yX:=Fp hlog;have xN:v.ss.length<=4000:=by rw[List.length_append] at yX;omega
    have xM:v.tt.length<=4000:=by rw[List.length_append] at yX;omega
    have HD:Hid (∀X,Calls prog 58 #[.agg #[.slice a.sa v.ss.length a.sc,.slice a.ta v.tt.length a.tc]] X fun e w'=>e=.returned (.agg #[.slice a.sa v.ss.length a.sc,.slice a.ta v.tt.length a.tc])/\Xz X w'):=fun X=>FU a.sa a.ta v.ss.length v.tt.length a.sc a.tc X
    have HP:Hid (∀X,Xz w X->Calls prog 45 #[XJ v.wd,.func (.func 59) #[.agg #[.slice a.sa v.ss.length a.sc,.slice a.ta v.tt.length a.tc]] #[]] X fun e w'=>∃p n,e=.returned (.tuple #[p,XJ n])/\Hid (Wy X w' v p n)/\Xz X w'):=fun X hX=>by
     refine(Kh v.wd 59 #[.agg #[.slice a.sa v.ss.length a.sc,.slice a.ta v.tt.length a.tc]] #[] (v.ss++v.tt) X hwd.1 hwd.2 (by omega) (fun s hs=>by rcases List.mem_append.1 hs with h|h;exact hf.ss s h;exact hf.tt s h) (hE.below hX) (enters_of func59 (by kernel_rfl) rfl) (fun V hV=>by
      have hb:=hX.trans (hV.mono hX.size);have h1:=Hs a.sa a.ta a.sc a.tc v.ss v.tt X.heap.size V ((HR.o.s.below hb).mono hX.size) ((HR.o.t.below hb).mono hX.size) hV.size (by unfold maxLen;omega) (by unfold maxLen;omega);simpa using h1)).mono ?_
     rintro e w' ⟨hb,⟨n,yH,rfl⟩|⟨r,d,m,O,P,L,base,zH,rfl,CU,zB⟩⟩
     ·exact⟨_,_,rfl,.inl ⟨n,yH,rfl,rfl⟩,hb⟩
     ·exact⟨_,_,rfl,.inr ⟨r,d,m,O,P,L,base,zH,rfl,rfl,CU,zB⟩,hb⟩
    clear hE;go_enter func71,ntmps71;go_wp2_with fail;rw[←HW.o];refine Calls.mono zU.o ?_;rintro e w1 ⟨rfl,zA⟩;replace zA:=zA.symm;subst zA;go_wp2_with fail;refine Calls.mono zY.o ?_;rintro e w1 ⟨rfl,zA⟩;replace zA:=zA.symm;subst zA;go_wp2_with fail;refine Calls.mono yB.o ?_;rintro e w2 ⟨rfl,zZ⟩;have x2:=Aa.below HX.o zZ;have z2:w.heap.size+1<=w2.heap.size:=by have:=zZ.size;omega
    have yW:Hid _:=x2;have yI:Hid _:=bW.trans (zZ.mono bW.size);clear y0 y1 y2 y3 y4 y5 y6 y7 y8 y9 zJ zM zG zK zI zE zF zU zY yB zZ HW;obtain⟨y0,y1,y2,y3,_⟩:=EG x2;clear x2;go_upto_region 3 with fail
    generalize (.agg #[XJ v.wd,XJ v.lim,.slice a.sa v.ss.length a.sc,.slice a.ta v.tt.length a.tc,XJ v.sw,XJ v.now,XJ v.given,XJ v.births,.slice a.ka v.ks.length a.kc,.slice a.pa v.ps.length a.pc,.slice a.la v.ls.length a.lc,XJ v.ph,.slice a.qa v.qs.length a.qc,.slice a.ma v.ms.length a.mc,XJ v.top,XJ v.at_,XJ v.ro]:Value)=dv0
    go_cut [4,5] (fun p u wx=>∃n:Int,u=XJ n/\Hid (Wy w wx v p n/\Xz w2 wx))
    case first=>
     go_region_with (first
      |(go_at_call 58;refine(HD.o w2.drew).mono ?_;rintro e w3 ⟨rfl,xJ⟩;have yJ:Below w2.heap.size w2 w3:=(Below.refl w2.heap.size w2).drew.trans xJ;obtain⟨u0,u1,u2,u3,_⟩:=EG (Aa.below yW.o yJ);have yT:=yI.o.trans (yJ.mono yI.o.size))
      |(go_at_call 45;refine(HP.o w3 yT).mono ?_;rintro e w4 ⟨p,n,rfl,xL,yY⟩;have xC:=yJ.trans (yY.mono yJ.size)))
     all_goals
      go_wp2_with fail;go_meet;refine⟨n,rfl,?_,xC⟩;rcases xL.o with h|⟨r,d,m,O,P,L,base,q1,q2,q3,q4,q5⟩
      ·exact .inl h
      ·exact .inr ⟨r,d,m,O,P,L,base,q1,q2,q3,q4,XI yT.size q5.1,q5.2⟩
    case rest=>
     clear y0 y1 y2 y3 HD HP;obtain⟨n,rfl,HQ⟩:=hcut;have yV:Hid _:=Aa.below yW.o HQ.o.2;have zN:Hid _:=yI.o.trans (HQ.o.2.mono yI.o.size);rcases HQ.o.1 with⟨k,yH,hp,hn⟩|⟨r,d,m,O,P,L,base,zH,hp,hn,CU,zB⟩
     ·subst hp hn
      have xO:0<(k:Int):=by obtain⟨j,_,_,rfl,_⟩:=yH;omega
      have xK:0<k:=by omega
      have xP:=decide_eq_true xK;have yG:Hid (¬Cj v):=fun⟨r,h⟩=>Ev.not hwd.1 hwd.2 yH h.run;clear yH HQ;go_upto_region 4 with fail
      go_region
      all_goals go_wp2
      all_goals refine bodyPost_ret (v:=.tuple #[.pointer none,.bool false]) (by simp[results,results71,go_sem]) rfl ?_
      all_goals exact⟨zN.o.drew,.inl ⟨yG.o,rfl⟩⟩
     ·subst hp hn
      have zC:=zH.ok (Fy hwd.1 hwd.2);have zX:Hid _:=zH;have yK:Hid (∀X,Xz wc X->Dr X base d m O P L v.wd r.now r.given r.births r.ks r.ps r.ls):=fun X hX=>CU.below hX;have zO:Hid _:=zB
      have yQ:Hid (∀X,Xz wc X->Calls prog 47 #[.pointer (some ⟨d,0,none⟩)] X fun e w'=>∃(ta:Option Addr) (tc:Nat) (pa:Option Addr) (pc:Nat) (la:Option Addr) (lc:Nat),e=.returned (.agg #[XJ v.wd,XJ r.now,XJ r.given,XJ r.births,.slice ta r.ks.length tc,.slice pa r.ps.length pc,.slice la r.ls.length lc])/\Bt w' w'.heap.size ta pa la r.ks r.ps r.ls/\Xz X w'):=fun X hX=>by
       refine(Ik base d m O P L v.wd r.now r.given r.births r.ks r.ps r.ls X (CU.below hX) zC.kso.nd zC.kso.sz zC.kso.len zC.np zC.nl zC.r30).mono ?_;rintro e w' ⟨T,P',L',rs,rfl,hS,hb⟩;obtain⟨ta,tc,pa,pc,la,lc,rfl,rfl,rfl,hg⟩:=hS.rows;exact⟨ta,tc,pa,pc,la,lc,rfl,hg,hb⟩
      have yO:Hid (∀(X:World) (ta pa la:Option Addr) (tc pc lc:Nat),Xz w X->Bt X X.heap.size ta pa la r.ks r.ps r.ls->Calls prog 119 #[.agg #[XJ v.wd,XJ r.now,XJ r.given,XJ r.births,.slice ta r.ks.length tc,.slice pa r.ps.length pc,.slice la r.ls.length lc],.agg #[XJ v.sw,XJ v.now,XJ v.given,XJ v.births,.slice a.ka v.ks.length a.kc,.slice a.pa v.ps.length a.pc,.slice a.la v.ls.length a.lc]] X fun e w'=>Ak ((v.wd=v.sw/\r.now=v.now/\r.given=v.given/\r.births=v.births)/\r.ks=v.ks/\r.ps=v.ps/\r.ls=v.ls) X w' e):=fun X ta pa la tc pc lc hX hS=>Mb v.wd r.now r.given r.births v.sw v.now v.given v.births ta pa la a.ka a.pa a.la tc pc lc a.kc a.pc a.lc r.ks v.ks r.ps v.ps r.ls v.ls X hS ((HR.o.st.keep hX).mono hX.size) ⟨by have:=zC.kso.len;omega,by have:=zC.np;omega,by have:=zC.nl;omega⟩ ⟨hf.st.k,hf.st.p,hf.st.l⟩ (fun k hk=>by have:=zC.r30 k hk;omega) hf.st.r
      have yS:Hid (∀X,Xz w X->Calls prog 120 #[.agg #[XJ v.ph,.slice a.qa v.qs.length a.qc,.slice a.ma v.ms.length a.mc,XJ v.top,XJ v.at_,XJ v.ro],XJ v.wd,XJ r.births] X fun e w'=>Ak (AO v.wd r.births v.ph v.top v.at_ v.ro v.qs v.ms) X w' e):=fun X hX=>KH v.ph v.top v.at_ v.ro v.wd r.births a.qa a.ma a.qc a.mc v.qs v.ms X (HR.o.q.below' hX) (HR.o.m.below' hX) hf.r hwd.2 zC.births1
      clear zH CU zB zC HQ;obtain⟨y0,y1,y2,y3,y4,y5,y6,y7,y8,y9,zJ,zM,zG,zK,zI,zE,zF⟩:=EG yV.o
      have yM:Hid (∀X,Xz wc X->Aa X w.heap.size [XJ v.wd,XJ v.lim,.slice a.sa v.ss.length a.sc,.slice a.ta v.tt.length a.tc,XJ v.sw,XJ v.now,XJ v.given,XJ v.births,.slice a.ka v.ks.length a.kc,.slice a.pa v.ps.length a.pc,.slice a.la v.ls.length a.lc,XJ v.ph,.slice a.qa v.qs.length a.qc,.slice a.ma v.ms.length a.mc,XJ v.top,XJ v.at_,XJ v.ro]):=fun X hX=>Aa.below yV.o hX
      have zP:Hid (∀X,Xz wc X->X.cell? (XL (w.heap.size) 4)=some (XJ v.sw)/\X.cell? (XL (w.heap.size) 5)=some (XJ v.now)/\X.cell? (XL (w.heap.size) 6)=some (XJ v.given)/\X.cell? (XL (w.heap.size) 7)=some (XJ v.births)/\X.cell? (XL (w.heap.size) 8)=some (.slice a.ka v.ks.length a.kc)/\X.cell? (XL (w.heap.size) 9)=some (.slice a.pa v.ps.length a.pc)/\X.cell? (XL (w.heap.size) 10)=some (.slice a.la v.ls.length a.lc)/\X.cell? (XL (w.heap.size) 11)=some (XJ v.ph)/\X.cell? (XL (w.heap.size) 12)=some (.slice a.qa v.qs.length a.qc)/\X.cell? (XL (w.heap.size) 13)=some (.slice a.ma v.ms.length a.mc)/\X.cell? (XL (w.heap.size) 14)=some (XJ v.top)/\X.cell? (XL (w.heap.size) 15)=some (XJ v.at_)/\X.cell? (XL (w.heap.size) 16)=some (XJ v.ro)/\X.cell? (XL d 0)=some (XJ v.wd)/\X.cell? (XL d 4)=some (XJ r.births)):=fun X hX=>by
       obtain⟨n0,n1,n2,n3,n4,n5,n6,n7,n8,n9,xB,xH,xE,xA,xF,xD,xG⟩:=EG (yM.o X hX);exact⟨n4,n5,n6,n7,n8,n9,xB,xH,xE,xA,xF,xD,xG,((yK.o X hX).box 0 _ rfl).1,((yK.o X hX).box 4 _ rfl).1⟩
      have HL:Hid (∀X,Xz wc X->Xz w X):=fun X hX=>zN.o.trans (hX.mono zN.o.size);have D0:Below wc.heap.size wc wc.drew:=(Below.refl _ _).drew;by_cases hP:(v.wd=v.sw/\r.now=v.now/\r.given=v.given/\r.births=v.births)/\r.ks=v.ks/\r.ps=v.ps/\r.ls=v.ls
      ·by_cases hQ:AO v.wd r.births v.ph v.top v.at_ v.ro v.qs v.ms
       ·have xI:Hid (Ga v r):=⟨hwd,hlim,hlog,zX.o,hP,hP.1.2.2.2▸hQ⟩
        have yD:Hid _:=hP;have yN:Hid _:=hQ;clear hP hQ;go_upto_region 4 with fail
        generalize (.agg #[XJ v.wd,XJ v.lim,.slice a.sa v.ss.length a.sc,.slice a.ta v.tt.length a.tc,XJ v.sw,XJ v.now,XJ v.given,XJ v.births,.slice a.ka v.ks.length a.kc,.slice a.pa v.ps.length a.pc,.slice a.la v.ls.length a.lc,XJ v.ph,.slice a.qa v.qs.length a.qc,.slice a.ma v.ms.length a.mc,XJ v.top,XJ v.at_,XJ v.ro]:Value)=dv0;go_cut [56] (fun u wx=>u=.bool false/\Hid (Xz wc wx))
        case first=>
         clear y0 y1 y2 y3 y4 y5 y6 y7 y8 y9 zJ zM zG zK zI zE zF
         go_region_held3 (fun X=>X.cell? (XL (w.heap.size) 4)=some (XJ v.sw)/\X.cell? (XL (w.heap.size) 5)=some (XJ v.now)/\X.cell? (XL (w.heap.size) 6)=some (XJ v.given)/\X.cell? (XL (w.heap.size) 7)=some (XJ v.births)/\X.cell? (XL (w.heap.size) 8)=some (.slice a.ka v.ks.length a.kc)/\X.cell? (XL (w.heap.size) 9)=some (.slice a.pa v.ps.length a.pc)/\X.cell? (XL (w.heap.size) 10)=some (.slice a.la v.ls.length a.lc)/\X.cell? (XL (w.heap.size) 11)=some (XJ v.ph)/\X.cell? (XL (w.heap.size) 12)=some (.slice a.qa v.qs.length a.qc)/\X.cell? (XL (w.heap.size) 13)=some (.slice a.ma v.ms.length a.mc)/\X.cell? (XL (w.heap.size) 14)=some (XJ v.top)/\X.cell? (XL (w.heap.size) 15)=some (XJ v.at_)/\X.cell? (XL (w.heap.size) 16)=some (XJ v.ro)/\X.cell? (XL d 0)=some (XJ v.wd)/\X.cell? (XL d 4)=some (XJ r.births))
          (first
            |with_reducible exact zP.o _ D0
            |with_reducible exact zP.o _ B5
            |with_reducible exact zP.o _ B6
            |with_reducible exact zP.o _ B7)
          (first
            |(go_at_call 47;refine Calls.mono (yQ.o wc.drew D0) ?_;rintro e w5 ⟨ta,tc,pa,pc,la,lc,rfl,zR,yE⟩;have B5:Below wc.heap.size wc w5:=D0.trans yE)
            |(go_at_call 119;refine Calls.mono (yO.o w5 ta pa la tc pc lc (HL.o _ B5) zR) ?_;rintro e w6 ⟨bb,rfl,zS,yA⟩;have B6:=B5.trans (yA.mono B5.size);clear zR;obtain rfl:bb=true:=zS.2 yD.o;clear zS)
            |(go_at_call 120;refine Calls.mono (yS.o w6 (HL.o _ B6)) ?_;rintro e w7 ⟨cc,rfl,yF,yP⟩;have B7:=B6.trans (yP.mono B6.size);obtain rfl:cc=true:=yF.2 yN.o;clear yF))
         all_goals (go_wp2_with fail;go_meet;exact⟨rfl,B7⟩)
        case rest=>
         clear y0 y1 y2 y3 y4 y5 y6 y7 y8 y9 zJ zM zG zK zI zE zF;obtain⟨rfl,zT⟩:=hcut;have zV:Below w.heap.size w _:=zN.o.trans (zT.o.mono zN.o.size);have yR:Hid _:=(yM.o _ zT.o).range;have yU:Hid _:=yK.o _ zT.o
         go_wp2_with (refine wpList_load_mid rfl 44 _ rfl w.heap.size 0 rfl [XJ v.wd,XJ v.lim,.slice a.sa v.ss.length a.sc,.slice a.ta v.tt.length a.tc,XJ v.sw,XJ v.now,XJ v.given,XJ v.births,.slice a.ka v.ks.length a.kc,.slice a.pa v.ps.length a.pc,.slice a.la v.ls.length a.lc,XJ v.ph,.slice a.qa v.qs.length a.qc,.slice a.ma v.ms.length a.mc,XJ v.top,XJ v.at_,XJ v.ro] _ yR.o underlying44 rfl (by kernel_rfl) ?_)
         refine bodyPost_ret (v:=.tuple #[.pointer (some ⟨wc.heap.size,0,none⟩),.bool true]) (by simp[results,results71,go_sem]) rfl ?_
         refine⟨zV.alloc zV.size _,.inr ⟨r,_,d,m,O,P,L,base,xI.o,rfl,Aa.new _ [.int .i32 0,.int .u32 0,XJ v.wd,XJ v.lim,.slice a.sa v.ss.length a.sc,.slice a.ta v.tt.length a.tc,XJ v.sw,XJ v.now,XJ v.given,XJ v.births,.slice a.ka v.ks.length a.kc,.slice a.pa v.ps.length a.pc,.slice a.la v.ls.length a.lc,XJ v.ph,.slice a.qa v.qs.length a.qc,.slice a.ma v.ms.length a.mc,XJ v.top,XJ v.at_,XJ v.ro,.pointer (some ⟨d,0,none⟩)] 164,(yU.o).below (XA),zO.o.1,zV.size,fun b hb=>yU.o.lts b hb,zO.o.2,_,heap_alloc_new _ _⟩⟩
       ·have yG:Hid (¬Cj v):=fun⟨r',h⟩=>by
         obtain rfl:=zX.o.det h.run;exact hQ (by rw[hP.1.2.2.2];exact h.round)
        have yD:Hid _:=hP;have yN:Hid _:=hQ;clear hP hQ;go_upto_region 4 with fail
        generalize (.agg #[XJ v.wd,XJ v.lim,.slice a.sa v.ss.length a.sc,.slice a.ta v.tt.length a.tc,XJ v.sw,XJ v.now,XJ v.given,XJ v.births,.slice a.ka v.ks.length a.kc,.slice a.pa v.ps.length a.pc,.slice a.la v.ls.length a.lc,XJ v.ph,.slice a.qa v.qs.length a.qc,.slice a.ma v.ms.length a.mc,XJ v.top,XJ v.at_,XJ v.ro]:Value)=dv0;go_cut [56] (fun u wx=>u=.bool true/\Hid (Xz wc wx))
        case first=>
         clear y0 y1 y2 y3 y4 y5 y6 y7 y8 y9 zJ zM zG zK zI zE zF
         go_region_held3 (fun X=>X.cell? (XL (w.heap.size) 4)=some (XJ v.sw)/\X.cell? (XL (w.heap.size) 5)=some (XJ v.now)/\X.cell? (XL (w.heap.size) 6)=some (XJ v.given)/\X.cell? (XL (w.heap.size) 7)=some (XJ v.births)/\X.cell? (XL (w.heap.size) 8)=some (.slice a.ka v.ks.length a.kc)/\X.cell? (XL (w.heap.size) 9)=some (.slice a.pa v.ps.length a.pc)/\X.cell? (XL (w.heap.size) 10)=some (.slice a.la v.ls.length a.lc)/\X.cell? (XL (w.heap.size) 11)=some (XJ v.ph)/\X.cell? (XL (w.heap.size) 12)=some (.slice a.qa v.qs.length a.qc)/\X.cell? (XL (w.heap.size) 13)=some (.slice a.ma v.ms.length a.mc)/\X.cell? (XL (w.heap.size) 14)=some (XJ v.top)/\X.cell? (XL (w.heap.size) 15)=some (XJ v.at_)/\X.cell? (XL (w.heap.size) 16)=some (XJ v.ro)/\X.cell? (XL d 0)=some (XJ v.wd)/\X.cell? (XL d 4)=some (XJ r.births))
          (first
            |with_reducible exact zP.o _ D0
            |with_reducible exact zP.o _ B5
            |with_reducible exact zP.o _ B6
            |with_reducible exact zP.o _ B7)
          (first
            |(go_at_call 47;refine Calls.mono (yQ.o wc.drew D0) ?_;rintro e w5 ⟨ta,tc,pa,pc,la,lc,rfl,zR,yE⟩;have B5:Below wc.heap.size wc w5:=D0.trans yE)
            |(go_at_call 119;refine Calls.mono (yO.o w5 ta pa la tc pc lc (HL.o _ B5) zR) ?_;rintro e w6 ⟨bb,rfl,zS,yA⟩;have B6:=B5.trans (yA.mono B5.size);clear zR;obtain rfl:bb=true:=zS.2 yD.o;clear zS)
            |(go_at_call 120;refine Calls.mono (yS.o w6 (HL.o _ B6)) ?_;rintro e w7 ⟨cc,rfl,yF,yP⟩;have B7:=B6.trans (yP.mono B6.size);obtain rfl:cc=false:=(by cases cc with|false=>rfl|true=>exact absurd (yF.1 rfl) yN.o);clear yF))
         all_goals (go_wp2_with fail;go_meet;exact⟨rfl,B7⟩)
        case rest=>
         clear y0 y1 y2 y3 y4 y5 y6 y7 y8 y9 zJ zM zG zK zI zE zF;obtain⟨rfl,zT⟩:=hcut;have zV:Below w.heap.size w _:=zN.o.trans (zT.o.mono zN.o.size);go_wp2;refine bodyPost_ret (v:=.tuple #[.pointer none,.bool false]) (by simp[results,results71,go_sem]) rfl ?_;exact⟨zV,.inl ⟨yG.o,rfl⟩⟩
      ·have yG:Hid (¬Cj v):=fun⟨r',h⟩=>by
        obtain rfl:=zX.o.det h.run;exact hP h.same
       have yD:Hid _:=hP;clear hP;go_upto_region 4 with fail;generalize (.agg #[XJ v.wd,XJ v.lim,.slice a.sa v.ss.length a.sc,.slice a.ta v.tt.length a.tc,XJ v.sw,XJ v.now,XJ v.given,XJ v.births,.slice a.ka v.ks.length a.kc,.slice a.pa v.ps.length a.pc,.slice a.la v.ls.length a.lc,XJ v.ph,.slice a.qa v.qs.length a.qc,.slice a.ma v.ms.length a.mc,XJ v.top,XJ v.at_,XJ v.ro]:Value)=dv0
       go_cut [56] (fun u wx=>u=.bool true/\Hid (Xz wc wx))
       case first=>
        clear y0 y1 y2 y3 y4 y5 y6 y7 y8 y9 zJ zM zG zK zI zE zF
        have yL:Hid (∀X,Xz wc X->X.rangeAt w.heap.size 4 [XJ v.sw,XJ v.now,XJ v.given,XJ v.births,.slice a.ka v.ks.length a.kc,.slice a.pa v.ps.length a.pc,.slice a.la v.ls.length a.lc]):=fun X hX=>Aa.mid [XJ v.wd,XJ v.lim,.slice a.sa v.ss.length a.sc,.slice a.ta v.tt.length a.tc] [XJ v.sw,XJ v.now,XJ v.given,XJ v.births,.slice a.ka v.ks.length a.kc,.slice a.pa v.ps.length a.pc,.slice a.la v.ls.length a.lc] [XJ v.ph,.slice a.qa v.qs.length a.qc,.slice a.ma v.ms.length a.mc,XJ v.top,XJ v.at_,XJ v.ro] (yM.o X hX)
        refine wp_region_held_drew (S:=fun X=>X.rangeAt w.heap.size 4 [XJ v.sw,XJ v.now,XJ v.given,XJ v.births,.slice a.ka v.ks.length a.kc,.slice a.pa v.ps.length a.pc,.slice a.la v.ls.length a.lc]) (by kernel_rfl) (yL.o _ D0) (fun hS=> ?_)
        refine wpAnyH_take (i:=0) (oi:={dst:=some 32,op:=Op.move (Operand.tmp 5),type:=3,pos:= "l7_vault.go:191",after:= #[],guard:=none}) (v:=XK) rfl (by kernel_rfl) (by kernel_rfl) (by kernel_rfl) (fun _ _ _ h=>h) (Or.inl ⟨by rfl,fun _ _=>by go_simp⟩) hS ?_;try simp only[Act.put,List.setIfInBounds_toArray,List.set_cons_zero,List.set_cons_succ]
        refine wpAnyH_take (i:=1) (oi:={dst:=some 33,op:=Op.binOp BinOp.gtr 3 (Operand.tmp 32) (Operand.const (Value.int IntKind.i64 0)) 3,type:=4,pos:= "l7_vault.go:191",after:= #[{on:=0,ground:=Ground.data}],guard:=none}) (v:=.bool false) rfl (by kernel_rfl) (by kernel_rfl) (by kernel_rfl) (fun _ _ _ h=>h) (Or.inl ⟨by rfl,fun _ _=>by go_simp⟩) hS ?_
        try simp only[Act.put,List.setIfInBounds_toArray,List.set_cons_zero,List.set_cons_succ]
        refine wpAnyH_take (i:=2) (oi:={dst:=some 34,op:=Op.move (Operand.tmp 33),type:=4,pos:= "l7_vault.go:191",after:= #[{on:=1,ground:=Ground.data}],guard:=none}) (v:=.bool false) rfl (by kernel_rfl) (by kernel_rfl) (by kernel_rfl) (fun _ _ _ h=>h) (Or.inl ⟨by rfl,fun _ _=>by go_simp⟩) hS ?_;try simp only[Act.put,List.setIfInBounds_toArray,List.set_cons_zero,List.set_cons_succ]
        refine wpAnyH_take (i:=3) (oi:={dst:=some 35,op:=Op.move (Operand.tmp 4),type:=82,pos:= "l7_vault.go:191",after:= #[{on:=2,ground:=Ground.guard}],guard:=some (2,false)}) (v:=.pointer (some ⟨d,0,none⟩)) rfl (by kernel_rfl) (by kernel_rfl) (by kernel_rfl) (fun _ _ _ h=>h) (Or.inl ⟨by rfl,fun _ _=>by go_simp⟩) hS ?_
        try simp only[Act.put,List.setIfInBounds_toArray,List.set_cons_zero,List.set_cons_succ]
        refine wpAnyH_take (i:=5) (oi:={dst:=some 37,op:=Op.fieldAddr 44 (Operand.tmp 1) 3,type:=0,pos:= "l7_vault.go:191",after:= #[{on:=2,ground:=Ground.guard}],guard:=some (2,false)}) (v:=.pointer (some ⟨w.heap.size,4,none⟩)) rfl (by kernel_rfl) (by kernel_rfl) (by kernel_rfl) (fun _ _ _ h=>h) (Or.inl ⟨by rfl,fun _ _=>by go_simp⟩) hS ?_
        try simp only[Act.put,List.setIfInBounds_toArray,List.set_cons_zero,List.set_cons_succ]
        refine wpAnyH_take (i:=6) (oi:={dst:=some 38,op:=Op.load 28 (Operand.tmp 37),type:=28,pos:= "l7_vault.go:191",after:= #[{on:=5,ground:=Ground.data},{on:=2,ground:=Ground.guard}],guard:=some (2,false)}) (v:=.agg #[XJ v.sw,XJ v.now,XJ v.given,XJ v.births,.slice a.ka v.ks.length a.kc,.slice a.pa v.ps.length a.pc,.slice a.la v.ls.length a.lc]) rfl (by kernel_rfl) (by kernel_rfl) (by kernel_rfl) (fun _ _ _ h=>h) (yieldsIf_load_mid (by rfl) 28 _ rfl w.heap.size 4 rfl [XJ v.sw,XJ v.now,XJ v.given,XJ v.births,.slice a.ka v.ks.length a.kc,.slice a.pa v.ps.length a.pc,.slice a.la v.ls.length a.lc] _ (fun X h=>h) underlying28 rfl (by kernel_rfl)) hS ?_
        try simp only[Act.put,List.setIfInBounds_toArray,List.set_cons_zero,List.set_cons_succ]
        refine wpAnyH_ready (rs:=[4]) (by kernel_rfl) (by simp) ?_;refine AllReadyH.cons (o:={dst:=some 36,op:=Op.call {callee:=Callee.value (Operand.func 47),args:= #[Operand.tmp 35],argTypes:= #[82]},type:=28,pos:= "l7_vault.go:191",after:= #[{on:=3,ground:=Ground.data},{on:=2,ground:=Ground.chain},{on:=2,ground:=Ground.guard}],guard:=some (2,false)}) rfl (fun K hK=> ?_) AllReadyH.nil
        go_simp;refine Calls.mono (yQ.o wc.drew D0) ?_;rintro e w5 ⟨ta,tc,pa,pc,la,lc,rfl,zR,yE⟩;have B5:=D0.trans yE;try go_simp
        refine hK.out _ _ (yL.o w5 B5) (fun hSb=> ?_);clear hK K;refine wpAnyH_ready (rs:=[7]) (by kernel_rfl) (by simp) ?_
        refine AllReadyH.cons (o:={dst:=some 39,op:=Op.call {callee:=Callee.value (Operand.func 119),args:= #[Operand.tmp 36,Operand.tmp 38],argTypes:= #[28,28]},type:=4,pos:= "l7_vault.go:191",after:= #[{on:=4,ground:=Ground.data},{on:=6,ground:=Ground.data},{on:=4,ground:=Ground.chain},{on:=2,ground:=Ground.guard}],guard:=some (2,false)}) rfl (fun K hK=> ?_) AllReadyH.nil;go_simp
        refine Calls.mono (yO.o w5 ta pa la tc pc lc (HL.o _ B5) zR) ?_;rintro e w6 ⟨bb,rfl,zS,yA⟩;have B6:=B5.trans (yA.mono B5.size);obtain rfl:bb=false:=(by cases bb with|false=>rfl|true=>exact absurd (zS.1 rfl) yD.o);clear zS zR;try go_simp
        refine hK.out _ _ (yL.o w6 B6) (fun hSc=> ?_);clear hK K
        refine wpAnyH_take (i:=8) (oi:={dst:=some 40,op:=Op.unOp UnOp.not 4 (Operand.tmp 39),type:=4,pos:= "l7_vault.go:191",after:= #[{on:=7,ground:=Ground.data},{on:=2,ground:=Ground.guard}],guard:=some (2,false)}) (v:=.bool true) rfl (by kernel_rfl) (by kernel_rfl) (by kernel_rfl) (fun _ _ _ h=>h) (Or.inl ⟨by rfl,fun _ _=>by go_simp⟩) hSc ?_
        try simp only[Act.put,List.setIfInBounds_toArray,List.set_cons_zero,List.set_cons_succ]
        refine wpAnyH_take (i:=9) (oi:={dst:=some 41,op:=Op.pick (Operand.tmp 34) (Operand.const (Value.bool true)) (Operand.tmp 40),type:=4,pos:= "l7_vault.go:191",after:= #[{on:=2,ground:=Ground.data},{on:=8,ground:=Ground.data}],guard:=none}) (v:=.bool true) rfl (by kernel_rfl) (by kernel_rfl) (by kernel_rfl) (fun _ _ _ h=>h) (Or.inl ⟨by rfl,fun _ _=>by go_simp⟩) hSc ?_
        try simp only[Act.put,List.setIfInBounds_toArray,List.set_cons_zero,List.set_cons_succ]
        refine wpAnyH_take (i:=10) (oi:={dst:=some 42,op:=Op.move (Operand.tmp 41),type:=4,pos:= "l7_vault.go:191",after:= #[{on:=9,ground:=Ground.data},{on:=7,ground:=Ground.chain}],guard:=none}) (v:=.bool true) rfl (by kernel_rfl) (by kernel_rfl) (by kernel_rfl) (fun _ _ _ h=>h) (Or.inl ⟨by rfl,fun _ _=>by go_simp⟩) hSc ?_
        try simp only[Act.put,List.setIfInBounds_toArray,List.set_cons_zero,List.set_cons_succ]
        refine wpAnyH_take (i:=11) (oi:={dst:=some 43,op:=Op.fieldAddr 44 (Operand.tmp 1) 4,type:=0,pos:= "l7_vault.go:191",after:= #[{on:=10,ground:=Ground.guard}],guard:=some (10,false)}) (v:=undef) rfl (by kernel_rfl) (by kernel_rfl) (by kernel_rfl) (fun _ _ _ h=>h) (Or.inr ⟨by rfl,rfl⟩) hSc ?_;try simp only[Act.put,List.setIfInBounds_toArray,List.set_cons_zero,List.set_cons_succ]
        refine wpAnyH_take (i:=12) (oi:={dst:=some 44,op:=Op.load 42 (Operand.tmp 43),type:=42,pos:= "l7_vault.go:191",after:= #[{on:=11,ground:=Ground.data},{on:=10,ground:=Ground.guard}],guard:=some (10,false)}) (v:=undef) rfl (by kernel_rfl) (by kernel_rfl) (by kernel_rfl) (fun _ _ _ h=>h) (Or.inr ⟨by rfl,rfl⟩) hSc ?_
        try simp only[Act.put,List.setIfInBounds_toArray,List.set_cons_zero,List.set_cons_succ]
        refine wpAnyH_take (i:=13) (oi:={dst:=some 45,op:=Op.move (Operand.tmp 4),type:=82,pos:= "l7_vault.go:191",after:= #[{on:=10,ground:=Ground.guard}],guard:=some (10,false)}) (v:=undef) rfl (by kernel_rfl) (by kernel_rfl) (by kernel_rfl) (fun _ _ _ h=>h) (Or.inr ⟨by rfl,rfl⟩) hSc ?_;try simp only[Act.put,List.setIfInBounds_toArray,List.set_cons_zero,List.set_cons_succ]
        refine wpAnyH_take (i:=14) (oi:={dst:=some 46,op:=Op.nilCheck (Operand.tmp 45),type:=0,pos:= "l7_vault.go:191",after:= #[{on:=13,ground:=Ground.data},{on:=10,ground:=Ground.guard}],guard:=some (10,false)}) (v:=undef) rfl (by kernel_rfl) (by kernel_rfl) (by kernel_rfl) (fun _ _ _ h=>h) (Or.inr ⟨by rfl,rfl⟩) hSc ?_
        try simp only[Act.put,List.setIfInBounds_toArray,List.set_cons_zero,List.set_cons_succ]
        refine wpAnyH_take (i:=15) (oi:={dst:=some 47,op:=Op.fieldAddr 131 (Operand.tmp 46) 0,type:=0,pos:= "l7_vault.go:191",after:= #[{on:=14,ground:=Ground.data},{on:=10,ground:=Ground.guard}],guard:=some (10,false)}) (v:=undef) rfl (by kernel_rfl) (by kernel_rfl) (by kernel_rfl) (fun _ _ _ h=>h) (Or.inr ⟨by rfl,rfl⟩) hSc ?_
        try simp only[Act.put,List.setIfInBounds_toArray,List.set_cons_zero,List.set_cons_succ]
        refine wpAnyH_take (i:=16) (oi:={dst:=some 48,op:=Op.fieldAddr 128 (Operand.tmp 47) 0,type:=0,pos:= "l7_vault.go:191",after:= #[{on:=15,ground:=Ground.data},{on:=10,ground:=Ground.guard}],guard:=some (10,false)}) (v:=undef) rfl (by kernel_rfl) (by kernel_rfl) (by kernel_rfl) (fun _ _ _ h=>h) (Or.inr ⟨by rfl,rfl⟩) hSc ?_
        try simp only[Act.put,List.setIfInBounds_toArray,List.set_cons_zero,List.set_cons_succ]
        refine wpAnyH_take (i:=17) (oi:={dst:=some 49,op:=Op.load 3 (Operand.tmp 48),type:=3,pos:= "l7_vault.go:191",after:= #[{on:=16,ground:=Ground.data},{on:=10,ground:=Ground.guard}],guard:=some (10,false)}) (v:=undef) rfl (by kernel_rfl) (by kernel_rfl) (by kernel_rfl) (fun _ _ _ h=>h) (Or.inr ⟨by rfl,rfl⟩) hSc ?_
        try simp only[Act.put,List.setIfInBounds_toArray,List.set_cons_zero,List.set_cons_succ]
        refine wpAnyH_take (i:=18) (oi:={dst:=some 50,op:=Op.move (Operand.tmp 4),type:=82,pos:= "l7_vault.go:191",after:= #[{on:=10,ground:=Ground.guard}],guard:=some (10,false)}) (v:=undef) rfl (by kernel_rfl) (by kernel_rfl) (by kernel_rfl) (fun _ _ _ h=>h) (Or.inr ⟨by rfl,rfl⟩) hSc ?_;try simp only[Act.put,List.setIfInBounds_toArray,List.set_cons_zero,List.set_cons_succ]
        refine wpAnyH_take (i:=19) (oi:={dst:=some 51,op:=Op.nilCheck (Operand.tmp 50),type:=0,pos:= "l7_vault.go:191",after:= #[{on:=18,ground:=Ground.data},{on:=10,ground:=Ground.guard}],guard:=some (10,false)}) (v:=undef) rfl (by kernel_rfl) (by kernel_rfl) (by kernel_rfl) (fun _ _ _ h=>h) (Or.inr ⟨by rfl,rfl⟩) hSc ?_
        try simp only[Act.put,List.setIfInBounds_toArray,List.set_cons_zero,List.set_cons_succ]
        refine wpAnyH_take (i:=20) (oi:={dst:=some 52,op:=Op.fieldAddr 131 (Operand.tmp 51) 3,type:=0,pos:= "l7_vault.go:191",after:= #[{on:=19,ground:=Ground.data},{on:=10,ground:=Ground.guard}],guard:=some (10,false)}) (v:=undef) rfl (by kernel_rfl) (by kernel_rfl) (by kernel_rfl) (fun _ _ _ h=>h) (Or.inr ⟨by rfl,rfl⟩) hSc ?_
        try simp only[Act.put,List.setIfInBounds_toArray,List.set_cons_zero,List.set_cons_succ]
        refine wpAnyH_take (i:=21) (oi:={dst:=some 53,op:=Op.load 3 (Operand.tmp 52),type:=3,pos:= "l7_vault.go:191",after:= #[{on:=20,ground:=Ground.data},{on:=10,ground:=Ground.guard}],guard:=some (10,false)}) (v:=undef) rfl (by kernel_rfl) (by kernel_rfl) (by kernel_rfl) (fun _ _ _ h=>h) (Or.inr ⟨by rfl,rfl⟩) hSc ?_
        try simp only[Act.put,List.setIfInBounds_toArray,List.set_cons_zero,List.set_cons_succ]
        refine wpAnyH_take (i:=22) (oi:={dst:=some 54,op:=Op.call {callee:=Callee.value (Operand.func 120),args:= #[Operand.tmp 44,Operand.tmp 49,Operand.tmp 53],argTypes:= #[42,3,3]},type:=4,pos:= "l7_vault.go:191",after:= #[{on:=12,ground:=Ground.data},{on:=17,ground:=Ground.data},{on:=21,ground:=Ground.data},{on:=10,ground:=Ground.chain},{on:=10,ground:=Ground.guard}],guard:=some (10,false)}) (v:=undef) rfl (by kernel_rfl) (by kernel_rfl) (by kernel_rfl) (fun _ _ _ h=>h) (Or.inr ⟨by rfl,rfl⟩) hSc ?_
        try simp only[Act.put,List.setIfInBounds_toArray,List.set_cons_zero,List.set_cons_succ]
        refine wpAnyH_take (i:=23) (oi:={dst:=some 55,op:=Op.unOp UnOp.not 4 (Operand.tmp 54),type:=4,pos:= "l7_vault.go:191",after:= #[{on:=22,ground:=Ground.data},{on:=10,ground:=Ground.guard}],guard:=some (10,false)}) (v:=undef) rfl (by kernel_rfl) (by kernel_rfl) (by kernel_rfl) (fun _ _ _ h=>h) (Or.inr ⟨by rfl,rfl⟩) hSc ?_
        try simp only[Act.put,List.setIfInBounds_toArray,List.set_cons_zero,List.set_cons_succ]
        refine wpAnyH_take (i:=24) (oi:={dst:=some 56,op:=Op.pick (Operand.tmp 42) (Operand.const (Value.bool true)) (Operand.tmp 55),type:=4,pos:= "l7_vault.go:191",after:= #[{on:=10,ground:=Ground.data},{on:=23,ground:=Ground.data}],guard:=none}) (v:=.bool true) rfl (by kernel_rfl) (by kernel_rfl) (by kernel_rfl) (fun _ _ _ h=>h) (Or.inl ⟨by rfl,fun _ _=>by go_simp⟩) hSc ?_
        try simp only[Act.put,List.setIfInBounds_toArray,List.set_cons_zero,List.set_cons_succ]
        refine wpAnyH_done (by kernel_rfl) ?_ _;go_wp2_with fail;go_meet;exact⟨rfl,B6⟩
       case rest=>
        clear y0 y1 y2 y3 y4 y5 y6 y7 y8 y9 zJ zM zG zK zI zE zF;obtain⟨rfl,zT⟩:=hcut;have zV:Below w.heap.size w _:=zN.o.trans (zT.o.mono zN.o.size);go_wp2;refine bodyPost_ret (v:=.tuple #[.pointer none,.bool false]) (by simp[results,results71,go_sem]) rfl ?_;exact⟨zV,.inl ⟨yG.o,rfl⟩⟩
   |false=>
    rw[hlog] at yB;have yC:Ci v.ss v.tt=true->False:=fun h=>by rw[hlog] at h;cases h
    go_enter func71,ntmps71;go_wp2_with fail;rw[←HW.o];refine Calls.mono zU.o ?_;rintro e w1 ⟨rfl,zA⟩;replace zA:=zA.symm;subst zA;go_wp2_with fail;refine Calls.mono zY.o ?_;rintro e w1 ⟨rfl,zA⟩;replace zA:=zA.symm;subst zA;go_wp2_with fail;refine Calls.mono yB.o ?_;rintro e w2 ⟨rfl,zZ⟩;have yZ:=bW.trans (zZ.mono bW.size);clear y0 y1 y2 y3 y4 y5 y6 y7 y8 y9 zJ zM zG zK zI zE zF;go_wp2
    refine bodyPost_ret (v:=.tuple #[.pointer none,.bool false]) (by simp[results,results71,go_sem]) rfl ?_;exact⟨yZ,.inl ⟨fun⟨r,h⟩=>yC h.log,rfl⟩⟩
  ·rw[decide_eq_false hlim] at zY
   go_enter func71,ntmps71;go_wp2_with fail;rw[←HW.o];refine Calls.mono zU.o ?_;rintro e w1 ⟨rfl,zA⟩;replace zA:=zA.symm;subst zA;go_wp2_with fail;refine Calls.mono zY.o ?_;rintro e w1 ⟨rfl,zA⟩;replace zA:=zA.symm;subst zA;clear y0 y1 y2 y3 y4 y5 y6 y7 y8 y9 zJ zM zG zK zI zE zF;go_wp2;refine bodyPost_ret (v:=.tuple #[.pointer none,.bool false]) (by simp[results,results71,go_sem]) rfl ?_
   exact⟨bW,.inl ⟨fun⟨r,h⟩=>hlim h.lim,rfl⟩⟩
 ·rw[decide_eq_false hwd] at zU
  go_enter func71,ntmps71;go_wp2_with fail;rw[←HW.o];refine Calls.mono zU.o ?_;rintro e w1 ⟨rfl,zA⟩;replace zA:=zA.symm;subst zA;clear y0 y1 y2 y3 y4 y5 y6 y7 y8 y9 zJ zM zG zK zI zE zF;go_wp2;refine bodyPost_ret (v:=.tuple #[.pointer none,.bool false]) (by simp[results,results71,go_sem]) rfl ?_;exact⟨bW,.inl ⟨fun⟨r,h⟩=>hwd h.wd,rfl⟩⟩
theorem GD (v:Vd) (a:Va) (w:World) (hr:Cb w w.heap.size a v) (hf:CK v) (hE:Env w):
 Calls prog 30 #[.agg #[XJ v.wd,XJ v.lim,.slice a.sa v.ss.length a.sc,.slice a.ta v.tt.length a.tc,XJ v.sw,XJ v.now,XJ v.given,XJ v.births,.slice a.ka v.ks.length a.kc,.slice a.pa v.ps.length a.pc,.slice a.la v.ls.length a.lc,XJ v.ph,.slice a.qa v.qs.length a.qc,.slice a.ma v.ms.length a.mc,XJ v.top,XJ v.at_,XJ v.ro]] w fun e w'=>Ak (Cj v) w w' e:=by
 obtain⟨W,hW⟩:∃W,W=w.alloc (.cells #[XJ v.wd,XJ v.lim,.slice a.sa v.ss.length a.sc,.slice a.ta v.tt.length a.tc,XJ v.sw,XJ v.now,XJ v.given,XJ v.births,.slice a.ka v.ks.length a.kc,.slice a.pa v.ps.length a.pc,.slice a.la v.ls.length a.lc,XJ v.ph,.slice a.qa v.qs.length a.qc,.slice a.ma v.ms.length a.mc,XJ v.top,XJ v.at_,XJ v.ro] 44):=⟨_,rfl⟩;have bW:=(Aq hW).1;have xW:=(Aq hW).2.2
 have HW:Hid _:=hW;have HD:Hid _:=Qj v a W (hr.below' bW) hf (hE.below bW);obtain⟨y0,y1,y2,y3,y4,y5,y6,y7,y8,y9,zB,zJ,zF,zI,zA,zG,zC⟩:=EG xW;clear hW xW hr hE hf;go_enter func30,ntmps30;go_upto_region 1 with fail;rw[←HW.o];clear HW;go_wp2_with fail;refine Calls.mono HD.o ?_;rintro e w1 ⟨zE,⟨zM,rfl⟩|⟨r,k,d,m,O,P,L,base,zH,rfl,_⟩⟩
 ·clear y0 y1 y2 y3 y4 y5 y6 y7 y8 y9 zB zJ zF zI zA zG zC
  go_wp2;go_ret;exact Ak.no zM (bW.trans (zE.mono bW.size))
 ·have zK:Hid (Cj v):=⟨r,zH⟩
  clear y0 y1 y2 y3 y4 y5 y6 y7 y8 y9 zB zJ zF zI zA zG zC zH;go_wp2;go_ret;exact Ak.yes zK.o (bW.trans (zE.mono bW.size))
end Go.Proofs.YtpekbmegopfhfaaGreatDoor
