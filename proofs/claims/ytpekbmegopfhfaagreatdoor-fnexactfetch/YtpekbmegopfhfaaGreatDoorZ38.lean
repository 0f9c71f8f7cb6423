import Derived.Test.YtpekbmegopfhfaaGreatDoorZ35
import Derived.Test.YtpekbmegopfhfaaGreatDoorZ37
set_option maxRecDepth 100000
set_option maxHeartbeats 16000000
namespace Go.Proofs.YtpekbmegopfhfaaGreatDoor
open Go.ChangeShapes Go.WideShapes Go.ChangeAt Go.RowKit _root_.Go.Proofs.Tryz
section
attribute [local go_sem↓] Go.wp_at_zero Go.wp_at_succ
theorem nodup_takes {ms:List ByteArray}:ms.Nodup↔∀(j:Nat) x,ms[j]?=some x->x∉ms.take j:=by
 unfold List.Nodup;rw[List.pairwise_iff_getElem];constructor
 ·intro h j x hj hm
  obtain⟨hj1,rfl⟩:=List.getElem?_eq_some_iff.1 hj;obtain⟨i,hi,e⟩:=List.getElem_of_mem hm;have hi':i<j:=by simp at hi;omega
  rw[List.getElem_take] at e;exact h i j (by omega) hj1 hi' e
 ·intro h i j hi hj hij e
  refine h j ms[j] (List.getElem?_eq_getElem hj) ?_;rw[←e];have hi2:i<(ms.take j).length:=by simp;omega
  have:=List.getElem_mem hi2;rw[List.getElem_take] at this;exact this
theorem SRow.front {w:World} {B:Nat} {a:Option Addr} {tt:List ByteArray} (h:SRow w B a tt) (K:Nat):SRow w B a (tt.take K):=by
 rcases h with h|⟨q,off,h1,h2,h3⟩
 ·exact .inl (by simp[h])
 ·refine .inr ⟨q,off,h1,h2,fun i s his=>h3 i s ?_⟩
  have hi:=(List.getElem?_eq_some_iff.1 his).1;simp at hi;rw[List.getElem?_take_of_lt (by omega)] at his;exact his
theorem l6Ok_any (wd now given births ph top at_ ro:Int) (T P L:Value) (a b:Option Addr) (ac bc:Nat) (qs ms:List ByteArray) (w:World) (hq:SRow w w.heap.size a qs) (hm:SRow w w.heap.size b ms) (hf:RFit qs ms) (hcap:ms.length<=bc) (hbi:births<=1000000000):
 Calls prog 68 #[.agg #[.int .i64 wd,.int .i64 now,.int .i64 given,.int .i64 births,T,P,L],.agg #[.int .i64 ph,.slice a qs.length ac,.slice b ms.length bc,.int .i64 top,.int .i64 at_,.int .i64 ro]] w fun e w'=>Says (RoundOk wd births ph top at_ ro qs ms) w w' e:=by
 have hfq:=hf.q;have hfm:=hf.m;obtain⟨W,hW⟩:∃W,W=(w.alloc (.cells #[.int .i64 wd,.int .i64 now,.int .i64 given,.int .i64 births,T,P,L] 28)).alloc (.cells #[.int .i64 ph,.slice a qs.length ac,.slice b ms.length bc,.int .i64 top,.int .i64 at_,.int .i64 ro] 42):=⟨_,rfl⟩;have hbW:Below w.heap.size w W:=by rw[hW];exact((Below.refl _ _).alloc (Nat.le_refl _) _).alloc (by simp) _
 have hsx:SBox W w.heap.size wd now given births T P L:=by rw[hW];exact(SBox.new w wd now given births T P L 28).below ((Below.refl _ _).alloc (Nat.le_refl _) _)
 have hrx:RBox W (w.heap.size+1) ph (.slice a qs.length ac) (.slice b ms.length bc) top at_ ro:=by
  rw[hW];have:=RBox.new (w.alloc (.cells #[.int .i64 wd,.int .i64 now,.int .i64 given,.int .i64 births,T,P,L] 28)) ph top at_ ro (.slice a qs.length ac) (.slice b ms.length bc) 42;rw[World.size_alloc] at this;exact this
 have hzW:W.heap.size=w.heap.size+2:=by rw[hW];simp
 have HW:Hid _:=hW;clear hW;have HSX:Hid _:=hsx;have HRX:Hid _:=hrx;have HQ:Hid _:=hq;have HM:Hid _:=hm;clear hsx hrx hq hm;by_cases p1:ph<0
 ·have d1:decide (ph<0)=true:=by simpa using p1
  go_enter func68,ntmps68;go_wp2;go_ret;rw[←HW.out];exact Says.no (P:=RoundOk wd births ph top at_ ro qs ms) (fun h=>by rcases h.ph with h|h|h<;>(have:=h.1;omega)) hbW
 have d1:decide (ph<0)=false:=by simpa using p1
 by_cases p2:2<ph
 ·have d2:decide ((2:Int)<ph)=true:=by simpa using p2
  go_enter func68,ntmps68;go_wp2;go_ret;rw[←HW.out];exact Says.no (P:=RoundOk wd births ph top at_ ro qs ms) (fun h=>by rcases h.ph with h|h|h<;>(have:=h.1;omega)) hbW
 have d2:decide ((2:Int)<ph)=false:=by simpa using p2
 go_enter func68,ntmps68;go_wp2_with fail;rw[←HW.out];refine(range_any ro 0 1000000000 W).mono ?_;rintro e w1 ⟨rfl,rfl⟩;obtain⟨x0,x1,x2,x3,x4,x5,x6⟩:=HRX.out;by_cases h1:0<=ro/\ro<=1000000000
 ·rw[decide_eq_true h1]
  by_cases h2:qs.length<=23200
  ·have e2:decide ((23200:Int)<(qs.length:Int))=false:=by simp;omega
   by_cases h3:ms.length<=600
   ·have e3:decide ((600:Int)<(ms.length:Int))=false:=by simp;omega
    clear HW;go_wp2
    go_loopw [5] (fun i wr=>∃k:Nat,k<=qs.length/\i=.int .i64 k/\Hid (∀j x,j<k->qs[j]?=some x->(x.size:Int)=wd)/\Hid (SBox wr w.heap.size wd now given births T P L)/\Hid (RBox wr (w.heap.size+1) ph (.slice a qs.length ac) (.slice b ms.length bc) top at_ ro)/\Below w.heap.size w wr) (fun i _=>qs.length -(intOf i).toNat)
    case atStart=>exact⟨0,Nat.zero_le _,rfl,fun j x h=>by omega,HSX,HRX,hbW⟩
    case round=>
     clear x0 x1 x2 x3 x4 x5 x6 HSX HRX hbW hzW;obtain⟨k,hk,rfl,hall,HSX,HRX,hbW⟩:=hrel;obtain⟨x0,x1,x2,x3,x4,x5,x6⟩:=HRX.out;obtain⟨y0,_,_,y3,_,_,_,y7⟩:=HSX.out;by_cases hlt:k<qs.length
     ·obtain⟨b',off,ha,hb,hc⟩:=(SRow.below HQ.out hbW).at hlt
      subst ha;have hg:Hid (qs[k]?=some qs[k]):=List.getElem?_eq_getElem hlt;have c0:=hc k _ hg;have hb'':b'<wr.heap.size:=Nat.lt_of_lt_of_le hb hbW.size;clear hc;generalize qs[k]=x at *
      have q1:=Cls.cell x1 x6;have q2:=Cls.cell c0 hb'';have q3:=Cls.cell y0 y7;have hne:=Cls.ne wr;by_cases h:(x.size:Int)=wd
      ·have hn:((x.size:Int) !=wd)=false:=by simp[h]
       have HA:Hid (∀j y,j<k+1->qs[j]?=some y->(y.size:Int)=wd):=by
        intro j y hj hy;rcases Nat.lt_or_ge j k with h'|h'
        ·exact hall j y h' hy
        ·obtain rfl:j=k:=by omega
         rw[hg.out] at hy;cases hy;exact h
       go_wp2;refine region_cls_lit (by kernel_rfl) (by kernel_rfl) ?_
       repeat (go_big_quiet_step (fail))
       refine wpQuiet_nil ?_;intro n;have HSn:Hid _:=SBox.keep HSX.out n.h y7;have HRn:Hid _:=RBox.keep HRX.out n.h x6;have hbn:Below w.heap.size w n.w:=hbW.trans (n.h.mono hbW.size);clear q1 q2 q3 x0 x1 x2 x3 x4 x5 y0 y3 c0;go_wp2;exact⟨⟨k+1,by omega,by go_num,HA,HSn,HRn,hbn⟩,by simp[intOf];omega⟩
      ·have hn:((x.size:Int) !=wd)=true:=by simp[h]
       go_wp2;refine region_cls_lit (by kernel_rfl) (by kernel_rfl) ?_
       repeat (go_big_quiet_step (fail))
       refine wpQuiet_nil ?_;intro n;have hbn:Below w.heap.size w n.w:=hbW.trans (n.h.mono hbW.size);clear q1 q2 q3 x0 x1 x2 x3 x4 x5 y0 y3 c0;go_wp2;go_ret;exact Says.no (P:=RoundOk wd births ph top at_ ro qs ms) (fun h'=>h (h'.sums.q x (List.mem_of_getElem? hg.out))) hbn
     ·have HQA:Hid (∀s∈qs,(s.size:Int)=wd):=by
       intro s hs;obtain⟨j,hj,rfl⟩:=List.getElem_of_mem hs;exact hall j _ (by omega) (List.getElem?_eq_getElem hj)
      clear hall;go_wp2
      go_loopw [6] (fun i wr=>∃k:Nat,k<=ms.length/\i=.int .i64 k/\Hid (∀j x,j<k->ms[j]?=some x->(x.size:Int)=wd/\x∉ms.take j)/\Hid (SBox wr w.heap.size wd now given births T P L)/\Hid (RBox wr (w.heap.size+1) ph (.slice a qs.length ac) (.slice b ms.length bc) top at_ ro)/\Below w.heap.size w wr) (fun i _=>ms.length -(intOf i).toNat)
      case atStart=>exact⟨0,Nat.zero_le _,rfl,fun j x h=>by omega,HSX,HRX,hbW⟩
      case round=>
       clear x0 x1 x2 x3 x4 x5 x6 y0 y3 y7 HSX HRX hbW;obtain⟨k,hk,rfl,hall,HSX,HRX,hbW⟩:=hrel;obtain⟨x0,x1,x2,x3,x4,x5,x6⟩:=HRX.out;obtain⟨y0,_,_,y3,_,_,_,y7⟩:=HSX.out;by_cases hlt:k<ms.length
       ·obtain⟨b',off,ha,hb,hc⟩:=(SRow.below HM.out hbW).at hlt
        subst ha;have hg:Hid (ms[k]?=some ms[k]):=List.getElem?_eq_getElem hlt;have c0:=hc k _ hg;have hb'':b'<wr.heap.size:=Nat.lt_of_lt_of_le hb hbW.size;clear hc;generalize ms[k]=x at *
        have q1:=Cls.cell x2 x6;have q2:=Cls.cell c0 hb'';have q3:=Cls.cell y0 y7;have hne:=Cls.ne wr;have htl:(ms.take k).length=k:=by simp;omega
        have hH:∀n:Cls wr,Calls prog 115 #[.slice (some ⟨b',off,none⟩) k bc,.string x] n.w fun e w'=>e=.returned (.bool ((ms.take k).any (fun y=>decide (y=x))))/\Below n.w.heap.size n.w w':=fun n=>by
         have:=has_any (some ⟨b',off,none⟩) bc (ms.take k) x n.w w.heap.size (SRow.front (SRow.below HM.out (hbW.trans (n.h.mono hbW.size))) k) (by omega);rw[htl] at this;exact this.mono (by rintro e w' ⟨rfl,rfl⟩;exact⟨rfl,Below.refl _ _⟩)
        have HH:Hid _:=hH;clear hH;have hkc:k<=bc:=by omega
        by_cases h:(x.size:Int)=wd
        ·have hn:((x.size:Int) !=wd)=false:=by simp[h]
         cases hin:(ms.take k).any (fun y=>decide (y=x)) with
         |false=>
          rw[hin] at HH;have hnot:x∉ms.take k:=fun hx=>by
           have:(ms.take k).any (fun y=>decide (y=x))=true:=List.any_eq_true.2 ⟨x,hx,by simp⟩;rw[hin] at this;cases this
          have HA:Hid (∀j y,j<k+1->ms[j]?=some y->(y.size:Int)=wd/\y∉ms.take j):=by
           intro j y hj hy;rcases Nat.lt_or_ge j k with h'|h'
           ·exact hall j y h' hy
           ·obtain rfl:j=k:=by omega
            rw[hg.out] at hy;cases hy;exact⟨h,hnot⟩
          clear hnot hall;go_wp2;refine region_cls_lit (by kernel_rfl) (by kernel_rfl) ?_
          repeat (go_big_quiet_step (exact Cls.calls (HH.out _)))
          refine wpQuiet_nil ?_;intro n;have HSn:Hid _:=SBox.keep HSX.out n.h y7;have HRn:Hid _:=RBox.keep HRX.out n.h x6;have hbn:Below w.heap.size w n.w:=hbW.trans (n.h.mono hbW.size);clear q1 q2 q3 x0 x1 x2 x3 x4 x5 y0 y3 c0;go_wp2;exact⟨⟨k+1,by omega,by go_num,HA,HSn,HRn,hbn⟩,by simp[intOf];omega⟩
         |true=>
          rw[hin] at HH;have HN:Hid (x∈ms.take k):=by
           obtain⟨y,hy,e⟩:=List.any_eq_true.1 hin;have:y=x:=by simpa using e
           rw[←this];exact hy
          clear hall;go_wp2;refine region_cls_lit (by kernel_rfl) (by kernel_rfl) ?_
          repeat (go_big_quiet_step (exact Cls.calls (HH.out _)))
          refine wpQuiet_nil ?_;intro n;have hbn:Below w.heap.size w n.w:=hbW.trans (n.h.mono hbW.size);clear q1 q2 q3 x0 x1 x2 x3 x4 x5 y0 y3 c0;go_wp2;go_ret;exact Says.no (P:=RoundOk wd births ph top at_ ro qs ms) (fun h'=>(nodup_takes.1 h'.sums.nd) k x hg.out HN.out) hbn
        ·have hn:((x.size:Int) !=wd)=true:=by simp[h]
         go_wp2;refine region_cls_lit (by kernel_rfl) (by kernel_rfl) ?_
         repeat (go_big_quiet_step (fail))
         refine wpQuiet_nil ?_;intro n;have hbn:Below w.heap.size w n.w:=hbW.trans (n.h.mono hbW.size);clear q1 q2 q3 x0 x1 x2 x3 x4 x5 y0 y3 c0;go_wp2;go_ret;exact Says.no (P:=RoundOk wd births ph top at_ ro qs ms) (fun h'=>h (h'.sums.m x (List.mem_of_getElem? hg.out))) hbn
       ·have HS:Hid (SumsOk wd qs ms):=by
         refine⟨h2,h3,HQA.out,fun s hs=> ?_,nodup_takes.2 fun j x hx=>(hall j x (by have:=(List.getElem?_eq_some_iff.1 hx).1;omega) hx).2⟩;obtain⟨j,hj,rfl⟩:=List.getElem_of_mem hs;exact(hall j _ (by omega) (List.getElem?_eq_getElem hj)).1
        clear hall HQA;by_cases p0:ph=0
        ·subst p0
         by_cases e1:qs.length=0
         ·by_cases e2:ms.length=0
          ·by_cases e3:top=0
           ·by_cases e4:at_=0
            ·go_wp2
             go_ret;exact Says.yes (P:=RoundOk wd births 0 top at_ ro qs ms) ⟨h1.1,h1.2,HS.out,.inl ⟨rfl,List.eq_nil_of_length_eq_zero e1,List.eq_nil_of_length_eq_zero e2,e3,e4⟩⟩ hbW
            ·have e4':(at_==0)=false:=by simpa using e4
             go_wp2;go_ret;exact Says.no (P:=RoundOk wd births 0 top at_ ro qs ms) (fun h=>by have:=h.ph;unfold PhOk at this;simp at this;have h9:=this.2.2.2;omega) hbW
           ·have e3':(top==0)=false:=by simpa using e3
            go_wp2;go_ret;exact Says.no (P:=RoundOk wd births 0 top at_ ro qs ms) (fun h=>by have:=h.ph;unfold PhOk at this;simp at this;have h9:=this.2.2.1;omega) hbW
          ·have e2':((ms.length:Int)==0)=false:=beq_eq_false_iff_ne.2 (by omega)
           go_wp2;go_ret;exact Says.no (P:=RoundOk wd births 0 top at_ ro qs ms) (fun h=>by have:=h.ph;unfold PhOk at this;simp at this;exact e2 (by rw[this.2.1];rfl)) hbW
         ·have e1':((qs.length:Int)==0)=false:=beq_eq_false_iff_ne.2 (by omega)
          go_wp2;go_ret;exact Says.no (P:=RoundOk wd births 0 top at_ ro qs ms) (fun h=>by have:=h.ph;unfold PhOk at this;simp at this;exact e1 (by rw[this.1];rfl)) hbW
        ·have p0':(ph==0)=false:=by simpa using p0
         go_wp2_with fail;refine(range_any top 0 births wr).mono ?_;rintro e w1 ⟨rfl,rfl⟩;by_cases e1:0<=top/\top<=births
         ·rw[decide_eq_true e1]
          have hwr:IntKind.i64.wrap (top+1)=top+1:=cnt_wrap (by omega) (by omega);go_wp2_with fail;refine(range_any at_ 1 (top+1) _).mono ?_;rintro e w1 ⟨rfl,rfl⟩;by_cases e2:1<=at_/\at_<=top+1
          ·rw[decide_eq_true e2]
           by_cases p3:ph=2
           ·subst p3
            go_wp2;go_ret;exact Says.yes (P:=RoundOk wd births 2 top at_ ro qs ms) ⟨h1.1,h1.2,HS.out,.inr (.inr ⟨rfl,e1.1,e1.2,e2.1,e2.2⟩)⟩ hbW
           ·have p3':(ph==2)=false:=by simpa using p3
            obtain rfl:ph=1:=by omega
            by_cases e3:at_=top+1
            ·have e3':(at_==top+1)=true:=by simpa using e3
             go_wp2;go_ret;exact Says.yes (P:=RoundOk wd births 1 top at_ ro qs ms) ⟨h1.1,h1.2,HS.out,.inr (.inl ⟨rfl,e1.1,e1.2,e3⟩)⟩ hbW
            ·have e3':(at_==top+1)=false:=by simpa using e3
             go_wp2;go_ret;exact Says.no (P:=RoundOk wd births 1 top at_ ro qs ms) (fun h=>by have:=h.ph;unfold PhOk at this;simp at this;exact e3 this.2.2) hbW
          ·rw[decide_eq_false e2]
           go_wp2;go_ret;exact Says.no (P:=RoundOk wd births ph top at_ ro qs ms) (fun h=>by rcases h.ph with h|h|h;exact p0 h.1;exact e2 (by have:=h.2.2.2;omega);exact e2 h.2.2.2) hbW
         ·rw[decide_eq_false e1]
          go_wp2;go_ret;exact Says.no (P:=RoundOk wd births ph top at_ ro qs ms) (fun h=>by rcases h.ph with h|h|h;exact p0 h.1;exact e1 ⟨h.2.1,h.2.2.1⟩;exact e1 ⟨h.2.1,h.2.2.1⟩) hbW
   ·have e3:decide ((600:Int)<(ms.length:Int))=true:=by simp;omega
    go_wp2;go_ret;exact Says.no (P:=RoundOk wd births ph top at_ ro qs ms) (fun h=>h3 h.sums.nm) hbW
  ·have e2:decide ((23200:Int)<(qs.length:Int))=true:=by simp;omega
   go_wp2;go_ret;exact Says.no (P:=RoundOk wd births ph top at_ ro qs ms) (fun h=>h2 h.sums.nq) hbW
 ·rw[decide_eq_false h1]
  go_wp2;go_ret;exact Says.no (P:=RoundOk wd births ph top at_ ro qs ms) (fun h=>h1 ⟨h.ro1,h.ro2⟩) hbW
end
structure VSt (w wx:World) (v:Vd) (a:Va) (b:Nat) (o:An) (ta pa la:Option Addr) (tc pc lc:Nat):Prop where
 box:CellsAt wx b [.int .i64 o.code,.int .i64 o.wd,.int .i64 o.now,.int .i64 o.given,.int .i64 o.births,.slice ta o.ks.length tc,.slice pa o.ps.length pc,.slice la o.ls.length lc,.string o.sm,.int .i64 o.le,.string o.a,.string o.b]
 rows:SRows wx wx.heap.size ta pa la o.ks o.ps o.ls
 rto:RTo v.wd (v.ss++v.tt) o
 vbox:CellsAt wx w.heap.size [.int .i64 v.wd,.int .i64 v.lim,.slice a.sa v.ss.length a.sc,.slice a.ta v.tt.length a.tc,.int .i64 v.sw,.int .i64 v.now,.int .i64 v.given,.int .i64 v.births,.slice a.ka v.ks.length a.kc,.slice a.pa v.ps.length a.pc,.slice a.la v.ls.length a.lc,.int .i64 v.ph,.slice a.qa v.qs.length a.qc,.slice a.ma v.ms.length a.mc,.int .i64 v.top,.int .i64 v.at_,.int .i64 v.ro]
 bel:Below w.heap.size w wx
theorem VSt.fin {w w2 w4:World} {v:Vd} {a:Va} {b:Nat} {o:An} {ta pa la:Option Addr} {tc pc lc:Nat} (hto:RTo v.wd (v.ss++v.tt) o) (hS:∀X,Tn [b] w4 X->SRows X X.heap.size ta pa la o.ks o.ps o.ls) (hw:Below w.heap.size w w2) (h24:Below w2.heap.size w2 w4) (hx:CellsAt w2 w.heap.size [.int .i64 v.wd,.int .i64 v.lim,.slice a.sa v.ss.length a.sc,.slice a.ta v.tt.length a.tc,.int .i64 v.sw,.int .i64 v.now,.int .i64 v.given,.int .i64 v.births,.slice a.ka v.ks.length a.kc,.slice a.pa v.ps.length a.pc,.slice a.la v.ls.length a.lc,.int .i64 v.ph,.slice a.qa v.qs.length a.qc,.slice a.ma v.ms.length a.mc,.int .i64 v.top,.int .i64 v.at_,.int .i64 v.ro]) (hlt:w.heap.size<w2.heap.size) (hz:CellsAt w4 b z12) (hb:w2.heap.size<=b):
 VSt w ((((((((((((w4.setCell ⟨b,0,none⟩ (.int .i64 o.code)).setCell ⟨b,1,none⟩ (.int .i64 o.wd)).setCell ⟨b,2,none⟩ (.int .i64 o.now)).setCell ⟨b,3,none⟩ (.int .i64 o.given)).setCell ⟨b,4,none⟩ (.int .i64 o.births)).setCell ⟨b,5,none⟩ (.slice ta o.ks.length tc)).setCell ⟨b,6,none⟩ (.slice pa o.ps.length pc)).setCell ⟨b,7,none⟩ (.slice la o.ls.length lc)).setCell ⟨b,8,none⟩ (.string o.sm)).setCell ⟨b,9,none⟩ (.int .i64 o.le)).setCell ⟨b,10,none⟩ (.string o.a)).setCell ⟨b,11,none⟩ (.string o.b)) v a b o ta pa la tc pc lc:=by
 have ht:=tn12 w4 b (.int .i64 o.code) (.int .i64 o.wd) (.int .i64 o.now) (.int .i64 o.given) (.int .i64 o.births) (.slice ta o.ks.length tc) (.slice pa o.ps.length pc) (.slice la o.ls.length lc) (.string o.sm) (.int .i64 o.le) (.string o.a) (.string o.b);have hz4:=h24.size;refine⟨set12 hz _ _ _ _ _ _ _ _ _ _ _ _,?_,hto,?_,?_⟩
 ·exact hS _ ht
 ·exact CellsAt.same (CellsAt.below hx h24) (ht.block _ (by omega) (by simp;omega))
 ·exact(hw.trans (h24.mono hw.size)).trans (ht.below (by have:=hw.size;omega) (fun j hj=>by simp at hj;have:=hw.size;omega))
theorem sValidVault_any (v:Vd) (a:Va) (w:World) (hr:VRows w w.heap.size a v) (hc:VCap a v) (hf:VFit v):
 Calls prog 28 #[.agg #[.int .i64 v.wd,.int .i64 v.lim,.slice a.sa v.ss.length a.sc,.slice a.ta v.tt.length a.tc,.int .i64 v.sw,.int .i64 v.now,.int .i64 v.given,.int .i64 v.births,.slice a.ka v.ks.length a.kc,.slice a.pa v.ps.length a.pc,.slice a.la v.ls.length a.lc,.int .i64 v.ph,.slice a.qa v.qs.length a.qc,.slice a.ma v.ms.length a.mc,.int .i64 v.top,.int .i64 v.at_,.int .i64 v.ro]] w fun e w'=>Says (VOk v) w w' e:=by
 obtain⟨W,hW⟩:∃W,W=w.alloc (.cells #[.int .i64 v.wd,.int .i64 v.lim,.slice a.sa v.ss.length a.sc,.slice a.ta v.tt.length a.tc,.int .i64 v.sw,.int .i64 v.now,.int .i64 v.given,.int .i64 v.births,.slice a.ka v.ks.length a.kc,.slice a.pa v.ps.length a.pc,.slice a.la v.ls.length a.lc,.int .i64 v.ph,.slice a.qa v.qs.length a.qc,.slice a.ma v.ms.length a.mc,.int .i64 v.top,.int .i64 v.at_,.int .i64 v.ro] 44):=⟨_,rfl⟩
 have bW:=(al1 hW).1;have zW:=(al1 hW).2.1;have xW:=(al1 hW).2.2;have HX:Hid (CellsAt W _ _):=(al1 hW).2.2;have HR:Hid (VRows w w.heap.size a v):=hr;have HW:Hid _:=hW;have HC1:Hid _:=swidth_any v.wd W;have HC2:Hid _:=range_any v.lim 0 1000000 W;have HC3:Hid _:=sValidLog_any a.sa a.ta a.sc a.tc v.ss v.tt W w.heap.size bW.size (hr.s.below bW) (hr.t.below bW) hf.s hf.t hf.ss hf.tt
 obtain⟨y0,y1,y2,y3,y4,y5,y6,y7,y8,y9,y10,y11,y12,y13,y14,y15,y16⟩:=c17 xW;clear hW xW hr;by_cases hwd:1<=v.wd/\v.wd<=8
 ·rw[decide_eq_true hwd] at HC1
  by_cases hlim:0<=v.lim/\v.lim<=1000000
  ·rw[decide_eq_true hlim] at HC2
   cases hlog:okLog v.ss v.tt with
   |true=>
    rw[hlog] at HC3;have hll:=okLog_le hlog;obtain⟨xs,hxs⟩:∃xs,xs=v.ss++v.tt:=⟨_,rfl⟩
    have HA:Hid (∀X,Below W.heap.size W X->Calls prog 54 #[.agg #[.slice a.sa v.ss.length a.sc,.slice a.ta v.tt.length a.tc]] X fun e w'=>∃g cap,e=.returned (.slice (some ⟨g,0,none⟩) xs.length cap)/\w'.ownsRow X.heap.size 9 1 (.slice (some ⟨g,0,none⟩) xs.length cap) xs.length (xs.map Value.string)/\Below X.heap.size X w'):=fun X hX=>by
     have hb:=bW.trans (hX.mono bW.size);rw[hxs];exact l7All_any a.sa a.ta a.sc a.tc v.ss v.tt X (HR.out.s.below' hb) (HR.out.t.below' hb) hc.s hc.t hf.s hf.t
    have HS:Hid (∀(X:World) (g cap:Nat),SRow X X.heap.size (some ⟨g,0,none⟩) xs->Calls prog 10 #[.int .i64 v.wd,.slice (some ⟨g,0,none⟩) xs.length cap] X fun e w'=>∃(o:An) (ta:Option Addr) (tc:Nat) (pa:Option Addr) (pc:Nat) (la:Option Addr) (lc:Nat) (rs:List Value),e=.returned (.agg #[.int .i64 o.code,.int .i64 o.wd,.int .i64 o.now,.int .i64 o.given,.int .i64 o.births,.slice ta o.ks.length tc,.slice pa o.ps.length pc,.slice la o.ls.length lc,.string o.sm,.int .i64 o.le,.string o.a,.string o.b])/\RTo v.wd xs o/\SAns w' X.heap.size (.slice ta o.ks.length tc) (.slice pa o.ps.length pc) (.slice la o.ls.length lc) rs o.ks o.ps o.ls/\Below X.heap.size X w'):=fun X g cap h=>by
     refine(sReplay_any v.wd _ _ xs X h (by rw[hxs];omega) (fun s hs=>by rw[hxs] at hs;rcases List.mem_append.1 hs with h|h;exact hf.ss s h;exact hf.tt s h)).mono ?_;rintro e w' ⟨o,T,P,L,rs,hto,rfl,hS,hb⟩;obtain⟨ta,tc,pa,pc,la,lc,rfl,rfl,rfl,_⟩:=hS.rows;exact⟨o,ta,tc,pa,pc,la,lc,rs,rfl,hto,hS,hb⟩
    have HXs:Hid (xs=v.ss++v.tt):=hxs;clear hxs;have HM:Hid (v.ms.length<=a.mc):=hc.m;clear hc;go_enter func28,ntmps28;go_wp2_with fail;rw[←HW.out];refine Calls.mono HC1.out ?_;rintro e w1 ⟨rfl,hw1⟩;replace hw1:=hw1.symm;subst hw1;go_wp2_with fail;refine Calls.mono HC2.out ?_;rintro e w1 ⟨rfl,hw1⟩;replace hw1:=hw1.symm;subst hw1;go_wp2_with fail;refine Calls.mono HC3.out ?_
    rintro e w2 ⟨rfl,hb2⟩;have x2:=CellsAt.below HX.out hb2;have z2:w.heap.size+1<=w2.heap.size:=by have:=hb2.size;omega
    have HB2:Hid (Below W.heap.size W w2):=hb2
    have HX2:Hid (CellsAt w2 w.heap.size [.int .i64 v.wd,.int .i64 v.lim,.slice a.sa v.ss.length a.sc,.slice a.ta v.tt.length a.tc,.int .i64 v.sw,.int .i64 v.now,.int .i64 v.given,.int .i64 v.births,.slice a.ka v.ks.length a.kc,.slice a.pa v.ps.length a.pc,.slice a.la v.ls.length a.lc,.int .i64 v.ph,.slice a.qa v.qs.length a.qc,.slice a.ma v.ms.length a.mc,.int .i64 v.top,.int .i64 v.at_,.int .i64 v.ro]):=x2
    have HBw:Hid (Below w.heap.size w w2):=bW.trans (hb2.mono bW.size);clear y0 y1 y2 y3 y4 y5 y6 y7 y8 y9 y10 y11 y12 y13 y14 y15 y16 HC1 HC2 HC3 hb2 HW;obtain⟨y0,y1,y2,y3,_⟩:=c17 x2;clear x2;go_upto_region 3 with fail
    generalize (.agg #[.int .i64 v.wd,.int .i64 v.lim,.slice a.sa v.ss.length a.sc,.slice a.ta v.tt.length a.tc,.int .i64 v.sw,.int .i64 v.now,.int .i64 v.given,.int .i64 v.births,.slice a.ka v.ks.length a.kc,.slice a.pa v.ps.length a.pc,.slice a.la v.ls.length a.lc,.int .i64 v.ph,.slice a.qa v.qs.length a.qc,.slice a.ma v.ms.length a.mc,.int .i64 v.top,.int .i64 v.at_,.int .i64 v.ro]:Value)=dv0
    go_cut [3] (fun u wx=>∃(b:Nat) (o:An) (ta pa la:Option Addr) (tc pc lc:Nat),u=.pointer (some ⟨b,0,none⟩)/\Hid (VSt w wx v a b o ta pa la tc pc lc))
    case first=>
     have HSR:Hid (∀X,Below w2.heap.size w2 X->X.cell? ⟨w.heap.size,0,none⟩=some (.int .i64 v.wd)/\X.cell? ⟨w.heap.size,2,none⟩=some (.slice a.sa v.ss.length a.sc)/\X.cell? ⟨w.heap.size,3,none⟩=some (.slice a.ta v.tt.length a.tc)):=fun X hX=>by
      obtain⟨u0,u1,u2,u3,_⟩:=c17 (CellsAt.below HX2.out hX);exact⟨u0,u2,u3⟩
     have HL:Hid (∀X,Below w2.heap.size w2 X->Below W.heap.size W X):=fun X hX=>HB2.out.trans (hX.mono HB2.out.size);have D0:Below w2.heap.size w2 w2.drew:=(Below.refl _ _).drew;have D1:∀o,Below w2.heap.size w2 (w2.alloc o).drew:=fun o=>((Below.refl _ _).alloc (Nat.le_refl _) _).drew;clear y0 y1 y2 y3
     go_region_held3 (fun X=>X.cell? ⟨w.heap.size,0,none⟩=some (.int .i64 v.wd)/\X.cell? ⟨w.heap.size,2,none⟩=some (.slice a.sa v.ss.length a.sc)/\X.cell? ⟨w.heap.size,3,none⟩=some (.slice a.ta v.tt.length a.tc))
      (first
        |with_reducible exact HSR.out _ D0
        |with_reducible exact HSR.out _ (D1 _)
        |with_reducible exact HSR.out _ B3
        |with_reducible exact HSR.out _ (B3.alloc B3.size _)
        |with_reducible exact HSR.out _ B4
        |with_reducible exact HSR.out _ (B4.alloc B4.size _)
        |with_reducible exact HSR.out _ (B4.trans ((tn12 w4 _ _ _ _ _ _ _ _ _ _ _ _ _).below B4.size (by intro x hx;simp at hx;omega))))
      (first
        |(go_at_call 54;guard_target=~Calls prog 54 _ (World.drew (World.alloc w2 _)) _;refine Calls.mono (HA.out (w2.alloc (.cells #[.int .i64 0,.int .i64 0,.int .i64 0,.int .i64 0,.int .i64 0,.slice none 0 0,.slice none 0 0,.slice none 0 0,.string ⟨#[]⟩,.int .i64 0,.string ⟨#[]⟩,.string ⟨#[]⟩] 30)).drew (HL.out _ (D1 _))) ?_;rintro e w3 ⟨g,cap,rfl,ho3,hw3⟩;have B3:Below w2.heap.size w2 w3:=(D1 _).trans (hw3.mono (by simp));have hr3:=SRow.own ho3;clear ho3;have zA:CellsAt w3 w2.heap.size z12:=CellsAt.below (v:=.int .i64 0) (w:=(w2.alloc (.cells #[.int .i64 0,.int .i64 0,.int .i64 0,.int .i64 0,.int .i64 0,.slice none 0 0,.slice none 0 0,.slice none 0 0,.string ⟨#[]⟩,.int .i64 0,.string ⟨#[]⟩,.string ⟨#[]⟩] 30))) (CellsAt.new w2 z12 30) (below_undrew hw3))
        |(go_at_call 54;guard_target=~Calls prog 54 _ (World.drew w2) _;refine Calls.mono (HA.out w2.drew (HL.out _ D0)) ?_;rintro e w3 ⟨g,cap,rfl,ho3,hw3⟩;have B3:Below w2.heap.size w2 w3:=D0.trans hw3;have hr3:=SRow.own ho3;clear ho3;have nA:=B3)
        |(go_at_call 10;have tag:=zA;refine Calls.mono (HS.out w3 g cap hr3) ?_;rintro e w4 ⟨o,ta,tc,pa,pc,la,lc,rs,rfl,hto,hS4,hw4⟩;have HRD:Hid _:=And.intro hto hS4;clear hto hS4 hr3;have B4:Below w2.heap.size w2 w4:=B3.trans (hw4.mono B3.size);have zA5:CellsAt w4 w2.heap.size z12:=CellsAt.below (v:=.int .i64 0) zA hw4;have hlt5:w2.heap.size<w3.heap.size:=CellsAt.lt (v:=.int .i64 0) zA;have hle5:w2.heap.size<=w2.heap.size:=Nat.le_refl _;obtain⟨⟨t0,q0⟩,⟨t1,q1⟩,⟨t2,q2⟩,⟨t3,q3⟩,⟨t4,q4⟩,⟨t5,q5⟩,⟨t6,q6⟩,⟨t7,q7⟩,⟨t8,q8⟩,⟨t9,q9⟩,⟨t10,q10⟩,t11,q11⟩:=z12at zA5)
        |(go_at_call 10;guard_target=~Calls prog 10 _ (World.alloc w3 _) _;refine Calls.mono (HS.out (w3.alloc (.cells #[.int .i64 0,.int .i64 0,.int .i64 0,.int .i64 0,.int .i64 0,.slice none 0 0,.slice none 0 0,.slice none 0 0,.string ⟨#[]⟩,.int .i64 0,.string ⟨#[]⟩,.string ⟨#[]⟩] 30)) g cap (hr3.below' ((Below.refl _ _).alloc (Nat.le_refl _) _))) ?_;rintro e w4 ⟨o,ta,tc,pa,pc,la,lc,rs,rfl,hto,hS4,hw4⟩;have HRD:Hid _:=And.intro hto hS4;clear hto hS4 hr3;have B4:Below w2.heap.size w2 w4:=(B3.alloc B3.size _).trans (hw4.mono (by have:=B3.size;simp;omega));have zB5:CellsAt w4 w3.heap.size z12:=CellsAt.below (v:=.int .i64 0) (w:=(w3.alloc (.cells #[.int .i64 0,.int .i64 0,.int .i64 0,.int .i64 0,.int .i64 0,.slice none 0 0,.slice none 0 0,.slice none 0 0,.string ⟨#[]⟩,.int .i64 0,.string ⟨#[]⟩,.string ⟨#[]⟩] 30))) (CellsAt.new w3 z12 30) hw4;have hle5:w2.heap.size<=w3.heap.size:=B3.size;obtain⟨⟨t0,q0⟩,⟨t1,q1⟩,⟨t2,q2⟩,⟨t3,q3⟩,⟨t4,q4⟩,⟨t5,q5⟩,⟨t6,q6⟩,⟨t7,q7⟩,⟨t8,q8⟩,⟨t9,q9⟩,⟨t10,q10⟩,t11,q11⟩:=z12at zB5)
        |(go_at_call 10;have tag:=nA;refine Calls.mono (HS.out w3 g cap hr3) ?_;rintro e w4 ⟨o,ta,tc,pa,pc,la,lc,rs,rfl,hto,hS4,hw4⟩;have HRD:Hid _:=And.intro hto hS4;clear hto hS4 hr3;have B4:Below w2.heap.size w2 w4:=B3.trans (hw4.mono B3.size);have nD:=nA))
     all_goals
      go_wp2_with fail;go_meet
     all_goals first
      |(have tag:=zA5
        exact⟨w2.heap.size,o,ta,pa,la,tc,pc,lc,rfl,VSt.fin (HXs.out▸HRD.out.1) (fun X ht=>SAns.get (HRD.out.2.turn ht (by simp;exact hlt5))) HBw.out B4 HX2.out (by omega) zA5 hle5⟩)
      |(have tag:=zB5
        exact⟨w3.heap.size,o,ta,pa,la,tc,pc,lc,rfl,VSt.fin (HXs.out▸HRD.out.1) (fun X ht=>SAns.get (HRD.out.2.turn ht (by simp))) HBw.out B4 HX2.out (by omega) zB5 hle5⟩)
      |(have tag:=nD
        exact⟨w4.heap.size,o,ta,pa,la,tc,pc,lc,rfl,⟨CellsAt.new w4 [.int .i64 o.code,.int .i64 o.wd,.int .i64 o.now,.int .i64 o.given,.int .i64 o.births,.slice ta o.ks.length tc,.slice pa o.ps.length pc,.slice la o.ls.length lc,.string o.sm,.int .i64 o.le,.string o.a,.string o.b] 30,(SAns.get HRD.out.2).below' ((Below.refl _ _).alloc (Nat.le_refl _) _),HXs.out▸HRD.out.1,CellsAt.below (CellsAt.below HX2.out B4) ((Below.refl _ _).alloc (Nat.le_refl _) _),(HBw.out.trans (B4.mono HBw.out.size)).alloc (Nat.le_trans HBw.out.size B4.size) _⟩⟩)
    case rest=>
     clear y0 y1 y2 y3 HA HS;obtain⟨b,o,ta,pa,la,tc,pc,lc,rfl,HV⟩:=hcut;rcases HV.out.rto with⟨hno,_⟩|⟨_,⟨n,hrn,ho⟩|⟨r,hrn,ho⟩⟩
     ·exact absurd ⟨hwd,hll⟩ hno
     ·have hcode:o.code=7:=by rw[ho]
      obtain⟨m0,_⟩:=HV.out.box 0 _ rfl;rw[hcode] at m0;have HBe:Hid (Below w.heap.size w wc):=HV.out.bel;have HNo:Hid (¬VOk v):=fun⟨r,h⟩=>RunNo.not hwd.1 hwd.2 hrn h.run;clear ho hrn HV;go_wp2;go_ret;exact Says.no HNo.out HBe.out
     ·subst ho
      have hro:=hrn.ok (r0_ok hwd.1 hwd.2);obtain⟨⟨m0,_⟩,⟨m1,_⟩,⟨m2,_⟩,⟨m3,_⟩,⟨m4,_⟩,⟨m5,_⟩,⟨m6,_⟩,m7,_⟩:=c12 HV.out.box;obtain⟨y0,y1,y2,y3,y4,y5,y6,y7,y8,y9,y10,y11,y12,y13,y14,y15,y16⟩:=c17 HV.out.vbox;have HBe:Hid (Below w.heap.size w wc):=HV.out.bel;have hr':=HR.out.st.keep HBe.out
      have HSm:Hid _:=l7SameState_any v.wd r.now r.given r.births v.sw v.now v.given v.births ta pa la a.ka a.pa a.la tc pc lc a.kc a.pc a.lc r.ks v.ks r.ps v.ps r.ls v.ls wc HV.out.rows (hr'.mono HBe.out.size) ⟨by have:=hro.kso.len;omega,by have:=hro.np;omega,by have:=hro.nl;omega⟩ ⟨hf.st.k,hf.st.p,hf.st.l⟩ (fun k hk=>by have:=hro.r30 k hk;omega) hf.st.r;have HVb:Hid _:=HV.out.vbox
      have HRun:Hid (Run v.wd r0 (v.ss++v.tt) r):=hrn;have HRo:Hid (r.births<=1000000000):=hro.births1;clear hr' hro HV;go_wp2_with fail;refine Calls.mono HSm.out ?_;rintro e w5 ⟨bb,rfl,hbb,hb5⟩;have HB5:Hid (Below w.heap.size w w5):=HBe.out.trans (hb5.mono HBe.out.size);have x5:=CellsAt.below HVb.out hb5
      clear m0 m1 m2 m3 m4 m5 m6 m7 y0 y1 y2 y3 y4 y5 y6 y7 y8 y9 y10 y11 y12 y13 y14 y15 y16 HSm hb5 hrn;cases bb with
      |false=>
       have HNo:Hid (¬VOk v):=fun⟨r',h⟩=>by
        obtain rfl:=HRun.out.det h.run;have:=hbb.2 h.same;cases this
       clear hbb x5 HVb;go_wp2;go_ret;exact Says.no HNo.out HB5.out
      |true=>
       have HSame:Hid _:=hbb.1 rfl;obtain⟨y0,y1,y2,y3,y4,y5,y6,y7,y8,y9,y10,y11,y12,y13,y14,y15,y16⟩:=c17 x5
       have HL6:Hid _:=l6Ok_any v.sw v.now v.given v.births v.ph v.top v.at_ v.ro (.slice a.ka v.ks.length a.kc) (.slice a.pa v.ps.length a.pc) (.slice a.la v.ls.length a.lc) a.qa a.ma a.qc a.mc v.qs v.ms w5 (HR.out.q.below' HB5.out) (HR.out.m.below' HB5.out) hf.r HM.out (by have h1:=HSame.out.1.2.2.2;have h2:=HRo.out;omega);clear hbb x5 HVb;go_wp2_with fail;refine Calls.mono HL6.out ?_
       rintro e w6 ⟨bb,rfl,hbb,hb6⟩;have HB6:Hid (Below w.heap.size w w6):=HB5.out.trans (hb6.mono HB5.out.size);have HN:Hid (bb=true↔VOk v):=by
        have h1:=HSame.out.1.1;rw[←h1] at hbb;refine⟨fun h=>⟨r,hwd,hlim,hlog,HRun.out,HSame.out,hbb.1 h⟩,fun⟨r',h⟩=>hbb.2 h.round⟩
       clear y0 y1 y2 y3 y4 y5 y6 y7 y8 y9 y10 y11 y12 y13 y14 y15 y16 HL6 hbb hb6;go_wp2;go_ret;exact⟨bb,rfl,HN.out,HB6.out⟩
   |false=>
    rw[hlog] at HC3;go_enter func28,ntmps28;go_wp2_with fail;rw[←HW.out];refine Calls.mono HC1.out ?_;rintro e w1 ⟨rfl,hw1⟩;replace hw1:=hw1.symm;subst hw1;go_wp2_with fail;refine Calls.mono HC2.out ?_;rintro e w1 ⟨rfl,hw1⟩;replace hw1:=hw1.symm;subst hw1;go_wp2_with fail;refine Calls.mono HC3.out ?_;rintro e w2 ⟨rfl,hb2⟩;have HBw:Hid (Below w.heap.size w w2):=bW.trans (hb2.mono bW.size)
    clear y0 y1 y2 y3 y4 y5 y6 y7 y8 y9 y10 y11 y12 y13 y14 y15 y16;go_wp2;go_ret;exact Says.no (fun⟨r,h⟩=>by have:=h.log;rw[hlog] at this;cases this) HBw.out
  ·rw[decide_eq_false hlim] at HC2
   go_enter func28,ntmps28;go_wp2_with fail;rw[←HW.out];refine Calls.mono HC1.out ?_;rintro e w1 ⟨rfl,hw1⟩;replace hw1:=hw1.symm;subst hw1;go_wp2_with fail;refine Calls.mono HC2.out ?_;rintro e w1 ⟨rfl,hw1⟩;replace hw1:=hw1.symm;subst hw1;clear y0 y1 y2 y3 y4 y5 y6 y7 y8 y9 y10 y11 y12 y13 y14 y15 y16;go_wp2;go_ret;exact Says.no (fun⟨r,h⟩=>hlim h.lim) bW
 ·rw[decide_eq_false hwd] at HC1
  go_enter func28,ntmps28;go_wp2_with fail;rw[←HW.out];refine Calls.mono HC1.out ?_;rintro e w1 ⟨rfl,hw1⟩;replace hw1:=hw1.symm;subst hw1;clear y0 y1 y2 y3 y4 y5 y6 y7 y8 y9 y10 y11 y12 y13 y14 y15 y16;go_wp2;go_ret;exact Says.no (fun⟨r,h⟩=>hwd h.wd) bW
theorem sFetch_any (v:Vd) (a:Va) (s:ByteArray) (w:World) (hr:VRows w w.heap.size a v) (hc:VCap a v) (hf:VFit v) (hk:∀A,a.ka=some A->KSome w A v.ks):
 Calls prog 31 #[.agg #[.int .i64 v.wd,.int .i64 v.lim,.slice a.sa v.ss.length a.sc,.slice a.ta v.tt.length a.tc,.int .i64 v.sw,.int .i64 v.now,.int .i64 v.given,.int .i64 v.births,.slice a.ka v.ks.length a.kc,.slice a.pa v.ps.length a.pc,.slice a.la v.ls.length a.lc,.int .i64 v.ph,.slice a.qa v.qs.length a.qc,.slice a.ma v.ms.length a.mc,.int .i64 v.top,.int .i64 v.at_,.int .i64 v.ro],.string s] w fun e w'=>∃(t:ByteArray) (ra:Option Addr) (refs:List ByteArray) (rc:Nat) (ok:Bool),FTo v s t refs ok/\e=.returned (.tuple #[.agg #[.string t,.slice ra refs.length rc],.bool ok])/\SRow w' w'.heap.size ra refs/\Below w.heap.size w w':=by
 obtain⟨W,hW⟩:∃W,W=(w.alloc (.cells #[.int .i64 v.wd,.int .i64 v.lim,.slice a.sa v.ss.length a.sc,.slice a.ta v.tt.length a.tc,.int .i64 v.sw,.int .i64 v.now,.int .i64 v.given,.int .i64 v.births,.slice a.ka v.ks.length a.kc,.slice a.pa v.ps.length a.pc,.slice a.la v.ls.length a.lc,.int .i64 v.ph,.slice a.qa v.qs.length a.qc,.slice a.ma v.ms.length a.mc,.int .i64 v.top,.int .i64 v.at_,.int .i64 v.ro] 44)).alloc (.cells #[.string ⟨#[]⟩,.slice none 0 0] 66):=⟨_,rfl⟩
 have bW:=(al2 hW).1;have zW:=(al2 hW).2.1;have HX:Hid (CellsAt W _ _):=(al2 hW).2.2.1;have HZ:Hid (CellsAt W (w.heap.size+1) [.string ⟨#[]⟩,.slice none 0 0]):=by
  have h1:=CellsAt.new (w.alloc (.cells #[.int .i64 v.wd,.int .i64 v.lim,.slice a.sa v.ss.length a.sc,.slice a.ta v.tt.length a.tc,.int .i64 v.sw,.int .i64 v.now,.int .i64 v.given,.int .i64 v.births,.slice a.ka v.ks.length a.kc,.slice a.pa v.ps.length a.pc,.slice a.la v.ls.length a.lc,.int .i64 v.ph,.slice a.qa v.qs.length a.qc,.slice a.ma v.ms.length a.mc,.int .i64 v.top,.int .i64 v.at_,.int .i64 v.ro] 44)) [.string ⟨#[]⟩,.slice none 0 0] 66
  rw[World.size_alloc] at h1;show CellsAt W (w.heap.size+1) [.string ⟨#[]⟩,.slice none 0 0];rw[hW];exact h1
 have HR:Hid (∀X,Below w.heap.size w X->VRows X X.heap.size a v):=fun X hX=>hr.below' hX;have HK:Hid (∀A,a.ka=some A->KSome w A v.ks):=hk;have HV:Hid _:=sValidVault_any v a W (hr.below' bW) hc hf;have HSF:Hid (SFit v.ks v.ps v.ls):=hf.st;have hkl:v.ks.length<=1048576:=hf.st.k;have HW:Hid _:=hW;have HBW:Hid (Below w.heap.size w W):=bW;clear hW hr hk bW hf hc;go_enter func31,ntmps31
 go_upto_region 1 with fail;rw[←HW.out];clear HW
 go_wp2_with (refine wpList_load_mid rfl 44 _ rfl w.heap.size 0 rfl [.int .i64 v.wd,.int .i64 v.lim,.slice a.sa v.ss.length a.sc,.slice a.ta v.tt.length a.tc,.int .i64 v.sw,.int .i64 v.now,.int .i64 v.given,.int .i64 v.births,.slice a.ka v.ks.length a.kc,.slice a.pa v.ps.length a.pc,.slice a.la v.ls.length a.lc,.int .i64 v.ph,.slice a.qa v.qs.length a.qc,.slice a.ma v.ms.length a.mc,.int .i64 v.top,.int .i64 v.at_,.int .i64 v.ro] _ HX.out.range underlying44 rfl (by kernel_rfl) ?_)
 refine Calls.mono HV.out ?_;rintro e w1 ⟨o,rfl,ho,hb1⟩;have z1:=hb1.size
 have HX1:Hid (CellsAt w1 w.heap.size [.int .i64 v.wd,.int .i64 v.lim,.slice a.sa v.ss.length a.sc,.slice a.ta v.tt.length a.tc,.int .i64 v.sw,.int .i64 v.now,.int .i64 v.given,.int .i64 v.births,.slice a.ka v.ks.length a.kc,.slice a.pa v.ps.length a.pc,.slice a.la v.ls.length a.lc,.int .i64 v.ph,.slice a.qa v.qs.length a.qc,.slice a.ma v.ms.length a.mc,.int .i64 v.top,.int .i64 v.at_,.int .i64 v.ro]):=CellsAt.below HX.out hb1
 have HZ1:Hid (CellsAt w1 (w.heap.size+1) [.string ⟨#[]⟩,.slice none 0 0]):=CellsAt.below HZ.out hb1;have HB1:Hid (Below w.heap.size w w1):=HBW.out.trans (hb1.mono HBW.out.size);obtain⟨m0,n0⟩:=HZ1.out 0 _ rfl;obtain⟨m1,n1⟩:=HZ1.out 1 _ rfl;clear hb1 HV HX HZ HBW;cases o with
 |false=>
  have HNo:Hid (¬VOk v):=fun h=>by have:=ho.2 h;cases this
  clear ho;go_wp2;refine bodyPost_ret (v:=.tuple #[.agg #[.string ⟨#[]⟩,.slice none 0 0],.bool false]) (by simp[results,results31,go_sem,m0,m1]) rfl ?_;exact⟨⟨#[]⟩,none,[],0,false,.inl ⟨HNo.out,rfl,rfl,rfl⟩,rfl,.inl rfl,(HB1.out.setCell (by simp) _).setCell (by simp) _⟩
 |true=>
  have HYes:Hid (VOk v):=ho.1 rfl;obtain⟨y4,y5,y6,y7,y8,y9,y10⟩:=CellsAt.c7 HX1.out 4 5 6 7 8 9 10;have HFd:Hid _:=find_any v.sw v.now v.given v.births a.ka a.kc (.slice a.pa v.ps.length a.pc) (.slice a.la v.ls.length a.lc) v.ks s w1 w1.heap.size (HR.out w1 HB1.out).st.k (Nat.le_refl _) hkl;clear ho m0 m1 n0 n1;go_wp2_with fail;refine Calls.mono HFd.out ?_;rintro e w2 ⟨rfl,hb2⟩;have z2:=hb2.size
  have HX2:Hid (CellsAt w2 w.heap.size [.int .i64 v.wd,.int .i64 v.lim,.slice a.sa v.ss.length a.sc,.slice a.ta v.tt.length a.tc,.int .i64 v.sw,.int .i64 v.now,.int .i64 v.given,.int .i64 v.births,.slice a.ka v.ks.length a.kc,.slice a.pa v.ps.length a.pc,.slice a.la v.ls.length a.lc,.int .i64 v.ph,.slice a.qa v.qs.length a.qc,.slice a.ma v.ms.length a.mc,.int .i64 v.top,.int .i64 v.at_,.int .i64 v.ro]):=CellsAt.below HX1.out hb2
  have HZ2:Hid (CellsAt w2 (w.heap.size+1) [.string ⟨#[]⟩,.slice none 0 0]):=CellsAt.below HZ1.out hb2;have HB2:Hid (Below w.heap.size w w2):=HB1.out.trans (hb2.mono HB1.out.size);obtain⟨m0,n0⟩:=HZ2.out 0 _ rfl;obtain⟨m1,n1⟩:=HZ2.out 1 _ rfl;clear hb2 HFd HX1 HZ1 HB1 y4 y5 y6 y7 y8 y9 y10;rcases findI_cases v.ks s with⟨hfi,hno⟩|⟨i,x,hfi,hx,hxs⟩
  ·rw[hfi]
   have HNo:Hid (¬There v.ks s):=hno;clear hno;go_wp2;refine bodyPost_ret (v:=.tuple #[.agg #[.string ⟨#[]⟩,.slice none 0 0],.bool false]) (by simp[results,results31,go_sem,m0,m1]) rfl ?_;exact⟨⟨#[]⟩,none,[],0,false,.inr ⟨HYes.out,.inl ⟨HNo.out,rfl,rfl,rfl⟩⟩,rfl,.inl rfl,(HB2.out.setCell (by simp) _).setCell (by simp) _⟩
  ·rw[hfi]
   have hil:i<v.ks.length:=(List.getElem?_eq_some_iff.1 hx).1;have hxm:x∈v.ks:=List.mem_of_getElem? hx;have hi0:¬((i:Int)<0):=by omega
   obtain⟨b,off,ha,hb,hcell⟩:=(HR.out w2 HB2.out).st.k.at hil;obtain⟨c0,c1,c2,ra,rc,c3,hrow⟩:=hcell i x hx;obtain⟨ad,rc',hks⟩:=HK.out _ ha i x hx;have hks2:w2.cell? ⟨b,off+i *4+3,none⟩=some (.slice (some ad) x.refs.length rc'):=(HB2.out.cell (p:=⟨b,off+i *4+3,none⟩) (World.block_lt_of_cell? w _ hks)).trans hks;rw[c3] at hks2;cases hks2;have hr30:x.refs.length<=100000:=by
    obtain⟨r,h⟩:=HYes.out;have h1:=(h.run.ok (r0_ok h.wd.1 h.wd.2)).r30 x (by rw[h.same.2.1];exact hxm);omega
   have HL:Hid _:=l1Thing_any x.text (some ad) rc x.refs w2 hrow (fun e=>by cases e) hr30;obtain⟨y8,_⟩:=HX2.out 8 _ rfl;rw[ha] at y8;have HFin:Hid (FTo v s x.text x.refs true):=.inr ⟨HYes.out,.inr ⟨x,hxm,hxs,rfl,rfl,rfl⟩⟩;have hil':(i:Int)<v.ks.length:=by omega
   clear hcell hrow hks c0 c1 hx hxs hxm ha HK HR;go_wp2_with fail;refine Calls.mono HL.out ?_;rintro e w3 ⟨g3,gc3,rfl,ho3,hb3⟩;have z3:=hb3.size;have HZ3:Hid (CellsAt w3 (w.heap.size+1) [.string ⟨#[]⟩,.slice none 0 0]):=CellsAt.below HZ2.out hb3;have HB3:Hid (Below w.heap.size w w3):=HB2.out.trans (hb3.mono HB2.out.size);obtain⟨p0,q0⟩:=HZ3.out 0 _ rfl;obtain⟨p1,q1⟩:=HZ3.out 1 _ rfl
   have HO3:Hid _:=ho3;clear ho3 hb3 m0 m1 n0 n1 y8 c2 c3 HL HX2 HZ2;go_wp2;refine bodyPost_ret (v:=.tuple #[.agg #[.string x.text,.slice (some ⟨g3,0,none⟩) x.refs.length gc3],.bool true]) (by simp[results,results31,go_sem,p0,p1]) rfl ?_;refine⟨x.text,_,x.refs,_,true,HFin.out,rfl,?_,(HB3.out.setCell (by simp) _).setCell (by simp) _⟩
   have h9:=SRow.own (ownsRow_setCell_below (ownsRow_setCell_below HO3.out (a:=⟨w.heap.size+1,0,none⟩) (by simp<;>omega) (.string x.text)) (a:=⟨w.heap.size+1,1,none⟩) (by simp<;>omega) (.slice (some ⟨g3,0,none⟩) x.refs.length gc3));exact h9
end Go.Proofs.YtpekbmegopfhfaaGreatDoor
