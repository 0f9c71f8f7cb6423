import Derived.Test.YtpekbmegopfhfaaGreatDoorK40
import Derived.Test.YtpekbmegopfhfaaGreatDoorK42
import Derived.Test.YtpekbmegopfhfaaGreatDoorK28
set_option maxRecDepth 100000
set_option maxHeartbeats 16000000
namespace Go.Proofs.YtpekbmegopfhfaaGreatDoor
open Go.ChangeShapes Go.WideShapes Go.ChangeAt Go.RowKit _root_.Go.Proofs.Tryz
section
attribute [local go_sem↓] Go.wp_at_zero Go.wp_at_succ
theorem Jg {ms:List ByteArray}:ms.Nodup↔∀(j:Nat) x,ms[j]?=some x->x∉ms.take j:=by
 unfold List.Nodup;rw[List.pairwise_iff_getElem];constructor
 ·intro h j x hj hm
  obtain⟨zA,rfl⟩:=XC hj;obtain⟨i,hi,e⟩:=List.getElem_of_mem hm;have zC:i<j:=by simp at hi;omega
  rw[List.getElem_take] at e;exact h i j (by omega) zA zC e
 ·intro h i j hi hj zE e
  refine h j ms[j] (XD hj) ?_;rw[←e];have zB:i<(ms.take j).length:=by simp;omega
  have:=List.getElem_mem zB;rw[List.getElem_take] at this;exact this
theorem Ae.front {w:World} {B:Nat} {a:Option Addr} {tt:List ByteArray} (h:Ae w B a tt) (K:Nat):Ae w B a (tt.take K):=by
 rcases h with h|⟨q,off,h1,h2,h3⟩
 ·exact .inl (by simp[h])
 ·refine .inr ⟨q,off,h1,h2,fun i s his=>h3 i s ?_⟩
  have hi:=(XC his).1;simp at hi;rw[List.getElem?_take_of_lt (by omega)] at his;exact his
theorem TS (wd now given births ph top at_ ro:Int) (T P L:Value) (a b:Option Addr) (ac bc:Nat) (qs ms:List ByteArray) (w:World) (hq:Ae w w.heap.size a qs) (hm:Ae w w.heap.size b ms) (hf:GO qs ms) (zP:ms.length<=bc) (zW:births<=1000000000):
 Calls prog 68 #[.agg #[XJ wd,XJ now,XJ given,XJ births,T,P,L],.agg #[XJ ph,.slice a qs.length ac,.slice b ms.length bc,XJ top,XJ at_,XJ ro]] w fun e w'=>Ak (AO wd births ph top at_ ro qs ms) w w' e:=by
 have yD:=hf.q;have zY:=hf.m;obtain⟨W,hW⟩:∃W,W=(w.alloc (.cells #[XJ wd,XJ now,XJ given,XJ births,T,P,L] 28)).alloc (.cells #[XJ ph,.slice a qs.length ac,.slice b ms.length bc,XJ top,XJ at_,XJ ro] 42):=⟨_,rfl⟩;have zA:Below w.heap.size w W:=by rw[hW];exact(XA).alloc (by simp) _
 have zO:AT W w.heap.size wd now given births T P L:=by rw[hW];exact(AT.new w wd now given births T P L 28).below (XA)
 have zM:Cw W (w.heap.size+1) ph (.slice a qs.length ac) (.slice b ms.length bc) top at_ ro:=by
  rw[hW];have:=Cw.new (w.alloc (.cells #[XJ wd,XJ now,XJ given,XJ births,T,P,L] 28)) ph top at_ ro (.slice a qs.length ac) (.slice b ms.length bc) 42;rw[World.size_alloc] at this;exact this
 have zR:W.heap.size=w.heap.size+2:=by rw[hW];simp
 have HW:Hid _:=hW;clear hW;have zE:Hid _:=zO;have zC:Hid _:=zM;have HQ:Hid _:=hq;have HM:Hid _:=hm;clear zO zM hq hm;by_cases p1:ph<0
 ·have d1:decide (ph<0)=true:=by simpa using p1
  go_enter func68,ntmps68;go_wp2;go_ret;rw[←HW.o];exact Ak.no (P:=AO wd births ph top at_ ro qs ms) (fun h=>by rcases h.ph with h|h|h<;>(have:=h.1;omega)) zA
 have d1:decide (ph<0)=false:=by simpa using p1
 by_cases p2:2<ph
 ·have d2:decide ((2:Int)<ph)=true:=by simpa using p2
  go_enter func68,ntmps68;go_wp2;go_ret;rw[←HW.o];exact Ak.no (P:=AO wd births ph top at_ ro qs ms) (fun h=>by rcases h.ph with h|h|h<;>(have:=h.1;omega)) zA
 have d2:decide ((2:Int)<ph)=false:=by simpa using p2
 go_enter func68,ntmps68;go_wp2_with fail;rw[←HW.o];refine(FH ro 0 1000000000 W).mono ?_;rintro e w1 ⟨rfl,rfl⟩;obtain⟨x0,x1,x2,x3,x4,x5,x6⟩:=zC.o;by_cases h1:0<=ro/\ro<=1000000000
 ·rw[decide_eq_true h1]
  by_cases h2:qs.length<=23200
  ·have e2:decide ((23200:Int)<(qs.length:Int))=false:=by simp;omega
   by_cases h3:ms.length<=600
   ·have e3:decide ((600:Int)<(ms.length:Int))=false:=by simp;omega
    clear HW;go_wp2
    go_loopw [5] (fun i wr=>∃k:Nat,k<=qs.length/\i=XJ k/\Hid (∀j x,j<k->qs[j]?=some x->(x.size:Int)=wd)/\Hid (AT wr w.heap.size wd now given births T P L)/\Hid (Cw wr (w.heap.size+1) ph (.slice a qs.length ac) (.slice b ms.length bc) top at_ ro)/\Xz w wr) (fun i _=>qs.length -(intOf i).toNat)
    case atStart=>exact⟨0,Nat.zero_le _,rfl,fun j x h=>by omega,zE,zC,zA⟩
    case round=>
     clear x0 x1 x2 x3 x4 x5 x6 zE zC zA zR;obtain⟨k,hk,rfl,zB,zE,zC,zA⟩:=hrel;obtain⟨x0,x1,x2,x3,x4,x5,x6⟩:=zC.o;obtain⟨y0,_,_,y3,_,_,_,y7⟩:=zE.o;by_cases hlt:k<qs.length
     ·obtain⟨b',off,ha,hb,hc⟩:=(Ae.below HQ.o zA).at hlt
      subst ha;have hg:Hid _:=XD hlt;have c0:=hc k _ hg;have zG:=XH hb zA.size;clear hc;generalize qs[k]=x at *
      have q1:=AB.cell x1 x6;have q2:=AB.cell c0 zG;have q3:=AB.cell y0 y7;have zT:=AB.ne wr;by_cases h:(x.size:Int)=wd
      ·have hn:((x.size:Int) !=wd)=false:=by simp[h]
       have HA:Hid (∀j y,j<k+1->qs[j]?=some y->(y.size:Int)=wd):=by
        intro j y hj hy;rcases Nat.lt_or_ge j k with h'|h'
        ·exact zB j y h' hy
        ·obtain rfl:j=k:=by omega
         rw[hg.o] at hy;cases hy;exact h
       go_wp2;refine AE (by kernel_rfl) (by kernel_rfl) ?_
       repeat (go_big_quiet_step (fail))
       refine wpQuiet_nil ?_;intro n;have zI:Hid _:=AT.keep zE.o n.h y7;have zJ:Hid _:=Cw.keep zC.o n.h x6;have zF:=zA.trans (n.h.mono zA.size);clear q1 q2 q3 x0 x1 x2 x3 x4 x5 y0 y3 c0;go_wp2;exact⟨⟨k+1,by omega,by go_num,HA,zI,zJ,zF⟩,by simp[intOf];omega⟩
      ·have hn:((x.size:Int) !=wd)=true:=by simp[h]
       go_wp2;refine AE (by kernel_rfl) (by kernel_rfl) ?_
       repeat (go_big_quiet_step (fail))
       refine wpQuiet_nil ?_;intro n;have zF:=zA.trans (n.h.mono zA.size);clear q1 q2 q3 x0 x1 x2 x3 x4 x5 y0 y3 c0;go_wp2;go_ret;exact Ak.no (P:=AO wd births ph top at_ ro qs ms) (fun h'=>h (h'.sums.q x (XG hg.o))) zF
     ·have zK:Hid (∀s∈qs,(s.size:Int)=wd):=by
       intro s hs;obtain⟨j,hj,rfl⟩:=List.getElem_of_mem hs;exact zB j _ (by omega) (XD hj)
      clear zB;go_wp2
      go_loopw [6] (fun i wr=>∃k:Nat,k<=ms.length/\i=XJ k/\Hid (∀j x,j<k->ms[j]?=some x->(x.size:Int)=wd/\x∉ms.take j)/\Hid (AT wr w.heap.size wd now given births T P L)/\Hid (Cw wr (w.heap.size+1) ph (.slice a qs.length ac) (.slice b ms.length bc) top at_ ro)/\Xz w wr) (fun i _=>ms.length -(intOf i).toNat)
      case atStart=>exact⟨0,Nat.zero_le _,rfl,fun j x h=>by omega,zE,zC,zA⟩
      case round=>
       clear x0 x1 x2 x3 x4 x5 x6 y0 y3 y7 zE zC zA;obtain⟨k,hk,rfl,zB,zE,zC,zA⟩:=hrel;obtain⟨x0,x1,x2,x3,x4,x5,x6⟩:=zC.o;obtain⟨y0,_,_,y3,_,_,_,y7⟩:=zE.o;by_cases hlt:k<ms.length
       ·obtain⟨b',off,ha,hb,hc⟩:=(Ae.below HM.o zA).at hlt
        subst ha;have hg:Hid _:=XD hlt;have c0:=hc k _ hg;have zG:=XH hb zA.size;clear hc;generalize ms[k]=x at *
        have q1:=AB.cell x2 x6;have q2:=AB.cell c0 zG;have q3:=AB.cell y0 y7;have zT:=AB.ne wr;have zS:(ms.take k).length=k:=by simp;omega
        have hH:∀n:AB wr,Calls prog 115 #[.slice (some ⟨b',off,none⟩) k bc,.string x] n.w fun e w'=>e=.returned (.bool ((ms.take k).any (fun y=>decide (y=x))))/\Below n.w.heap.size n.w w':=fun n=>by
         have:=OC (some ⟨b',off,none⟩) bc (ms.take k) x n.w w.heap.size (Ae.front (Ae.below HM.o (zA.trans (n.h.mono zA.size))) k) (by omega);rw[zS] at this;exact this.mono (by rintro e w' ⟨rfl,rfl⟩;exact⟨rfl,Below.refl _ _⟩)
        have HH:Hid _:=hH;clear hH;have zZ:k<=bc:=by omega
        by_cases h:(x.size:Int)=wd
        ·have hn:((x.size:Int) !=wd)=false:=by simp[h]
         cases hin:(ms.take k).any (fun y=>decide (y=x)) with
         |false=>
          rw[hin] at HH;have zH:x∉ms.take k:=fun hx=>by
           have:(ms.take k).any (fun y=>decide (y=x))=true:=List.any_eq_true.2 ⟨x,hx,by simp⟩;rw[hin] at this;cases this
          have HA:Hid (∀j y,j<k+1->ms[j]?=some y->(y.size:Int)=wd/\y∉ms.take j):=by
           intro j y hj hy;rcases Nat.lt_or_ge j k with h'|h'
           ·exact zB j y h' hy
           ·obtain rfl:j=k:=by omega
            rw[hg.o] at hy;cases hy;exact⟨h,zH⟩
          clear zH zB;go_wp2;refine AE (by kernel_rfl) (by kernel_rfl) ?_
          repeat (go_big_quiet_step (exact AB.calls (HH.o _)))
          refine wpQuiet_nil ?_;intro n;have zI:Hid _:=AT.keep zE.o n.h y7;have zJ:Hid _:=Cw.keep zC.o n.h x6;have zF:=zA.trans (n.h.mono zA.size);clear q1 q2 q3 x0 x1 x2 x3 x4 x5 y0 y3 c0;go_wp2;exact⟨⟨k+1,by omega,by go_num,HA,zI,zJ,zF⟩,by simp[intOf];omega⟩
         |true=>
          rw[hin] at HH;have HN:Hid (x∈ms.take k):=by
           obtain⟨y,hy,e⟩:=List.any_eq_true.1 hin;have:y=x:=by simpa using e
           rw[←this];exact hy
          clear zB;go_wp2;refine AE (by kernel_rfl) (by kernel_rfl) ?_
          repeat (go_big_quiet_step (exact AB.calls (HH.o _)))
          refine wpQuiet_nil ?_;intro n;have zF:=zA.trans (n.h.mono zA.size);clear q1 q2 q3 x0 x1 x2 x3 x4 x5 y0 y3 c0;go_wp2;go_ret;exact Ak.no (P:=AO wd births ph top at_ ro qs ms) (fun h'=>(Jg.1 h'.sums.nd) k x hg.o HN.o) zF
        ·have hn:((x.size:Int) !=wd)=true:=by simp[h]
         go_wp2;refine AE (by kernel_rfl) (by kernel_rfl) ?_
         repeat (go_big_quiet_step (fail))
         refine wpQuiet_nil ?_;intro n;have zF:=zA.trans (n.h.mono zA.size);clear q1 q2 q3 x0 x1 x2 x3 x4 x5 y0 y3 c0;go_wp2;go_ret;exact Ak.no (P:=AO wd births ph top at_ ro qs ms) (fun h'=>h (h'.sums.m x (XG hg.o))) zF
       ·have HS:Hid (Nn wd qs ms):=by
         refine⟨h2,h3,zK.o,fun s hs=> ?_,Jg.2 fun j x hx=>(zB j x (by have:=(XC hx).1;omega) hx).2⟩;obtain⟨j,hj,rfl⟩:=List.getElem_of_mem hs;exact(zB j _ (by omega) (XD hj)).1
        clear zB zK;by_cases p0:ph=0
        ·subst p0
         by_cases e1:qs.length=0
         ·by_cases e2:ms.length=0
          ·by_cases e3:top=0
           ·by_cases e4:at_=0
            ·go_wp2
             go_ret;exact Ak.yes (P:=AO wd births 0 top at_ ro qs ms) ⟨h1.1,h1.2,HS.o,.inl ⟨rfl,List.eq_nil_of_length_eq_zero e1,List.eq_nil_of_length_eq_zero e2,e3,e4⟩⟩ zA
            ·have zV:(at_==0)=false:=by simpa using e4
             go_wp2;go_ret;exact Ak.no (P:=AO wd births 0 top at_ ro qs ms) (fun h=>by have:=h.ph;unfold DZ at this;simp at this;have h9:=this.2.2.2;omega) zA
           ·have zN:(top==0)=false:=by simpa using e3
            go_wp2;go_ret;exact Ak.no (P:=AO wd births 0 top at_ ro qs ms) (fun h=>by have:=h.ph;unfold DZ at this;simp at this;have h9:=this.2.2.1;omega) zA
          ·have yC:=beq_eq_false_iff_ne.2 (by omega)
           go_wp2;go_ret;exact Ak.no (P:=AO wd births 0 top at_ ro qs ms) (fun h=>by have:=h.ph;unfold DZ at this;simp at this;exact e2 (by rw[this.2.1];rfl)) zA
         ·have zX:=beq_eq_false_iff_ne.2 (by omega)
          go_wp2;go_ret;exact Ak.no (P:=AO wd births 0 top at_ ro qs ms) (fun h=>by have:=h.ph;unfold DZ at this;simp at this;exact e1 (by rw[this.1];rfl)) zA
        ·have yA:(ph==0)=false:=by simpa using p0
         go_wp2_with fail;refine(FH top 0 births wr).mono ?_;rintro e w1 ⟨rfl,rfl⟩;by_cases e1:0<=top/\top<=births
         ·rw[decide_eq_true e1]
          have zU:=GY (by omega) (by omega);go_wp2_with fail;refine(FH at_ 1 (top+1) _).mono ?_;rintro e w1 ⟨rfl,rfl⟩;by_cases e2:1<=at_/\at_<=top+1
          ·rw[decide_eq_true e2]
           by_cases p3:ph=2
           ·subst p3
            go_wp2;go_ret;exact Ak.yes (P:=AO wd births 2 top at_ ro qs ms) ⟨h1.1,h1.2,HS.o,.inr (.inr ⟨rfl,e1.1,e1.2,e2.1,e2.2⟩)⟩ zA
           ·have yB:(ph==2)=false:=by simpa using p3
            obtain rfl:ph=1:=by omega
            by_cases e3:at_=top+1
            ·have zN:(at_==top+1)=true:=by simpa using e3
             go_wp2;go_ret;exact Ak.yes (P:=AO wd births 1 top at_ ro qs ms) ⟨h1.1,h1.2,HS.o,.inr (.inl ⟨rfl,e1.1,e1.2,e3⟩)⟩ zA
            ·have zN:(at_==top+1)=false:=by simpa using e3
             go_wp2;go_ret;exact Ak.no (P:=AO wd births 1 top at_ ro qs ms) (fun h=>by have:=h.ph;unfold DZ at this;simp at this;exact e3 this.2.2) zA
          ·rw[decide_eq_false e2]
           go_wp2;go_ret;exact Ak.no (P:=AO wd births ph top at_ ro qs ms) (fun h=>by rcases h.ph with h|h|h;exact p0 h.1;exact e2 (by have:=h.2.2.2;omega);exact e2 h.2.2.2) zA
         ·rw[decide_eq_false e1]
          go_wp2;go_ret;exact Ak.no (P:=AO wd births ph top at_ ro qs ms) (fun h=>by rcases h.ph with h|h|h;exact p0 h.1;exact e1 ⟨h.2.1,h.2.2.1⟩;exact e1 ⟨h.2.1,h.2.2.1⟩) zA
   ·have e3:decide ((600:Int)<(ms.length:Int))=true:=by simp;omega
    go_wp2;go_ret;exact Ak.no (P:=AO wd births ph top at_ ro qs ms) (fun h=>h3 h.sums.nm) zA
  ·have e2:decide ((23200:Int)<(qs.length:Int))=true:=by simp;omega
   go_wp2;go_ret;exact Ak.no (P:=AO wd births ph top at_ ro qs ms) (fun h=>h2 h.sums.nq) zA
 ·rw[decide_eq_false h1]
  go_wp2;go_ret;exact Ak.no (P:=AO wd births ph top at_ ro qs ms) (fun h=>h1 ⟨h.ro1,h.ro2⟩) zA
end
structure Si (w wx:World) (v:Vd) (a:Va) (b:Nat) (o:An) (ta pa la:Option Addr) (tc pc lc:Nat):Prop where
 box:Aa wx b [XJ o.code,XJ o.wd,XJ o.now,XJ o.given,XJ o.births,.slice ta o.ks.length tc,.slice pa o.ps.length pc,.slice la o.ls.length lc,.string o.sm,XJ o.le,.string o.a,.string o.b]
 rows:Bt wx wx.heap.size ta pa la o.ks o.ps o.ls
 rto:ON v.wd (v.ss++v.tt) o
 vbox:Aa wx w.heap.size [XJ v.wd,XJ v.lim,.slice a.sa v.ss.length a.sc,.slice a.ta v.tt.length a.tc,XJ v.sw,XJ v.now,XJ v.given,XJ v.births,.slice a.ka v.ks.length a.kc,.slice a.pa v.ps.length a.pc,.slice a.la v.ls.length a.lc,XJ v.ph,.slice a.qa v.qs.length a.qc,.slice a.ma v.ms.length a.mc,XJ v.top,XJ v.at_,XJ v.ro]
 bel:Below w.heap.size w wx
theorem Si.fin {w w2 w4:World} {v:Vd} {a:Va} {b:Nat} {o:An} {ta pa la:Option Addr} {tc pc lc:Nat} (zB:ON v.wd (v.ss++v.tt) o) (hS:∀X,Tn [b] w4 X->Bt X X.heap.size ta pa la o.ks o.ps o.ls) (hw:Xz w w2) (zA:Xz w2 w4) (hx:Aa w2 w.heap.size [XJ v.wd,XJ v.lim,.slice a.sa v.ss.length a.sc,.slice a.ta v.tt.length a.tc,XJ v.sw,XJ v.now,XJ v.given,XJ v.births,.slice a.ka v.ks.length a.kc,.slice a.pa v.ps.length a.pc,.slice a.la v.ls.length a.lc,XJ v.ph,.slice a.qa v.qs.length a.qc,.slice a.ma v.ms.length a.mc,XJ v.top,XJ v.at_,XJ v.ro]) (zC:w.heap.size<w2.heap.size) (hz:Aa w4 b As) (hb:w2.heap.size<=b):
 Si w ((((((((((((w4.setCell (XL b 0) (XJ o.code)).setCell (XL b 1) (XJ o.wd)).setCell (XL b 2) (XJ o.now)).setCell (XL b 3) (XJ o.given)).setCell (XL b 4) (XJ o.births)).setCell (XL b 5) (.slice ta o.ks.length tc)).setCell (XL b 6) (.slice pa o.ps.length pc)).setCell (XL b 7) (.slice la o.ls.length lc)).setCell (XL b 8) (.string o.sm)).setCell (XL b 9) (XJ o.le)).setCell (XL b 10) (.string o.a)).setCell (XL b 11) (.string o.b)) v a b o ta pa la tc pc lc:=by
 have ht:=Bc w4 b (XJ o.code) (XJ o.wd) (XJ o.now) (XJ o.given) (XJ o.births) (.slice ta o.ks.length tc) (.slice pa o.ps.length pc) (.slice la o.ls.length lc) (.string o.sm) (XJ o.le) (.string o.a) (.string o.b);have zE:=zA.size;refine⟨Ub hz _ _ _ _ _ _ _ _ _ _ _ _,?_,zB,?_,?_⟩
 ·exact hS _ ht
 ·exact Aa.same (Aa.below hx zA) (ht.block _ (by omega) (by simp;omega))
 ·exact(hw.trans (zA.mono hw.size)).trans (ht.below (by have:=hw.size;omega) (fun j hj=>by simp at hj;have:=hw.size;omega))
theorem GF (v:Vd) (a:Va) (w:World) (hr:Cb w w.heap.size a v) (hc:WJ a v) (hf:CK v):
 Calls prog 28 #[.agg #[XJ v.wd,XJ v.lim,.slice a.sa v.ss.length a.sc,.slice a.ta v.tt.length a.tc,XJ v.sw,XJ v.now,XJ v.given,XJ v.births,.slice a.ka v.ks.length a.kc,.slice a.pa v.ps.length a.pc,.slice a.la v.ls.length a.lc,XJ v.ph,.slice a.qa v.qs.length a.qc,.slice a.ma v.ms.length a.mc,XJ v.top,XJ v.at_,XJ v.ro]] w fun e w'=>Ak (Cj v) w w' e:=by
 obtain⟨W,hW⟩:∃W,W=w.alloc (.cells #[XJ v.wd,XJ v.lim,.slice a.sa v.ss.length a.sc,.slice a.ta v.tt.length a.tc,XJ v.sw,XJ v.now,XJ v.given,XJ v.births,.slice a.ka v.ks.length a.kc,.slice a.pa v.ps.length a.pc,.slice a.la v.ls.length a.lc,XJ v.ph,.slice a.qa v.qs.length a.qc,.slice a.ma v.ms.length a.mc,XJ v.top,XJ v.at_,XJ v.ro] 44):=⟨_,rfl⟩;have bW:=(Aq hW).1;have zW:=(Aq hW).2.1
 have xW:=(Aq hW).2.2;have HX:Hid (Aa W _ _):=(Aq hW).2.2;have HR:Hid _:=hr;have HW:Hid _:=hW;have zU:Hid _:=GZ v.wd W;have yA:Hid _:=FH v.lim 0 1000000 W;have yF:Hid _:=Ew a.sa a.ta a.sc a.tc v.ss v.tt W w.heap.size bW.size (hr.s.below bW) (hr.t.below bW) hf.s hf.t hf.ss hf.tt;obtain⟨y0,y1,y2,y3,y4,y5,y6,y7,y8,y9,zK,zP,zI,zO,zJ,zG,zH⟩:=EG xW;clear hW xW hr;by_cases hwd:1<=v.wd/\v.wd<=8
 ·rw[decide_eq_true hwd] at zU
  by_cases hlim:0<=v.lim/\v.lim<=1000000
  ·rw[decide_eq_true hlim] at yA
   cases hlog:Ci v.ss v.tt with
   |true=>
    rw[hlog] at yF;have yZ:=Fp hlog;obtain⟨xs,yI⟩:∃xs,xs=v.ss++v.tt:=⟨_,rfl⟩;have HA:Hid (∀X,Xz W X->Calls prog 54 #[.agg #[.slice a.sa v.ss.length a.sc,.slice a.ta v.tt.length a.tc]] X fun e w'=>∃g cap,e=.returned (.slice (some ⟨g,0,none⟩) xs.length cap)/\w'.ownsRow X.heap.size 9 1 (.slice (some ⟨g,0,none⟩) xs.length cap) xs.length (xs.map Value.string)/\Xz X w'):=fun X hX=>by
     have hb:=bW.trans (hX.mono bW.size);rw[yI];exact Lx a.sa a.ta a.sc a.tc v.ss v.tt X (HR.o.s.below' hb) (HR.o.t.below' hb) hc.s hc.t hf.s hf.t
    have HS:Hid (∀(X:World) (g cap:Nat),Ae X X.heap.size (some ⟨g,0,none⟩) xs->Calls prog 10 #[XJ v.wd,.slice (some ⟨g,0,none⟩) xs.length cap] X fun e w'=>∃(o:An) (ta:Option Addr) (tc:Nat) (pa:Option Addr) (pc:Nat) (la:Option Addr) (lc:Nat) (rs:List Value),e=.returned (.agg #[XJ o.code,XJ o.wd,XJ o.now,XJ o.given,XJ o.births,.slice ta o.ks.length tc,.slice pa o.ps.length pc,.slice la o.ls.length lc,.string o.sm,XJ o.le,.string o.a,.string o.b])/\ON v.wd xs o/\AY w' X.heap.size (.slice ta o.ks.length tc) (.slice pa o.ps.length pc) (.slice la o.ls.length lc) rs o.ks o.ps o.ls/\Xz X w'):=fun X g cap h=>by
     refine(Jf v.wd _ _ xs X h (by rw[yI];omega) (fun s hs=>by rw[yI] at hs;rcases List.mem_append.1 hs with h|h;exact hf.ss s h;exact hf.tt s h)).mono ?_;rintro e w' ⟨o,T,P,L,rs,zE,rfl,hS,hb⟩;obtain⟨ta,tc,pa,pc,la,lc,rfl,rfl,rfl,_⟩:=hS.rows;exact⟨o,ta,tc,pa,pc,la,lc,rs,rfl,zE,hS,hb⟩
    have yL:Hid _:=yI;clear yI;have HM:Hid _:=hc.m;clear hc;go_enter func28,ntmps28;go_wp2_with fail;rw[←HW.o];refine Calls.mono zU.o ?_;rintro e w1 ⟨rfl,zB⟩;replace zB:=zB.symm;subst zB;go_wp2_with fail;refine Calls.mono yA.o ?_;rintro e w1 ⟨rfl,zB⟩;replace zB:=zB.symm;subst zB;go_wp2_with fail;refine Calls.mono yF.o ?_;rintro e w2 ⟨rfl,zX⟩;have x2:=Aa.below HX.o zX
    have z2:w.heap.size+1<=w2.heap.size:=by have:=zX.size;omega
    have yT:Hid _:=zX;have yJ:Hid _:=x2;have zS:Hid _:=bW.trans (zX.mono bW.size);clear y0 y1 y2 y3 y4 y5 y6 y7 y8 y9 zK zP zI zO zJ zG zH zU yA yF zX HW;obtain⟨y0,y1,y2,y3,_⟩:=EG x2;clear x2;go_upto_region 3 with fail
    generalize (.agg #[XJ v.wd,XJ v.lim,.slice a.sa v.ss.length a.sc,.slice a.ta v.tt.length a.tc,XJ v.sw,XJ v.now,XJ v.given,XJ v.births,.slice a.ka v.ks.length a.kc,.slice a.pa v.ps.length a.pc,.slice a.la v.ls.length a.lc,XJ v.ph,.slice a.qa v.qs.length a.qc,.slice a.ma v.ms.length a.mc,XJ v.top,XJ v.at_,XJ v.ro]:Value)=dv0
    go_cut [3] (fun u wx=>∃(b:Nat) (o:An) (ta pa la:Option Addr) (tc pc lc:Nat),u=.pointer (some ⟨b,0,none⟩)/\Hid (Si w wx v a b o ta pa la tc pc lc))
    case first=>
     have zV:Hid (∀X,Xz w2 X->X.cell? (XL (w.heap.size) 0)=some (XJ v.wd)/\X.cell? (XL (w.heap.size) 2)=some (.slice a.sa v.ss.length a.sc)/\X.cell? (XL (w.heap.size) 3)=some (.slice a.ta v.tt.length a.tc)):=fun X hX=>by
      obtain⟨u0,u1,u2,u3,_⟩:=EG (Aa.below yJ.o hX);exact⟨u0,u2,u3⟩
     have HL:Hid (∀X,Xz w2 X->Xz W X):=fun X hX=>yT.o.trans (hX.mono yT.o.size);have D0:Below w2.heap.size w2 w2.drew:=(Below.refl _ _).drew;have D1:∀o,Xz w2 (w2.alloc o).drew:=fun o=>(XA).drew;clear y0 y1 y2 y3
     go_region_held3 (fun X=>X.cell? (XL (w.heap.size) 0)=some (XJ v.wd)/\X.cell? (XL (w.heap.size) 2)=some (.slice a.sa v.ss.length a.sc)/\X.cell? (XL (w.heap.size) 3)=some (.slice a.ta v.tt.length a.tc))
      (first
        |with_reducible exact zV.o _ D0
        |with_reducible exact zV.o _ (D1 _)
        |with_reducible exact zV.o _ B3
        |with_reducible exact zV.o _ (B3.alloc B3.size _)
        |with_reducible exact zV.o _ B4
        |with_reducible exact zV.o _ (B4.alloc B4.size _)
        |with_reducible exact zV.o _ (B4.trans ((Bc w4 _ _ _ _ _ _ _ _ _ _ _ _ _).below B4.size (by intro x hx;simp at hx;omega))))
      (first
        |(go_at_call 54;guard_target=~Calls prog 54 _ (World.drew (World.alloc w2 _)) _;refine Calls.mono (HA.o (w2.alloc (.cells #[XK,XK,XK,XK,XK,XN,XN,XN,XM,XK,XM,XM] 30)).drew (HL.o _ (D1 _))) ?_;rintro e w3 ⟨g,cap,rfl,yE,yK⟩;have B3:Below w2.heap.size w2 w3:=(D1 _).trans (yK.mono (by simp));have zR:=Ae.own yE;clear yE;have zA:Aa w3 w2.heap.size As:=Aa.below (v:=XK) (w:=(w2.alloc (.cells #[XK,XK,XK,XK,XK,XN,XN,XN,XM,XK,XM,XM] 30))) (Aa.new w2 As 30) (Dd yK))
        |(go_at_call 54;guard_target=~Calls prog 54 _ (World.drew w2) _;refine Calls.mono (HA.o w2.drew (HL.o _ D0)) ?_;rintro e w3 ⟨g,cap,rfl,yE,yK⟩;have B3:Below w2.heap.size w2 w3:=D0.trans yK;have zR:=Ae.own yE;clear yE;have nA:=B3)
        |(go_at_call 10;have tag:=zA;refine Calls.mono (HS.o w3 g cap zR) ?_;rintro e w4 ⟨o,ta,tc,pa,pc,la,lc,rs,rfl,zE,zN,zT⟩;have zM:Hid _:=And.intro zE zN;clear zE zN zR;have B4:Below w2.heap.size w2 w4:=B3.trans (zT.mono B3.size);have yQ:Aa w4 w2.heap.size As:=Aa.below (v:=XK) zA zT;have yR:w2.heap.size<w3.heap.size:=Aa.lt (v:=XK) zA;have zY:w2.heap.size<=w2.heap.size:=XB;obtain⟨⟨t0,q0⟩,⟨t1,q1⟩,⟨t2,q2⟩,⟨t3,q3⟩,⟨t4,q4⟩,⟨t5,q5⟩,⟨t6,q6⟩,⟨t7,q7⟩,⟨t8,q8⟩,⟨t9,q9⟩,⟨t10,q10⟩,t11,q11⟩:=AS yQ)
        |(go_at_call 10;guard_target=~Calls prog 10 _ (World.alloc w3 _) _;refine Calls.mono (HS.o (w3.alloc (.cells #[XK,XK,XK,XK,XK,XN,XN,XN,XM,XK,XM,XM] 30)) g cap (zR.below' (XA))) ?_;rintro e w4 ⟨o,ta,tc,pa,pc,la,lc,rs,rfl,zE,zN,zT⟩;have zM:Hid _:=And.intro zE zN;clear zE zN zR;have B4:Below w2.heap.size w2 w4:=(B3.alloc B3.size _).trans (zT.mono (by have:=B3.size;simp;omega));have yN:Aa w4 w3.heap.size As:=Aa.below (v:=XK) (w:=(w3.alloc (.cells #[XK,XK,XK,XK,XK,XN,XN,XN,XM,XK,XM,XM] 30))) (Aa.new w3 As 30) zT;have zY:w2.heap.size<=w3.heap.size:=B3.size;obtain⟨⟨t0,q0⟩,⟨t1,q1⟩,⟨t2,q2⟩,⟨t3,q3⟩,⟨t4,q4⟩,⟨t5,q5⟩,⟨t6,q6⟩,⟨t7,q7⟩,⟨t8,q8⟩,⟨t9,q9⟩,⟨t10,q10⟩,t11,q11⟩:=AS yN)
        |(go_at_call 10;have tag:=nA;refine Calls.mono (HS.o w3 g cap zR) ?_;rintro e w4 ⟨o,ta,tc,pa,pc,la,lc,rs,rfl,zE,zN,zT⟩;have zM:Hid _:=And.intro zE zN;clear zE zN zR;have B4:Below w2.heap.size w2 w4:=B3.trans (zT.mono B3.size);have nD:=nA))
     all_goals
      go_wp2_with fail;go_meet
     all_goals first
      |(have tag:=yQ
        exact⟨w2.heap.size,o,ta,pa,la,tc,pc,lc,rfl,Si.fin (yL.o▸zM.o.1) (fun X ht=>AY.get (zM.o.2.turn ht (by simp;exact yR))) zS.o B4 yJ.o (by omega) yQ zY⟩)
      |(have tag:=yN
        exact⟨w3.heap.size,o,ta,pa,la,tc,pc,lc,rfl,Si.fin (yL.o▸zM.o.1) (fun X ht=>AY.get (zM.o.2.turn ht (by simp))) zS.o B4 yJ.o (by omega) yN zY⟩)
      |(have tag:=nD
        exact⟨w4.heap.size,o,ta,pa,la,tc,pc,lc,rfl,⟨Aa.new w4 [XJ o.code,XJ o.wd,XJ o.now,XJ o.given,XJ o.births,.slice ta o.ks.length tc,.slice pa o.ps.length pc,.slice la o.ls.length lc,.string o.sm,XJ o.le,.string o.a,.string o.b] 30,(AY.get zM.o.2).below' (XA),yL.o▸zM.o.1,Aa.below (Aa.below yJ.o B4) (XA),(zS.o.trans (B4.mono zS.o.size)).alloc (XI zS.o.size B4.size) _⟩⟩)
    case rest=>
     clear y0 y1 y2 y3 HA HS;obtain⟨b,o,ta,pa,la,tc,pc,lc,rfl,HV⟩:=hcut;rcases HV.o.rto with⟨xA,_⟩|⟨_,⟨n,yB,ho⟩|⟨r,yB,ho⟩⟩
     ·exact absurd ⟨hwd,yZ⟩ xA
     ·have yD:o.code=7:=by rw[ho]
      obtain⟨m0,_⟩:=HV.o.box 0 _ rfl;rw[yD] at m0;have yC:Hid _:=HV.o.bel;have yO:Hid (¬Cj v):=fun⟨r,h⟩=>Ev.not hwd.1 hwd.2 yB h.run;clear ho yB HV;go_wp2;go_ret;exact Ak.no yO.o yC.o
     ·subst ho
      have zZ:=yB.ok (Fy hwd.1 hwd.2);obtain⟨⟨m0,_⟩,⟨m1,_⟩,⟨m2,_⟩,⟨m3,_⟩,⟨m4,_⟩,⟨m5,_⟩,⟨m6,_⟩,m7,_⟩:=Ki HV.o.box;obtain⟨y0,y1,y2,y3,y4,y5,y6,y7,y8,y9,zK,zP,zI,zO,zJ,zG,zH⟩:=EG HV.o.vbox;have yC:Hid _:=HV.o.bel;have yS:=HR.o.st.keep yC.o
      have yV:Hid _:=Kn v.wd r.now r.given r.births v.sw v.now v.given v.births ta pa la a.ka a.pa a.la tc pc lc a.kc a.pc a.lc r.ks v.ks r.ps v.ps r.ls v.ls wc HV.o.rows (yS.mono yC.o.size) ⟨by have:=zZ.kso.len;omega,by have:=zZ.np;omega,by have:=zZ.nl;omega⟩ ⟨hf.st.k,hf.st.p,hf.st.l⟩ (fun k hk=>by have:=zZ.r30 k hk;omega) hf.st.r;have yM:Hid _:=HV.o.vbox;have yH:Hid _:=yB
      have yY:Hid _:=zZ.births1;clear yS zZ HV;go_wp2_with fail;refine Calls.mono yV.o ?_;rintro e w5 ⟨bb,rfl,zF,yP⟩;have yG:Hid _:=yC.o.trans (yP.mono yC.o.size);have x5:=Aa.below yM.o yP;clear m0 m1 m2 m3 m4 m5 m6 m7 y0 y1 y2 y3 y4 y5 y6 y7 y8 y9 zK zP zI zO zJ zG zH yV yP yB;cases bb with
      |false=>
       have yO:Hid (¬Cj v):=fun⟨r',h⟩=>by
        obtain rfl:=yH.o.det h.run;have:=zF.2 h.same;cases this
       clear zF x5 yM;go_wp2;go_ret;exact Ak.no yO.o yG.o
      |true=>
       have zC:Hid _:=zF.1 rfl;obtain⟨y0,y1,y2,y3,y4,y5,y6,y7,y8,y9,zK,zP,zI,zO,zJ,zG,zH⟩:=EG x5;have yW:Hid _:=TS v.sw v.now v.given v.births v.ph v.top v.at_ v.ro (.slice a.ka v.ks.length a.kc) (.slice a.pa v.ps.length a.pc) (.slice a.la v.ls.length a.lc) a.qa a.ma a.qc a.mc v.qs v.ms w5 (HR.o.q.below' yG.o) (HR.o.m.below' yG.o) hf.r HM.o (by have h1:=zC.o.1.2.2.2;have h2:=yY.o;omega)
       clear zF x5 yM;go_wp2_with fail;refine Calls.mono yW.o ?_;rintro e w6 ⟨bb,rfl,zF,yU⟩;have yX:Hid _:=yG.o.trans (yU.mono yG.o.size);have HN:Hid (bb=true↔Cj v):=by
        have h1:=zC.o.1.1;rw[←h1] at zF;refine⟨fun h=>⟨r,hwd,hlim,hlog,yH.o,zC.o,zF.1 h⟩,fun⟨r',h⟩=>zF.2 h.round⟩
       clear y0 y1 y2 y3 y4 y5 y6 y7 y8 y9 zK zP zI zO zJ zG zH yW zF yU;go_wp2;go_ret;exact⟨bb,rfl,HN.o,yX.o⟩
   |false=>
    rw[hlog] at yF;go_enter func28,ntmps28;go_wp2_with fail;rw[←HW.o];refine Calls.mono zU.o ?_;rintro e w1 ⟨rfl,zB⟩;replace zB:=zB.symm;subst zB;go_wp2_with fail;refine Calls.mono yA.o ?_;rintro e w1 ⟨rfl,zB⟩;replace zB:=zB.symm;subst zB;go_wp2_with fail;refine Calls.mono yF.o ?_;rintro e w2 ⟨rfl,zX⟩;have zS:Hid _:=bW.trans (zX.mono bW.size)
    clear y0 y1 y2 y3 y4 y5 y6 y7 y8 y9 zK zP zI zO zJ zG zH;go_wp2;go_ret;exact Ak.no (fun⟨r,h⟩=>by have:=h.log;rw[hlog] at this;cases this) zS.o
  ·rw[decide_eq_false hlim] at yA
   go_enter func28,ntmps28;go_wp2_with fail;rw[←HW.o];refine Calls.mono zU.o ?_;rintro e w1 ⟨rfl,zB⟩;replace zB:=zB.symm;subst zB;go_wp2_with fail;refine Calls.mono yA.o ?_;rintro e w1 ⟨rfl,zB⟩;replace zB:=zB.symm;subst zB;clear y0 y1 y2 y3 y4 y5 y6 y7 y8 y9 zK zP zI zO zJ zG zH;go_wp2;go_ret;exact Ak.no (fun⟨r,h⟩=>hlim h.lim) bW
 ·rw[decide_eq_false hwd] at zU
  go_enter func28,ntmps28;go_wp2_with fail;rw[←HW.o];refine Calls.mono zU.o ?_;rintro e w1 ⟨rfl,zB⟩;replace zB:=zB.symm;subst zB;clear y0 y1 y2 y3 y4 y5 y6 y7 y8 y9 zK zP zI zO zJ zG zH;go_wp2;go_ret;exact Ak.no (fun⟨r,h⟩=>hwd h.wd) bW
theorem KJ {A:Type} {c:A->List Value} {n:Nat} (h:∀x,(c x).length=n) (hn:0<n) {zs:List A} {xs:List Value} (hl:xs.length=zs.length *n) (hk:∀i x j,zs[i]?=some x->j<n->xs[i *n+j]?=(c x)[j]?):xs=Ab c zs:=by
 apply List.ext_getElem?;intro k;have hr:=Bo h zs;by_cases hlt:k<zs.length *n
 ·have hi:k/n<zs.length:=Nat.div_lt_of_lt_mul (by rw[Nat.mul_comm];exact hlt)
  have hj:k%n<n:=Nat.mod_lt _ hn;have e:k=k/n *n+k%n:=by rw[Nat.mul_comm];exact(Nat.div_add_mod k n).symm
  have hx:=XD hi;rw[e,hk _ _ _ hx hj,Bl h hx hj]
 ·rw[List.getElem?_eq_none (by omega),List.getElem?_eq_none (by omega)]
theorem Pf.ans {w:World} {lo g:Nat} {ps:List Pd} (h:Pf w lo g ps):w.ownsRow lo 134 2 (.slice (some ⟨g,0,none⟩) ps.length ps.length) ps.length (Ab pC ps):=by
 obtain⟨xs,ho,hk⟩:=h;have e:xs=Ab pC ps:=KJ BB (by omega) ho.1 (fun i x j hx hj=>by
  obtain⟨h0,h1⟩:=hk i x hx
  match j,hj with
  |0,_=>exact h0
  |1,_=>exact h1)
 exact e▸ho
theorem Ph.ans {w:World} {lo g:Nat} {ls:List Ld} (h:Ph w lo g ls):w.ownsRow lo 137 3 (.slice (some ⟨g,0,none⟩) ls.length ls.length) ls.length (Ab lC ls):=by
 obtain⟨xs,ho,hk⟩:=h;have e:xs=Ab lC ls:=KJ Cf (by omega) ho.1 (fun i x j hx hj=>by
  obtain⟨h0,h1,h2⟩:=hk i x hx
  match j,hj with
  |0,_=>exact h0
  |1,_=>exact h1
  |2,_=>exact h2)
 exact e▸ho
structure GH (w:World) (lo g:Nat) (rs:List Value) (ks:List Kd):Prop where
 len:rs.length=ks.length
 things:w.ownsRow lo 114 4 (.slice (some ⟨g,0,none⟩) ks.length ks.length) ks.length (Ab kC (ks.zip rs))
 refs:∀(i:Nat) (k:Kd) (r:Value),ks[i]?=some k->rs[i]?=some r->w.ownsRow (g+1) 9 1 r k.refs.length (k.refs.map Value.string)
 sm:∀r∈rs,∃q n c,r=.slice (some ⟨q,0,none⟩) n c
 inc:(rs.filterMap Value.ownBlock).Pairwise (·<·)
theorem Pe.to {w:World} {lo g:Nat} {ks:List Kd} (h:Pe w lo g ks):∃rs,GH w lo g rs ks:=by
 obtain⟨xs,ho,hk,hi⟩:=h;have zA:∀i,i<ks.length->∃q n,xs[i *4+3]?=some (.slice (some ⟨q,0,none⟩) n n):=fun i hi'=>by
  obtain⟨_,_,_,q,h3,_⟩:=hk i _ (XD hi');exact⟨q,_,h3⟩
 obtain⟨rs,zC⟩:∃rs,rs=(List.range ks.length).map (fun i=>xs[i *4+3]?.getD undef):=⟨_,rfl⟩;have hl:rs.length=ks.length:=by rw[zC];simp
 have zE:∀i,i<ks.length->rs[i]?=some (xs[i *4+3]?.getD undef):=fun i h=>by
  rw[zC,List.getElem?_map,List.getElem?_range h];rfl
 refine⟨rs,hl,?_,?_,?_,?_⟩
 ·have e:xs=Ab kC (ks.zip rs):=KJ DG (by omega) (by rw[ho.1,List.length_zip,hl,Nat.min_self]) (fun i x j hx hj=>by
   obtain⟨zH,zK⟩:=List.getElem?_zip_eq_some.1 hx;obtain⟨h0,h1,h2,q,h3,_⟩:=hk i _ zH;have hr:=zE i (XC zH).1;rw[zK,h3] at hr
   match j,hj with
   |0,_=>exact h0
   |1,_=>exact h1
   |2,_=>exact h2
   |3,_=>exact h3.trans hr.symm)
  exact e▸ho
 ·intro i k r zB zI
  obtain⟨_,_,_,q,h3,h4⟩:=hk i k zB;have hr:=zE i (XC zB).1;rw[h3,zI] at hr;cases hr;exact h4
 ·intro r hr
  rw[zC] at hr;obtain⟨i,zB,rfl⟩:=List.mem_map.1 hr;obtain⟨q,n,hq⟩:=zA i (List.mem_range.1 zB);exact⟨q,_,_,by rw[hq];rfl⟩
 ·rw[zC,List.filterMap_map,List.pairwise_filterMap]
  refine List.Pairwise.imp_of_mem (R:=(·<·)) ?_ List.pairwise_lt_range;intro i j zB zG zJ b hb c hc;obtain⟨q,n,hq⟩:=zA i (List.mem_range.1 zB);obtain⟨q',n',zF⟩:=zA j (List.mem_range.1 zG);have:=hi i j q q' _ _ _ _ zJ (List.mem_range.1 zG) hq zF;simp[hq,Value.ownBlock] at hb;simp[zF,Value.ownBlock] at hc;omega
theorem GH.tn {V:List Nat} {w w':World} {lo g:Nat} {rs:List Value} {ks:List Kd} (h:GH w lo g rs ks) (ht:Tn V w w') (hV:∀b∈V,b<lo):GH w' lo g rs ks:=
 ⟨h.len,Bq h.things ht hV,fun i k r h1 h2=>Bq (h.refs i k r h1 h2) ht (fun b hb=>by have h1:=hV b hb;have h2:=(Ac h.things (g:=g) rfl).1;omega),h.sm,h.inc⟩
theorem GH.below {w w':World} {lo g:Nat} {rs:List Value} {ks:List Kd} (h:GH w lo g rs ks) (hb:Xz w w'):GH w' lo g rs ks:=
 ⟨h.len,Ad h.things hb,fun i k r h1 h2=>Ad (h.refs i k r h1 h2) hb,h.sm,h.inc⟩
theorem GH.ans {w:World} {lo g q r n1:Nat} {rs:List Value} {ks:List Kd} {ps:List Pd} {ls:List Ld} (h:GH w lo g rs ks) (hg:g<n1) (hn:∀b∈rs.filterMap Value.ownBlock,b<n1) (hq:n1<=q) (hr:q<r) (hp:w.ownsRow lo 134 2 (.slice (some ⟨q,0,none⟩) ps.length ps.length) ps.length (Ab pC ps)) (hl:w.ownsRow lo 137 3 (.slice (some ⟨r,0,none⟩) ls.length ls.length) ls.length (Ab lC ls)):
 AY w lo (.slice (some ⟨g,0,none⟩) ks.length ks.length) (.slice (some ⟨q,0,none⟩) ps.length ps.length) (.slice (some ⟨r,0,none⟩) ls.length ls.length) rs ks ps ls:=by
 have zC:=(Ac h.things (g:=g) rfl).1;refine⟨h.len,h.things,fun i k x h1 h2=>(h.refs i k x h1 h2).mono (by omega),hp,hl,?_⟩;have hb:∀b∈rs.filterMap Value.ownBlock,g<b:=fun b hb=>by
  obtain⟨x,hx,zA⟩:=List.mem_filterMap.1 hb;obtain⟨i,hi⟩:=List.getElem?_of_mem hx;have zB:i<ks.length:=by rw[←h.len];exact(XC hi).1
  exact(Ac (h.refs i _ x (XD zB) hi) zA).1
 show(g::q::r::rs.filterMap Value.ownBlock).Nodup;refine List.nodup_cons.2 ⟨?_,List.nodup_cons.2 ⟨?_,List.nodup_cons.2 ⟨fun hm=> ?_,h.inc.imp (fun h=>Nat.ne_of_lt h)⟩⟩⟩
 ·simp only[List.mem_cons,not_or]
  exact⟨by omega,by omega,fun hm=>by have:=hb g hm;omega⟩
 ·simp only[List.mem_cons,not_or]
  exact⟨by omega,fun hm=>by have:=hn q hm;omega⟩
 ·have:=hn r hm
  omega
theorem GH.lts {w:World} {lo g:Nat} {rs:List Value} {ks:List Kd} (h:GH w lo g rs ks):∀b∈rs.filterMap Value.ownBlock,b<w.heap.size:=fun b hb=>by
 obtain⟨x,hx,zA⟩:=List.mem_filterMap.1 hb;obtain⟨i,hi⟩:=List.getElem?_of_mem hx;have zB:i<ks.length:=by rw[←h.len];exact(XC hi).1
 exact(Ac (h.refs i _ x (XD zB) hi) zA).2
theorem Ol (wd now given births:Int) (a p l:Option Addr) (ac pc lc:Nat) (ks:List Kd) (ps:List Pd) (ls:List Ld) (w:World) (zO:Bt w w.heap.size a p l ks ps ls) (hf:Pb ks ps ls):
 Calls prog 69 #[.agg #[XJ wd,XJ now,XJ given,XJ births,.slice a ks.length ac,.slice p ps.length pc,.slice l ls.length lc]] w fun e w'=>∃g q r rs,e=.returned (.agg #[XJ wd,XJ now,XJ given,XJ births,.slice (some ⟨g,0,none⟩) ks.length ks.length,.slice (some ⟨q,0,none⟩) ps.length ps.length,.slice (some ⟨r,0,none⟩) ls.length ls.length])/\AY w' w.heap.size (.slice (some ⟨g,0,none⟩) ks.length ks.length) (.slice (some ⟨q,0,none⟩) ps.length ps.length) (.slice (some ⟨r,0,none⟩) ls.length ls.length) rs ks ps ls/\(∀x∈rs,∃q n c,x=.slice (some ⟨q,0,none⟩) n c)/\Xz w w':=by
 obtain⟨W0,zF⟩:∃W,W=((w.alloc (.cells #[XJ wd,XJ now,XJ given,XJ births,.slice a ks.length ac,.slice p ps.length pc,.slice l ls.length lc] 57)).alloc (.cells #[XK,XK,XK,XK,XN,XN,XN] 28)).alloc (.cells #[XJ wd,XJ now,XJ given,XJ births,XN,XN,XN] 28):=⟨_,rfl⟩;have zH:Hid (Xz w W0):=(Bp zF).1;have yV:=(Bp zF).2.1
 have yA:Hid (Aa W0 w.heap.size [XJ wd,XJ now,XJ given,XJ births,.slice a ks.length ac,.slice p ps.length pc,.slice l ls.length lc]):=(Bp zF).2.2.1;have yL:Hid (Aa W0 (w.heap.size+1) [XK,XK,XK,XK,XN,XN,XN]):=(Bp (k:=[XK,XK,XK,XK,XN,XN,XN]) zF).2.2.2.1;have zX:Hid (Aa W0 (w.heap.size+1+1) [XJ wd,XJ now,XJ given,XJ births,XN,XN,XN]):=(Bp (m:=[XJ wd,XJ now,XJ given,XJ births,XN,XN,XN]) zF).2.2.2.2
 have HR:Hid (∀X,Xz w X->Bt X X.heap.size a p l ks ps ls):=fun X hX=>zO.below' hX;have yK:Hid _:=zF;clear zF zO;go_enter func69,ntmps69;go_wp2_with fail;rw[←yK.o];clear yK;refine(Ny a ac ks W0 (HR.o W0 zH.o).k hf.k hf.r).mono ?_;rintro e w1 ⟨g,rfl,hg,zI,zC⟩;have z1:=zC.size;obtain⟨W1,zN⟩:∃X,X=w1.setCell (XL (w.heap.size+1+1) 4) (.slice (some ⟨g,0,none⟩) ks.length ks.length):=⟨_,rfl⟩
 have t1:Tn [w.heap.size+1+1] w1 W1:=by rw[zN];exact Tn.set _ _ _ _ (by simp)
 have yU:W1.heap.size=w1.heap.size:=by rw[zN];simp
 have zW:Hid (Aa W1 w.heap.size [XJ wd,XJ now,XJ given,XJ births,.slice a ks.length ac,.slice p ps.length pc,.slice l ls.length lc]):=Aa.same (Aa.below yA.o zC) (t1.block _ (by omega) (by simp<;>omega));have yJ:Hid (Aa W1 (w.heap.size+1) [XK,XK,XK,XK,XN,XN,XN]):=Aa.same (Aa.below (v:=XK) yL.o zC) (t1.block _ (by omega) (by simp<;>omega))
 have zS:Hid (Aa W1 (w.heap.size+1+1) [XJ wd,XJ now,XJ given,XJ births,.slice (some ⟨g,0,none⟩) ks.length ks.length,XN,XN]):=by
  have h1:=Aa.below zX.o zC;show Aa W1 (w.heap.size+1+1) [XJ wd,XJ now,XJ given,XJ births,.slice (some ⟨g,0,none⟩) ks.length ks.length,XN,XN];rw[zN];exact h1.set 4 _
 have zG:Hid (Xz w W1):=(zH.o.trans (zC.mono zH.o.size)).trans (t1.below (by omega) (by simp<;>omega));obtain⟨rs,zI⟩:=zI.to;have yF:Hid (GH W1 W0.heap.size g rs ks):=zI.tn t1 (by simp;omega);have HN:Hid (g<w1.heap.size/\∀b∈rs.filterMap Value.ownBlock,b<w1.heap.size):=⟨(Ac zI.things (g:=g) rfl).2,zI.lts⟩;clear zI;obtain⟨e1,f1⟩:=Aa.below zX.o zC 4 _ rfl;have yC:Hid _:=zN;clear zN
 go_upto_region 7 with fail;rw[←yC.o];clear yC e1 f1 zC t1 yA yL zX;obtain⟨y5,_⟩:=zW.o 5 _ rfl;go_wp2_with fail;refine(Pg p pc ps W1 (HR.o W1 zG.o).p hf.p).mono ?_;rintro e w2 ⟨q,rfl,hq,zT,zB⟩;have z2:=zB.size;obtain⟨W2,zP⟩:∃X,X=w2.setCell (XL (w.heap.size+1+1) 5) (.slice (some ⟨q,0,none⟩) ps.length ps.length):=⟨_,rfl⟩;have t2:Tn [w.heap.size+1+1] w2 W2:=by rw[zP];exact Tn.set _ _ _ _ (by simp)
 have yW:W2.heap.size=w2.heap.size:=by rw[zP];simp
 have zU:Hid (Aa W2 w.heap.size [XJ wd,XJ now,XJ given,XJ births,.slice a ks.length ac,.slice p ps.length pc,.slice l ls.length lc]):=Aa.same (Aa.below zW.o zB) (t2.block _ (by omega) (by simp<;>omega));have yD:Hid (Aa W2 (w.heap.size+1) [XK,XK,XK,XK,XN,XN,XN]):=Aa.same (Aa.below (v:=XK) yJ.o zB) (t2.block _ (by omega) (by simp<;>omega))
 have zV:Hid (Aa W2 (w.heap.size+1+1) [XJ wd,XJ now,XJ given,XJ births,.slice (some ⟨g,0,none⟩) ks.length ks.length,.slice (some ⟨q,0,none⟩) ps.length ps.length,XN]):=by
  have h1:=Aa.below zS.o zB;show Aa W2 (w.heap.size+1+1) [XJ wd,XJ now,XJ given,XJ births,.slice (some ⟨g,0,none⟩) ks.length ks.length,.slice (some ⟨q,0,none⟩) ps.length ps.length,XN];rw[zP];exact h1.set 5 _
 have zE:Hid (Xz w W2):=(zG.o.trans (zB.mono zG.o.size)).trans (t2.below (by omega) (by simp<;>omega));have zY:Hid (GH W2 W0.heap.size g rs ks):=(yF.o.below zB).tn t2 (by simp;omega);have yI:Hid (W2.ownsRow W0.heap.size 134 2 (.slice (some ⟨q,0,none⟩) ps.length ps.length) ps.length (Ab pC ps)):=Bq (zT.ans.mono (by omega)) t2 (by simp;omega);have HQ:Hid (q<w2.heap.size):=(Ac zT.ans (g:=q) rfl).2
 clear zT yF y5;obtain⟨e2,f2⟩:=Aa.below zS.o zB 5 _ rfl;have yE:Hid _:=zP;clear zP;go_upto_region 8 with fail;rw[←yE.o];clear yE e2 f2 zB t2 zW yJ zS;obtain⟨y6,_⟩:=zU.o 6 _ rfl;go_wp2_with fail;refine(Mu l lc ls W2 (HR.o W2 zE.o).l hf.l).mono ?_;rintro e w3 ⟨r,rfl,hr,yG,zA⟩;have z3:=zA.size
 obtain⟨W3,zJ⟩:∃X,X=w3.setCell (XL (w.heap.size+1+1) 6) (.slice (some ⟨r,0,none⟩) ls.length ls.length):=⟨_,rfl⟩;have t3:Tn [w.heap.size+1+1] w3 W3:=by rw[zJ];exact Tn.set _ _ _ _ (by simp)
 have yS:W3.heap.size=w3.heap.size:=by rw[zJ];simp
 have yT:Hid (Aa W3 w.heap.size [XJ wd,XJ now,XJ given,XJ births,.slice a ks.length ac,.slice p ps.length pc,.slice l ls.length lc]):=Aa.same (Aa.below zU.o zA) (t3.block _ (by omega) (by simp<;>omega));have zZ:Hid (Aa W3 (w.heap.size+1) [XK,XK,XK,XK,XN,XN,XN]):=Aa.same (Aa.below (v:=XK) yD.o zA) (t3.block _ (by omega) (by simp<;>omega))
 have yN:Hid (Aa W3 (w.heap.size+1+1) [XJ wd,XJ now,XJ given,XJ births,.slice (some ⟨g,0,none⟩) ks.length ks.length,.slice (some ⟨q,0,none⟩) ps.length ps.length,.slice (some ⟨r,0,none⟩) ls.length ls.length]):=by
  have h1:=Aa.below zV.o zA;show Aa W3 (w.heap.size+1+1) [XJ wd,XJ now,XJ given,XJ births,.slice (some ⟨g,0,none⟩) ks.length ks.length,.slice (some ⟨q,0,none⟩) ps.length ps.length,.slice (some ⟨r,0,none⟩) ls.length ls.length];rw[zJ];exact h1.set 6 _
 have zK:Hid (Xz w W3):=(zE.o.trans (zA.mono zE.o.size)).trans (t3.below (by omega) (by simp<;>omega));have yH:Hid (GH W3 W0.heap.size g rs ks):=(zY.o.below zA).tn t3 (by simp;omega);have yR:Hid (W3.ownsRow W0.heap.size 134 2 (.slice (some ⟨q,0,none⟩) ps.length ps.length) ps.length (Ab pC ps)):=Bq (Ad yI.o zA) t3 (by simp;omega)
 have yP:Hid (W3.ownsRow W0.heap.size 137 3 (.slice (some ⟨r,0,none⟩) ls.length ls.length) ls.length (Ab lC ls)):=Bq (yG.ans.mono (by omega)) t3 (by simp;omega);clear yG zY yI y6;obtain⟨e3,f3⟩:=Aa.below zV.o zA 6 _ rfl;have yB:Hid _:=zJ;clear zJ;go_upto_region 9 with fail;rw[←yB.o];clear yB e3 f3 zA t3 zU yD zV
 obtain⟨W4,zR⟩:∃X,X=W3.setCells (w.heap.size+1) 0 [XJ wd,XJ now,XJ given,XJ births,.slice (some ⟨g,0,none⟩) ks.length ks.length,.slice (some ⟨q,0,none⟩) ps.length ps.length,.slice (some ⟨r,0,none⟩) ls.length ls.length]:=⟨_,rfl⟩;have t4:Tn [w.heap.size+1] W3 W4:=by rw[zR];exact AL _ _ _ _
 have x4:Aa W4 (w.heap.size+1) [XJ wd,XJ now,XJ given,XJ births,.slice (some ⟨g,0,none⟩) ks.length ks.length,.slice (some ⟨q,0,none⟩) ps.length ps.length,.slice (some ⟨r,0,none⟩) ls.length ls.length]:=by rw[zR];exact zZ.o.setAll _ rfl
 have HS:Hid (AY W4 w.heap.size (.slice (some ⟨g,0,none⟩) ks.length ks.length) (.slice (some ⟨q,0,none⟩) ps.length ps.length) (.slice (some ⟨r,0,none⟩) ls.length ls.length) rs ks ps ls):=(((yH.o.tn t4 (by simp;omega)).ans (n1:=w1.heap.size) HN.o.1 HN.o.2 (by omega) (by have:=HQ.o;omega) (Bq yR.o t4 (by simp;omega)) (Bq yP.o t4 (by simp;omega))).mono (by omega))
 have yQ:Hid (Xz w W4):=zK.o.trans (t4.below zK.o.size (by simp));have zM:(#[XJ wd,XJ now,XJ given,XJ births,.slice (some ⟨g,0,none⟩) ks.length ks.length,.slice (some ⟨q,0,none⟩) ps.length ps.length,.slice (some ⟨r,0,none⟩) ls.length ls.length]:Array Value).all (·.oneCell')=true:=by simp[Value.oneCell']
 have HI:Hid _:=And.intro zM zZ.o.there;have yO:Hid _:=x4;have yM:Hid _:=zR;clear zM x4 zR t4;go_wp2_with (first
  |refine wpList_load_mid rfl 28 _ rfl (w.heap.size+1+1) 0 rfl [XJ wd,XJ now,XJ given,XJ births,.slice (some ⟨g,0,none⟩) ks.length ks.length,.slice (some ⟨q,0,none⟩) ps.length ps.length,.slice (some ⟨r,0,none⟩) ls.length ls.length] _ yN.o.range underlying28 rfl (by kernel_rfl) ?_
  |refine wpList_store_mid rfl 28 _ _ rfl (w.heap.size+1) 0 #[XJ wd,XJ now,XJ given,XJ births,.slice (some ⟨g,0,none⟩) ks.length ks.length,.slice (some ⟨q,0,none⟩) ps.length ps.length,.slice (some ⟨r,0,none⟩) ls.length ls.length] rfl rfl HI.o.2 (by kernel_rfl) HI.o.1 ?_)
 rw[←yM.o];refine bodyPost_ret (CG results69 _ _ (w.heap.size+1) [XJ wd,XJ now,XJ given,XJ births,.slice (some ⟨g,0,none⟩) ks.length ks.length,.slice (some ⟨q,0,none⟩) ps.length ps.length,.slice (some ⟨r,0,none⟩) ls.length ls.length] _ rfl (Aa.range yO.o) underlying28 rfl (by kernel_rfl)) rfl ?_;exact⟨g,q,r,rs,rfl,HS.o,yH.o.sm,yQ.o⟩
end Go.Proofs.YtpekbmegopfhfaaGreatDoor
