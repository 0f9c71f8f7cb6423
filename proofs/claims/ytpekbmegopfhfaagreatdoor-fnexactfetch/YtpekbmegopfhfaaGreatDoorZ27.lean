import Derived.Test.YtpekbmegopfhfaaGreatDoorZ26
import Derived.Deep.MidRow
import Derived.Laws.ResultCell
set_option maxRecDepth 100000
set_option maxHeartbeats 16000000
namespace Go.Proofs.YtpekbmegopfhfaaGreatDoor
open Go.ChangeShapes Go.WideShapes Go.ChangeAt Go.RowKit _root_.Go.Proofs.Tryz
section
attribute [local go_sem↓] Go.wp_at_zero Go.wp_at_succ
theorem wrong_any (s:ByteArray) (wd:Int) (b:Nat) (w:World) (hc:w.cell? ⟨b,0,none⟩=some (.int .i64 wd)):
 Calls prog 178 #[.string s,.pointer (some ⟨b,0,none⟩)] w fun e w'=>e=.returned (.bool (!decide ((s.size:Int)=wd)))/\w'=w:=by
 go_enter func178,ntmps178;by_cases h:(s.size:Int)=wd
 ·have h':((s.size:Int) !=wd)=false:=by simp[h]
  go_wp2;go_ret;exact⟨by simp[h],rfl⟩
 ·have h':((s.size:Int) !=wd)=true:=by simp[h]
  go_wp2;go_ret;exact⟨by simp[h],rfl⟩
theorem indexFunc_any (a:Option Addr) (cap b:Nat) (ss:List ByteArray) (wd:Int) (w:World) (B:Nat) (hrow:SRow w B a ss) (hl:ss.length<=1048576) (hc:w.cell? ⟨b,0,none⟩=some (.int .i64 wd)):
 Calls prog 213 #[.slice a ss.length cap,.func (.func 178) #[] #[.pointer (some ⟨b,0,none⟩)]] w fun e w'=>∃r:Int,e=.returned (.int .i64 r)/\(0<=r↔∃s∈ss,¬(s.size:Int)=wd)/\w'=w:=by
 go_enter func213,ntmps213;go_wp2
 go_loop [8] (fun i=>∃k:Nat,k<=ss.length/\i=.int .i64 k/\Hid (∀j x,j<k->ss[j]?=some x->(x.size:Int)=wd)) (fun i=>ss.length -(intOf i).toNat)
 case atStart=>exact⟨0,Nat.zero_le _,rfl,fun j x h=>by omega⟩
 case round=>
  obtain⟨k,hk,rfl,hall⟩:=hrel;by_cases hlt:k<ss.length
  ·obtain⟨b',off,ha,hb,hc'⟩:=hrow.at hlt
   subst ha;have hg:Hid (ss[k]?=some ss[k]):=List.getElem?_eq_getElem hlt;have c0:=hc' k _ hg;clear hc' hrow;generalize ss[k]=x at *
   go_wp2_with fail;refine(wrong_any x wd b w hc).mono ?_;rintro e w1 ⟨rfl,rfl⟩;by_cases h:(x.size:Int)=wd
   ·have HA:Hid (∀j y,j<k+1->ss[j]?=some y->(y.size:Int)=wd):=by
     intro j y hj hy;rcases Nat.lt_or_ge j k with h'|h'
     ·exact hall j y h' hy
     ·obtain rfl:j=k:=by omega
      rw[hg.out] at hy;cases hy;exact h
    have hd:decide ((x.size:Int)=wd)=true:=by simp[h]
    rw[hd];go_wp2;exact⟨⟨k+1,by omega,by go_num,HA⟩,by simp[intOf];omega⟩
   ·have hd:decide ((x.size:Int)=wd)=false:=by simp[h]
    rw[hd];go_wp2;go_ret;exact⟨_,rfl,⟨fun _=>⟨x,List.mem_of_getElem? hg.out,h⟩,fun _=>by omega⟩,rfl⟩
  ·go_wp2
   go_ret;refine⟨_,rfl,⟨fun h=>by omega,fun⟨s,hs,h⟩=> ?_⟩,rfl⟩;obtain⟨j,hj,rfl⟩:=List.getElem_of_mem hs;exact absurd (hall j _ (by omega) (List.getElem?_eq_getElem hj)) h
open Classical in
theorem containsFunc_any (a:Option Addr) (cap b:Nat) (ss:List ByteArray) (wd:Int) (w:World) (B:Nat) (hrow:SRow w B a ss) (hl:ss.length<=1048576) (hc:w.cell? ⟨b,0,none⟩=some (.int .i64 wd)):
 Calls prog 179 #[.slice a ss.length cap,.func (.func 178) #[] #[.pointer (some ⟨b,0,none⟩)]] w fun e w'=>e=.returned (.bool (decide (∃s∈ss,¬(s.size:Int)=wd)))/\w'=w:=by
 go_enter func179,ntmps179;go_wp2_with fail;refine(indexFunc_any a cap b ss wd w B hrow hl hc).mono ?_;rintro e w1 ⟨r,rfl,hr,rfl⟩;by_cases h:0<=r
 ·have hd:decide ((0:Int)<=r)=true:=by simpa using h
  go_wp2;go_ret;exact⟨by simp[hr.1 h],rfl⟩
 ·have hd:decide ((0:Int)<=r)=false:=by simpa using h
  have hd':¬∃s∈ss,¬(s.size:Int)=wd:=fun e=>h (hr.2 e);go_wp2;go_ret;exact⟨by rw[decide_eq_false hd'];rfl,rfl⟩
structure SumsOk (wd:Int) (qs ms:List ByteArray):Prop where
 nq:qs.length<=23200
 nm:ms.length<=600
 q:∀s∈qs,(s.size:Int)=wd
 m:∀s∈ms,(s.size:Int)=wd
 nd:ms.Nodup
theorem keys_nodup {wd:Int} {ms:List ByteArray} (h8:wd<=8) (hm:∀s∈ms,(s.size:Int)=wd):(ms.map keyL).Nodup↔ms.Nodup:=by
 induction ms with
 |nil=>simp
 |cons x r ih=>
  have ih:=ih (fun s hs=>hm s (by simp[hs]));simp only[List.map_cons,List.nodup_cons,ih];have hx:=hm x (by simp);constructor
  ·rintro⟨h1,h2⟩
   exact⟨fun h=>h1 (List.mem_map.2 ⟨x,h,rfl⟩),h2⟩
  ·rintro⟨h1,h2⟩
   refine⟨fun h=> ?_,h2⟩;obtain⟨y,hy,e⟩:=List.mem_map.1 h;have hys:=hm y (by simp[hy]);have:y=x:=key_inj e (by omega) (by omega);subst this;exact h1 hy
theorem validSums_any (ph top at_ ro wd:Int) (a b:Option Addr) (ac bc:Nat) (qs ms:List ByteArray) (w:World) (hq:SRow w w.heap.size a qs) (hm:SRow w w.heap.size b ms) (hf:RFit qs ms) (h8:wd<=8):
 Calls prog 154 #[.agg #[.int .i64 ph,.slice a qs.length ac,.slice b ms.length bc,.int .i64 top,.int .i64 at_,.int .i64 ro],.int .i64 wd] w fun e w'=>Says (SumsOk wd qs ms) w w' e:=by
 have hfq:=hf.q;have hfm:=hf.m;have hb:Below w.heap.size w ((w.alloc (.cells #[.int .i64 ph,.slice a qs.length ac,.slice b ms.length bc,.int .i64 top,.int .i64 at_,.int .i64 ro] 42)).alloc (.cells #[.int .i64 wd] 3)):=((Below.refl _ _).alloc (Nat.le_refl _) _).alloc (by simp) _;go_enter func154,ntmps154;by_cases h1:qs.length<=23200
 ·have d1:decide ((23200:Int)<(qs.length:Int))=false:=by simp;omega
  by_cases h2:ms.length<=600
  ·have d2:decide ((600:Int)<(ms.length:Int))=false:=by simp;omega
   go_wp2_with fail;refine(containsFunc_any a ac _ qs wd _ w.heap.size (hq.below hb) hf.q (by simp[go_sem])).mono ?_;rintro e w1 ⟨rfl,rfl⟩;by_cases h3:∃s∈qs,¬(s.size:Int)=wd
   ·rw[decide_eq_true h3]
    go_wp2;go_ret;exact Says.no (fun h=>by obtain⟨s,hs,h'⟩:=h3;exact h' (h.q s hs)) hb
   ·rw[decide_eq_false h3]
    go_wp2_with fail;refine(containsFunc_any b bc _ ms wd _ w.heap.size (hm.below hb) hf.m (by simp[go_sem])).mono ?_;rintro e w2 ⟨rfl,rfl⟩;by_cases h4:∃s∈ms,¬(s.size:Int)=wd
    ·rw[decide_eq_true h4]
     go_wp2;go_ret;exact Says.no (fun h=>by obtain⟨s,hs,h'⟩:=h4;exact h' (h.m s hs)) hb
    ·rw[decide_eq_false h4]
     have hqa:∀s∈qs,(s.size:Int)=wd:=fun s hs=>Classical.byContradiction fun h=>h3 ⟨s,hs,h⟩;have hma:∀s∈ms,(s.size:Int)=wd:=fun s hs=>Classical.byContradiction fun h=>h4 ⟨s,hs,h⟩;have HA:Hid _:=And.intro hqa hma;clear hqa hma h3 h4;go_wp2_with fail
     obtain⟨W,hW⟩:∃W,W=((w.alloc (.cells #[.int .i64 ph,.slice a qs.length ac,.slice b ms.length bc,.int .i64 top,.int .i64 at_,.int .i64 ro] 42)).alloc (.cells #[.int .i64 wd] 3)):=⟨_,rfl⟩;have hbx:RBox W w.heap.size ph (.slice a qs.length ac) (.slice b ms.length bc) top at_ ro:=by
      rw[hW];exact(RBox.new w ph top at_ ro _ _ 42).below ((Below.refl _ _).alloc (Nat.le_refl _) _)
     rw[←hW] at hb ⊢;have HX:Hid _:=hbx;have HMR:Hid _:=hm.below' hb;obtain⟨x0,x1,x2,x3,x4,x5,x6⟩:=hbx;clear hW;go_region_with (first
      |(go_at_call 180;refine(marksOf_any ph top at_ ro a b qs.length ac bc ms W.drew HMR.out (by omega)).mono ?_;rintro e w2 ⟨mb,cc,f,rfl,hmb,hkc,hmk,hb2⟩;have hlen:=fun ty=>hkc.len underlying236 ty;have y2:=(hb2.cell (p:=⟨w.heap.size,2,none⟩) x6).trans x2))
     all_goals
      have HB:Hid (Below w.heap.size w w2):=(hb.drew.trans (hb2.mono hb.size));have HK:Hid _:=hmk;clear hlen hkc hmk hb2;go_wp2;go_ret;refine⟨_,rfl,?_,HB.out⟩;have h6:=HK.out.all;rw[keys_nodup h8 HA.out.2] at h6;have h7:(cc:Int)=ms.length↔ms.Nodup:=by rw[←h6];omega
      simp only[beq_iff_eq,h7];exact⟨fun h=>⟨h1,h2,HA.out.1,HA.out.2,h⟩,fun h=>h.nd⟩
  ·have d2:decide ((600:Int)<(ms.length:Int))=true:=by simp;omega
   go_wp2;go_ret;exact Says.no (fun h=>h2 h.nm) hb
 ·have d1:decide ((23200:Int)<(qs.length:Int))=true:=by simp;omega
  go_wp2;go_ret;exact Says.no (fun h=>h1 h.nq) hb
end
theorem range_any (n lo hi:Int) (w:World):
 Calls prog 52 #[.int .i64 n,.int .i64 lo,.int .i64 hi] w fun e w'=>e=.returned (.bool (decide (lo<=n/\n<=hi)))/\w'=w:=by
 by_cases h1:lo<=n
 ·by_cases h2:n<=hi
  ·go_enter func52,ntmps52
   go_wp2;go_ret;exact⟨ret_b (by simp[h1,h2]),rfl⟩
  ·go_enter func52,ntmps52
   go_wp2;go_ret;exact⟨ret_b (by simp[h2]),rfl⟩
 ·have h1':decide (lo<=n)=false:=by simpa using h1
  go_enter func52,ntmps52;go_wp2;go_ret;exact⟨ret_b (by simp),rfl⟩
theorem itime_any (n:Int) (w:World):
 Calls prog 153 #[.int .i64 n] w fun e w'=>e=.returned (.bool (decide (0<=n/\n<=1000000000)))/\w'=w:=by
 by_cases h1:0<=n
 ·by_cases h2:n<=1000000000
  ·go_enter func153,ntmps153
   go_wp2;go_ret;exact⟨ret_b (by simp[h1,h2]),rfl⟩
  ·have h2':decide (n<=1000000000)=false:=by simpa using h2
   go_enter func153,ntmps153;go_wp2;go_ret;exact⟨rfl,rfl⟩
 ·have h1':decide (0<=n)=false:=by simpa using h1
  go_enter func153,ntmps153;go_wp2;go_ret;exact⟨rfl,rfl⟩
section
attribute [local go_sem↓] Go.wp_at_zero Go.wp_at_succ
def PhOk (births ph top at_:Int) (qs ms:List ByteArray):Prop:=
 (ph=0/\qs=[]/\ms=[]/\top=0/\at_=0)∨(ph=1/\0<=top/\top<=births/\at_=top+1)∨(ph=2/\0<=top/\top<=births/\1<=at_/\at_<=top+1)
structure RoundOk (wd births ph top at_ ro:Int) (qs ms:List ByteArray):Prop where
 ro1:0<=ro
 ro2:ro<=1000000000
 sums:SumsOk wd qs ms
 ph:PhOk births ph top at_ qs ms
theorem validRound_any (ph top at_ ro wd births:Int) (a b:Option Addr) (ac bc:Nat) (qs ms:List ByteArray) (w:World) (hq:SRow w w.heap.size a qs) (hm:SRow w w.heap.size b ms) (hf:RFit qs ms) (h8:wd<=8) (hbi:births<=1000000000):
 Calls prog 120 #[.agg #[.int .i64 ph,.slice a qs.length ac,.slice b ms.length bc,.int .i64 top,.int .i64 at_,.int .i64 ro],.int .i64 wd,.int .i64 births] w fun e w'=>Says (RoundOk wd births ph top at_ ro qs ms) w w' e:=by
 have hfq:=hf.q;have hfm:=hf.m;have hb:Below w.heap.size w (w.alloc (.cells #[.int .i64 ph,.slice a qs.length ac,.slice b ms.length bc,.int .i64 top,.int .i64 at_,.int .i64 ro] 42)):=(Below.refl _ _).alloc (Nat.le_refl _) _;have hx:=RBox.new w ph top at_ ro (.slice a qs.length ac) (.slice b ms.length bc) 42;go_enter func120,ntmps120;go_wp2_with fail;refine(itime_any ro _).mono ?_
 rintro e w1 ⟨rfl,rfl⟩;by_cases h1:0<=ro/\ro<=1000000000
 ·rw[decide_eq_true h1]
  go_wp2_with fail;refine(validSums_any ph top at_ ro wd a b ac bc qs ms _ (hq.below' hb) (hm.below' hb) hf h8).mono ?_;rintro e w2 ⟨b2,rfl,hs2,hb2⟩;have hB2:=hb.trans (hb2.mono (by simp));obtain⟨x0,x1,x2,x3,x4,x5,x6⟩:=hx.below hb2;clear hb2 hx;cases b2 with
  |false=>
   go_wp2;go_ret;exact Says.no (fun h=>by have:=hs2.2 h.sums;cases this) hB2
  |true=>
   have hsum:=hs2.1 rfl;have HS:Hid _:=hsum;clear hs2 hsum;by_cases p0:ph=0
   ·subst p0
    by_cases e1:qs.length=0
    ·by_cases e2:ms.length=0
     ·by_cases e3:top=0
      ·by_cases e4:at_=0
       ·go_wp2
        go_ret;exact Says.yes ⟨h1.1,h1.2,HS.out,.inl ⟨rfl,List.eq_nil_of_length_eq_zero e1,List.eq_nil_of_length_eq_zero e2,e3,e4⟩⟩ hB2
       ·have e4':(at_==0)=false:=by simpa using e4
        go_wp2;go_ret;exact Says.no (P:=RoundOk wd births 0 top at_ ro qs ms) (fun h=>by have:=h.ph;unfold PhOk at this;simp at this;have h9:=this.2.2.2;omega) hB2
      ·have e3':(top==0)=false:=by simpa using e3
       go_wp2;go_ret;exact Says.no (fun h=>by have:=h.ph;unfold PhOk at this;simp at this;have h9:=this.2.2.1;omega) hB2
     ·have e2':((ms.length:Int)==0)=false:=beq_eq_false_iff_ne.2 (by omega)
      go_wp2;go_ret;exact Says.no (fun h=>by have:=h.ph;unfold PhOk at this;simp at this;exact e2 (by rw[this.2.1];rfl)) hB2
    ·have e1':((qs.length:Int)==0)=false:=beq_eq_false_iff_ne.2 (by omega)
     go_wp2;go_ret;exact Says.no (fun h=>by have:=h.ph;unfold PhOk at this;simp at this;exact e1 (by rw[this.1];rfl)) hB2
   ·have p0':(ph==0)=false:=by simpa using p0
    by_cases p1:ph=1
    ·subst p1
     by_cases e1:0<=top
     ·by_cases e2:top<=births
      ·have hwr:IntKind.i64.wrap (top+1)=top+1:=cnt_wrap (by omega) (by omega)
       by_cases e3:at_=top+1
       ·have e3':(at_==top+1)=true:=by simpa using e3
        go_wp2;go_ret;exact Says.yes (P:=RoundOk wd births 1 top at_ ro qs ms) ⟨h1.1,h1.2,HS.out,.inr (.inl ⟨rfl,e1,e2,e3⟩)⟩ hB2
       ·have e3':(at_==top+1)=false:=by simpa using e3
        go_wp2;go_ret;exact Says.no (P:=RoundOk wd births 1 top at_ ro qs ms) (fun h=>by have:=h.ph;unfold PhOk at this;simp at this;have h9:=this.2.2;omega) hB2
      ·have e2':decide (top<=births)=false:=by simpa using e2
       go_wp2;go_ret;exact Says.no (P:=RoundOk wd births 1 top at_ ro qs ms) (fun h=>by have:=h.ph;unfold PhOk at this;simp at this;have h9:=this.2.1;omega) hB2
     ·have e1':decide (0<=top)=false:=by simpa using e1
      go_wp2;go_ret;exact Says.no (P:=RoundOk wd births 1 top at_ ro qs ms) (fun h=>by have:=h.ph;unfold PhOk at this;simp at this;have h9:=this.1;omega) hB2
    ·have p1':(ph==1)=false:=by simpa using p1
     by_cases p2:ph=2
     ·subst p2
      by_cases e1:0<=top
      ·by_cases e2:top<=births
       ·have hwr:IntKind.i64.wrap (top+1)=top+1:=cnt_wrap (by omega) (by omega)
        by_cases e3:1<=at_
        ·by_cases e4:at_<=top+1
         ·have e4':decide (at_<=top+1)=true:=by simpa using e4
          go_wp2;go_ret;exact Says.yes (P:=RoundOk wd births 2 top at_ ro qs ms) ⟨h1.1,h1.2,HS.out,.inr (.inr ⟨rfl,e1,e2,e3,e4⟩)⟩ hB2
         ·have e4':decide (at_<=top+1)=false:=by simpa using e4
          go_wp2;go_ret;exact Says.no (P:=RoundOk wd births 2 top at_ ro qs ms) (fun h=>by have:=h.ph;unfold PhOk at this;simp at this;have h9:=this.2.2.2;omega) hB2
        ·have e3':decide (1<=at_)=false:=by simpa using e3
         go_wp2;go_ret;exact Says.no (P:=RoundOk wd births 2 top at_ ro qs ms) (fun h=>by have:=h.ph;unfold PhOk at this;simp at this;have h9:=this.2.2.1;omega) hB2
       ·have e2':decide (top<=births)=false:=by simpa using e2
        go_wp2;go_ret;exact Says.no (P:=RoundOk wd births 2 top at_ ro qs ms) (fun h=>by have:=h.ph;unfold PhOk at this;simp at this;have h9:=this.2.1;omega) hB2
      ·have e1':decide (0<=top)=false:=by simpa using e1
       go_wp2;go_ret;exact Says.no (P:=RoundOk wd births 2 top at_ ro qs ms) (fun h=>by have:=h.ph;unfold PhOk at this;simp at this;have h9:=this.1;omega) hB2
     ·have p2':(ph==2)=false:=by simpa using p2
      go_wp2;go_ret;exact Says.no (P:=RoundOk wd births ph top at_ ro qs ms) (fun h=>by rcases h.ph with h|h|h;exact p0 h.1;exact p1 h.1;exact p2 h.1) hB2
 ·rw[decide_eq_false h1]
  go_wp2;go_ret;exact Says.no (fun h=>h1 ⟨h.ro1,h.ro2⟩) hb
end
theorem szLog_yes (a b:Option Addr) (c d:Nat) (ss tt:List ByteArray) (left:Int) (w:World) (hr:SRow w w.heap.size a ss) (hq:SRow w w.heap.size b tt)
 (h2:left<=1048576) (hfit:(ss.length:Int)+bulk ss+tt.length+bulk tt<=left):
 Calls prog 18 #[.agg #[.slice a ss.length c,.slice b tt.length d],.int .i64 left] w fun e w'=>e=.returned (.int .i64 (left -ss.length -bulk ss -tt.length -bulk tt))/\Below w.heap.size w w':=by
 have hb:Below w.heap.size w (w.alloc (.cells #[.slice a ss.length c,.slice b tt.length d] 38)):=(Below.refl _ _).alloc (Nat.le_refl _) _;go_enter func18,ntmps18;go_wp2_with fail;refine(szS_yes a c ss _ _ w.heap.size (hr.below hb) (by omega) (by omega)).mono ?_;rintro e w' ⟨rfl,rfl⟩;go_wp2_with fail;refine(szS_yes b d tt _ _ w.heap.size (hq.below hb) (by omega) (by omega)).mono ?_
 rintro e w' ⟨rfl,rfl⟩;go_wp2;go_ret;exact⟨rfl,hb⟩
theorem szLog_no (a b:Option Addr) (c d:Nat) (ss tt:List ByteArray) (left:Int) (w:World) (hr:SRow w w.heap.size a ss) (hq:SRow w w.heap.size b tt)
 (hl:ss.length<=maxLen) (hs:∀s∈ss,s.size<=maxLen) (hl':tt.length<=maxLen) (hs':∀s∈tt,s.size<=maxLen)
 (h1:0<=left) (h2:left<=1048576) (hfit:left<(ss.length:Int)+bulk ss+tt.length+bulk tt):
 Calls prog 18 #[.agg #[.slice a ss.length c,.slice b tt.length d],.int .i64 left] w fun e w'=>e=.returned (.int .i64 (-1))/\Below w.heap.size w w':=by
 have hb:Below w.heap.size w (w.alloc (.cells #[.slice a ss.length c,.slice b tt.length d] 38)):=(Below.refl _ _).alloc (Nat.le_refl _) _;by_cases hn:left<(ss.length:Int)+bulk ss
 ·go_enter func18,ntmps18
  go_wp2_with fail;refine(szS_no a c ss _ _ w.heap.size (hr.below hb) hl hs (by omega) (by omega) (by omega)).mono ?_;rintro e w' ⟨rfl,rfl⟩;go_wp2;go_ret;exact⟨rfl,hb⟩
 ·go_enter func18,ntmps18
  go_wp2_with fail;refine(szS_yes a c ss _ _ w.heap.size (hr.below hb) (by omega) (by omega)).mono ?_;rintro e w' ⟨rfl,rfl⟩;go_wp2_with fail;refine(szS_no b d tt _ _ w.heap.size (hq.below hb) hl' hs' (by omega) (by omega) (by omega)).mono ?_;rintro e w' ⟨rfl,rfl⟩;go_wp2;go_ret;exact⟨rfl,hb⟩
theorem toLog_any (a b:Option Addr) (c d:Nat) (ss tt:List ByteArray) (w:World) (hr:SRow w w.heap.size a ss) (hq:SRow w w.heap.size b tt) (hl:ss.length<=1048576) (hl':tt.length<=1048576):
 Calls prog 20 #[.agg #[.slice a ss.length c,.slice b tt.length d]] w fun e w'=>∃g k,e=.returned (.agg #[.slice (some ⟨g,0,none⟩) ss.length ss.length,.slice (some ⟨k,0,none⟩) tt.length tt.length])/\w.heap.size<=g/\g<k/\
  w'.ownsRow w.heap.size 9 1 (.slice (some ⟨g,0,none⟩) ss.length ss.length) ss.length (ss.map Value.string)/\
  w'.ownsRow w.heap.size 9 1 (.slice (some ⟨k,0,none⟩) tt.length tt.length) tt.length (tt.map Value.string)/\Below w.heap.size w w':=by
 have hbA:Below w.heap.size w (((w.alloc (.cells #[.slice a ss.length c,.slice b tt.length d] 38)).alloc (.cells #[.slice none 0 0,.slice none 0 0] 40)).alloc (.cells #[.slice none 0 0,.slice none 0 0] 40)):=(((Below.refl _ _).alloc (Nat.le_refl _) _).alloc (by simp) _).alloc (by simp;omega) _;go_enter func20,ntmps20;go_wp2_with fail;refine(toS_any a c ss _ (hr.below' hbA) hl).mono ?_
 rintro e w1 ⟨g,rfl,hg,hown,hb⟩;have hB1:=hbA.trans (hb.mono (by simp;omega));obtain⟨hc,hf⟩:=bcell hb;have hz:=hb.size;simp at hz hg;go_wp2_with fail;obtain⟨W2,hW2⟩:∃W2,W2=w1.setCell ⟨w.heap.size+1+1,0,none⟩ (.slice (some ⟨g,0,none⟩) ss.length ss.length):=⟨_,rfl⟩;have hB2:Below w.heap.size w W2:=by rw[hW2];exact hB1.setCell (by simp;omega) _
 have hzW:W2.heap.size=w1.heap.size:=by rw[hW2];simp
 have hO2:W2.ownsRow (w.heap.size+1) 9 1 (.slice (some ⟨g,0,none⟩) ss.length ss.length) ss.length (ss.map Value.string):=by
  rw[hW2];exact(ownsRow_setCell_below hown (by simp) _).mono (by simp)
 have c20:W2.cell? ⟨w.heap.size+1+1,0,none⟩=some (.slice (some ⟨g,0,none⟩) ss.length ss.length):=by rw[hW2];simp[go_sem,hc]
 have c21:W2.cell? ⟨w.heap.size+1+1,1,none⟩=some (.slice none 0 0):=by rw[hW2];simp[go_sem,hc]
 have c10:W2.cell? ⟨w.heap.size+1,0,none⟩=some (.slice none 0 0):=by rw[hW2];simp[go_sem,hc]
 have c11:W2.cell? ⟨w.heap.size+1,1,none⟩=some (.slice none 0 0):=by rw[hW2];simp[go_sem,hc]
 have f2:∀o,W2.frozen? ⟨w.heap.size+1+1,o,none⟩=false:=fun o=>by rw[hW2];simp[go_sem,hf]
 have f1:∀o,W2.frozen? ⟨w.heap.size+1,o,none⟩=false:=fun o=>by rw[hW2];simp[go_sem,hf]
 rw[←hW2];clear hW2 hown hb hc hf;refine(toS_any b d tt _ (hq.below' hB2) hl').mono ?_;rintro e w3 ⟨k,rfl,hk,hown3,hb3⟩;have hz3:=hb3.size;replace c20:=(hb3.cell (p:=⟨w.heap.size+1+1,0,none⟩) (by simp;omega)).trans c20;replace c21:=(hb3.cell (p:=⟨w.heap.size+1+1,1,none⟩) (by simp;omega)).trans c21;replace c10:=(hb3.cell (p:=⟨w.heap.size+1,0,none⟩) (by simp;omega)).trans c10
 replace c11:=(hb3.cell (p:=⟨w.heap.size+1,1,none⟩) (by simp;omega)).trans c11;replace f2:∀o,w3.frozen? ⟨w.heap.size+1+1,o,none⟩=false:=fun o=>(hb3.frozen (p:=⟨w.heap.size+1+1,o,none⟩) (by simp;omega)).trans (f2 o);replace f1:∀o,w3.frozen? ⟨w.heap.size+1,o,none⟩=false:=fun o=>(hb3.frozen (p:=⟨w.heap.size+1,o,none⟩) (by simp;omega)).trans (f1 o);have hlt:=(hO2.lt g rfl).2
 have hO3:w3.ownsRow (w.heap.size+1) 9 1 (.slice (some ⟨g,0,none⟩) ss.length ss.length) ss.length (ss.map Value.string):=hO2.kept (row:=none) ⟨hb3.os,hb3.tape,hb3.output,hb3.size,fun i hi _=>hb3.block i hi⟩ (.inr (by simp[Value.ownBlock]));go_wp2
 refine bodyPost_ret (v:=.agg #[.slice (some ⟨g,0,none⟩) ss.length ss.length,.slice (some ⟨k,0,none⟩) tt.length tt.length]) (by simp[results,results20,go_sem,c10,c11]) rfl ⟨g,k,rfl,by omega,by omega,?_,?_,?_⟩
 ·refine(ownsRow_setCell_other (ownsRow_setCell_other (ownsRow_setCell_other hO3 ?_ _) ?_ _) ?_ _).mono (by omega)<;>(simp[Value.ownBlock];omega)
 ·refine(ownsRow_setCell_other (ownsRow_setCell_other (ownsRow_setCell_other hown3 ?_ _) ?_ _) ?_ _).mono (by omega)<;>(simp[Value.ownBlock];omega)
 ·exact(hB2.trans (hb3.mono (by omega))).setCell (by simp;omega) _|>.setCell (by simp) _|>.setCell (by simp) _
def okLog (ss tt:List ByteArray):Bool:=decide (ss.length+tt.length<=4000)&&(ss++tt).all (fun s=>decide (s.size<=5000))
def okEs (ss:List ByteArray):Bool:=ss.all (fun s=>decide (s.size<=5000))
theorem okLog_eq (ss tt:List ByteArray):okLog ss tt=(decide (ss.length+tt.length<=4000)&&(okEs ss&&okEs tt)):=by simp[okLog,okEs]
theorem okEs_take (ss:List ByteArray) (k:Nat) (s:ByteArray) (h:ss[k]?=some s):okEs (ss.take (k+1))=(okEs (ss.take k)&&decide (s.size<=5000)):=by
 obtain⟨hlt,rfl⟩:=List.getElem?_eq_some_iff.1 h;unfold okEs;rw[List.take_succ_eq_append_getElem hlt,List.all_append,List.all_cons,List.all_nil,Bool.and_true]
theorem okEs_false (ss:List ByteArray) (k:Nat) (s:ByteArray) (h:ss[k]?=some s) (hs:5000<s.size):okEs ss=false:=by
 simp only[okEs,List.all_eq_false];exact⟨s,List.mem_of_getElem? h,by simp;omega⟩
theorem sValidLog_any (a b:Option Addr) (c d:Nat) (ss tt:List ByteArray) (w:World) (B:Nat) (hB:B<=w.heap.size) (hr:SRow w B a ss) (hq:SRow w B b tt) (hl:ss.length<=1048576) (hl':tt.length<=1048576)
 (hs:∀s∈ss,s.size<=1048576) (hs':∀s∈tt,s.size<=1048576):
 Calls prog 53 #[.agg #[.slice a ss.length c,.slice b tt.length d]] w fun e w'=>e=.returned (.bool (okLog ss tt))/\Below w.heap.size w w':=by
 have hb:Below w.heap.size w (w.alloc (.cells #[.slice a ss.length c,.slice b tt.length d] 40)):=(Below.refl _ _).alloc (Nat.le_refl _) _;go_enter func53,ntmps53;go_wp2
 go_loop [3] (fun i=>∃k:Nat,k<=ss.length/\i=.int .i64 k/\okEs (ss.take k)=true) (fun i=>ss.length -(intOf i).toNat)
 case atStart=>exact⟨0,Nat.zero_le _,rfl,by simp[okEs]⟩
 case round=>
  obtain⟨k,hk,rfl,hok⟩:=hrel;by_cases hlt:k<ss.length
  ·obtain⟨p,off,ha,hp,hc⟩:=hr.at hlt
   subst ha;have hck:=(hb.cell (p:=⟨p,off+k,none⟩) (by simp;omega)).trans (hc k ss[k] (List.getElem?_eq_getElem hlt));have hbt:Hid (okEs (ss.take (k+1))=(okEs (ss.take k)&&decide (ss[k].size<=5000))):=okEs_take ss k _ (List.getElem?_eq_getElem hlt);have hno:Hid (5000<ss[k].size->okEs ss=false):=okEs_false ss k _ (List.getElem?_eq_getElem hlt);have hsz:=hs ss[k] (List.getElem_mem hlt)
   clear hc hs hs';generalize ss[k]=s at *
   by_cases hbig:5000<s.size
   ·go_wp2
    go_ret;exact⟨by rw[okLog_eq,hno.out hbig];simp,hb⟩
   ·go_wp2
    refine⟨⟨k+1,by omega,by go_num,?_⟩,by simp[intOf];omega⟩;rw[hbt.out,hok];simp;omega
  ·rw[List.take_of_length_le (by omega)] at hok
   go_wp2
   go_loop [4] (fun i=>∃k:Nat,k<=tt.length/\i=.int .i64 k/\okEs (tt.take k)=true) (fun i=>tt.length -(intOf i).toNat)
   case atStart=>exact⟨0,Nat.zero_le _,rfl,by simp[okEs]⟩
   case round=>
    obtain⟨k2,hk2,rfl,hok2⟩:=hrel;by_cases hlt2:k2<tt.length
    ·obtain⟨p,off,ha,hp,hc⟩:=hq.at hlt2
     subst ha;have hck:=(hb.cell (p:=⟨p,off+k2,none⟩) (by simp;omega)).trans (hc k2 tt[k2] (List.getElem?_eq_getElem hlt2));have hbt:Hid (okEs (tt.take (k2+1))=(okEs (tt.take k2)&&decide (tt[k2].size<=5000))):=okEs_take tt k2 _ (List.getElem?_eq_getElem hlt2);have hno:Hid (5000<tt[k2].size->okEs tt=false):=okEs_false tt k2 _ (List.getElem?_eq_getElem hlt2)
     have hsz:=hs' tt[k2] (List.getElem_mem hlt2);clear hc hs hs';generalize tt[k2]=s at *
     by_cases hbig:5000<s.size
     ·go_wp2
      go_ret;exact⟨by rw[okLog_eq,hno.out hbig];simp,hb⟩
     ·go_wp2
      refine⟨⟨k2+1,by omega,by go_num,?_⟩,by simp[intOf];omega⟩;rw[hbt.out,hok2];simp;omega
    ·rw[List.take_of_length_le (by omega)] at hok2
     go_wp2;go_ret;refine⟨?_,hb⟩;rw[okLog_eq,hok,hok2];simp;omega
theorem eqLog_yes (a b a' b':Option Addr) (c d c' d':Nat) (ss tt:List ByteArray) (w:World) (hr:SRow w w.heap.size a ss) (hq:SRow w w.heap.size b tt) (hr':SRow w w.heap.size a' ss) (hq':SRow w w.heap.size b' tt)
 (hl:ss.length<=1048576) (hl':tt.length<=1048576):
 Calls prog 23 #[.agg #[.slice a ss.length c,.slice b tt.length d],.agg #[.slice a' ss.length c',.slice b' tt.length d']] w fun e w'=>e=.returned (.bool true)/\Below w.heap.size w w':=by
 have hb:Below w.heap.size w ((w.alloc (.cells #[.slice a ss.length c,.slice b tt.length d] 40)).alloc (.cells #[.slice a' ss.length c',.slice b' tt.length d'] 40)):=((Below.refl _ _).alloc (Nat.le_refl _) _).alloc (by simp) _;go_enter func23,ntmps23;go_wp2_with fail;refine(eqS_yes a a' c c' ss _ _ _ (hr.below hb) (hr'.below hb) hl).mono ?_;rintro e w' ⟨rfl,n,rfl⟩;have hbn:=belowN hb n
 go_wp2_with fail;refine(eqS_yes b b' d d' tt _ _ _ (hq.below hbn) (hq'.below hbn) hl').mono ?_;rintro e w' ⟨rfl,m,rfl⟩;go_wp2;go_ret;exact⟨rfl,belowN hb (n+m)⟩
structure Vd where
 wd:Int
 lim:Int
 ss:List ByteArray
 tt:List ByteArray
 sw:Int
 now:Int
 given:Int
 births:Int
 ks:List Kd
 ps:List Pd
 ls:List Ld
 ph:Int
 qs:List ByteArray
 ms:List ByteArray
 top:Int
 at_:Int
 ro:Int
structure Va where
 sa:Option Addr
 sc:Nat
 ta:Option Addr
 tc:Nat
 ka:Option Addr
 kc:Nat
 pa:Option Addr
 pc:Nat
 la:Option Addr
 lc:Nat
 qa:Option Addr
 qc:Nat
 ma:Option Addr
 mc:Nat
structure VRows (w:World) (B:Nat) (a:Va) (v:Vd):Prop where
 s:SRow w B a.sa v.ss
 t:SRow w B a.ta v.tt
 st:SRows w B a.ka a.pa a.la v.ks v.ps v.ls
 q:SRow w B a.qa v.qs
 m:SRow w B a.ma v.ms
theorem VRows.keep {w w':World} {B:Nat} {a:Va} {v:Vd} (h:VRows w B a v) (hb:Below B w w'):VRows w' B a v:=
 ⟨h.s.below hb,h.t.below hb,h.st.keep hb,h.q.below hb,h.m.below hb⟩
theorem VRows.mono {w:World} {B B':Nat} {a:Va} {v:Vd} (h:VRows w B a v) (hb:B<=B'):VRows w B' a v:=
 ⟨h.s.mono hb,h.t.mono hb,h.st.mono hb,h.q.mono hb,h.m.mono hb⟩
theorem VRows.below' {w w':World} {a:Va} {v:Vd} (h:VRows w w.heap.size a v) (hb:Below w.heap.size w w'):VRows w' w'.heap.size a v:=(h.keep hb).mono hb.size
structure VCap (a:Va) (v:Vd):Prop where
 s:a.sa=none->v.ss.length=0/\a.sc=0
 t:a.ta=none->v.tt.length=0/\a.tc=0
 m:v.ms.length<=a.mc
structure VFit (v:Vd):Prop where
 s:v.ss.length<=1048576
 t:v.tt.length<=1048576
 ss:∀s∈v.ss,s.size<=1048576
 tt:∀s∈v.tt,s.size<=1048576
 st:SFit v.ks v.ps v.ls
 r:RFit v.qs v.ms
 rn:refsN v.ks<=1048576
structure VaultOk (v:Vd) (r:Rs):Prop where
 wd:1<=v.wd/\v.wd<=8
 lim:0<=v.lim/\v.lim<=1000000
 log:okLog v.ss v.tt=true
 run:Run v.wd r0 (v.ss++v.tt) r
 same:(v.wd=v.sw/\r.now=v.now/\r.given=v.given/\r.births=v.births)/\r.ks=v.ks/\r.ps=v.ps/\r.ls=v.ls
 round:RoundOk v.wd v.births v.ph v.top v.at_ v.ro v.qs v.ms
def VOk (v:Vd):Prop:=∃r,VaultOk v r
theorem okLog_le {ss tt:List ByteArray} (h:okLog ss tt=true):(ss++tt).length<=4000:=by
 unfold okLog at h;simp at h;rw[List.length_append];exact h.1
theorem c17 {w:World} {b:Nat} {a0 a1 a2 a3 a4 a5 a6 a7 a8 a9 a10 a11 a12 a13 a14 a15 a16:Value} (h:CellsAt w b [a0,a1,a2,a3,a4,a5,a6,a7,a8,a9,a10,a11,a12,a13,a14,a15,a16]):w.cell? ⟨b,0,none⟩=some a0/\w.cell? ⟨b,1,none⟩=some a1/\w.cell? ⟨b,2,none⟩=some a2/\w.cell? ⟨b,3,none⟩=some a3/\w.cell? ⟨b,4,none⟩=some a4/\w.cell? ⟨b,5,none⟩=some a5/\w.cell? ⟨b,6,none⟩=some a6/\w.cell? ⟨b,7,none⟩=some a7/\w.cell? ⟨b,8,none⟩=some a8/\w.cell? ⟨b,9,none⟩=some a9/\w.cell? ⟨b,10,none⟩=some a10/\w.cell? ⟨b,11,none⟩=some a11/\w.cell? ⟨b,12,none⟩=some a12/\w.cell? ⟨b,13,none⟩=some a13/\w.cell? ⟨b,14,none⟩=some a14/\w.cell? ⟨b,15,none⟩=some a15/\w.cell? ⟨b,16,none⟩=some a16:=
 ⟨(h 0 _ rfl).1,(h 1 _ rfl).1,(h 2 _ rfl).1,(h 3 _ rfl).1,(h 4 _ rfl).1,(h 5 _ rfl).1,(h 6 _ rfl).1,(h 7 _ rfl).1,(h 8 _ rfl).1,(h 9 _ rfl).1,(h 10 _ rfl).1,(h 11 _ rfl).1,(h 12 _ rfl).1,(h 13 _ rfl).1,(h 14 _ rfl).1,(h 15 _ rfl).1,(h 16 _ rfl).1⟩
structure VMem (v:Vd):Prop where
 s:v.ss.length<=maxLen
 ss:∀s∈v.ss,s.size<=maxLen
 t:v.tt.length<=maxLen
 tt:∀s∈v.tt,s.size<=maxLen
 k:KMem v.ks
 p:PMem v.ps
 l:LMem v.ls
 q:v.qs.length<=maxLen
 qs:∀s∈v.qs,s.size<=maxLen
 m:v.ms.length<=maxLen
 ms:∀s∈v.ms,s.size<=maxLen
theorem szVault_any (v:Vd) (a:Va) (w:World) (hr:VRows w w.heap.size a v) (hm:VMem v):
 Calls prog 27 #[.agg #[.int .i64 v.wd,.int .i64 v.lim,.slice a.sa v.ss.length a.sc,.slice a.ta v.tt.length a.tc,.int .i64 v.sw,.int .i64 v.now,.int .i64 v.given,.int .i64 v.births,.slice a.ka v.ks.length a.kc,.slice a.pa v.ps.length a.pc,.slice a.la v.ls.length a.lc,.int .i64 v.ph,.slice a.qa v.qs.length a.qc,.slice a.ma v.ms.length a.mc,.int .i64 v.top,.int .i64 v.at_,.int .i64 v.ro],.int .i64 1048576] w fun e w'=>∃r:Int,e=.returned (.int .i64 r)/\Below w.heap.size w w'/\(0<=r->VFit v):=by
 obtain⟨W,hW⟩:∃W,W=w.alloc (.cells #[.int .i64 v.wd,.int .i64 v.lim,.slice a.sa v.ss.length a.sc,.slice a.ta v.tt.length a.tc,.int .i64 v.sw,.int .i64 v.now,.int .i64 v.given,.int .i64 v.births,.slice a.ka v.ks.length a.kc,.slice a.pa v.ps.length a.pc,.slice a.la v.ls.length a.lc,.int .i64 v.ph,.slice a.qa v.qs.length a.qc,.slice a.ma v.ms.length a.mc,.int .i64 v.top,.int .i64 v.at_,.int .i64 v.ro] 60):=⟨_,rfl⟩
 have bW:=(al1 hW).1;have xW:=(al1 hW).2.2
 have HX:Hid (∀X,Below W.heap.size W X->CellsAt X w.heap.size [.int .i64 v.wd,.int .i64 v.lim,.slice a.sa v.ss.length a.sc,.slice a.ta v.tt.length a.tc,.int .i64 v.sw,.int .i64 v.now,.int .i64 v.given,.int .i64 v.births,.slice a.ka v.ks.length a.kc,.slice a.pa v.ps.length a.pc,.slice a.la v.ls.length a.lc,.int .i64 v.ph,.slice a.qa v.qs.length a.qc,.slice a.ma v.ms.length a.mc,.int .i64 v.top,.int .i64 v.at_,.int .i64 v.ro]):=fun X hX=>CellsAt.below xW hX
 have HW:Hid _:=hW;have HR:Hid (VRows w w.heap.size a v):=hr;have HM:Hid (VMem v):=hm;have hL:Calls prog 18 #[.agg #[.slice a.sa v.ss.length a.sc,.slice a.ta v.tt.length a.tc],.int .i64 1048576] W fun e w'=>∃r:Int,e=.returned (.int .i64 r)/\Below W.heap.size W w'/\r<=1048576/\(0<=r->(v.ss.length:Int)+bulk v.ss+v.tt.length+bulk v.tt<=1048576):=by
  by_cases hfit:(v.ss.length:Int)+bulk v.ss+v.tt.length+bulk v.tt<=1048576
  ·refine(szLog_yes a.sa a.ta a.sc a.tc v.ss v.tt 1048576 W (hr.s.below' bW) (hr.t.below' bW) (by omega) hfit).mono ?_
   rintro e w' ⟨rfl,hb⟩;exact⟨_,rfl,hb,by omega,fun _=>hfit⟩
  ·refine(szLog_no a.sa a.ta a.sc a.tc v.ss v.tt 1048576 W (hr.s.below' bW) (hr.t.below' bW) hm.s hm.ss hm.t hm.tt (by omega) (by omega) (by omega)).mono ?_
   rintro e w' ⟨rfl,hb⟩;exact⟨_,rfl,hb,by omega,fun h=>by omega⟩
 have HL:Hid _:=hL;obtain⟨y0,y1,y2,y3,y4,y5,y6,y7,y8,y9,y10,y11,y12,y13,y14,y15,y16⟩:=c17 xW;clear hW xW hr hm hL;go_enter func27,ntmps27;go_wp2_with fail;rw[←HW.out];refine Calls.mono HL.out ?_;rintro e w1 ⟨r1,rfl,hb1,hr1,hf1⟩;have HB1:Hid (Below W.heap.size W w1):=hb1;have HBw:Hid (Below w.heap.size w w1):=bW.trans (hb1.mono bW.size)
 clear y0 y1 y2 y3 y4 y5 y6 y7 y8 y9 y10 y11 y12 y13 y14 y15 y16 hb1 HL HW;by_cases n1:r1<0
 ·go_wp2
  go_ret;exact⟨_,rfl,HBw.out,fun h=>by omega⟩
 ·have HF1:Hid ((v.ss.length:Int)+bulk v.ss+v.tt.length+bulk v.tt<=1048576):=hf1 (by omega)
  obtain⟨y0,y1,y2,y3,y4,y5,y6,y7,y8,y9,y10,y11,y12,y13,y14,y15,y16⟩:=c17 (HX.out w1 HB1.out);have HS:Hid _:=szState_t v.sw v.now v.given v.births a.ka a.pa a.la a.kc a.pc a.lc v.ks v.ps v.ls r1 w1 (HR.out.st.below' HBw.out) HM.out.k HM.out.p HM.out.l (by omega) (by omega);clear hf1;go_wp2_with fail;refine Calls.mono HS.out ?_;rintro e w2 ⟨r2,rfl,hb2,hr2,hf2⟩
  have HB2:Hid (Below W.heap.size W w2):=HB1.out.trans (hb2.mono HB1.out.size);have HBw2:Hid (Below w.heap.size w w2):=HBw.out.trans (hb2.mono HBw.out.size);clear y0 y1 y2 y3 y4 y5 y6 y7 y8 y9 y10 y11 y12 y13 y14 y15 y16 hb2 HS;by_cases n2:r2<0
  ·go_wp2
   go_ret;exact⟨_,rfl,HBw2.out,fun h=>by omega⟩
  ·have HF2:Hid (SFit v.ks v.ps v.ls/\refsN v.ks<=1048576):=hf2 (by omega)
   obtain⟨y0,y1,y2,y3,y4,y5,y6,y7,y8,y9,y10,y11,y12,y13,y14,y15,y16⟩:=c17 (HX.out w2 HB2.out);have HR2:Hid _:=szRound_any v.ph v.top v.at_ v.ro a.qa a.ma a.qc a.mc v.qs v.ms r2 w2 (HR.out.q.below' HBw2.out) (HR.out.m.below' HBw2.out) HM.out.q HM.out.qs HM.out.m HM.out.ms (by omega) (by omega);clear hf2;go_wp2_with fail;refine Calls.mono HR2.out ?_;rintro e w3 ⟨r3,rfl,hb3,hf3⟩
   have HBw3:Hid (Below w.heap.size w w3):=HBw2.out.trans (hb3.mono HBw2.out.size);have HF3:Hid (0<=r3->VFit v):=fun h=>by
    have h1:=HF1.out;refine⟨by omega,by omega,fun s hs=> ?_,fun s hs=> ?_,HF2.out.1,hf3 h,HF2.out.2⟩
    ·obtain⟨i,hi⟩:=List.getElem?_of_mem hs
     have:=le_bulk v.ss i s hi;omega
    ·obtain⟨i,hi⟩:=List.getElem?_of_mem hs
     have:=le_bulk v.tt i s hi;omega
   clear y0 y1 y2 y3 y4 y5 y6 y7 y8 y9 y10 y11 y12 y13 y14 y15 y16 hb3 HR2 hf3;by_cases n3:r3<0
   ·go_wp2
    go_ret;exact⟨_,rfl,HBw3.out,fun h=>by omega⟩
   ·go_wp2
    go_ret;exact⟨_,rfl,HBw3.out,HF3.out⟩
theorem eqVault_yes (v:Vd) (a b:Va) (w:World) (hr:VRows w w.heap.size a v) (hq:VRows w w.heap.size b v) (hf:VFit v):
 Calls prog 22 #[.agg #[.int .i64 v.wd,.int .i64 v.lim,.slice a.sa v.ss.length a.sc,.slice a.ta v.tt.length a.tc,.int .i64 v.sw,.int .i64 v.now,.int .i64 v.given,.int .i64 v.births,.slice a.ka v.ks.length a.kc,.slice a.pa v.ps.length a.pc,.slice a.la v.ls.length a.lc,.int .i64 v.ph,.slice a.qa v.qs.length a.qc,.slice a.ma v.ms.length a.mc,.int .i64 v.top,.int .i64 v.at_,.int .i64 v.ro],.agg #[.int .i64 v.wd,.int .i64 v.lim,.slice b.sa v.ss.length b.sc,.slice b.ta v.tt.length b.tc,.int .i64 v.sw,.int .i64 v.now,.int .i64 v.given,.int .i64 v.births,.slice b.ka v.ks.length b.kc,.slice b.pa v.ps.length b.pc,.slice b.la v.ls.length b.lc,.int .i64 v.ph,.slice b.qa v.qs.length b.qc,.slice b.ma v.ms.length b.mc,.int .i64 v.top,.int .i64 v.at_,.int .i64 v.ro]] w fun e w'=>e=.returned (.bool true)/\Below w.heap.size w w':=by
 obtain⟨W,hW⟩:∃W,W=(w.alloc (.cells #[.int .i64 v.wd,.int .i64 v.lim,.slice a.sa v.ss.length a.sc,.slice a.ta v.tt.length a.tc,.int .i64 v.sw,.int .i64 v.now,.int .i64 v.given,.int .i64 v.births,.slice a.ka v.ks.length a.kc,.slice a.pa v.ps.length a.pc,.slice a.la v.ls.length a.lc,.int .i64 v.ph,.slice a.qa v.qs.length a.qc,.slice a.ma v.ms.length a.mc,.int .i64 v.top,.int .i64 v.at_,.int .i64 v.ro] 44)).alloc (.cells #[.int .i64 v.wd,.int .i64 v.lim,.slice b.sa v.ss.length b.sc,.slice b.ta v.tt.length b.tc,.int .i64 v.sw,.int .i64 v.now,.int .i64 v.given,.int .i64 v.births,.slice b.ka v.ks.length b.kc,.slice b.pa v.ps.length b.pc,.slice b.la v.ls.length b.lc,.int .i64 v.ph,.slice b.qa v.qs.length b.qc,.slice b.ma v.ms.length b.mc,.int .i64 v.top,.int .i64 v.at_,.int .i64 v.ro] 44):=⟨_,rfl⟩
 have bW:=(al2 hW).1;have x0:=(al2 hW).2.2.1
 have x1:CellsAt W (w.heap.size+1) [.int .i64 v.wd,.int .i64 v.lim,.slice b.sa v.ss.length b.sc,.slice b.ta v.tt.length b.tc,.int .i64 v.sw,.int .i64 v.now,.int .i64 v.given,.int .i64 v.births,.slice b.ka v.ks.length b.kc,.slice b.pa v.ps.length b.pc,.slice b.la v.ls.length b.lc,.int .i64 v.ph,.slice b.qa v.qs.length b.qc,.slice b.ma v.ms.length b.mc,.int .i64 v.top,.int .i64 v.at_,.int .i64 v.ro]:=by
  have h1:=CellsAt.new (w.alloc (.cells #[.int .i64 v.wd,.int .i64 v.lim,.slice a.sa v.ss.length a.sc,.slice a.ta v.tt.length a.tc,.int .i64 v.sw,.int .i64 v.now,.int .i64 v.given,.int .i64 v.births,.slice a.ka v.ks.length a.kc,.slice a.pa v.ps.length a.pc,.slice a.la v.ls.length a.lc,.int .i64 v.ph,.slice a.qa v.qs.length a.qc,.slice a.ma v.ms.length a.mc,.int .i64 v.top,.int .i64 v.at_,.int .i64 v.ro] 44)) [.int .i64 v.wd,.int .i64 v.lim,.slice b.sa v.ss.length b.sc,.slice b.ta v.tt.length b.tc,.int .i64 v.sw,.int .i64 v.now,.int .i64 v.given,.int .i64 v.births,.slice b.ka v.ks.length b.kc,.slice b.pa v.ps.length b.pc,.slice b.la v.ls.length b.lc,.int .i64 v.ph,.slice b.qa v.qs.length b.qc,.slice b.ma v.ms.length b.mc,.int .i64 v.top,.int .i64 v.at_,.int .i64 v.ro] 44
  rw[World.size_alloc] at h1;rw[hW];exact h1
 have HX:Hid (∀X,Below W.heap.size W X->CellsAt X w.heap.size [.int .i64 v.wd,.int .i64 v.lim,.slice a.sa v.ss.length a.sc,.slice a.ta v.tt.length a.tc,.int .i64 v.sw,.int .i64 v.now,.int .i64 v.given,.int .i64 v.births,.slice a.ka v.ks.length a.kc,.slice a.pa v.ps.length a.pc,.slice a.la v.ls.length a.lc,.int .i64 v.ph,.slice a.qa v.qs.length a.qc,.slice a.ma v.ms.length a.mc,.int .i64 v.top,.int .i64 v.at_,.int .i64 v.ro]/\CellsAt X (w.heap.size+1) [.int .i64 v.wd,.int .i64 v.lim,.slice b.sa v.ss.length b.sc,.slice b.ta v.tt.length b.tc,.int .i64 v.sw,.int .i64 v.now,.int .i64 v.given,.int .i64 v.births,.slice b.ka v.ks.length b.kc,.slice b.pa v.ps.length b.pc,.slice b.la v.ls.length b.lc,.int .i64 v.ph,.slice b.qa v.qs.length b.qc,.slice b.ma v.ms.length b.mc,.int .i64 v.top,.int .i64 v.at_,.int .i64 v.ro]):=fun X hX=>⟨CellsAt.below x0 hX,CellsAt.below x1 hX⟩
 have HR:Hid _:=And.intro (hr.below' bW) (hq.below' bW);have HW:Hid _:=hW;obtain⟨y0,y1,y2,y3,y4,y5,y6,y7,y8,y9,y10,y11,y12,y13,y14,y15,y16⟩:=c17 x0;obtain⟨z0,z1,z2,z3,z4,z5,z6,z7,z8,z9,z10,z11,z12,z13,z14,z15,z16⟩:=c17 x1;clear hW x0 x1 hr hq;have HL:Hid _:=eqLog_yes a.sa a.ta b.sa b.ta a.sc a.tc b.sc b.tc v.ss v.tt W HR.out.1.s HR.out.1.t HR.out.2.s HR.out.2.t hf.s hf.t;go_enter func22,ntmps22
 go_upto_region 1 with fail;rw[←HW.out];clear HW;go_wp2_with fail;refine Calls.mono HL.out ?_;rintro e w1 ⟨rfl,hb1⟩;have HB1:Hid (Below W.heap.size W w1):=hb1;clear y0 y1 y2 y3 y4 y5 y6 y7 y8 y9 y10 y11 y12 y13 y14 y15 y16 z0 z1 z2 z3 z4 z5 z6 z7 z8 z9 z10 z11 z12 z13 z14 z15 z16 hb1 HL;obtain⟨y0,y1,y2,y3,y4,y5,y6,y7,y8,y9,y10,y11,y12,y13,y14,y15,y16⟩:=c17 (HX.out w1 HB1.out).1
 obtain⟨z0,z1,z2,z3,z4,z5,z6,z7,z8,z9,z10,z11,z12,z13,z14,z15,z16⟩:=c17 (HX.out w1 HB1.out).2;have HS:Hid _:=eqState_yes v.sw v.now v.given v.births a.ka a.pa a.la b.ka b.pa b.la a.kc a.pc a.lc b.kc b.pc b.lc v.ks v.ps v.ls w1 (HR.out.1.st.below' HB1.out) (HR.out.2.st.below' HB1.out) hf.st;go_wp2_with fail;refine Calls.mono HS.out ?_;rintro e w2 ⟨rfl,hb2⟩
 have HB2:Hid (Below W.heap.size W w2):=HB1.out.trans (hb2.mono HB1.out.size);clear y0 y1 y2 y3 y4 y5 y6 y7 y8 y9 y10 y11 y12 y13 y14 y15 y16 z0 z1 z2 z3 z4 z5 z6 z7 z8 z9 z10 z11 z12 z13 z14 z15 z16 hb2 HS;obtain⟨y0,y1,y2,y3,y4,y5,y6,y7,y8,y9,y10,y11,y12,y13,y14,y15,y16⟩:=c17 (HX.out w2 HB2.out).1;obtain⟨z0,z1,z2,z3,z4,z5,z6,z7,z8,z9,z10,z11,z12,z13,z14,z15,z16⟩:=c17 (HX.out w2 HB2.out).2
 have HQ:Hid _:=eqRound_yes v.ph v.top v.at_ v.ro a.qa a.ma b.qa b.ma a.qc a.mc b.qc b.mc v.qs v.ms w2 (HR.out.1.q.below' HB2.out) (HR.out.1.m.below' HB2.out) (HR.out.2.q.below' HB2.out) (HR.out.2.m.below' HB2.out) hf.r;go_wp2_with fail;refine Calls.mono HQ.out ?_;rintro e w3 ⟨rfl,hb3⟩;have HB3:Hid (Below w.heap.size w w3):=bW.trans ((HB2.out.trans (hb3.mono HB2.out.size)).mono bW.size)
 clear y0 y1 y2 y3 y4 y5 y6 y7 y8 y9 y10 y11 y12 y13 y14 y15 y16 z0 z1 z2 z3 z4 z5 z6 z7 z8 z9 z10 z11 z12 z13 z14 z15 z16 hb3 HQ;go_wp2;go_ret;exact⟨rfl,HB3.out⟩
theorem res_cell {P:Program} {fn:Func} {p:Tmp} {ty:TypeId} (h:fn.results= #[.cell p ty]) (tmps:Array Value) (w:World) (b:Nat) (cs:List Value) (d:TypeDesc)
 (hp:tmps.getD p undef=.pointer (some ⟨b,0,none⟩)) (hc:w.rangeAt b 0 cs) (hu:P.underlying ty=some d) (hd:d.isRow=true) (hi:(P.info? ty).map (·.size)=some cs.length):
 (results fn tmps).run P w=.ok (.agg cs.toArray) w:=by
 have hp':tmps[p]?.getD undef=.pointer (some ⟨b,0,none⟩):=by simpa using hp
 simp[results,h,hp',asAddr,run_loadVar_mid w b 0 ty cs d hc hu hd hi]
theorem res_cell2 {P:Program} {fn:Func} {p u:Tmp} {ty:TypeId} {x:Value} (h:fn.results= #[.cell p ty,.tmp u]) (tmps:Array Value) (w:World) (b:Nat) (cs:List Value) (d:TypeDesc)
 (hp:tmps.getD p undef=.pointer (some ⟨b,0,none⟩)) (hx:tmps.getD u undef=x) (hc:w.rangeAt b 0 cs) (hu:P.underlying ty=some d) (hd:d.isRow=true) (hi:(P.info? ty).map (·.size)=some cs.length):
 (results fn tmps).run P w=.ok (.tuple #[.agg cs.toArray,x]) w:=by
 rw[results_cell_tmp h,hp,hx];simp[asAddr,run_loadVar_mid w b 0 ty cs d hc hu hd hi]
end Go.Proofs.YtpekbmegopfhfaaGreatDoor
