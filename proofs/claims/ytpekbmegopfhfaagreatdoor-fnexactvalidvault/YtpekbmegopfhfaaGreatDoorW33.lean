import Derived.Test.YtpekbmegopfhfaaGreatDoorW32
import Derived.Test.YtpekbmegopfhfaaGreatDoorW01
import Derived.Deep.RegionWith
import Derived.Test.YtpekbmegopfhfaaGreatDoorW05
import Derived.Test.YtpekbmegopfhfaaGreatDoorW20
import Derived.Test.YtpekbmegopfhfaaGreatDoorW06
import Derived.Deep.RegionLaw
import Derived.Deep.DeepCutAuto
import Derived.Test.YtpekbmegopfhfaaGreatDoorW19
import Derived.Test.YtpekbmegopfhfaaGreatDoorW13
import Derived.Test.YtpekbmegopfhfaaGreatDoorW18
namespace Go.Proofs.YtpekbmegopfhfaaGreatDoor
open Go.ChangeShapes Go.WideShapes Go.ChangeAt Go.RowKit
attribute [local go_sem↓] Go.wp_at_zero Go.wp_at_succ
def PhOk (births ph top at_:Int) (qs ms:List ByteArray):Prop:=
 (ph=0/\qs=[]/\ms=[]/\top=0/\at_=0)∨(ph=1/\0<=top/\top<=births/\at_=top+1)∨(ph=2/\0<=top/\top<=births/\1<=at_/\at_<=top+1)
structure RoundOk (wd births ph top at_ ro:Int) (qs ms:List ByteArray):Prop where
 ro1:0<=ro
 ro2:ro<=1000000000
 sums:SumsOk wd qs ms
 ph:PhOk births ph top at_ qs ms
set_option maxRecDepth 20000 in
set_option maxHeartbeats 4000000 in
theorem validRound_any (ph top at_ ro wd births:Int) (a b:Option Addr) (ac bc:Nat) (qs ms:List ByteArray) (w:World) (hq:SRow w w.heap.size a qs) (hm:SRow w w.heap.size b ms) (hf:RFit qs ms) (h8:wd<=8) (hbi:births<=1000000000):
 Calls Tryz.prog 120 #[.agg #[.int .i64 ph,.slice a qs.length ac,.slice b ms.length bc,.int .i64 top,.int .i64 at_,.int .i64 ro],.int .i64 wd,.int .i64 births] w fun e w'=>Says (RoundOk wd births ph top at_ ro qs ms) w w' e:=by
 have hfq:=hf.q
 have hfm:=hf.m
 have hb:Below w.heap.size w (w.alloc (.cells #[.int .i64 ph,.slice a qs.length ac,.slice b ms.length bc,.int .i64 top,.int .i64 at_,.int .i64 ro] 42)):=(Below.refl _ _).alloc (Nat.le_refl _) _
 have hx:=RBox.new w ph top at_ ro (.slice a qs.length ac) (.slice b ms.length bc) 42
 go_enter Tryz.func120,Tryz.ntmps120
 go_wp2_with fail
 refine (itime_any ro _).mono ?_
 rintro e w1 ⟨rfl,rfl⟩
 by_cases h1:0<=ro/\ro<=1000000000
 ·rw [decide_eq_true h1]
  go_wp2_with fail
  refine (validSums_any ph top at_ ro wd a b ac bc qs ms _ (hq.below' hb) (hm.below' hb) hf h8).mono ?_
  rintro e w2 ⟨b2,rfl,hs2,hb2⟩
  have hB2:=hb.trans (hb2.mono (by simp))
  obtain ⟨x0,x1,x2,x3,x4,x5,x6⟩:=hx.below hb2
  clear hb2 hx
  cases b2 with
  |false=>
   go_wp2
   go_ret
   exact Says.no (fun h=>by have:=hs2.2 h.sums;cases this) hB2
  |true=>
   have hsum:=hs2.1 rfl
   have HS:Hid _:=hsum
   clear hs2 hsum
   by_cases p0:ph=0
   ·subst p0
    by_cases e1:qs.length=0
    ·by_cases e2:ms.length=0
     ·by_cases e3:top=0
      ·by_cases e4:at_=0
       ·go_wp2
        go_ret
        exact Says.yes ⟨h1.1,h1.2,HS.out,.inl ⟨rfl,List.eq_nil_of_length_eq_zero e1,List.eq_nil_of_length_eq_zero e2,e3,e4⟩⟩ hB2
       ·have e4':(at_==0)=false:=by simpa using e4
        go_wp2
        go_ret
        exact Says.no (P:=RoundOk wd births 0 top at_ ro qs ms) (fun h=>by have:=h.ph;unfold PhOk at this;simp at this;have h9:=this.2.2.2;omega) hB2
      ·have e3':(top==0)=false:=by simpa using e3
       go_wp2
       go_ret
       exact Says.no (fun h=>by have:=h.ph;unfold PhOk at this;simp at this;have h9:=this.2.2.1;omega) hB2
     ·have e2':((ms.length:Int)==0)=false:=beq_eq_false_iff_ne.2 (by omega)
      go_wp2
      go_ret
      exact Says.no (fun h=>by have:=h.ph;unfold PhOk at this;simp at this;exact e2 (by rw [this.2.1];rfl)) hB2
    ·have e1':((qs.length:Int)==0)=false:=beq_eq_false_iff_ne.2 (by omega)
     go_wp2
     go_ret
     exact Says.no (fun h=>by have:=h.ph;unfold PhOk at this;simp at this;exact e1 (by rw [this.1];rfl)) hB2
   ·have p0':(ph==0)=false:=by simpa using p0
    by_cases p1:ph=1
    ·subst p1
     by_cases e1:0<=top
     ·by_cases e2:top<=births
      ·have hwr:IntKind.i64.wrap (top+1)=top+1:=cnt_wrap (by omega) (by omega)
       by_cases e3:at_=top+1
       ·have e3':(at_==top+1)=true:=by simpa using e3
        go_wp2
        go_ret
        exact Says.yes (P:=RoundOk wd births 1 top at_ ro qs ms) ⟨h1.1,h1.2,HS.out,.inr (.inl ⟨rfl,e1,e2,e3⟩)⟩ hB2
       ·have e3':(at_==top+1)=false:=by simpa using e3
        go_wp2
        go_ret
        exact Says.no (P:=RoundOk wd births 1 top at_ ro qs ms) (fun h=>by have:=h.ph;unfold PhOk at this;simp at this;have h9:=this.2.2;omega) hB2
      ·have e2':decide (top<=births)=false:=by simpa using e2
       go_wp2
       go_ret
       exact Says.no (P:=RoundOk wd births 1 top at_ ro qs ms) (fun h=>by have:=h.ph;unfold PhOk at this;simp at this;have h9:=this.2.1;omega) hB2
     ·have e1':decide (0<=top)=false:=by simpa using e1
      go_wp2
      go_ret
      exact Says.no (P:=RoundOk wd births 1 top at_ ro qs ms) (fun h=>by have:=h.ph;unfold PhOk at this;simp at this;have h9:=this.1;omega) hB2
    ·have p1':(ph==1)=false:=by simpa using p1
     by_cases p2:ph=2
     ·subst p2
      by_cases e1:0<=top
      ·by_cases e2:top<=births
       ·have hwr:IntKind.i64.wrap (top+1)=top+1:=cnt_wrap (by omega) (by omega)
        by_cases e3:1<=at_
        ·by_cases e4:at_<=top+1
         ·have e4':decide (at_<=top+1)=true:=by simpa using e4
          go_wp2
          go_ret
          exact Says.yes (P:=RoundOk wd births 2 top at_ ro qs ms) ⟨h1.1,h1.2,HS.out,.inr (.inr ⟨rfl,e1,e2,e3,e4⟩)⟩ hB2
         ·have e4':decide (at_<=top+1)=false:=by simpa using e4
          go_wp2
          go_ret
          exact Says.no (P:=RoundOk wd births 2 top at_ ro qs ms) (fun h=>by have:=h.ph;unfold PhOk at this;simp at this;have h9:=this.2.2.2;omega) hB2
        ·have e3':decide (1<=at_)=false:=by simpa using e3
         go_wp2
         go_ret
         exact Says.no (P:=RoundOk wd births 2 top at_ ro qs ms) (fun h=>by have:=h.ph;unfold PhOk at this;simp at this;have h9:=this.2.2.1;omega) hB2
       ·have e2':decide (top<=births)=false:=by simpa using e2
        go_wp2
        go_ret
        exact Says.no (P:=RoundOk wd births 2 top at_ ro qs ms) (fun h=>by have:=h.ph;unfold PhOk at this;simp at this;have h9:=this.2.1;omega) hB2
      ·have e1':decide (0<=top)=false:=by simpa using e1
       go_wp2
       go_ret
       exact Says.no (P:=RoundOk wd births 2 top at_ ro qs ms) (fun h=>by have:=h.ph;unfold PhOk at this;simp at this;have h9:=this.1;omega) hB2
     ·have p2':(ph==2)=false:=by simpa using p2
      go_wp2
      go_ret
      exact Says.no (P:=RoundOk wd births ph top at_ ro qs ms) (fun h=>by rcases h.ph with h|h|h;exact p0 h.1;exact p1 h.1;exact p2 h.1) hB2
 ·rw [decide_eq_false h1]
  go_wp2
  go_ret
  exact Says.no (fun h=>h1 ⟨h.ro1,h.ro2⟩) hb
end Go.Proofs.YtpekbmegopfhfaaGreatDoor
namespace Go.Proofs.YtpekbmegopfhfaaGreatDoor
open Go.ChangeShapes Go.WideShapes Go.ChangeAt Go.RowKit
set_option maxHeartbeats 400000 in
theorem szLog_yes (a b:Option Addr) (c d:Nat) (ss tt:List ByteArray) (left:Int) (w:World) (hr:SRow w w.heap.size a ss) (hq:SRow w w.heap.size b tt)
 (h2:left<=1048576) (hfit:(ss.length:Int)+bulk ss+tt.length+bulk tt<=left):
 Calls Tryz.prog 18 #[.agg #[.slice a ss.length c,.slice b tt.length d],.int .i64 left] w fun e w'=>e=.returned (.int .i64 (left -ss.length -bulk ss -tt.length -bulk tt))/\Below w.heap.size w w':=by
 have hb:Below w.heap.size w (w.alloc (.cells #[.slice a ss.length c,.slice b tt.length d] 38)):=(Below.refl _ _).alloc (Nat.le_refl _) _
 go_enter Tryz.func18,Tryz.ntmps18
 go_wp2_with fail
 refine (szS_yes a c ss _ _ w.heap.size (hr.below hb) (by omega) (by omega)).mono ?_
 rintro e w' ⟨rfl,rfl⟩
 go_wp2_with fail
 refine (szS_yes b d tt _ _ w.heap.size (hq.below hb) (by omega) (by omega)).mono ?_
 rintro e w' ⟨rfl,rfl⟩
 go_wp2
 go_ret
 exact ⟨rfl,hb⟩
set_option maxHeartbeats 400000 in
theorem szLog_no (a b:Option Addr) (c d:Nat) (ss tt:List ByteArray) (left:Int) (w:World) (hr:SRow w w.heap.size a ss) (hq:SRow w w.heap.size b tt)
 (hl:ss.length<=maxLen) (hs:∀s∈ss,s.size<=maxLen) (hl':tt.length<=maxLen) (hs':∀s∈tt,s.size<=maxLen)
 (h1:0<=left) (h2:left<=1048576) (hfit:left<(ss.length:Int)+bulk ss+tt.length+bulk tt):
 Calls Tryz.prog 18 #[.agg #[.slice a ss.length c,.slice b tt.length d],.int .i64 left] w fun e w'=>e=.returned (.int .i64 (-1))/\Below w.heap.size w w':=by
 have hb:Below w.heap.size w (w.alloc (.cells #[.slice a ss.length c,.slice b tt.length d] 38)):=(Below.refl _ _).alloc (Nat.le_refl _) _
 by_cases hn:left<(ss.length:Int)+bulk ss
 ·go_enter Tryz.func18,Tryz.ntmps18
  go_wp2_with fail
  refine (szS_no a c ss _ _ w.heap.size (hr.below hb) hl hs (by omega) (by omega) (by omega)).mono ?_
  rintro e w' ⟨rfl,rfl⟩
  go_wp2
  go_ret
  exact ⟨rfl,hb⟩
 ·go_enter Tryz.func18,Tryz.ntmps18
  go_wp2_with fail
  refine (szS_yes a c ss _ _ w.heap.size (hr.below hb) (by omega) (by omega)).mono ?_
  rintro e w' ⟨rfl,rfl⟩
  go_wp2_with fail
  refine (szS_no b d tt _ _ w.heap.size (hq.below hb) hl' hs' (by omega) (by omega) (by omega)).mono ?_
  rintro e w' ⟨rfl,rfl⟩
  go_wp2
  go_ret
  exact ⟨rfl,hb⟩
set_option maxHeartbeats 1000000 in
theorem toLog_any (a b:Option Addr) (c d:Nat) (ss tt:List ByteArray) (w:World) (hr:SRow w w.heap.size a ss) (hq:SRow w w.heap.size b tt) (hl:ss.length<=1048576) (hl':tt.length<=1048576):
 Calls Tryz.prog 20 #[.agg #[.slice a ss.length c,.slice b tt.length d]] w fun e w'=>∃g k,e=.returned (.agg #[.slice (some ⟨g,0,none⟩) ss.length ss.length,.slice (some ⟨k,0,none⟩) tt.length tt.length])/\w.heap.size<=g/\g<k/\
  w'.ownsRow w.heap.size 9 1 (.slice (some ⟨g,0,none⟩) ss.length ss.length) ss.length (ss.map Value.string)/\
  w'.ownsRow w.heap.size 9 1 (.slice (some ⟨k,0,none⟩) tt.length tt.length) tt.length (tt.map Value.string)/\Below w.heap.size w w':=by
 have hbA:Below w.heap.size w (((w.alloc (.cells #[.slice a ss.length c,.slice b tt.length d] 38)).alloc (.cells #[.slice none 0 0,.slice none 0 0] 40)).alloc (.cells #[.slice none 0 0,.slice none 0 0] 40)):=(((Below.refl _ _).alloc (Nat.le_refl _) _).alloc (by simp) _).alloc (by simp;omega) _
 go_enter Tryz.func20,Tryz.ntmps20
 go_wp2_with fail
 refine (toS_any a c ss _ (hr.below' hbA) hl).mono ?_
 rintro e w1 ⟨g,rfl,hg,hown,hb⟩
 have hB1:=hbA.trans (hb.mono (by simp;omega))
 obtain ⟨hc,hf⟩:=bcell hb
 have hz:=hb.size
 simp at hz hg
 go_wp2_with fail
 obtain ⟨W2,hW2⟩:∃W2,W2=w1.setCell ⟨w.heap.size+1+1,0,none⟩ (.slice (some ⟨g,0,none⟩) ss.length ss.length):=⟨_,rfl⟩
 have hB2:Below w.heap.size w W2:=by rw [hW2];exact hB1.setCell (by simp;omega) _
 have hzW:W2.heap.size=w1.heap.size:=by rw [hW2];simp
 have hO2:W2.ownsRow (w.heap.size+1) 9 1 (.slice (some ⟨g,0,none⟩) ss.length ss.length) ss.length (ss.map Value.string):=by
  rw [hW2];exact (ownsRow_setCell_below hown (by simp) _).mono (by simp)
 have c20:W2.cell? ⟨w.heap.size+1+1,0,none⟩=some (.slice (some ⟨g,0,none⟩) ss.length ss.length):=by rw [hW2];simp [go_sem,hc]
 have c21:W2.cell? ⟨w.heap.size+1+1,1,none⟩=some (.slice none 0 0):=by rw [hW2];simp [go_sem,hc]
 have c10:W2.cell? ⟨w.heap.size+1,0,none⟩=some (.slice none 0 0):=by rw [hW2];simp [go_sem,hc]
 have c11:W2.cell? ⟨w.heap.size+1,1,none⟩=some (.slice none 0 0):=by rw [hW2];simp [go_sem,hc]
 have f2:∀o,W2.frozen? ⟨w.heap.size+1+1,o,none⟩=false:=fun o=>by rw [hW2];simp [go_sem,hf]
 have f1:∀o,W2.frozen? ⟨w.heap.size+1,o,none⟩=false:=fun o=>by rw [hW2];simp [go_sem,hf]
 rw [←hW2]
 clear hW2 hown hb hc hf
 refine (toS_any b d tt _ (hq.below' hB2) hl').mono ?_
 rintro e w3 ⟨k,rfl,hk,hown3,hb3⟩
 have hz3:=hb3.size
 replace c20:=(hb3.cell (p:=⟨w.heap.size+1+1,0,none⟩) (by simp;omega)).trans c20
 replace c21:=(hb3.cell (p:=⟨w.heap.size+1+1,1,none⟩) (by simp;omega)).trans c21
 replace c10:=(hb3.cell (p:=⟨w.heap.size+1,0,none⟩) (by simp;omega)).trans c10
 replace c11:=(hb3.cell (p:=⟨w.heap.size+1,1,none⟩) (by simp;omega)).trans c11
 replace f2:∀o,w3.frozen? ⟨w.heap.size+1+1,o,none⟩=false:=fun o=>(hb3.frozen (p:=⟨w.heap.size+1+1,o,none⟩) (by simp;omega)).trans (f2 o)
 replace f1:∀o,w3.frozen? ⟨w.heap.size+1,o,none⟩=false:=fun o=>(hb3.frozen (p:=⟨w.heap.size+1,o,none⟩) (by simp;omega)).trans (f1 o)
 have hlt:=(hO2.lt g rfl).2
 have hO3:w3.ownsRow (w.heap.size+1) 9 1 (.slice (some ⟨g,0,none⟩) ss.length ss.length) ss.length (ss.map Value.string):=hO2.kept (row:=none) ⟨hb3.os,hb3.tape,hb3.output,hb3.size,fun i hi _=>hb3.block i hi⟩ (.inr (by simp [Value.ownBlock]))
 go_wp2
 refine bodyPost_ret (v:=.agg #[.slice (some ⟨g,0,none⟩) ss.length ss.length,.slice (some ⟨k,0,none⟩) tt.length tt.length]) (by simp [results,Tryz.results20,go_sem,c10,c11]) rfl ⟨g,k,rfl,by omega,by omega,?_,?_,?_⟩
 ·refine (ownsRow_setCell_other (ownsRow_setCell_other (ownsRow_setCell_other hO3 ?_ _) ?_ _) ?_ _).mono (by omega)<;>(simp [Value.ownBlock];omega)
 ·refine (ownsRow_setCell_other (ownsRow_setCell_other (ownsRow_setCell_other hown3 ?_ _) ?_ _) ?_ _).mono (by omega)<;>(simp [Value.ownBlock];omega)
 ·exact (hB2.trans (hb3.mono (by omega))).setCell (by simp;omega) _|>.setCell (by simp) _|>.setCell (by simp) _
def okLog (ss tt:List ByteArray):Bool:=decide (ss.length+tt.length<=4000)&&(ss++tt).all (fun s=>decide (s.size<=5000))
def okEs (ss:List ByteArray):Bool:=ss.all (fun s=>decide (s.size<=5000))
theorem okLog_eq (ss tt:List ByteArray):okLog ss tt=(decide (ss.length+tt.length<=4000)&&(okEs ss&&okEs tt)):=by simp [okLog,okEs]
theorem okEs_take (ss:List ByteArray) (k:Nat) (s:ByteArray) (h:ss[k]?=some s):okEs (ss.take (k+1))=(okEs (ss.take k)&&decide (s.size<=5000)):=by
 obtain ⟨hlt,rfl⟩:=List.getElem?_eq_some_iff.1 h
 unfold okEs
 rw [List.take_succ_eq_append_getElem hlt,List.all_append,List.all_cons,List.all_nil,Bool.and_true]
theorem okEs_false (ss:List ByteArray) (k:Nat) (s:ByteArray) (h:ss[k]?=some s) (hs:5000<s.size):okEs ss=false:=by
 simp only [okEs,List.all_eq_false]
 exact ⟨s,List.mem_of_getElem? h,by simp;omega⟩
set_option maxHeartbeats 1000000 in
theorem sValidLog_any (a b:Option Addr) (c d:Nat) (ss tt:List ByteArray) (w:World) (B:Nat) (hB:B<=w.heap.size) (hr:SRow w B a ss) (hq:SRow w B b tt) (hl:ss.length<=1048576) (hl':tt.length<=1048576)
 (hs:∀s∈ss,s.size<=1048576) (hs':∀s∈tt,s.size<=1048576):
 Calls Tryz.prog 53 #[.agg #[.slice a ss.length c,.slice b tt.length d]] w fun e w'=>e=.returned (.bool (okLog ss tt))/\Below w.heap.size w w':=by
 have hb:Below w.heap.size w (w.alloc (.cells #[.slice a ss.length c,.slice b tt.length d] 40)):=(Below.refl _ _).alloc (Nat.le_refl _) _
 go_enter Tryz.func53,Tryz.ntmps53
 go_wp2
 go_loop [3] (fun i=>∃k:Nat,k<=ss.length/\i=.int .i64 k/\okEs (ss.take k)=true) (fun i=>ss.length -(intOf i).toNat)
 case atStart=>exact ⟨0,Nat.zero_le _,rfl,by simp [okEs]⟩
 case round=>
  obtain ⟨k,hk,rfl,hok⟩:=hrel
  by_cases hlt:k<ss.length
  ·obtain ⟨p,off,ha,hp,hc⟩:=hr.at hlt
   subst ha
   have hck:=(hb.cell (p:=⟨p,off+k,none⟩) (by simp;omega)).trans (hc k ss[k] (List.getElem?_eq_getElem hlt))
   have hbt:Hid (okEs (ss.take (k+1))=(okEs (ss.take k)&&decide (ss[k].size<=5000))):=okEs_take ss k _ (List.getElem?_eq_getElem hlt)
   have hno:Hid (5000<ss[k].size->okEs ss=false):=okEs_false ss k _ (List.getElem?_eq_getElem hlt)
   have hsz:=hs ss[k] (List.getElem_mem hlt)
   clear hc hs hs'
   generalize ss[k]=s at *
   by_cases hbig:5000<s.size
   ·go_wp2
    go_ret
    exact ⟨by rw [okLog_eq,hno.out hbig];simp,hb⟩
   ·go_wp2
    refine ⟨⟨k+1,by omega,by go_num,?_⟩,by simp [intOf];omega⟩
    rw [hbt.out,hok];simp;omega
  ·rw [List.take_of_length_le (by omega)] at hok
   go_wp2
   go_loop [4] (fun i=>∃k:Nat,k<=tt.length/\i=.int .i64 k/\okEs (tt.take k)=true) (fun i=>tt.length -(intOf i).toNat)
   case atStart=>exact ⟨0,Nat.zero_le _,rfl,by simp [okEs]⟩
   case round=>
    obtain ⟨k2,hk2,rfl,hok2⟩:=hrel
    by_cases hlt2:k2<tt.length
    ·obtain ⟨p,off,ha,hp,hc⟩:=hq.at hlt2
     subst ha
     have hck:=(hb.cell (p:=⟨p,off+k2,none⟩) (by simp;omega)).trans (hc k2 tt[k2] (List.getElem?_eq_getElem hlt2))
     have hbt:Hid (okEs (tt.take (k2+1))=(okEs (tt.take k2)&&decide (tt[k2].size<=5000))):=okEs_take tt k2 _ (List.getElem?_eq_getElem hlt2)
     have hno:Hid (5000<tt[k2].size->okEs tt=false):=okEs_false tt k2 _ (List.getElem?_eq_getElem hlt2)
     have hsz:=hs' tt[k2] (List.getElem_mem hlt2)
     clear hc hs hs'
     generalize tt[k2]=s at *
     by_cases hbig:5000<s.size
     ·go_wp2
      go_ret
      exact ⟨by rw [okLog_eq,hno.out hbig];simp,hb⟩
     ·go_wp2
      refine ⟨⟨k2+1,by omega,by go_num,?_⟩,by simp [intOf];omega⟩
      rw [hbt.out,hok2];simp;omega
    ·rw [List.take_of_length_le (by omega)] at hok2
     go_wp2
     go_ret
     refine ⟨?_,hb⟩
     rw [okLog_eq,hok,hok2]
     simp
     omega
set_option maxHeartbeats 400000 in
theorem eqLog_yes (a b a' b':Option Addr) (c d c' d':Nat) (ss tt:List ByteArray) (w:World) (hr:SRow w w.heap.size a ss) (hq:SRow w w.heap.size b tt) (hr':SRow w w.heap.size a' ss) (hq':SRow w w.heap.size b' tt)
 (hl:ss.length<=1048576) (hl':tt.length<=1048576):
 Calls Tryz.prog 23 #[.agg #[.slice a ss.length c,.slice b tt.length d],.agg #[.slice a' ss.length c',.slice b' tt.length d']] w fun e w'=>e=.returned (.bool true)/\Below w.heap.size w w':=by
 have hb:Below w.heap.size w ((w.alloc (.cells #[.slice a ss.length c,.slice b tt.length d] 40)).alloc (.cells #[.slice a' ss.length c',.slice b' tt.length d'] 40)):=((Below.refl _ _).alloc (Nat.le_refl _) _).alloc (by simp) _
 go_enter Tryz.func23,Tryz.ntmps23
 go_wp2_with fail
 refine (eqS_yes a a' c c' ss _ _ _ (hr.below hb) (hr'.below hb) hl).mono ?_
 rintro e w' ⟨rfl,n,rfl⟩
 have hbn:=belowN hb n
 go_wp2_with fail
 refine (eqS_yes b b' d d' tt _ _ _ (hq.below hbn) (hq'.below hbn) hl').mono ?_
 rintro e w' ⟨rfl,m,rfl⟩
 go_wp2
 go_ret
 exact ⟨rfl,belowN hb (n+m)⟩
end Go.Proofs.YtpekbmegopfhfaaGreatDoor
namespace Go.Proofs.YtpekbmegopfhfaaGreatDoor
open Go.ChangeShapes Go.WideShapes Go.ChangeAt Go.RowKit
structure Vd where
 wd:Int
 lim:Int
 ss:List ByteArray
 tt:List ByteArray
 sw:Int
 now:Int
 given:Int
 births:Int
 ks:List Kd
 ps:List Pd
 ls:List Ld
 ph:Int
 qs:List ByteArray
 ms:List ByteArray
 top:Int
 at_:Int
 ro:Int
structure Va where
 sa:Option Addr
 sc:Nat
 ta:Option Addr
 tc:Nat
 ka:Option Addr
 kc:Nat
 pa:Option Addr
 pc:Nat
 la:Option Addr
 lc:Nat
 qa:Option Addr
 qc:Nat
 ma:Option Addr
 mc:Nat
structure VRows (w:World) (B:Nat) (a:Va) (v:Vd):Prop where
 s:SRow w B a.sa v.ss
 t:SRow w B a.ta v.tt
 st:SRows w B a.ka a.pa a.la v.ks v.ps v.ls
 q:SRow w B a.qa v.qs
 m:SRow w B a.ma v.ms
theorem VRows.keep {w w':World} {B:Nat} {a:Va} {v:Vd} (h:VRows w B a v) (hb:Below B w w'):VRows w' B a v:=
 ⟨h.s.below hb,h.t.below hb,h.st.keep hb,h.q.below hb,h.m.below hb⟩
theorem VRows.mono {w:World} {B B':Nat} {a:Va} {v:Vd} (h:VRows w B a v) (hb:B<=B'):VRows w B' a v:=
 ⟨h.s.mono hb,h.t.mono hb,h.st.mono hb,h.q.mono hb,h.m.mono hb⟩
theorem VRows.below' {w w':World} {a:Va} {v:Vd} (h:VRows w w.heap.size a v) (hb:Below w.heap.size w w'):VRows w' w'.heap.size a v:=(h.keep hb).mono hb.size
structure VCap (a:Va) (v:Vd):Prop where
 s:a.sa=none->v.ss.length=0/\a.sc=0
 t:a.ta=none->v.tt.length=0/\a.tc=0
 m:v.ms.length<=a.mc
structure VFit (v:Vd):Prop where
 s:v.ss.length<=1048576
 t:v.tt.length<=1048576
 ss:∀s∈v.ss,s.size<=1048576
 tt:∀s∈v.tt,s.size<=1048576
 st:SFit v.ks v.ps v.ls
 r:RFit v.qs v.ms
structure VaultOk (v:Vd) (r:Rs):Prop where
 wd:1<=v.wd/\v.wd<=8
 lim:0<=v.lim/\v.lim<=1000000
 log:okLog v.ss v.tt=true
 run:Run v.wd r0 (v.ss++v.tt) r
 same:(v.wd=v.sw/\r.now=v.now/\r.given=v.given/\r.births=v.births)/\r.ks=v.ks/\r.ps=v.ps/\r.ls=v.ls
 round:RoundOk v.wd v.births v.ph v.top v.at_ v.ro v.qs v.ms
def VOk (v:Vd):Prop:=∃r,VaultOk v r
theorem okLog_le {ss tt:List ByteArray} (h:okLog ss tt=true):(ss++tt).length<=4000:=by
 unfold okLog at h
 simp at h
 rw [List.length_append]
 exact h.1
theorem c17 {w:World} {b:Nat} {a0 a1 a2 a3 a4 a5 a6 a7 a8 a9 a10 a11 a12 a13 a14 a15 a16:Value} (h:CellsAt w b [a0,a1,a2,a3,a4,a5,a6,a7,a8,a9,a10,a11,a12,a13,a14,a15,a16]):w.cell? ⟨b,0,none⟩=some a0/\w.cell? ⟨b,1,none⟩=some a1/\w.cell? ⟨b,2,none⟩=some a2/\w.cell? ⟨b,3,none⟩=some a3/\w.cell? ⟨b,4,none⟩=some a4/\w.cell? ⟨b,5,none⟩=some a5/\w.cell? ⟨b,6,none⟩=some a6/\w.cell? ⟨b,7,none⟩=some a7/\w.cell? ⟨b,8,none⟩=some a8/\w.cell? ⟨b,9,none⟩=some a9/\w.cell? ⟨b,10,none⟩=some a10/\w.cell? ⟨b,11,none⟩=some a11/\w.cell? ⟨b,12,none⟩=some a12/\w.cell? ⟨b,13,none⟩=some a13/\w.cell? ⟨b,14,none⟩=some a14/\w.cell? ⟨b,15,none⟩=some a15/\w.cell? ⟨b,16,none⟩=some a16:=
 ⟨(h 0 _ rfl).1,(h 1 _ rfl).1,(h 2 _ rfl).1,(h 3 _ rfl).1,(h 4 _ rfl).1,(h 5 _ rfl).1,(h 6 _ rfl).1,(h 7 _ rfl).1,(h 8 _ rfl).1,(h 9 _ rfl).1,(h 10 _ rfl).1,(h 11 _ rfl).1,(h 12 _ rfl).1,(h 13 _ rfl).1,(h 14 _ rfl).1,(h 15 _ rfl).1,(h 16 _ rfl).1⟩
end Go.Proofs.YtpekbmegopfhfaaGreatDoor
namespace Go.Proofs.YtpekbmegopfhfaaGreatDoor
open Go.ChangeShapes Go.WideShapes Go.ChangeAt Go.RowKit
set_option maxRecDepth 20000 in
set_option maxHeartbeats 4000000 in
theorem l7All_any (a b:Option Addr) (c d:Nat) (ss tt:List ByteArray) (w:World) (hr:SRow w w.heap.size a ss) (hq:SRow w w.heap.size b tt) (ha:a=none->ss.length=0/\c=0) (hb:b=none->tt.length=0/\d=0) (hl:ss.length<=1048576) (hl':tt.length<=1048576):
 Calls Tryz.prog 54 #[.agg #[.slice a ss.length c,.slice b tt.length d]] w fun e w'=>∃g cap,e=.returned (.slice (some ⟨g,0,none⟩) (ss++tt).length cap)/\w'.ownsRow w.heap.size 9 1 (.slice (some ⟨g,0,none⟩) (ss++tt).length cap) (ss++tt).length ((ss++tt).map Value.string)/\Below w.heap.size w w':=by
 obtain ⟨i0,hi,hz0,hz1,hz2⟩:=info_parts Tryz.infoStr
 obtain ⟨W,hW⟩:∃W,W=w.alloc (.cells #[.slice a ss.length c,.slice b tt.length d] 40):=⟨_,rfl⟩
 have bW:Below w.heap.size w W:=by rw [hW];exact (Below.refl _ _).alloc (Nat.le_refl _) _
 have zW:W.heap.size=w.heap.size+1:=by rw [hW];simp
 have x0:CellsAt W w.heap.size [.slice a ss.length c,.slice b tt.length d]:=by rw [hW];exact CellsAt.new w _ _
 have bA:Below W.heap.size W (W.alloc (.cells #[] 9)):=(Below.refl _ _).alloc (Nat.le_refl _) _
 have oA:(W.alloc (.cells #[] 9)).drew.ownsRow (w.heap.size+1) 9 1 (.slice (some ⟨w.heap.size+1,0,none⟩) 0 0) 0 (([]:List ByteArray).map Value.string):=by
  have h1:=World.ownsRow_lit (base:=w.heap.size+1) (e:=9) (size:=1) W #[] 0 (by omega) (by unfold maxLen;omega) rfl
  rw [zW] at h1
  exact h1
 have rA:=(SRow.below hr (bW.trans (bA.drew.mono bW.size))).cellsO
 have xA:=CellsAt.below x0 bA
 obtain ⟨y0,_⟩:=x0 0 _ rfl
 obtain ⟨y1,_⟩:=x0 1 _ rfl
 obtain ⟨z0,_⟩:=xA 0 _ rfl
 obtain ⟨z1,_⟩:=xA 1 _ rfl
 have HW:Hid _:=hW
 have HX:Hid _:=And.intro xA (bW.trans (bA.mono bW.size))
 have HQ:Hid (SRow w w.heap.size b tt):=hq
 clear hW x0 xA hr hq
 go_enter Tryz.func54,Tryz.ntmps54
 go_upto_region 1 with fail
 rw [←HW.out]
 clear HW
 go_region_law (first
  |(refine step_append_rowO (W.alloc (.cells #[] 9)).drew rfl (.tmp 3) (.tmp 5) 22 rfl (w.heap.size+1) 9 i0 (.string ⟨#[]⟩) 16 Tryz.underlying22 hi hz0 hz1 hz2 rfl (w.heap.size+1) 0 0 [] rfl oA a ss.length c ss rfl rfl ha rA (by unfold maxLen;omega) (by omega) (by simp<;>omega) ?_;intro k6 cap6 w6 ho6 hg6 hat6 hlt6;simp only [Nat.zero_add,List.nil_append] at ho6;have x6:CellsAt w6 w.heap.size [.slice a ss.length c,.slice b tt.length d]:=(CellsAt.same HX.out.1 (hg6.block _ (by simp<;>omega) (by simp<;>omega)));have b6:Below w.heap.size w w6:=(HX.out.2.drew.grown hg6 (by simp<;>omega) (fun k hk=>by cases hk;omega));have c0:=(x6 0 _ rfl).1;have c1:=(x6 1 _ rfl).1;have r6:=(SRow.below HQ.out b6).cellsO;have z6:=hg6.size;simp at z6)
  |(refine step_append_rowO w6 rfl (.tmp 6) (.tmp 8) 22 rfl (w.heap.size+1) 9 i0 (.string ⟨#[]⟩) 16 Tryz.underlying22 hi hz0 hz1 hz2 rfl k6 ss.length cap6 ss rfl ho6 b tt.length d tt rfl rfl hb r6 (by unfold maxLen;omega) (by omega) (by omega) ?_;intro k9 cap9 w9 ho9 hg9 hat9 hlt9))
 all_goals
  have l6:w.heap.size+1<=k6:=(ho6.lt k6 rfl).1
  have HF:Hid (w9.ownsRow w.heap.size 9 1 (.slice (some ⟨k9,0,none⟩) (ss.length+tt.length) cap9) (ss.length+tt.length) ((ss++tt).map Value.string)/\Below w.heap.size w w9):=⟨ho9.mono (by omega),b6.grown hg9 b6.size (fun k hk=>by cases hk;omega)⟩
  clear ho6 hg6 hat6 hlt6 x6 b6 c0 c1 r6 z6 ho9 hg9 hat9 hlt9 oA rA y0 y1 z0 z1
  go_wp2
  go_ret
  rw [List.length_append]
  exact ⟨k9,cap9,rfl,HF.out⟩
end Go.Proofs.YtpekbmegopfhfaaGreatDoor
namespace Go.Proofs.YtpekbmegopfhfaaGreatDoor
open Go.ChangeShapes Go.WideShapes Go.ChangeAt Go.RowKit
set_option maxRecDepth 20000 in
set_option maxHeartbeats 4000000 in
theorem l4Drop_missing (wd now given births:Int) (a p l:Option Addr) (tc pn pc ln lc:Nat) (ks:List Kd) (s:ByteArray) (w:World) (hks:KRow w w.heap.size a ks) (hkl:ks.length<=1000) (hth:¬There ks s):
 Calls Tryz.prog 91 #[.agg #[.int .i64 wd,.int .i64 now,.int .i64 given,.int .i64 births,.slice a ks.length tc,.slice p pn pc,.slice l ln lc],.string s] w fun e w'=>e=.returned (.agg (refC 2 ⟨#[]⟩ ⟨#[]⟩).toArray)/\Below w.heap.size w w':=by
 obtain ⟨W,hW⟩:∃W,W=(w.alloc (.cells #[.int .i64 wd,.int .i64 now,.int .i64 given,.int .i64 births,.slice a ks.length tc,.slice p pn pc,.slice l ln lc] 28)).alloc (.cells #[.int .i64 0,.int .i64 0,.int .i64 0,.int .i64 0,.int .i64 0,.slice none 0 0,.slice none 0 0,.slice none 0 0,.string ⟨#[]⟩,.int .i64 0,.string ⟨#[]⟩,.string ⟨#[]⟩] 30):=⟨_,rfl⟩
 have bW:Below w.heap.size w W:=by rw [hW];exact ((Below.refl _ _).alloc (Nat.le_refl _) _).alloc (by simp) _
 have x0:CellsAt W w.heap.size [.int .i64 wd,.int .i64 now,.int .i64 given,.int .i64 births,.slice a ks.length tc,.slice p pn pc,.slice l ln lc]:=by rw [hW];exact CellsAt.below (CellsAt.new w _ _) ((Below.refl _ _).alloc (Nat.le_refl _) _)
 have x1:CellsAt W (w.heap.size+1) z12:=by
  have h1:=CellsAt.new (w.alloc (.cells #[.int .i64 wd,.int .i64 now,.int .i64 given,.int .i64 births,.slice a ks.length tc,.slice p pn pc,.slice l ln lc] 28)) z12 30
  rw [World.size_alloc] at h1
  rw [hW]
  exact h1
 have HF:Hid _:=find_any wd now given births a tc (.slice p pn pc) (.slice l ln lc) ks s W w.heap.size (KRow.below hks bW) bW.size (by omega)
 have hfl:=find_lt hth
 have HW:Hid _:=hW
 have HX1:Hid (CellsAt W (w.heap.size+1) z12):=x1
 obtain ⟨v0,v1,v2,v3,v4,v5,v6,v7⟩:=sbox_of x0
 clear hW x0 x1 hks hth
 go_enter Tryz.func91,Tryz.ntmps91
 go_upto_region 1 with fail
 rw [←HW.out]
 clear HW
 go_wp2_with fail
 refine Calls.mono HF.out ?_
 rintro e w1 ⟨rfl,hb1⟩
 obtain ⟨⟨y0,q0⟩,⟨y1,q1⟩,⟨y2,q2⟩,⟨y3,q3⟩,⟨y4,q4⟩,⟨y5,q5⟩,⟨y6,q6⟩,⟨y7,q7⟩,⟨y8,q8⟩,⟨y9,q9⟩,⟨y10,q10⟩,y11,q11⟩:=z12at (CellsAt.below (v:=.int .i64 0) HX1.out hb1)
 have hB:Below w.heap.size w w1:=bW.trans (hb1.mono bW.size)
 generalize findI ks s=fi at *
 clear v0 v1 v2 v3 v4 v5 v6 v7 HF
 go_wp2
 refine bodyPost_ret (v:=.agg (refC 2 ⟨#[]⟩ ⟨#[]⟩).toArray) (by simp [results,Tryz.results91,go_sem,y0,y1,y2,y3,y4,y5,y6,y7,y8,y9,y10,y11,refC]) rfl ?_
 exact ⟨rfl,hB.trans (Tn.below (tn12 w1 (w.heap.size+1) _ _ _ _ _ _ _ _ _ _ _ _) hB.size (by intro v hv;simp at hv;omega))⟩
end Go.Proofs.YtpekbmegopfhfaaGreatDoor
