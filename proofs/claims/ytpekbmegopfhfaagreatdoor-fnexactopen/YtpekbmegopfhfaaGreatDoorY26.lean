import Derived.Test.YtpekbmegopfhfaaGreatDoorY25
import Derived.Deep.MidRow
import Derived.Laws.ResultCell
set_option maxRecDepth 100000
set_option maxHeartbeats 16000000
namespace Go.Proofs.YtpekbmegopfhfaaGreatDoor
open Go.ChangeShapes Go.WideShapes Go.ChangeAt Go.RowKit _root_.Go.Proofs.Tryz
theorem szLog_yes (a b:Option Addr) (c d:Nat) (ss tt:List ByteArray) (left:Int) (w:World) (hr:SRow w w.heap.size a ss) (hq:SRow w w.heap.size b tt)
 (h2:left<=1048576) (hfit:(ss.length:Int)+bulk ss+tt.length+bulk tt<=left):
 Calls prog 18 #[.agg #[.slice a ss.length c,.slice b tt.length d],.int .i64 left] w fun e w'=>e=.returned (.int .i64 (left -ss.length -bulk ss -tt.length -bulk tt))/\Below w.heap.size w w':=by
 have hb:Below w.heap.size w (w.alloc (.cells #[.slice a ss.length c,.slice b tt.length d] 38)):=(Below.refl _ _).alloc (Nat.le_refl _) _;go_enter func18,ntmps18;go_wp2_with fail;refine(szS_yes a c ss _ _ w.heap.size (hr.below hb) (by omega) (by omega)).mono ?_;rintro e w' ⟨rfl,rfl⟩;go_wp2_with fail;refine(szS_yes b d tt _ _ w.heap.size (hq.below hb) (by omega) (by omega)).mono ?_
 rintro e w' ⟨rfl,rfl⟩;go_wp2;go_ret;exact⟨rfl,hb⟩
theorem szLog_no (a b:Option Addr) (c d:Nat) (ss tt:List ByteArray) (left:Int) (w:World) (hr:SRow w w.heap.size a ss) (hq:SRow w w.heap.size b tt)
 (hl:ss.length<=maxLen) (hs:∀s∈ss,s.size<=maxLen) (hl':tt.length<=maxLen) (hs':∀s∈tt,s.size<=maxLen)
 (h1:0<=left) (h2:left<=1048576) (hfit:left<(ss.length:Int)+bulk ss+tt.length+bulk tt):
 Calls prog 18 #[.agg #[.slice a ss.length c,.slice b tt.length d],.int .i64 left] w fun e w'=>e=.returned (.int .i64 (-1))/\Below w.heap.size w w':=by
 have hb:Below w.heap.size w (w.alloc (.cells #[.slice a ss.length c,.slice b tt.length d] 38)):=(Below.refl _ _).alloc (Nat.le_refl _) _;by_cases hn:left<(ss.length:Int)+bulk ss
 ·go_enter func18,ntmps18
  go_wp2_with fail;refine(szS_no a c ss _ _ w.heap.size (hr.below hb) hl hs (by omega) (by omega) (by omega)).mono ?_;rintro e w' ⟨rfl,rfl⟩;go_wp2;go_ret;exact⟨rfl,hb⟩
 ·go_enter func18,ntmps18
  go_wp2_with fail;refine(szS_yes a c ss _ _ w.heap.size (hr.below hb) (by omega) (by omega)).mono ?_;rintro e w' ⟨rfl,rfl⟩;go_wp2_with fail;refine(szS_no b d tt _ _ w.heap.size (hq.below hb) hl' hs' (by omega) (by omega) (by omega)).mono ?_;rintro e w' ⟨rfl,rfl⟩;go_wp2;go_ret;exact⟨rfl,hb⟩
theorem toLog_any (a b:Option Addr) (c d:Nat) (ss tt:List ByteArray) (w:World) (hr:SRow w w.heap.size a ss) (hq:SRow w w.heap.size b tt) (hl:ss.length<=1048576) (hl':tt.length<=1048576):
 Calls prog 20 #[.agg #[.slice a ss.length c,.slice b tt.length d]] w fun e w'=>∃g k,e=.returned (.agg #[.slice (some ⟨g,0,none⟩) ss.length ss.length,.slice (some ⟨k,0,none⟩) tt.length tt.length])/\w.heap.size<=g/\g<k/\
  w'.ownsRow w.heap.size 9 1 (.slice (some ⟨g,0,none⟩) ss.length ss.length) ss.length (ss.map Value.string)/\
  w'.ownsRow w.heap.size 9 1 (.slice (some ⟨k,0,none⟩) tt.length tt.length) tt.length (tt.map Value.string)/\Below w.heap.size w w':=by
 have hbA:Below w.heap.size w (((w.alloc (.cells #[.slice a ss.length c,.slice b tt.length d] 38)).alloc (.cells #[.slice none 0 0,.slice none 0 0] 40)).alloc (.cells #[.slice none 0 0,.slice none 0 0] 40)):=(((Below.refl _ _).alloc (Nat.le_refl _) _).alloc (by simp) _).alloc (by simp;omega) _;go_enter func20,ntmps20;go_wp2_with fail;refine(toS_any a c ss _ (hr.below' hbA) hl).mono ?_
 rintro e w1 ⟨g,rfl,hg,hown,hb⟩;have hB1:=hbA.trans (hb.mono (by simp;omega));obtain⟨hc,hf⟩:=bcell hb;have hz:=hb.size;simp at hz hg;go_wp2_with fail;obtain⟨W2,hW2⟩:∃W2,W2=w1.setCell ⟨w.heap.size+1+1,0,none⟩ (.slice (some ⟨g,0,none⟩) ss.length ss.length):=⟨_,rfl⟩;have hB2:Below w.heap.size w W2:=by rw[hW2];exact hB1.setCell (by simp;omega) _
 have hzW:W2.heap.size=w1.heap.size:=by rw[hW2];simp
 have hO2:W2.ownsRow (w.heap.size+1) 9 1 (.slice (some ⟨g,0,none⟩) ss.length ss.length) ss.length (ss.map Value.string):=by
  rw[hW2];exact(ownsRow_setCell_below hown (by simp) _).mono (by simp)
 have c20:W2.cell? ⟨w.heap.size+1+1,0,none⟩=some (.slice (some ⟨g,0,none⟩) ss.length ss.length):=by rw[hW2];simp[go_sem,hc]
 have c21:W2.cell? ⟨w.heap.size+1+1,1,none⟩=some (.slice none 0 0):=by rw[hW2];simp[go_sem,hc]
 have c10:W2.cell? ⟨w.heap.size+1,0,none⟩=some (.slice none 0 0):=by rw[hW2];simp[go_sem,hc]
 have c11:W2.cell? ⟨w.heap.size+1,1,none⟩=some (.slice none 0 0):=by rw[hW2];simp[go_sem,hc]
 have f2:∀o,W2.frozen? ⟨w.heap.size+1+1,o,none⟩=false:=fun o=>by rw[hW2];simp[go_sem,hf]
 have f1:∀o,W2.frozen? ⟨w.heap.size+1,o,none⟩=false:=fun o=>by rw[hW2];simp[go_sem,hf]
 rw[←hW2];clear hW2 hown hb hc hf;refine(toS_any b d tt _ (hq.below' hB2) hl').mono ?_;rintro e w3 ⟨k,rfl,hk,hown3,hb3⟩;have hz3:=hb3.size;replace c20:=(hb3.cell (p:=⟨w.heap.size+1+1,0,none⟩) (by simp;omega)).trans c20;replace c21:=(hb3.cell (p:=⟨w.heap.size+1+1,1,none⟩) (by simp;omega)).trans c21;replace c10:=(hb3.cell (p:=⟨w.heap.size+1,0,none⟩) (by simp;omega)).trans c10
 replace c11:=(hb3.cell (p:=⟨w.heap.size+1,1,none⟩) (by simp;omega)).trans c11;replace f2:∀o,w3.frozen? ⟨w.heap.size+1+1,o,none⟩=false:=fun o=>(hb3.frozen (p:=⟨w.heap.size+1+1,o,none⟩) (by simp;omega)).trans (f2 o);replace f1:∀o,w3.frozen? ⟨w.heap.size+1,o,none⟩=false:=fun o=>(hb3.frozen (p:=⟨w.heap.size+1,o,none⟩) (by simp;omega)).trans (f1 o);have hlt:=(hO2.lt g rfl).2
 have hO3:w3.ownsRow (w.heap.size+1) 9 1 (.slice (some ⟨g,0,none⟩) ss.length ss.length) ss.length (ss.map Value.string):=hO2.kept (row:=none) ⟨hb3.os,hb3.tape,hb3.output,hb3.size,fun i hi _=>hb3.block i hi⟩ (.inr (by simp[Value.ownBlock]));go_wp2
 refine bodyPost_ret (v:=.agg #[.slice (some ⟨g,0,none⟩) ss.length ss.length,.slice (some ⟨k,0,none⟩) tt.length tt.length]) (by simp[results,results20,go_sem,c10,c11]) rfl ⟨g,k,rfl,by omega,by omega,?_,?_,?_⟩
 ·refine(ownsRow_setCell_other (ownsRow_setCell_other (ownsRow_setCell_other hO3 ?_ _) ?_ _) ?_ _).mono (by omega)<;>(simp[Value.ownBlock];omega)
 ·refine(ownsRow_setCell_other (ownsRow_setCell_other (ownsRow_setCell_other hown3 ?_ _) ?_ _) ?_ _).mono (by omega)<;>(simp[Value.ownBlock];omega)
 ·exact(hB2.trans (hb3.mono (by omega))).setCell (by simp;omega) _|>.setCell (by simp) _|>.setCell (by simp) _
def okLog (ss tt:List ByteArray):Bool:=decide (ss.length+tt.length<=4000)&&(ss++tt).all (fun s=>decide (s.size<=5000))
def okEs (ss:List ByteArray):Bool:=ss.all (fun s=>decide (s.size<=5000))
theorem okLog_eq (ss tt:List ByteArray):okLog ss tt=(decide (ss.length+tt.length<=4000)&&(okEs ss&&okEs tt)):=by simp[okLog,okEs]
theorem okEs_take (ss:List ByteArray) (k:Nat) (s:ByteArray) (h:ss[k]?=some s):okEs (ss.take (k+1))=(okEs (ss.take k)&&decide (s.size<=5000)):=by
 obtain⟨hlt,rfl⟩:=List.getElem?_eq_some_iff.1 h;unfold okEs;rw[List.take_succ_eq_append_getElem hlt,List.all_append,List.all_cons,List.all_nil,Bool.and_true]
theorem okEs_false (ss:List ByteArray) (k:Nat) (s:ByteArray) (h:ss[k]?=some s) (hs:5000<s.size):okEs ss=false:=by
 simp only[okEs,List.all_eq_false];exact⟨s,List.mem_of_getElem? h,by simp;omega⟩
theorem sValidLog_any (a b:Option Addr) (c d:Nat) (ss tt:List ByteArray) (w:World) (B:Nat) (hB:B<=w.heap.size) (hr:SRow w B a ss) (hq:SRow w B b tt) (hl:ss.length<=1048576) (hl':tt.length<=1048576)
 (hs:∀s∈ss,s.size<=1048576) (hs':∀s∈tt,s.size<=1048576):
 Calls prog 53 #[.agg #[.slice a ss.length c,.slice b tt.length d]] w fun e w'=>e=.returned (.bool (okLog ss tt))/\Below w.heap.size w w':=by
 have hb:Below w.heap.size w (w.alloc (.cells #[.slice a ss.length c,.slice b tt.length d] 40)):=(Below.refl _ _).alloc (Nat.le_refl _) _;go_enter func53,ntmps53;go_wp2
 go_loop [3] (fun i=>∃k:Nat,k<=ss.length/\i=.int .i64 k/\okEs (ss.take k)=true) (fun i=>ss.length -(intOf i).toNat)
 case atStart=>exact⟨0,Nat.zero_le _,rfl,by simp[okEs]⟩
 case round=>
  obtain⟨k,hk,rfl,hok⟩:=hrel;by_cases hlt:k<ss.length
  ·obtain⟨p,off,ha,hp,hc⟩:=hr.at hlt
   subst ha;have hck:=(hb.cell (p:=⟨p,off+k,none⟩) (by simp;omega)).trans (hc k ss[k] (List.getElem?_eq_getElem hlt));have hbt:Hid (okEs (ss.take (k+1))=(okEs (ss.take k)&&decide (ss[k].size<=5000))):=okEs_take ss k _ (List.getElem?_eq_getElem hlt);have hno:Hid (5000<ss[k].size->okEs ss=false):=okEs_false ss k _ (List.getElem?_eq_getElem hlt);have hsz:=hs ss[k] (List.getElem_mem hlt)
   clear hc hs hs';generalize ss[k]=s at *
   by_cases hbig:5000<s.size
   ·go_wp2
    go_ret;exact⟨by rw[okLog_eq,hno.out hbig];simp,hb⟩
   ·go_wp2
    refine⟨⟨k+1,by omega,by go_num,?_⟩,by simp[intOf];omega⟩;rw[hbt.out,hok];simp;omega
  ·rw[List.take_of_length_le (by omega)] at hok
   go_wp2
   go_loop [4] (fun i=>∃k:Nat,k<=tt.length/\i=.int .i64 k/\okEs (tt.take k)=true) (fun i=>tt.length -(intOf i).toNat)
   case atStart=>exact⟨0,Nat.zero_le _,rfl,by simp[okEs]⟩
   case round=>
    obtain⟨k2,hk2,rfl,hok2⟩:=hrel;by_cases hlt2:k2<tt.length
    ·obtain⟨p,off,ha,hp,hc⟩:=hq.at hlt2
     subst ha;have hck:=(hb.cell (p:=⟨p,off+k2,none⟩) (by simp;omega)).trans (hc k2 tt[k2] (List.getElem?_eq_getElem hlt2));have hbt:Hid (okEs (tt.take (k2+1))=(okEs (tt.take k2)&&decide (tt[k2].size<=5000))):=okEs_take tt k2 _ (List.getElem?_eq_getElem hlt2);have hno:Hid (5000<tt[k2].size->okEs tt=false):=okEs_false tt k2 _ (List.getElem?_eq_getElem hlt2)
     have hsz:=hs' tt[k2] (List.getElem_mem hlt2);clear hc hs hs';generalize tt[k2]=s at *
     by_cases hbig:5000<s.size
     ·go_wp2
      go_ret;exact⟨by rw[okLog_eq,hno.out hbig];simp,hb⟩
     ·go_wp2
      refine⟨⟨k2+1,by omega,by go_num,?_⟩,by simp[intOf];omega⟩;rw[hbt.out,hok2];simp;omega
    ·rw[List.take_of_length_le (by omega)] at hok2
     go_wp2;go_ret;refine⟨?_,hb⟩;rw[okLog_eq,hok,hok2];simp;omega
theorem eqLog_yes (a b a' b':Option Addr) (c d c' d':Nat) (ss tt:List ByteArray) (w:World) (hr:SRow w w.heap.size a ss) (hq:SRow w w.heap.size b tt) (hr':SRow w w.heap.size a' ss) (hq':SRow w w.heap.size b' tt)
 (hl:ss.length<=1048576) (hl':tt.length<=1048576):
 Calls prog 23 #[.agg #[.slice a ss.length c,.slice b tt.length d],.agg #[.slice a' ss.length c',.slice b' tt.length d']] w fun e w'=>e=.returned (.bool true)/\Below w.heap.size w w':=by
 have hb:Below w.heap.size w ((w.alloc (.cells #[.slice a ss.length c,.slice b tt.length d] 40)).alloc (.cells #[.slice a' ss.length c',.slice b' tt.length d'] 40)):=((Below.refl _ _).alloc (Nat.le_refl _) _).alloc (by simp) _;go_enter func23,ntmps23;go_wp2_with fail;refine(eqS_yes a a' c c' ss _ _ _ (hr.below hb) (hr'.below hb) hl).mono ?_;rintro e w' ⟨rfl,n,rfl⟩;have hbn:=belowN hb n
 go_wp2_with fail;refine(eqS_yes b b' d d' tt _ _ _ (hq.below hbn) (hq'.below hbn) hl').mono ?_;rintro e w' ⟨rfl,m,rfl⟩;go_wp2;go_ret;exact⟨rfl,belowN hb (n+m)⟩
structure Vd where
 wd:Int
 lim:Int
 ss:List ByteArray
 tt:List ByteArray
 sw:Int
 now:Int
 given:Int
 births:Int
 ks:List Kd
 ps:List Pd
 ls:List Ld
 ph:Int
 qs:List ByteArray
 ms:List ByteArray
 top:Int
 at_:Int
 ro:Int
structure Va where
 sa:Option Addr
 sc:Nat
 ta:Option Addr
 tc:Nat
 ka:Option Addr
 kc:Nat
 pa:Option Addr
 pc:Nat
 la:Option Addr
 lc:Nat
 qa:Option Addr
 qc:Nat
 ma:Option Addr
 mc:Nat
structure VRows (w:World) (B:Nat) (a:Va) (v:Vd):Prop where
 s:SRow w B a.sa v.ss
 t:SRow w B a.ta v.tt
 st:SRows w B a.ka a.pa a.la v.ks v.ps v.ls
 q:SRow w B a.qa v.qs
 m:SRow w B a.ma v.ms
theorem VRows.keep {w w':World} {B:Nat} {a:Va} {v:Vd} (h:VRows w B a v) (hb:Below B w w'):VRows w' B a v:=
 ⟨h.s.below hb,h.t.below hb,h.st.keep hb,h.q.below hb,h.m.below hb⟩
theorem VRows.mono {w:World} {B B':Nat} {a:Va} {v:Vd} (h:VRows w B a v) (hb:B<=B'):VRows w B' a v:=
 ⟨h.s.mono hb,h.t.mono hb,h.st.mono hb,h.q.mono hb,h.m.mono hb⟩
theorem VRows.below' {w w':World} {a:Va} {v:Vd} (h:VRows w w.heap.size a v) (hb:Below w.heap.size w w'):VRows w' w'.heap.size a v:=(h.keep hb).mono hb.size
structure VCap (a:Va) (v:Vd):Prop where
 s:a.sa=none->v.ss.length=0/\a.sc=0
 t:a.ta=none->v.tt.length=0/\a.tc=0
 m:v.ms.length<=a.mc
structure VFit (v:Vd):Prop where
 s:v.ss.length<=1048576
 t:v.tt.length<=1048576
 ss:∀s∈v.ss,s.size<=1048576
 tt:∀s∈v.tt,s.size<=1048576
 st:SFit v.ks v.ps v.ls
 r:RFit v.qs v.ms
 rn:refsN v.ks<=1048576
structure VaultOk (v:Vd) (r:Rs):Prop where
 wd:1<=v.wd/\v.wd<=8
 lim:0<=v.lim/\v.lim<=1000000
 log:okLog v.ss v.tt=true
 run:Run v.wd r0 (v.ss++v.tt) r
 same:(v.wd=v.sw/\r.now=v.now/\r.given=v.given/\r.births=v.births)/\r.ks=v.ks/\r.ps=v.ps/\r.ls=v.ls
 round:RoundOk v.wd v.births v.ph v.top v.at_ v.ro v.qs v.ms
def VOk (v:Vd):Prop:=∃r,VaultOk v r
theorem okLog_le {ss tt:List ByteArray} (h:okLog ss tt=true):(ss++tt).length<=4000:=by
 unfold okLog at h;simp at h;rw[List.length_append];exact h.1
theorem c17 {w:World} {b:Nat} {a0 a1 a2 a3 a4 a5 a6 a7 a8 a9 a10 a11 a12 a13 a14 a15 a16:Value} (h:CellsAt w b [a0,a1,a2,a3,a4,a5,a6,a7,a8,a9,a10,a11,a12,a13,a14,a15,a16]):w.cell? ⟨b,0,none⟩=some a0/\w.cell? ⟨b,1,none⟩=some a1/\w.cell? ⟨b,2,none⟩=some a2/\w.cell? ⟨b,3,none⟩=some a3/\w.cell? ⟨b,4,none⟩=some a4/\w.cell? ⟨b,5,none⟩=some a5/\w.cell? ⟨b,6,none⟩=some a6/\w.cell? ⟨b,7,none⟩=some a7/\w.cell? ⟨b,8,none⟩=some a8/\w.cell? ⟨b,9,none⟩=some a9/\w.cell? ⟨b,10,none⟩=some a10/\w.cell? ⟨b,11,none⟩=some a11/\w.cell? ⟨b,12,none⟩=some a12/\w.cell? ⟨b,13,none⟩=some a13/\w.cell? ⟨b,14,none⟩=some a14/\w.cell? ⟨b,15,none⟩=some a15/\w.cell? ⟨b,16,none⟩=some a16:=
 ⟨(h 0 _ rfl).1,(h 1 _ rfl).1,(h 2 _ rfl).1,(h 3 _ rfl).1,(h 4 _ rfl).1,(h 5 _ rfl).1,(h 6 _ rfl).1,(h 7 _ rfl).1,(h 8 _ rfl).1,(h 9 _ rfl).1,(h 10 _ rfl).1,(h 11 _ rfl).1,(h 12 _ rfl).1,(h 13 _ rfl).1,(h 14 _ rfl).1,(h 15 _ rfl).1,(h 16 _ rfl).1⟩
structure VMem (v:Vd):Prop where
 s:v.ss.length<=maxLen
 ss:∀s∈v.ss,s.size<=maxLen
 t:v.tt.length<=maxLen
 tt:∀s∈v.tt,s.size<=maxLen
 k:KMem v.ks
 p:PMem v.ps
 l:LMem v.ls
 q:v.qs.length<=maxLen
 qs:∀s∈v.qs,s.size<=maxLen
 m:v.ms.length<=maxLen
 ms:∀s∈v.ms,s.size<=maxLen
theorem eqVault_yes (v:Vd) (a b:Va) (w:World) (hr:VRows w w.heap.size a v) (hq:VRows w w.heap.size b v) (hf:VFit v):
 Calls prog 22 #[.agg #[.int .i64 v.wd,.int .i64 v.lim,.slice a.sa v.ss.length a.sc,.slice a.ta v.tt.length a.tc,.int .i64 v.sw,.int .i64 v.now,.int .i64 v.given,.int .i64 v.births,.slice a.ka v.ks.length a.kc,.slice a.pa v.ps.length a.pc,.slice a.la v.ls.length a.lc,.int .i64 v.ph,.slice a.qa v.qs.length a.qc,.slice a.ma v.ms.length a.mc,.int .i64 v.top,.int .i64 v.at_,.int .i64 v.ro],.agg #[.int .i64 v.wd,.int .i64 v.lim,.slice b.sa v.ss.length b.sc,.slice b.ta v.tt.length b.tc,.int .i64 v.sw,.int .i64 v.now,.int .i64 v.given,.int .i64 v.births,.slice b.ka v.ks.length b.kc,.slice b.pa v.ps.length b.pc,.slice b.la v.ls.length b.lc,.int .i64 v.ph,.slice b.qa v.qs.length b.qc,.slice b.ma v.ms.length b.mc,.int .i64 v.top,.int .i64 v.at_,.int .i64 v.ro]] w fun e w'=>e=.returned (.bool true)/\Below w.heap.size w w':=by
 obtain⟨W,hW⟩:∃W,W=(w.alloc (.cells #[.int .i64 v.wd,.int .i64 v.lim,.slice a.sa v.ss.length a.sc,.slice a.ta v.tt.length a.tc,.int .i64 v.sw,.int .i64 v.now,.int .i64 v.given,.int .i64 v.births,.slice a.ka v.ks.length a.kc,.slice a.pa v.ps.length a.pc,.slice a.la v.ls.length a.lc,.int .i64 v.ph,.slice a.qa v.qs.length a.qc,.slice a.ma v.ms.length a.mc,.int .i64 v.top,.int .i64 v.at_,.int .i64 v.ro] 44)).alloc (.cells #[.int .i64 v.wd,.int .i64 v.lim,.slice b.sa v.ss.length b.sc,.slice b.ta v.tt.length b.tc,.int .i64 v.sw,.int .i64 v.now,.int .i64 v.given,.int .i64 v.births,.slice b.ka v.ks.length b.kc,.slice b.pa v.ps.length b.pc,.slice b.la v.ls.length b.lc,.int .i64 v.ph,.slice b.qa v.qs.length b.qc,.slice b.ma v.ms.length b.mc,.int .i64 v.top,.int .i64 v.at_,.int .i64 v.ro] 44):=⟨_,rfl⟩
 have bW:=(al2 hW).1;have x0:=(al2 hW).2.2.1
 have x1:CellsAt W (w.heap.size+1) [.int .i64 v.wd,.int .i64 v.lim,.slice b.sa v.ss.length b.sc,.slice b.ta v.tt.length b.tc,.int .i64 v.sw,.int .i64 v.now,.int .i64 v.given,.int .i64 v.births,.slice b.ka v.ks.length b.kc,.slice b.pa v.ps.length b.pc,.slice b.la v.ls.length b.lc,.int .i64 v.ph,.slice b.qa v.qs.length b.qc,.slice b.ma v.ms.length b.mc,.int .i64 v.top,.int .i64 v.at_,.int .i64 v.ro]:=by
  have h1:=CellsAt.new (w.alloc (.cells #[.int .i64 v.wd,.int .i64 v.lim,.slice a.sa v.ss.length a.sc,.slice a.ta v.tt.length a.tc,.int .i64 v.sw,.int .i64 v.now,.int .i64 v.given,.int .i64 v.births,.slice a.ka v.ks.length a.kc,.slice a.pa v.ps.length a.pc,.slice a.la v.ls.length a.lc,.int .i64 v.ph,.slice a.qa v.qs.length a.qc,.slice a.ma v.ms.length a.mc,.int .i64 v.top,.int .i64 v.at_,.int .i64 v.ro] 44)) [.int .i64 v.wd,.int .i64 v.lim,.slice b.sa v.ss.length b.sc,.slice b.ta v.tt.length b.tc,.int .i64 v.sw,.int .i64 v.now,.int .i64 v.given,.int .i64 v.births,.slice b.ka v.ks.length b.kc,.slice b.pa v.ps.length b.pc,.slice b.la v.ls.length b.lc,.int .i64 v.ph,.slice b.qa v.qs.length b.qc,.slice b.ma v.ms.length b.mc,.int .i64 v.top,.int .i64 v.at_,.int .i64 v.ro] 44
  rw[World.size_alloc] at h1;rw[hW];exact h1
 have HX:Hid (∀X,Below W.heap.size W X->CellsAt X w.heap.size [.int .i64 v.wd,.int .i64 v.lim,.slice a.sa v.ss.length a.sc,.slice a.ta v.tt.length a.tc,.int .i64 v.sw,.int .i64 v.now,.int .i64 v.given,.int .i64 v.births,.slice a.ka v.ks.length a.kc,.slice a.pa v.ps.length a.pc,.slice a.la v.ls.length a.lc,.int .i64 v.ph,.slice a.qa v.qs.length a.qc,.slice a.ma v.ms.length a.mc,.int .i64 v.top,.int .i64 v.at_,.int .i64 v.ro]/\CellsAt X (w.heap.size+1) [.int .i64 v.wd,.int .i64 v.lim,.slice b.sa v.ss.length b.sc,.slice b.ta v.tt.length b.tc,.int .i64 v.sw,.int .i64 v.now,.int .i64 v.given,.int .i64 v.births,.slice b.ka v.ks.length b.kc,.slice b.pa v.ps.length b.pc,.slice b.la v.ls.length b.lc,.int .i64 v.ph,.slice b.qa v.qs.length b.qc,.slice b.ma v.ms.length b.mc,.int .i64 v.top,.int .i64 v.at_,.int .i64 v.ro]):=fun X hX=>⟨CellsAt.below x0 hX,CellsAt.below x1 hX⟩
 have HR:Hid _:=And.intro (hr.below' bW) (hq.below' bW);have HW:Hid _:=hW;obtain⟨y0,y1,y2,y3,y4,y5,y6,y7,y8,y9,y10,y11,y12,y13,y14,y15,y16⟩:=c17 x0;obtain⟨z0,z1,z2,z3,z4,z5,z6,z7,z8,z9,z10,z11,z12,z13,z14,z15,z16⟩:=c17 x1;clear hW x0 x1 hr hq;have HL:Hid _:=eqLog_yes a.sa a.ta b.sa b.ta a.sc a.tc b.sc b.tc v.ss v.tt W HR.out.1.s HR.out.1.t HR.out.2.s HR.out.2.t hf.s hf.t;go_enter func22,ntmps22
 go_upto_region 1 with fail;rw[←HW.out];clear HW;go_wp2_with fail;refine Calls.mono HL.out ?_;rintro e w1 ⟨rfl,hb1⟩;have HB1:Hid (Below W.heap.size W w1):=hb1;clear y0 y1 y2 y3 y4 y5 y6 y7 y8 y9 y10 y11 y12 y13 y14 y15 y16 z0 z1 z2 z3 z4 z5 z6 z7 z8 z9 z10 z11 z12 z13 z14 z15 z16 hb1 HL;obtain⟨y0,y1,y2,y3,y4,y5,y6,y7,y8,y9,y10,y11,y12,y13,y14,y15,y16⟩:=c17 (HX.out w1 HB1.out).1
 obtain⟨z0,z1,z2,z3,z4,z5,z6,z7,z8,z9,z10,z11,z12,z13,z14,z15,z16⟩:=c17 (HX.out w1 HB1.out).2;have HS:Hid _:=eqState_yes v.sw v.now v.given v.births a.ka a.pa a.la b.ka b.pa b.la a.kc a.pc a.lc b.kc b.pc b.lc v.ks v.ps v.ls w1 (HR.out.1.st.below' HB1.out) (HR.out.2.st.below' HB1.out) hf.st;go_wp2_with fail;refine Calls.mono HS.out ?_;rintro e w2 ⟨rfl,hb2⟩
 have HB2:Hid (Below W.heap.size W w2):=HB1.out.trans (hb2.mono HB1.out.size);clear y0 y1 y2 y3 y4 y5 y6 y7 y8 y9 y10 y11 y12 y13 y14 y15 y16 z0 z1 z2 z3 z4 z5 z6 z7 z8 z9 z10 z11 z12 z13 z14 z15 z16 hb2 HS;obtain⟨y0,y1,y2,y3,y4,y5,y6,y7,y8,y9,y10,y11,y12,y13,y14,y15,y16⟩:=c17 (HX.out w2 HB2.out).1;obtain⟨z0,z1,z2,z3,z4,z5,z6,z7,z8,z9,z10,z11,z12,z13,z14,z15,z16⟩:=c17 (HX.out w2 HB2.out).2
 have HQ:Hid _:=eqRound_yes v.ph v.top v.at_ v.ro a.qa a.ma b.qa b.ma a.qc a.mc b.qc b.mc v.qs v.ms w2 (HR.out.1.q.below' HB2.out) (HR.out.1.m.below' HB2.out) (HR.out.2.q.below' HB2.out) (HR.out.2.m.below' HB2.out) hf.r;go_wp2_with fail;refine Calls.mono HQ.out ?_;rintro e w3 ⟨rfl,hb3⟩;have HB3:Hid (Below w.heap.size w w3):=bW.trans ((HB2.out.trans (hb3.mono HB2.out.size)).mono bW.size)
 clear y0 y1 y2 y3 y4 y5 y6 y7 y8 y9 y10 y11 y12 y13 y14 y15 y16 z0 z1 z2 z3 z4 z5 z6 z7 z8 z9 z10 z11 z12 z13 z14 z15 z16 hb3 HQ;go_wp2;go_ret;exact⟨rfl,HB3.out⟩
theorem res_cell2 {P:Program} {fn:Func} {p u:Tmp} {ty:TypeId} {x:Value} (h:fn.results= #[.cell p ty,.tmp u]) (tmps:Array Value) (w:World) (b:Nat) (cs:List Value) (d:TypeDesc)
 (hp:tmps.getD p undef=.pointer (some ⟨b,0,none⟩)) (hx:tmps.getD u undef=x) (hc:w.rangeAt b 0 cs) (hu:P.underlying ty=some d) (hd:d.isRow=true) (hi:(P.info? ty).map (·.size)=some cs.length):
 (results fn tmps).run P w=.ok (.tuple #[.agg cs.toArray,x]) w:=by
 rw[results_cell_tmp h,hp,hx];simp[asAddr,run_loadVar_mid w b 0 ty cs d hc hu hd hi]
theorem CellsAt.there {w:World} {B:Nat} {l:List Value} (h:CellsAt w B l):w.there B 0 l.length:=fun j hj=>by
 obtain⟨h1,h2⟩:=h j _ (List.getElem?_eq_getElem hj);rw[Nat.zero_add];exact⟨by rw[h1];rfl,h2⟩
theorem CellsAt.range {w:World} {B:Nat} {l:List Value} (h:CellsAt w B l):w.rangeAt B 0 l:=fun j v hv=>by
 rw[Nat.zero_add];exact(h j v hv).1
theorem tn_cells (B:Nat):∀(vs:List Value) (o:Nat) (w:World),Tn [B] w (w.setCells B o vs)
 |[],_,w=>Tn.of (Below.refl _ _)
 |v::r,o,w=>(Tn.set w B o v (by simp)).trans (tn_cells B r (o+1) (w.setCell ⟨B,o,none⟩ v))
theorem CellsAt.setAll {w:World} {B:Nat} {l:List Value} (h:CellsAt w B l) (vs:List Value) (hl:vs.length=l.length):CellsAt (w.setCells B 0 vs) B vs:=fun j v hj=>by
 have hlt:=(List.getElem?_eq_some_iff.1 hj).1;have h1:=World.rangeAt_setCells_same w B 0 vs (hl▸h.there) j v hj;rw[Nat.zero_add] at h1;refine⟨h1,?_⟩;rw[World.frozen?_setCells];exact(h j _ (List.getElem?_eq_getElem (by omega))).2
def VOwn (w:World) (lo:Nat) (a:Va) (v:Vd):Prop:=
 ∃(g k g3 q3 r3 g5 k5 lo1 lo2:Nat) (w2:World),a=⟨some ⟨g,0,none⟩,v.ss.length,some ⟨k,0,none⟩,v.tt.length,some ⟨g3,0,none⟩,v.ks.length,some ⟨q3,0,none⟩,v.ps.length,some ⟨r3,0,none⟩,v.ls.length,some ⟨g5,0,none⟩,v.qs.length,some ⟨k5,0,none⟩,v.ms.length⟩/\
  g<k/\k<lo1/\lo<=lo1/\lo1<=lo2/\lo2<=w.heap.size/\g5<k5/\
  w.ownsRow lo 9 1 (.slice (some ⟨g,0,none⟩) v.ss.length v.ss.length) v.ss.length (v.ss.map Value.string)/\w.ownsRow lo 9 1 (.slice (some ⟨k,0,none⟩) v.tt.length v.tt.length) v.tt.length (v.tt.map Value.string)/\
  SOwn w2 lo1 g3 q3 r3 v.ks v.ps v.ls/\w2.heap.size<=lo2/\(∀b,lo1<=b->b<w2.heap.size->w.heap[b]?=w2.heap[b]?)/\
  w.ownsRow lo2 9 1 (.slice (some ⟨g5,0,none⟩) v.qs.length v.qs.length) v.qs.length (v.qs.map Value.string)/\w.ownsRow lo2 9 1 (.slice (some ⟨k5,0,none⟩) v.ms.length v.ms.length) v.ms.length (v.ms.map Value.string)
structure Knd (n kmax feq fmark:Nat) (R:Nat->World->List Value->Prop) (O:Nat->Nat->World->List Value->Prop) (M:Nat->Nat->World->List Value->Nat->Prop):Prop where
 eq:∀(X:World) (cs ds:List Value),R X.heap.size X cs->R X.heap.size X ds->Calls prog feq #[.agg cs.toArray,.agg ds.toArray] X fun e X'=>e=.returned (.bool true)/\Below X.heap.size X X'
 mark:∀(lo N:Nat) (X:World) (cs:List Value) (k:Nat),O lo N X cs->1<=k->k<=kmax->Calls prog fmark #[.agg cs.toArray,.int .i64 k] X fun e X'=>(∃K:Nat,e=.returned (.int .i64 K)/\1<=K/\K<=90000000/\M lo N X' cs K)/\Below lo X X'/\∀q,N<=q->q<X.heap.size->X'.heap[q]?=X.heap[q]?
 keepR:∀(L:Nat) (X X':World) (cs:List Value),R L X cs->Below L X X'->R L X' cs
 monoR:∀(L L':Nat) (X:World) (cs:List Value),R L X cs->L<=L'->R L' X cs
 keepO:∀(lo N:Nat) (X X':World) (cs:List Value),O lo N X cs->X.heap.size<=X'.heap.size->(∀q,lo<=q->q<N->X'.heap[q]?=X.heap[q]?)->O lo N X' cs
 keepM:∀(lo N:Nat) (X X':World) (cs:List Value) (K:Nat),M lo N X cs K->X.heap.size<=X'.heap.size->(∀q,lo<=q->q<N->X'.heap[q]?=X.heap[q]?)->M lo N X' cs K
 ofO:∀(lo N:Nat) (X:World) (cs:List Value),O lo N X cs->N<=X.heap.size/\R X.heap.size X cs
 lenR:∀(L:Nat) (X:World) (cs:List Value),R L X cs->cs.length=n/\∀u∈cs,u.oneCell'=true
structure L1 (RA:Nat->World->List Value->Prop) (w X:World) (A sc:List Value) (pS L:Nat):Prop where
 bel:Below w.heap.size w X
 bA:CellsAt X w.heap.size A
 bS:CellsAt X pS sc
 rS:RA L X sc
 l0:w.heap.size<L
 l1:pS<L
 le:L<=X.heap.size
theorem L1.keep {n kmax feq fmark:Nat} {RA:Nat->World->List Value->Prop} {OA:Nat->Nat->World->List Value->Prop} {MA:Nat->Nat->World->List Value->Nat->Prop} (k:Knd n kmax feq fmark RA OA MA) {w X X':World} {A sc:List Value} {pS L:Nat} (h:L1 RA w X A sc pS L) (hb:Below L X X'):L1 RA w X' A sc pS L:=
 ⟨h.bel.trans (hb.mono (by have:=h.l0;omega)),CellsAt.same h.bA (hb.block _ h.l0),CellsAt.same h.bS (hb.block _ h.l1),k.keepR _ _ _ _ h.rS hb,h.l0,h.l1,Nat.le_trans h.le hb.size⟩
structure L2 (OX:Nat->Nat->World->List Value->Prop) (X:World) (xc:List Value) (L pX N:Nat):Prop where
 bX:CellsAt X pX xc
 oX:OX L N X xc
 l1:N<=pX
 le:pX<X.heap.size
theorem L2.keep {n kmax feq fmark:Nat} {RX:Nat->World->List Value->Prop} {OX:Nat->Nat->World->List Value->Prop} {MX:Nat->Nat->World->List Value->Nat->Prop} (k:Knd n kmax feq fmark RX OX MX) {X X':World} {xc:List Value} {L pX N:Nat} (h:L2 OX X xc L pX N) (hb:Below X.heap.size X X'):L2 OX X' xc L pX N:=
 ⟨CellsAt.same h.bX (hb.block _ h.le),k.keepO _ _ _ _ _ h.oX hb.size (fun q _ h2=>hb.block q (by have:=h.l1;have:=h.le;omega)),h.l1,Nat.lt_of_lt_of_le h.le hb.size⟩
structure L3 (P:Nat->Nat->World->List Value->Prop) (X:World) (gc:List Value) (lo pG N:Nat):Prop where
 bG:CellsAt X pG gc
 oG:P lo N X gc
 l1:N<=pG
 le:pG<X.heap.size
theorem L3.stays {P:Nat->Nat->World->List Value->Prop} (k:∀(lo N:Nat) (X X':World) (cs:List Value),P lo N X cs->X.heap.size<=X'.heap.size->(∀q,lo<=q->q<N->X'.heap[q]?=X.heap[q]?)->P lo N X' cs) {X X':World} {gc:List Value} {lo pG N B:Nat} (h:L3 P X gc lo pG N) (hB:B<=lo) (hBN:B<=pG) (hz:X.heap.size<=X'.heap.size) (hs:∀q,B<=q->q<X.heap.size->X'.heap[q]?=X.heap[q]?):L3 P X' gc lo pG N:=
 ⟨CellsAt.same h.bG (hs _ hBN h.le),k _ _ _ _ _ h.oG hz (fun q h1 h2=>hs q (by omega) (by have:=h.l1;have:=h.le;omega)),h.l1,Nat.lt_of_lt_of_le h.le hz⟩
theorem L3.keep {P:Nat->Nat->World->List Value->Prop} (k:∀(lo N:Nat) (X X':World) (cs:List Value),P lo N X cs->X.heap.size<=X'.heap.size->(∀q,lo<=q->q<N->X'.heap[q]?=X.heap[q]?)->P lo N X' cs) {X X':World} {gc:List Value} {lo pG N:Nat} (h:L3 P X gc lo pG N) (hb:Below X.heap.size X X'):L3 P X' gc lo pG N:=
 h.stays (B:=0) k (Nat.zero_le _) (Nat.zero_le _) hb.size (fun q _ h2=>hb.block q h2)
theorem boxed {X:World} {cs z:List Value} {T:TypeId} (hl:cs.length=z.length):CellsAt ((X.alloc (.cells z.toArray T)).setCells X.heap.size 0 cs) X.heap.size cs/\Below X.heap.size X ((X.alloc (.cells z.toArray T)).setCells X.heap.size 0 cs)/\((X.alloc (.cells z.toArray T)).setCells X.heap.size 0 cs).heap.size=X.heap.size+1:=by
 have h1:=CellsAt.new X z T;have ht:=tn_cells X.heap.size cs 0 (X.alloc (.cells z.toArray T));refine⟨h1.setAll cs hl,((Below.refl _ _).alloc (Nat.le_refl _) _).trans (ht.below (by simp) (by simp)),?_⟩;rw[size_setC];simp
theorem wpList_load_midG {P:Program} {ops:Array Oper} {rest:List Oper} {op:Oper} {a:Act} {w:World} {Q:Exit->Act->World->Prop} (hw:Region.wanted op (yielded ops a.tmps)=true) (ty:TypeId) (x:Operand) (ho:op.op=.load ty x)
 (b o:Nat) (hx:a.eval x=.pointer (some ⟨b,o,none⟩)) (cs:List Value) (d:TypeDesc) (hc:w.rangeAt b o cs)
 (hu:P.underlying ty=some d) (hd:d.isRow=true) (hi:(P.info? ty).map (·.size)=some cs.length)
 (h:wpList P ops Q rest (a.put op.dst (.agg cs.toArray)) w):wpList P ops Q (op::rest) a w:=
 wpList_step fun _ hK=>by rw[if_pos hw];exact wp_load_mid ty x ho b o hx cs d hc hu hd hi (hK _ _ h)
end Go.Proofs.YtpekbmegopfhfaaGreatDoor
