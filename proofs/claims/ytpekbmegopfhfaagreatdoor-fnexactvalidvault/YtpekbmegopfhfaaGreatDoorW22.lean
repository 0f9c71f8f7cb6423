import Derived.Test.YtpekbmegopfhfaaGreatDoorW02
import Derived.Deep.RegionLaw
import Derived.Test.YtpekbmegopfhfaaGreatDoorRows
import Derived.Test.YtpekbmegopfhfaaGreatDoorW01
import Derived.OpenShut
import Derived.ShutString
import Derived.Lib.SmallJoins
import Derived.Lib.LaidTab
namespace Go.Proofs.YtpekbmegopfhfaaGreatDoor
open Go.ChangeShapes Go.WideShapes Go.ChangeAt Go.RowKit
def kSum (k:Nat):Bool:=k==2||k==4||k==7
def kName (k:Nat):Bool:=k==2||k==3
def kThing (k:Nat):Bool:=k==1
def kMost (k:Nat):Int:=if k=1∨k=4∨k=6 then 100000 else if k=5 then 1000000000 else 0
def sumOk (u:Bool) (s:ByteArray) (wd:Int):Bool:=if u then decide ((s.size:Int)=wd) else decide (s.size=0)
def nmOk (u:Bool) (s:ByteArray):Bool:=if u then nameOk s else decide (s.size=0)
def numOk (m n:Int):Bool:=if m=0 then decide (n=0) else decide (1<=n/\n<=m)
def thOk (u:Bool) (t:ByteArray) (ss:List ByteArray) (wd:Int):Bool:=if u then okThing t ss wd else decide (t.size=0/\ss.length=0)
theorem isE {s:ByteArray}:s.toList.isEmpty=decide (s.size=0):=by
 have:s.toList.length=s.size:=by rw [ByteArray.toList_eq];simp
 rw [←this]
 cases s.toList<;>simp
theorem sumFits_any (s:ByteArray) (a b c:Bool) (m wd:Int) (w:World):
 Calls Tryz.prog 190 #[.string s,.agg #[.bool a,.bool b,.bool c,.int .i64 m],.int .i64 wd] w fun e w'=>e=.returned (.bool (sumOk b s wd))/\Below w.heap.size w w':=by
 cases b with
 |true=>
  go_enter Tryz.func190,Tryz.ntmps190
  go_wp2
  go_ret
  exact ⟨ret_b rfl,(Below.refl _ _).alloc (Nat.le_refl _) _⟩
 |false=>
  have he:=isE (s:=s)
  have HE:Hid _:=he
  clear he
  go_enter Tryz.func190,Tryz.ntmps190
  go_wp2
  go_ret
  exact ⟨ret_b HE.out,(Below.refl _ _).alloc (Nat.le_refl _) _⟩
theorem nameFits_any (s:ByteArray) (a b c:Bool) (m:Int) (w:World) (hs:s.size<=maxLen):
 Calls Tryz.prog 191 #[.string s,.agg #[.bool a,.bool b,.bool c,.int .i64 m]] w fun e w'=>e=.returned (.bool (nmOk a s))/\Below w.heap.size w w':=by
 cases a with
 |true=>
  go_enter Tryz.func191,Tryz.ntmps191
  go_wp2_with fail
  refine (iName_any s _ hs).mono ?_
  rintro e w1 ⟨rfl,rfl⟩
  go_wp2
  go_ret
  exact ⟨ret_b rfl,(Below.refl _ _).alloc (Nat.le_refl _) _⟩
 |false=>
  have HE:Hid _:=isE (s:=s)
  go_enter Tryz.func191,Tryz.ntmps191
  go_wp2
  go_ret
  exact ⟨ret_b HE.out,(Below.refl _ _).alloc (Nat.le_refl _) _⟩
theorem numFits_any (n:Int) (a b c:Bool) (m:Int) (w:World):
 Calls Tryz.prog 192 #[.int .i64 n,.agg #[.bool a,.bool b,.bool c,.int .i64 m]] w fun e w'=>e=.returned (.bool (numOk m n))/\Below w.heap.size w w':=by
 by_cases hm:m=0
 ·subst hm
  go_enter Tryz.func192,Tryz.ntmps192
  go_wp2
  go_ret
  exact ⟨ret_b (by unfold numOk;rw [if_pos rfl];rfl),(Below.refl _ _).alloc (Nat.le_refl _) _⟩
 ·have hm':(m==0)=false:=by simpa using hm
  have HM:Hid _:=hm
  clear hm
  by_cases h1:1<=n
  ·go_enter Tryz.func192,Tryz.ntmps192
   go_wp2
   go_ret
   exact ⟨ret_b (by unfold numOk;rw [if_neg HM.out];simp [h1]),(Below.refl _ _).alloc (Nat.le_refl _) _⟩
  ·have h1':decide (1<=n)=false:=by simpa using h1
   go_enter Tryz.func192,Tryz.ntmps192
   go_wp2
   go_ret
   exact ⟨ret_b (by unfold numOk;rw [if_neg HM.out,decide_eq_false (by omega)]),(Below.refl _ _).alloc (Nat.le_refl _) _⟩
set_option maxHeartbeats 400000 in
theorem thingFits_any (t:ByteArray) (ad:Option Addr) (cap:Nat) (ss:List ByteArray) (a b c:Bool) (m wd:Int) (w:World) (hrow:SRow w w.heap.size ad ss) (hl:ss.length<=1048576) (ht:t.size<=maxLen):
 Calls Tryz.prog 193 #[.agg #[.string t,.slice ad ss.length cap],.agg #[.bool a,.bool b,.bool c,.int .i64 m],.int .i64 wd] w fun e w'=>e=.returned (.bool (thOk c t ss wd))/\Below w.heap.size w w':=by
 have hb0:Below w.heap.size w ((w.alloc (.cells #[.string t,.slice ad ss.length cap] 66)).alloc (.cells #[.bool a,.bool b,.bool c,.int .i64 m] 211)):=((Below.refl _ _).alloc (Nat.le_refl _) _).alloc (by simp) _
 cases c with
 |true=>
  go_enter Tryz.func193,Tryz.ntmps193
  go_wp2_with fail
  refine (ivalidThing_any t ad cap ss wd _ (hrow.below' hb0) hl ht).mono ?_
  rintro e w1 ⟨rfl,rfl⟩
  go_wp2
  go_ret
  exact ⟨ret_b rfl,hb0.alloc (by simp;omega) _⟩
 |false=>
  by_cases h1:t.size=0
  ·have he:t.toList.isEmpty=true:=by rw [isE];simpa using h1
   have HE:Hid _:=h1
   clear h1
   go_enter Tryz.func193,Tryz.ntmps193
   go_wp2
   go_ret
   refine ⟨ret_b ?_,hb0⟩
   unfold thOk
   rw [if_neg (by decide)]
   have h0:=HE.out
   by_cases hs0:ss.length=0
   ·rw [decide_eq_true ⟨h0,hs0⟩]
    simp [hs0]
   ·rw [decide_eq_false (fun h=>hs0 h.2)]
    simp
    intro h
    exact hs0 (by rw [h];rfl)
  ·have he:t.toList.isEmpty=false:=by rw [isE];simpa using h1
   have HE:Hid _:=h1
   clear h1
   go_enter Tryz.func193,Tryz.ntmps193
   go_wp2
   go_ret
   refine ⟨ret_b ?_,hb0⟩
   unfold thOk
   rw [if_neg (by decide),decide_eq_false (fun h=>HE.out h.1)]
def Tab (w:World):Prop:=∀k,1<=k->k<=7->w.cell? ⟨5,k *4,none⟩=some (.bool (kName k))/\w.cell? ⟨5,k *4+1,none⟩=some (.bool (kSum k))/\w.cell? ⟨5,k *4+2,none⟩=some (.bool (kThing k))/\w.cell? ⟨5,k *4+3,none⟩=some (.int .i64 (kMost k))
theorem Tab.below {w w':World} (h:Tab w) (hb:Below w.heap.size w w'):Tab w':=by
 intro k h1 h2
 obtain ⟨a,b,c,d⟩:=h k h1 h2
 have hlt:5<w.heap.size:=World.block_lt_of_cell? w _ a
 exact ⟨(hb.cell (p:=⟨5,k *4,none⟩) hlt).trans a,(hb.cell (p:=⟨5,k *4+1,none⟩) hlt).trans b,(hb.cell (p:=⟨5,k *4+2,none⟩) hlt).trans c,(hb.cell (p:=⟨5,k *4+3,none⟩) hlt).trans d⟩
set_option maxHeartbeats 400000 in
theorem partsOf_yes (k:Nat) (w:World) (hT:Tab w) (h1:1<=k) (h2:k<=7):
 Calls Tryz.prog 160 #[.int .i64 k] w fun e w'=>e=.returned (.tuple #[.agg #[.bool (kName k),.bool (kSum k),.bool (kThing k),.int .i64 (kMost k)],.bool true])/\Below w.heap.size w w':=by
 obtain ⟨c0,c1,c2,c3⟩:=hT k h1 h2
 have hlt:5<w.heap.size:=World.block_lt_of_cell? w _ c0
 have e1:decide ((k:Int)<1)=false:=by simp;omega
 have e2:decide ((7:Int)<k)=false:=by simp;omega
 have e3:(k:Int)<8:=by omega
 go_enter Tryz.func160,Tryz.ntmps160
 go_wp2
 exact bodyPost_ret (v:=.tuple #[.agg #[.bool (kName k),.bool (kSum k),.bool (kThing k),.int .i64 (kMost k)],.bool true]) (by simp [results,Tryz.results160,go_sem]) rfl ⟨rfl,(Below.refl _ _).alloc (Nat.le_refl _) _⟩
theorem partsOf_no (k:Int) (w:World) (h:¬(1<=k/\k<=7)):
 Calls Tryz.prog 160 #[.int .i64 k] w fun e w'=>e=.returned (.tuple #[.agg #[.bool false,.bool false,.bool false,.int .i64 0],.bool false])/\Below w.heap.size w w':=by
 by_cases h1:k<1
 ·have e1:decide (k<1)=true:=by simpa using h1
  go_enter Tryz.func160,Tryz.ntmps160
  go_wp2
  exact bodyPost_ret (v:=.tuple #[.agg #[.bool false,.bool false,.bool false,.int .i64 0],.bool false]) (by simp [results,Tryz.results160,go_sem]) rfl ⟨rfl,(Below.refl _ _).alloc (Nat.le_refl _) _⟩
 ·have e1:decide (k<1)=false:=by simpa using h1
  have e2:decide (7<k)=true:=by simp;omega
  go_enter Tryz.func160,Tryz.ntmps160
  go_wp2
  exact bodyPost_ret (v:=.tuple #[.agg #[.bool false,.bool false,.bool false,.int .i64 0],.bool false]) (by simp [results,Tryz.results160,go_sem]) rfl ⟨rfl,(Below.refl _ _).alloc (Nat.le_refl _) _⟩
def entOk (k:Nat) (sum name:ByteArray) (n:Int) (t:ByteArray) (ss:List ByteArray) (wd:Int):Bool:=
 decide (1<=wd/\wd<=8)&&(sumOk (kSum k) sum wd&&(nmOk (kName k) name&&(numOk (kMost k) n&&thOk (kThing k) t ss wd)))
end Go.Proofs.YtpekbmegopfhfaaGreatDoor
namespace Go.Proofs.YtpekbmegopfhfaaGreatDoor
open Go.ChangeShapes Go.WideShapes Go.ChangeAt Go.RowKit
abbrev entV (k:Int) (sum name:ByteArray) (n:Int) (t:ByteArray) (ad:Option Addr) (len cap:Nat):Array Value:= #[.int .i64 k,.string sum,.string name,.int .i64 n,.string t,.slice ad len cap]
theorem ivalid_kind (k:Int) (sum name:ByteArray) (n:Int) (t:ByteArray) (ad:Option Addr) (cap:Nat) (ss:List ByteArray) (wd:Int) (w:World) (hk:¬(1<=k/\k<=7)):
 Calls Tryz.prog 163 #[.agg (entV k sum name n t ad ss.length cap),.int .i64 wd] w fun e w'=>e=.returned (.bool false)/\Below w.heap.size w w':=by
 go_enter Tryz.func163,Tryz.ntmps163
 go_wp2_with fail
 refine (partsOf_no k _ hk).mono ?_
 rintro e w1 ⟨rfl,hb1⟩
 go_wp2
 go_ret
 exact ⟨rfl,(((Below.refl _ _).alloc (Nat.le_refl _) _).trans (hb1.mono (by simp))).alloc (by have:=hb1.size;simp at this;omega) _⟩
structure EB (W:World) (B P:Nat) (sum name:ByteArray) (n:Int) (t:ByteArray) (v:Value) (a b c:Bool) (m:Int):Prop where
 x1:W.cell? ⟨B,1,none⟩=some (.string sum)
 x2:W.cell? ⟨B,2,none⟩=some (.string name)
 x3:W.cell? ⟨B,3,none⟩=some (.int .i64 n)
 x4:W.cell? ⟨B,4,none⟩=some (.string t)
 x5:W.cell? ⟨B,5,none⟩=some v
 y0:W.cell? ⟨P,0,none⟩=some (.bool a)
 y1:W.cell? ⟨P,1,none⟩=some (.bool b)
 y2:W.cell? ⟨P,2,none⟩=some (.bool c)
 y3:W.cell? ⟨P,3,none⟩=some (.int .i64 m)
theorem EB.below {W W':World} {B P:Nat} {sum name:ByteArray} {n:Int} {t:ByteArray} {v:Value} {a b c:Bool} {m:Int} (h:EB W B P sum name n t v a b c m) (hb:Below W.heap.size W W'):EB W' B P sum name n t v a b c m:=by
 have k1:B<W.heap.size:=World.block_lt_of_cell? W _ h.x1
 have k2:P<W.heap.size:=World.block_lt_of_cell? W _ h.y0
 exact ⟨(hb.cell (p:=⟨B,1,none⟩) k1).trans h.x1,(hb.cell (p:=⟨B,2,none⟩) k1).trans h.x2,(hb.cell (p:=⟨B,3,none⟩) k1).trans h.x3,(hb.cell (p:=⟨B,4,none⟩) k1).trans h.x4,(hb.cell (p:=⟨B,5,none⟩) k1).trans h.x5,
  (hb.cell (p:=⟨P,0,none⟩) k2).trans h.y0,(hb.cell (p:=⟨P,1,none⟩) k2).trans h.y1,(hb.cell (p:=⟨P,2,none⟩) k2).trans h.y2,(hb.cell (p:=⟨P,3,none⟩) k2).trans h.y3⟩
set_option maxHeartbeats 1000000 in
theorem ivalid_any (k:Nat) (sum name:ByteArray) (n:Int) (t:ByteArray) (ad:Option Addr) (cap:Nat) (ss:List ByteArray) (wd:Int) (w:World) (hT:Tab w) (h1:1<=k) (h7:k<=7)
 (hrow:SRow w w.heap.size ad ss) (hl:ss.length<=1048576) (ht:t.size<=maxLen) (hn:name.size<=maxLen):
 Calls Tryz.prog 163 #[.agg (entV k sum name n t ad ss.length cap),.int .i64 wd] w fun e w'=>e=.returned (.bool (entOk k sum name n t ss wd))/\Below w.heap.size w w':=by
 have hb0:Below w.heap.size w (w.alloc (.cells (entV k sum name n t ad ss.length cap) 77)):=(Below.refl _ _).alloc (Nat.le_refl _) _
 go_enter Tryz.func163,Tryz.ntmps163
 go_wp2_with fail
 refine (partsOf_yes k _ (hT.below hb0) h1 h7).mono ?_
 rintro e w1 ⟨rfl,hb1⟩
 have hz1:=hb1.size
 simp at hz1
 have hlt1:w.heap.size<w1.heap.size:=by omega
 have hB1:=hb0.trans (hb1.mono (by simp))
 obtain ⟨hc1,hf1⟩:=bcell hb1
 have x1:w1.cell? ⟨w.heap.size,1,none⟩=some (.string sum):=by rw [hb1.cell (p:=⟨w.heap.size,1,none⟩) (by simp)];simp
 have x2:w1.cell? ⟨w.heap.size,2,none⟩=some (.string name):=by rw [hb1.cell (p:=⟨w.heap.size,2,none⟩) (by simp)];simp
 have x3:w1.cell? ⟨w.heap.size,3,none⟩=some (.int .i64 n):=by rw [hb1.cell (p:=⟨w.heap.size,3,none⟩) (by simp)];simp
 have x4:w1.cell? ⟨w.heap.size,4,none⟩=some (.string t):=by rw [hb1.cell (p:=⟨w.heap.size,4,none⟩) (by simp)];simp
 have x5:w1.cell? ⟨w.heap.size,5,none⟩=some (.slice ad ss.length cap):=by rw [hb1.cell (p:=⟨w.heap.size,5,none⟩) (by simp)];simp
 clear hc1 hf1
 obtain ⟨W2,hW2⟩:∃W,W=w1.alloc (.cells #[.bool (kName k),.bool (kSum k),.bool (kThing k),.int .i64 (kMost k)] 211):=⟨_,rfl⟩
 have h12:Below w1.heap.size w1 W2:=by rw [hW2];exact (Below.refl _ _).alloc (Nat.le_refl _) _
 have E2:EB W2 w.heap.size w1.heap.size sum name n t (.slice ad ss.length cap) (kName k) (kSum k) (kThing k) (kMost k):=by
  refine ⟨(h12.cell (p:=⟨w.heap.size,1,none⟩) hlt1).trans x1,(h12.cell (p:=⟨w.heap.size,2,none⟩) hlt1).trans x2,(h12.cell (p:=⟨w.heap.size,3,none⟩) hlt1).trans x3,(h12.cell (p:=⟨w.heap.size,4,none⟩) hlt1).trans x4,(h12.cell (p:=⟨w.heap.size,5,none⟩) hlt1).trans x5,?_,?_,?_,?_⟩<;>(rw [hW2];simp)
 have hB2:=hB1.trans (h12.mono hB1.size)
 have HW2:Hid _:=hW2
 clear hW2
 by_cases hw:1<=wd/\wd<=8
 ·obtain ⟨hw1,hw2⟩:=hw
  have hwd:decide (1<=wd/\wd<=8)=true:=by simp [hw1,hw2]
  have HWD:Hid _:=hwd
  clear hwd
  go_wp2_with (go_at_call 44;go_in)
  rw [←HW2.out]
  refine (sumFits_any sum (kName k) (kSum k) (kThing k) (kMost k) wd W2).mono ?_
  rintro e w3 ⟨rfl,hb3⟩
  have E3:=E2.below hb3
  have hB3:=hB2.trans (hb3.mono hB2.size)
  clear E2 hb3
  cases hs:sumOk (kSum k) sum wd with
  |false=>
   go_wp2
   go_ret
   exact ⟨ret_b (by unfold entOk;rw [hs];simp),hB3⟩
  |true=>
   have HS:Hid _:=hs
   clear hs
   obtain ⟨x1,x2,x3,x4,x5,y0,y1,y2,y3⟩:=E3
   go_wp2_with fail
   refine (nameFits_any name (kName k) (kSum k) (kThing k) (kMost k) _ hn).mono ?_
   rintro e w4 ⟨rfl,hb4⟩
   have E4:=(EB.mk x1 x2 x3 x4 x5 y0 y1 y2 y3).below hb4
   have hB4:=hB3.trans (hb4.mono hB3.size)
   clear x1 x2 x3 x4 x5 y0 y1 y2 y3 hb4
   cases hnm:nmOk (kName k) name with
   |false=>
    go_wp2
    go_ret
    exact ⟨ret_b (by unfold entOk;rw [hnm];simp),hB4⟩
   |true=>
    have HN:Hid _:=hnm
    clear hnm
    obtain ⟨x1,x2,x3,x4,x5,y0,y1,y2,y3⟩:=E4
    go_wp2_with fail
    refine (numFits_any n (kName k) (kSum k) (kThing k) (kMost k) _).mono ?_
    rintro e w5 ⟨rfl,hb5⟩
    have E5:=(EB.mk x1 x2 x3 x4 x5 y0 y1 y2 y3).below hb5
    have hB5:=hB4.trans (hb5.mono hB4.size)
    clear x1 x2 x3 x4 x5 y0 y1 y2 y3 hb5
    cases hnu:numOk (kMost k) n with
    |false=>
     go_wp2
     go_ret
     exact ⟨ret_b (by unfold entOk;rw [hnu];simp),hB5⟩
    |true=>
     have HU:Hid _:=hnu
     clear hnu
     obtain ⟨x1,x2,x3,x4,x5,y0,y1,y2,y3⟩:=E5
     go_wp2_with fail
     refine (thingFits_any t ad cap ss (kName k) (kSum k) (kThing k) (kMost k) wd _ (hrow.below' hB5) hl ht).mono ?_
     rintro e w6 ⟨rfl,hb6⟩
     go_wp2
     go_ret
     exact ⟨ret_b (by unfold entOk;rw [HWD.out,HS.out,HN.out,HU.out];rfl),hB5.trans (hb6.mono hB5.size)⟩
 ·have hwd:decide (1<=wd/\wd<=8)=false:=by simpa using hw
  have HWD:Hid _:=hwd
  clear hwd
  by_cases hw1:1<=wd
  ·have hw2:decide (wd<=8)=false:=by simp;omega
   go_wp2
   go_ret
   refine ⟨ret_b (by unfold entOk;rw [HWD.out];rfl),?_⟩
   rw [←HW2.out]
   exact hB2
  ·go_wp2
   go_ret
   refine ⟨ret_b (by unfold entOk;rw [HWD.out];rfl),?_⟩
   rw [←HW2.out]
   exact hB2
end Go.Proofs.YtpekbmegopfhfaaGreatDoor
namespace Go.Proofs.YtpekbmegopfhfaaGreatDoor
open Go.ChangeShapes Go.WideShapes Go.ChangeAt Go.RowKit
def kNum (k:Nat):Int:=if k=1∨k=4∨k=6 then 1 else if k=5 then 2 else 0
set_option maxHeartbeats 1000000 in
theorem uses_any (k:Nat) (w:World) (h1:1<=k) (h7:k<=7):
 Calls Tryz.prog 128 #[.int .i64 k] w fun e w'=>e=.returned (.tuple #[.bool (kSum k),.bool (kName k),.int .i64 (kNum k),.bool (kThing k)])/\w'=w:=by
 match k,h1,h7 with
 |1,_,_|2,_,_|3,_,_|4,_,_|5,_,_|6,_,_|7,_,_=>
  go_enter Tryz.func128,Tryz.ntmps128
  go_wp2
  refine bodyPost_ret ?_ rfl ⟨rfl,rfl⟩
  simp [results,Tryz.results128,go_sem,kSum,kName,kNum,kThing]
theorem sNum_any (k:Nat) (n:Int) (w:World):
 Calls Tryz.prog 129 #[.int .i64 n,.int .i64 (kNum k)] w fun e w'=>e=.returned (.bool (numOk (kMost k) n))/\w'=w:=by
 have hm:(kNum k=1/\kMost k=100000)∨(kNum k=2/\kMost k=1000000000)∨(kNum k=0/\kMost k=0):=by
  unfold kNum kMost
  split
  ·exact .inl ⟨rfl,rfl⟩
  ·split
   ·exact .inr (.inl ⟨rfl,rfl⟩)
   ·exact .inr (.inr ⟨rfl,rfl⟩)
 rcases hm with ⟨h1,h2⟩|⟨h1,h2⟩|⟨h1,h2⟩<;>rw [h1,h2]
 ·by_cases hn:1<=n
  ·go_enter Tryz.func129,Tryz.ntmps129
   go_wp2
   go_ret
   exact ⟨ret_b (by unfold numOk;rw [if_neg (by decide)];simp [hn]),rfl⟩
  ·have hn':decide (1<=n)=false:=by simpa using hn
   go_enter Tryz.func129,Tryz.ntmps129
   go_wp2
   go_ret
   exact ⟨ret_b (by unfold numOk;rw [if_neg (by decide),decide_eq_false (by omega)]),rfl⟩
 ·by_cases hn:1<=n
  ·go_enter Tryz.func129,Tryz.ntmps129
   go_wp2
   go_ret
   exact ⟨ret_b (by unfold numOk;rw [if_neg (by decide)];simp [hn]),rfl⟩
  ·have hn':decide (1<=n)=false:=by simpa using hn
   go_enter Tryz.func129,Tryz.ntmps129
   go_wp2
   go_ret
   exact ⟨ret_b (by unfold numOk;rw [if_neg (by decide),decide_eq_false (by omega)]),rfl⟩
 ·go_enter Tryz.func129,Tryz.ntmps129
  go_wp2
  go_ret
  exact ⟨ret_b (by unfold numOk;rw [if_pos rfl];rfl),rfl⟩
theorem sOk_kind (k:Int) (sum name:ByteArray) (n:Int) (t:ByteArray) (ad:Option Addr) (cap:Nat) (ss:List ByteArray) (wd:Int) (w:World) (hk:¬(1<=k/\k<=7)):
 Calls Tryz.prog 83 #[.agg (entV k sum name n t ad ss.length cap),.int .i64 wd] w fun e w'=>e=.returned (.bool false)/\Below w.heap.size w w':=by
 by_cases hw:1<=wd/\wd<=8
 ·obtain ⟨hw1,hw2⟩:=hw
  by_cases h1:k<1
  ·have e1:decide (k<1)=true:=by simpa using h1
   go_enter Tryz.func83,Tryz.ntmps83
   go_wp2
   go_ret
   exact ⟨rfl,(Below.refl _ _).alloc (Nat.le_refl _) _⟩
  ·have e1:decide (k<1)=false:=by simpa using h1
   have e2:decide (7<k)=true:=by simp;omega
   go_enter Tryz.func83,Tryz.ntmps83
   go_wp2
   go_ret
   exact ⟨rfl,(Below.refl _ _).alloc (Nat.le_refl _) _⟩
 ·by_cases hw1:1<=wd
  ·have hw2:decide (wd<=8)=false:=by simp;omega
   go_enter Tryz.func83,Tryz.ntmps83
   go_wp2
   go_ret
   exact ⟨rfl,(Below.refl _ _).alloc (Nat.le_refl _) _⟩
  ·go_enter Tryz.func83,Tryz.ntmps83
   go_wp2
   go_ret
   exact ⟨rfl,(Below.refl _ _).alloc (Nat.le_refl _) _⟩
theorem sOk_width (k:Nat) (sum name:ByteArray) (n:Int) (t:ByteArray) (ad:Option Addr) (cap:Nat) (ss:List ByteArray) (wd:Int) (w:World) (hw:¬(1<=wd/\wd<=8)):
 Calls Tryz.prog 83 #[.agg (entV k sum name n t ad ss.length cap),.int .i64 wd] w fun e w'=>e=.returned (.bool (entOk k sum name n t ss wd))/\Below w.heap.size w w':=by
 have HWD:Hid (decide (1<=wd/\wd<=8)=false):=by show _=_;simpa using hw
 by_cases hw1:1<=wd
 ·have hw2:decide (wd<=8)=false:=by simp;omega
  go_enter Tryz.func83,Tryz.ntmps83
  go_wp2
  go_ret
  exact ⟨ret_b (by unfold entOk;rw [HWD.out];rfl),(Below.refl _ _).alloc (Nat.le_refl _) _⟩
 ·go_enter Tryz.func83,Tryz.ntmps83
  go_wp2
  go_ret
  exact ⟨ret_b (by unfold entOk;rw [HWD.out];rfl),(Below.refl _ _).alloc (Nat.le_refl _) _⟩
theorem thOk_len {t:ByteArray} {ss:List ByteArray} {wd:Int} (h0:t.size=0):((ss.length:Int)==0)=(true&&(true&&(true&&thOk false t ss wd))):=by
 unfold thOk
 rw [if_neg (by decide)]
 by_cases hs0:ss.length=0
 ·rw [decide_eq_true ⟨h0,hs0⟩]
  simp [hs0]
 ·rw [decide_eq_false (fun h=>hs0 h.2)]
  simp
  intro h
  exact hs0 (by rw [h];rfl)
theorem thOk_txt {t:ByteArray} {ss:List ByteArray} {wd:Int} (h0:¬t.size=0):false=(true&&(true&&(true&&thOk false t ss wd))):=by
 unfold thOk
 rw [if_neg (by decide),decide_eq_false (fun h=>h0 h.1)]
 rfl
set_option maxHeartbeats 4000000 in
theorem sOk_any (k:Nat) (sum name:ByteArray) (n:Int) (t:ByteArray) (ad:Option Addr) (cap:Nat) (ss:List ByteArray) (wd:Int) (w:World) (h1:1<=k) (h7:k<=7) (hw1:1<=wd) (hw2:wd<=8)
 (hrow:SRow w w.heap.size ad ss) (hl:ss.length<=1048576) (ht:t.size<=maxLen) (hn:name.size<=maxLen):
 Calls Tryz.prog 83 #[.agg (entV k sum name n t ad ss.length cap),.int .i64 wd] w fun e w'=>e=.returned (.bool (entOk k sum name n t ss wd))/\Below w.heap.size w w':=by
 have hb0:Below w.heap.size w (w.alloc (.cells (entV k sum name n t ad ss.length cap) 77)):=(Below.refl _ _).alloc (Nat.le_refl _) _
 have HWD:Hid (decide (1<=wd/\wd<=8)=true):=by show _=_;simp [hw1,hw2]
 have e1:decide ((k:Int)<1)=false:=by simp;omega
 have e2:decide ((7:Int)<k)=false:=by simp;omega
 have HU:=uses_any k
 have HNu:=sNum_any k n
 unfold entOk
 rw [HWD.out,Bool.true_and]
 generalize kNum k=kn at *
 generalize numOk (kMost k) n=nu at *
 generalize hks:kSum k=us at *
 generalize hkn:kName k=un at *
 generalize hkt:kThing k=ut at *
 have HUs:Hid _:=HU
 have HNs:Hid _:=HNu
 clear HU HNu hks hkn hkt
 go_enter Tryz.func83,Tryz.ntmps83
 go_wp2_with (go_at_call 40;go_in)
 refine (HUs.out _ h1 h7).mono ?_
 rintro e w1 ⟨rfl,rfl⟩
 cases us with
 |true=>
  by_cases hs:(sum.size:Int)=wd
  ·have hs':((sum.size:Int) !=wd)=false:=by simpa using hs
   have HS:Hid (sumOk true sum wd=true):=by show _=_;simpa [sumOk] using hs
   clear hs
   go_wp2_with fail
   refine (HNs.out _).mono ?_
   rintro e w2 ⟨rfl,rfl⟩
   cases nu with
   |false=>
    go_wp2
    go_ret
    exact ⟨ret_b (by simp),hb0⟩
   |true=>
    cases un with
    |true=>
     go_wp2_with fail
     refine (sName_any name _ hn).mono ?_
     rintro e w3 ⟨rfl,rfl⟩
     cases hno:nameOk name with
     |false=>
      go_wp2
      go_ret
      exact ⟨ret_b (by simp [nmOk,hno]),hb0⟩
     |true=>
      have HM:Hid (nmOk true name=true):=hno
      clear hno
      cases ut with
      |true=>
       go_wp2_with fail
       refine (sThingOk_any t ad cap ss wd _ (hrow.below' hb0) hl ht).mono ?_
       rintro e w4 ⟨rfl,hb4⟩
       go_wp2
       go_ret
       exact ⟨ret_b (by rw [HS.out,HM.out];rfl),hb0.trans (hb4.mono (by simp))⟩
      |false=>
       by_cases h0:t.size=0
       ·have he:t.toList.isEmpty=true:=by rw [isE];simpa using h0
        have H0:Hid _:=h0
        clear h0
        go_wp2
        go_ret
        exact ⟨ret_b (by rw [HS.out,HM.out];exact thOk_len H0.out),hb0⟩
       ·have he:t.toList.isEmpty=false:=by rw [isE];simpa using h0
        have H0:Hid _:=h0
        clear h0
        go_wp2
        go_ret
        exact ⟨ret_b (by rw [HS.out,HM.out];exact thOk_txt H0.out),hb0⟩
    |false=>
     by_cases hno:name.size=0
     ·have hno':name.toList.isEmpty=true:=by rw [isE];simpa using hno
      have HM:Hid (nmOk false name=true):=by show _=_;simpa [nmOk] using hno
      clear hno
      cases ut with
      |true=>
       go_wp2_with fail
       refine (sThingOk_any t ad cap ss wd _ (hrow.below' hb0) hl ht).mono ?_
       rintro e w4 ⟨rfl,hb4⟩
       go_wp2
       go_ret
       exact ⟨ret_b (by rw [HS.out,HM.out];rfl),hb0.trans (hb4.mono (by simp))⟩
      |false=>
       by_cases h0:t.size=0
       ·have he:t.toList.isEmpty=true:=by rw [isE];simpa using h0
        have H0:Hid _:=h0
        clear h0
        go_wp2
        go_ret
        exact ⟨ret_b (by rw [HS.out,HM.out];exact thOk_len H0.out),hb0⟩
       ·have he:t.toList.isEmpty=false:=by rw [isE];simpa using h0
        have H0:Hid _:=h0
        clear h0
        go_wp2
        go_ret
        exact ⟨ret_b (by rw [HS.out,HM.out];exact thOk_txt H0.out),hb0⟩
     ·have hno':name.toList.isEmpty=false:=by rw [isE];simpa using hno
      have HM:Hid (nmOk false name=false):=by show _=_;simpa [nmOk] using hno
      clear hno
      go_wp2
      go_ret
      exact ⟨ret_b (by rw [HM.out];simp),hb0⟩
  ·have hs':((sum.size:Int) !=wd)=true:=by simpa using hs
   have HS:Hid (sumOk true sum wd=false):=by show _=_;simpa [sumOk] using hs
   clear hs
   go_wp2
   go_ret
   exact ⟨ret_b (by rw [HS.out];rfl),hb0⟩
 |false=>
  by_cases hs:sum.size=0
  ·have hs':sum.toList.isEmpty=true:=by rw [isE];simpa using hs
   have HS:Hid (sumOk false sum wd=true):=by show _=_;simpa [sumOk] using hs
   clear hs
   go_wp2_with fail
   refine (HNs.out _).mono ?_
   rintro e w2 ⟨rfl,rfl⟩
   cases nu with
   |false=>
    go_wp2
    go_ret
    exact ⟨ret_b (by simp),hb0⟩
   |true=>
    cases un with
    |true=>
     go_wp2_with fail
     refine (sName_any name _ hn).mono ?_
     rintro e w3 ⟨rfl,rfl⟩
     cases hno:nameOk name with
     |false=>
      go_wp2
      go_ret
      exact ⟨ret_b (by simp [nmOk,hno]),hb0⟩
     |true=>
      have HM:Hid (nmOk true name=true):=hno
      clear hno
      cases ut with
      |true=>
       go_wp2_with fail
       refine (sThingOk_any t ad cap ss wd _ (hrow.below' hb0) hl ht).mono ?_
       rintro e w4 ⟨rfl,hb4⟩
       go_wp2
       go_ret
       exact ⟨ret_b (by rw [HS.out,HM.out];rfl),hb0.trans (hb4.mono (by simp))⟩
      |false=>
       by_cases h0:t.size=0
       ·have he:t.toList.isEmpty=true:=by rw [isE];simpa using h0
        have H0:Hid _:=h0
        clear h0
        go_wp2
        go_ret
        exact ⟨ret_b (by rw [HS.out,HM.out];exact thOk_len H0.out),hb0⟩
       ·have he:t.toList.isEmpty=false:=by rw [isE];simpa using h0
        have H0:Hid _:=h0
        clear h0
        go_wp2
        go_ret
        exact ⟨ret_b (by rw [HS.out,HM.out];exact thOk_txt H0.out),hb0⟩
    |false=>
     by_cases hno:name.size=0
     ·have hno':name.toList.isEmpty=true:=by rw [isE];simpa using hno
      have HM:Hid (nmOk false name=true):=by show _=_;simpa [nmOk] using hno
      clear hno
      cases ut with
      |true=>
       go_wp2_with fail
       refine (sThingOk_any t ad cap ss wd _ (hrow.below' hb0) hl ht).mono ?_
       rintro e w4 ⟨rfl,hb4⟩
       go_wp2
       go_ret
       exact ⟨ret_b (by rw [HS.out,HM.out];rfl),hb0.trans (hb4.mono (by simp))⟩
      |false=>
       by_cases h0:t.size=0
       ·have he:t.toList.isEmpty=true:=by rw [isE];simpa using h0
        have H0:Hid _:=h0
        clear h0
        go_wp2
        go_ret
        exact ⟨ret_b (by rw [HS.out,HM.out];exact thOk_len H0.out),hb0⟩
       ·have he:t.toList.isEmpty=false:=by rw [isE];simpa using h0
        have H0:Hid _:=h0
        clear h0
        go_wp2
        go_ret
        exact ⟨ret_b (by rw [HS.out,HM.out];exact thOk_txt H0.out),hb0⟩
     ·have hno':name.toList.isEmpty=false:=by rw [isE];simpa using hno
      have HM:Hid (nmOk false name=false):=by show _=_;simpa [nmOk] using hno
      clear hno
      go_wp2
      go_ret
      exact ⟨ret_b (by rw [HM.out];simp),hb0⟩
  ·have hs':sum.toList.isEmpty=false:=by rw [isE];simpa using hs
   have HS:Hid (sumOk false sum wd=false):=by show _=_;simpa [sumOk] using hs
   clear hs
   go_wp2
   go_ret
   exact ⟨ret_b (by rw [HS.out];rfl),hb0⟩
end Go.Proofs.YtpekbmegopfhfaaGreatDoor
namespace Go.Proofs.YtpekbmegopfhfaaGreatDoor
open Go.ChangeShapes Go.WideShapes Go.ChangeAt Go.RowKit
def u8 (x:Int):UInt8:=UInt8.ofNat x.toNat
theorem u8_cell (x:Int) (h0:0<=x) (h:x<256):Value.int .u8 x=.int .u8 ((u8 x).toNat:Int):=by
 have:(u8 x).toNat=x.toNat:=by simp [u8];omega
 rw [this]
 congr 1
 omega
def hdr (k n m:Int):List UInt8:=[u8 k,u8 (n/16777216),u8 (n/65536%256),u8 (n/256%256),u8 (n%256),u8 m]
def entB (k:Nat) (sum name:ByteArray) (n:Int) (t:ByteArray) (ss:List ByteArray):List UInt8:=
 hdr k n name.size++name.data.toList++sum.data.toList++(if k=1 then formB t ss else [])
theorem step_append_str {P:Program} (w:World) {ops:Array Oper} {o:Oper} {a:Act} {K:Act->World->Prop} {Q:Exit->Act->World->Prop} {E:Prop} (hgd:o.guard=none) (sl x:Operand) (t u:TypeId)
 (ho:o.op=.call {callee:=.builtin .append,args:= #[sl,x],argTypes:= #[t,u]})
 (base:Nat) (e:TypeId) (i:TypeInfo) (ht:P.underlying t=some (.slice e)) (hu:P.underlying u=some .string) (hi:P.info? e=some i) (hz:i.zero=some (.int .u8 0))
 (hsize:i.size=1) (hby:i.bytes=1)
 (v:Value) (n:Nat) (xs:List Value) (hs:a.eval sl=v) (hown:w.ownsRow base e 1 v n xs) (s:ByteArray) (hx:a.eval x=.string s)
 (h63:n+s.size<=maxLen) (hbytes:n+s.size<=140737488355328) (hbase:base<=w.heap.size)
 (h:∀v' w',w'.ownsRow base e 1 v' (n+s.size) (xs++Lib.strCells s)->w.grownBy w' v.ownBlock->K (a.put o.dst v') w'):
 if Region.wanted o (yielded ops a.tmps)=true then Oper.wp P o a w K Q else E:=by
 have hw:Region.wanted o (yielded ops a.tmps)=true:=by simp [Region.wanted,hgd]
 rw [if_pos hw]
 obtain ⟨v',w',hr,h2,h3,_⟩:=Lib.run_append_own_string (P:=P) w base t u o.type e i ht hu hi hz hsize hby v n xs hown s h63 hbytes hbase
 unfold Oper.wp execOp
 simp only [ho,resolve,invoke,builtin,Sem.run_bind,Sem.run_pure,Result.andThen_ok,List.map_toArray,List.map_cons,List.map_nil,hs,hx,hr]
 exact h v' w' h2 h3
structure EntOk (k:Nat) (sum name:ByteArray) (n:Int) (t:ByteArray) (ss:List ByteArray) (wd:Int):Prop where
 w1:1<=wd
 w2:wd<=8
 sum:sum.size<=8
 name:name.size<=40
 n0:0<=n
 n1:n<=1000000000
 thing:k=1->okThing t ss wd=true
theorem entOk_parts {k:Nat} {sum name:ByteArray} {n:Int} {t:ByteArray} {ss:List ByteArray} {wd:Int} (h:entOk k sum name n t ss wd=true):EntOk k sum name n t ss wd:=by
 unfold entOk at h
 simp only [Bool.and_eq_true,decide_eq_true_eq] at h
 obtain ⟨⟨h1,h2⟩,hs,hn,hu,ht⟩:=h
 refine ⟨h1,h2,?_,?_,?_,?_,?_⟩
 ·unfold sumOk at hs
  split at hs<;>simp at hs
  ·omega
  ·simp [hs]
 ·unfold nmOk at hn
  split at hn
  ·unfold nameOk at hn
   simp at hn
   omega
  ·simp at hn
   simp [hn]
 ·unfold numOk at hu
  split at hu<;>simp at hu<;>omega
 ·have hm:kMost k<=1000000000:=by
   unfold kMost
   split
   ·omega
   ·split<;>omega
  unfold numOk at hu
  split at hu<;>simp at hu<;>omega
 ·intro hk
  subst hk
  exact ht
theorem Tryz.infoByteE:(Tryz.prog.info? 5).map (fun i=>(i.zero,i.size,i.bytes))=some (some (.int .u8 0),1,1):=by kernel_rfl
theorem hdr_cells (k n m:Int) (hk0:0<=k) (hk:k<256) (hn0:0<=n) (hn:n<=1000000000) (hm0:0<=m) (hm:m<256):
 [Value.int .u8 k,.int .u8 (n/16777216),.int .u8 (n/65536%256),.int .u8 (n/256%256),.int .u8 (n%256),.int .u8 m]=Lib.byteCells (hdr k n m):=by
 rw [u8_cell k hk0 hk,u8_cell (n/16777216) (by omega) (by omega),u8_cell (n/65536%256) (by omega) (by omega),u8_cell (n/256%256) (by omega) (by omega),u8_cell (n%256) (by omega) (by omega),u8_cell m hm0 hm]
 rfl
theorem own_ne' {w:World} {base:Nat} {e:TypeId} {v:Value} {n:Nat} {xs:List Value} (h:w.ownsRow base e 1 v n xs) {b:Nat} (hb:b<base):some b≠v.ownBlock:=by
 intro he
 have:=(h.lt b he.symm).1
 omega
set_option maxHeartbeats 1000000 in
theorem sForm_ent (k:Nat) (sum name:ByteArray) (n:Int) (t:ByteArray) (ad:Option Addr) (cap:Nat) (ss:List ByteArray) (wd:Int) (w:World) (h1:1<=k) (h7:k<=7)
 (hrow:SRow w w.heap.size ad ss) (hl:ss.length<=1048576) (ht:t.size<=maxLen) (hok:entOk k sum name n t ss wd=true):
 Calls Tryz.prog 84 #[.agg (entV k sum name n t ad ss.length cap),.int .i64 wd] w fun e w'=>e=.returned (.string ⟨(entB k sum name n t ss).toArray⟩)/\Below w.heap.size w w':=by
 have hp:=entOk_parts hok
 obtain ⟨hw1,hw2,hsum,hname,hn0,hn1,hth⟩:=hp
 obtain ⟨i0,hi,hz0,hz1,hz2'⟩:=info_parts Tryz.infoByteE
 have hb0:Below w.heap.size w (w.alloc (.cells (entV k sum name n t ad ss.length cap) 77)):=(Below.refl _ _).alloc (Nat.le_refl _) _
 go_enter Tryz.func84,Tryz.ntmps84
 go_wp2_with fail
 refine (sOk_any k sum name n t ad cap ss wd _ h1 h7 hw1 hw2 (hrow.below' hb0) hl ht (by unfold maxLen;omega)).mono ?_
 rintro e w1 ⟨rfl,hb1⟩
 rw [hok]
 have hz:=hb1.size
 simp at hz
 have hlt1:w.heap.size<w1.heap.size:=by omega
 have hB1:=hb0.trans (hb1.mono (by simp))
 have x0:w1.cell? ⟨w.heap.size,0,none⟩=some (.int .i64 k):=by rw [hb1.cell (p:=⟨w.heap.size,0,none⟩) (by simp)];simp
 have x1:w1.cell? ⟨w.heap.size,1,none⟩=some (.string sum):=by rw [hb1.cell (p:=⟨w.heap.size,1,none⟩) (by simp)];simp
 have x2:w1.cell? ⟨w.heap.size,2,none⟩=some (.string name):=by rw [hb1.cell (p:=⟨w.heap.size,2,none⟩) (by simp)];simp
 have x3:w1.cell? ⟨w.heap.size,3,none⟩=some (.int .i64 n):=by rw [hb1.cell (p:=⟨w.heap.size,3,none⟩) (by simp)];simp
 have x4:w1.cell? ⟨w.heap.size,4,none⟩=some (.string t):=by rw [hb1.cell (p:=⟨w.heap.size,4,none⟩) (by simp)];simp
 have x5:w1.cell? ⟨w.heap.size,5,none⟩=some (.slice ad ss.length cap):=by rw [hb1.cell (p:=⟨w.heap.size,5,none⟩) (by simp)];simp
 have hrow1:=hrow.below hB1
 have HOK:Hid _:=hok
 clear hok hth hrow hb1 hb0
 obtain ⟨W2,hW2⟩:∃W,W=w1.alloc (.cells #[.int .u8 k,.int .u8 (n/16777216),.int .u8 (n/65536%256),.int .u8 (n/256%256),.int .u8 (n%256),.int .u8 name.size] 5):=⟨_,rfl⟩
 have ho2:W2.ownsRow w1.heap.size 5 1 (.slice (some ⟨w1.heap.size,0,none⟩) 6 6) 6 (Lib.byteCells (hdr k n name.size)):=by
  rw [hW2,←hdr_cells k n name.size (by omega) (by omega) hn0 hn1 (by omega) (by omega)]
  exact World.ownsRow_lit w1 _ 6 (Nat.le_refl _) (by simp [maxLen]) rfl
 have hb2:Below w1.heap.size w1 W2:=by rw [hW2];exact (Below.refl _ _).alloc (Nat.le_refl _) _
 have hz2:=hb2.size
 have HW:Hid _:=hW2
 clear hW2
 go_wp2
 rw [←HW.out]
 have x0:W2.cell? ⟨w.heap.size,0,none⟩=some (.int .i64 k):=(hb2.cell (p:=⟨w.heap.size,0,none⟩) hlt1).trans x0
 have x1:W2.cell? ⟨w.heap.size,1,none⟩=some (.string sum):=(hb2.cell (p:=⟨w.heap.size,1,none⟩) hlt1).trans x1
 have x2:W2.cell? ⟨w.heap.size,2,none⟩=some (.string name):=(hb2.cell (p:=⟨w.heap.size,2,none⟩) hlt1).trans x2
 have x4:W2.cell? ⟨w.heap.size,4,none⟩=some (.string t):=(hb2.cell (p:=⟨w.heap.size,4,none⟩) hlt1).trans x4
 have x5:W2.cell? ⟨w.heap.size,5,none⟩=some (.slice ad ss.length cap):=(hb2.cell (p:=⟨w.heap.size,5,none⟩) hlt1).trans x5
 have hne2:=own_ne' ho2 hlt1
 go_region_law (first
  |(refine step_append_str _ rfl (.tmp 35) (.tmp 37) 143 9 rfl w1.heap.size 5 i0 Tryz.underlying143 Tryz.underlying9 hi hz0 hz1 hz2' _ 6 (Lib.byteCells (hdr k n name.size)) rfl (by exact ho2) name rfl (by unfold maxLen;omega) (by omega) (by exact hz2) ?_;intro v3 w3 ho3 hg3;have y1:=hg3.cell (a:=⟨w.heap.size,1,none⟩) (by exact x1) hne2)
  |(refine step_append_str _ rfl (.tmp 38) (.tmp 40) 143 9 rfl w1.heap.size 5 i0 Tryz.underlying143 Tryz.underlying9 hi hz0 hz1 hz2' _ (6+name.size) (Lib.byteCells (hdr k n name.size)++Lib.strCells name) rfl ho3 sum rfl (by unfold maxLen;omega) (by omega) (by have:=hg3.size;simp at this;omega) ?_;intro v4 w4 ho4 hg4))
 all_goals
  have hne3:=own_ne' ho3 hlt1
  have hz3:=hg3.size
  have hz4:=hg4.size
  simp at hz3
  have z0:=hg4.cell (a:=⟨w.heap.size,0,none⟩) (hg3.cell (a:=⟨w.heap.size,0,none⟩) (by exact x0) hne2) hne3
  have z4:=hg4.cell (a:=⟨w.heap.size,4,none⟩) (hg3.cell (a:=⟨w.heap.size,4,none⟩) (by exact x4) hne2) hne3
  have z5:=hg4.cell (a:=⟨w.heap.size,5,none⟩) (hg3.cell (a:=⟨w.heap.size,5,none⟩) (by exact x5) hne2) hne3
  have hb4:Below w1.heap.size w1 w4:=((hb2.drew).grown hg3 (by exact hz2) (fun k hk=>(ho2.lt k hk).1)).grown hg4 (by omega) (fun k hk=>(ho3.lt k hk).1)
  obtain ⟨g4,c4,hv4,hgb,hgl⟩:=ho4.form (by omega)
  subst hv4
  have hcs:Lib.byteCells (hdr k n name.size)++Lib.strCells name++Lib.strCells sum=Lib.byteCells (hdr k n name.size++name.data.toList++sum.data.toList):=by
   rw [Lib.strCells_eq,Lib.strCells_eq,←Lib.byteCells_append,←Lib.byteCells_append]
  rw [hcs] at ho4
  have hB4:=hB1.trans (hb4.mono hB1.size)
  have hrow4:=hrow1.below (hb4.mono (by omega))
  clear hcs hg3 hg4 ho3 x0 x1 x2 x4 x5 y1 ho2 hb2 hne2 hne3
  by_cases hk1:k=1
  ·subst hk1
   have hth:=(entOk_parts HOK.out).thing rfl
   have hpp:=okThing_parts hth
   have hbk:=hpp.bulk_le
   have hts:=hpp.text
   have hrf:=hpp.refs
   go_wp2_with fail
   refine (sForm_yes t ad cap ss wd w4 (hrow4.mono (by omega)) hth).mono ?_
   rintro e w5 ⟨rfl,hb5⟩
   have ho5:=ho4.kept (row:=none) ⟨hb5.os,hb5.tape,hb5.output,hb5.size,fun k hk _=>hb5.block k hk⟩ (.inr (by simp [Value.ownBlock]))
   have hz5:=hb5.size
   have hfl:(formB t ss).length<=3000:=by
    have:=flat_length ss
    simp [formB,this]
    omega
   have hfs:(ByteArray.mk (formB t ss).toArray).size=(formB t ss).length:=by simp [ByteArray.size]
   have HFS:Hid _:=hfs
   clear hfs
   obtain ⟨F,hF⟩:∃F,F=ByteArray.mk (formB t ss).toArray:=⟨_,rfl⟩
   rw [←hF] at HFS ⊢
   have hFs:F.size<=3000:=by rw [HFS.out];exact hfl
   have HF:Hid _:=hF
   clear hF
   go_wp2_with (at_builtin;refine Lib.wpList_append_own_string _ rfl _ _ 143 9 rfl w1.heap.size 5 i0 Tryz.underlying143 Tryz.underlying9 hi hz0 hz1 hz2' _ _ _ rfl ho5 F rfl ?c3 ?c4 ?c5 ?_)
   case c3=>unfold maxLen;omega
   case c4=>omega
   case c5=>omega
   intro v6 w6 ho6 hg6 _
   obtain ⟨g6,c6,hv6,hg61,hg62⟩:=ho6.form (by omega)
   subst hv6
   have hb6:=(hb5.mono hB4.size).grown hg6 (by omega) (fun k hk=>by have:=(ho5.lt k hk).1;omega)
   have hcs:Lib.byteCells (hdr 1 n name.size++(name.data.toList++sum.data.toList))++Lib.strCells F=Lib.byteCells (entB 1 sum name n t ss):=by
    rw [Lib.strCells_eq,←Lib.byteCells_append,HF.out]
    unfold entB
    rw [if_pos rfl]
    simp [List.append_assoc]
   rw [hcs] at ho6
   have hlen:6+name.size+sum.size+F.size=(entB 1 sum name n t ss).length:=by
    rw [HFS.out]
    simp [entB,hdr]
    omega
   rw [hlen] at ho6 ⊢
   have hcv:=run_convert_bytes_back (P:=Tryz.prog) w6 143 9 5 ⟨g6,0,none⟩ c6 (entB 1 sum name n t ss) Tryz.underlying143 Tryz.underlying5 Tryz.underlying9 (fun j hj=>ho6.cells rfl j _ (by simp [Lib.byteCells,hj]))
   clear ho6 ho5 hcs
   go_wp2
   go_ret
   exact ⟨rfl,hB4.trans hb6⟩
  ·have hkb:((k:Int)==1)=false:=beq_eq_false_iff_ne.2 (by omega)
   have hlen:6+name.size+sum.size=(entB k sum name n t ss).length:=by
    unfold entB
    rw [if_neg hk1]
    simp [hdr]
    omega
   have heq:hdr k n name.size++name.data.toList++sum.data.toList=entB k sum name n t ss:=by
    unfold entB
    rw [if_neg hk1,List.append_nil]
   rw [heq,hlen] at ho4
   rw [hlen]
   have hcv:=run_convert_bytes_back (P:=Tryz.prog) w4 143 9 5 ⟨g4,0,none⟩ c4 (entB k sum name n t ss) Tryz.underlying143 Tryz.underlying5 Tryz.underlying9 (fun j hj=>ho4.cells rfl j _ (by simp [Lib.byteCells,hj]))
   clear ho4 heq
   go_wp2
   go_ret
   exact ⟨rfl,hB4⟩
end Go.Proofs.YtpekbmegopfhfaaGreatDoor
namespace Go.Proofs.YtpekbmegopfhfaaGreatDoor
open Go.ChangeShapes Go.WideShapes Go.ChangeAt Go.RowKit
def okE (k:Int) (sum name:ByteArray) (n:Int) (t:ByteArray) (ss:List ByteArray) (wd:Int):Bool:=decide (1<=k/\k<=7)&&entOk k.toNat sum name n t ss wd
theorem sOkE (k:Int) (sum name:ByteArray) (n:Int) (t:ByteArray) (ad:Option Addr) (cap:Nat) (ss:List ByteArray) (wd:Int) (w:World)
 (hrow:SRow w w.heap.size ad ss) (hl:ss.length<=1048576) (ht:t.size<=maxLen) (hn:name.size<=maxLen):
 Calls Tryz.prog 83 #[.agg (entV k sum name n t ad ss.length cap),.int .i64 wd] w fun e w'=>e=.returned (.bool (okE k sum name n t ss wd))/\Below w.heap.size w w':=by
 unfold okE
 by_cases hk:1<=k/\k<=7
 ·obtain ⟨m,rfl⟩:∃m:Nat,k=m:=⟨k.toNat,by omega⟩
  rw [decide_eq_true hk,Bool.true_and,Int.toNat_natCast]
  by_cases hw:1<=wd/\wd<=8
  ·exact sOk_any m sum name n t ad cap ss wd w (by omega) (by omega) hw.1 hw.2 hrow hl ht hn
  ·exact sOk_width m sum name n t ad cap ss wd w hw
 ·rw [decide_eq_false hk,Bool.false_and]
  exact sOk_kind k sum name n t ad cap ss wd w hk
theorem iOkE (k:Int) (sum name:ByteArray) (n:Int) (t:ByteArray) (ad:Option Addr) (cap:Nat) (ss:List ByteArray) (wd:Int) (w:World) (hT:Tab w)
 (hrow:SRow w w.heap.size ad ss) (hl:ss.length<=1048576) (ht:t.size<=maxLen) (hn:name.size<=maxLen):
 Calls Tryz.prog 163 #[.agg (entV k sum name n t ad ss.length cap),.int .i64 wd] w fun e w'=>e=.returned (.bool (okE k sum name n t ss wd))/\Below w.heap.size w w':=by
 unfold okE
 by_cases hk:1<=k/\k<=7
 ·obtain ⟨m,rfl⟩:∃m:Nat,k=m:=⟨k.toNat,by omega⟩
  rw [decide_eq_true hk,Bool.true_and,Int.toNat_natCast]
  exact ivalid_any m sum name n t ad cap ss wd w hT (by omega) (by omega) hrow hl ht hn
 ·rw [decide_eq_false hk,Bool.false_and]
  exact ivalid_kind k sum name n t ad cap ss wd w hk
def entTxt (k:Int) (sum name:ByteArray) (n:Int) (t:ByteArray) (ss:List ByteArray) (wd:Int):ByteArray:=if okE k sum name n t ss wd=true then ⟨(entB k.toNat sum name n t ss).toArray⟩ else ByteArray.empty
end Go.Proofs.YtpekbmegopfhfaaGreatDoor
namespace Go.Proofs.YtpekbmegopfhfaaGreatDoor
open Go.ChangeShapes Go.WideShapes Go.ChangeAt Go.RowKit
theorem Tryz.cellsStr:Tryz.prog.cellsOf 9=1:=by kernel_rfl
theorem own:ownKnob Tryz.prog.godebug=none:=by kernel_rfl
theorem laidOut:laidOutB Tryz.prog=true:=by kernel_rfl
theorem read_strs {H:Type} {enc:TypeId×Value->H} {W:World} {base:Nat} {spare:Nat->Bool} {held:Bool} {fuel:Nat} {v:Value} {y:DataW H×List MemPlace}
 (h:DataW.trod enc Tryz.prog W base spare held fuel 22 [v]=some y):
 ∃a cap ss,v=.slice a (List.length ss) cap/\SRow W W.heap.size a ss/\ss.length<=maxLen/\∀s∈ss,ByteArray.size s<=maxLen:=by
 rcases open_strings Tryz.underlying22 Tryz.underlying9 Tryz.cellsStr h with ⟨hcs,_⟩|⟨a,len,cap,ss,hcs,_,hl,hm,hn,_,hcell,hws⟩
 ·simp at hcs
  subst hcs
  exact ⟨none,0,[],rfl,.inl rfl,by simp [maxLen],fun s hs=>by cases hs⟩
 ·simp at hcs
  subst hcs
  have hlen:len<=ss.length:=by rw [hn];split<;>omega
  have htl:(ss.take len).length=len:=by simp;omega
  refine ⟨some a,cap,ss.take len,by rw [htl],?_,by rw [htl];omega,fun s hs=>hws s (List.mem_of_mem_take hs)⟩
  by_cases h0:len=0
  ·exact .inl (by simp [h0])
  ·obtain ⟨b,off,spot⟩:=a
   have hspot:spot=none:=by simpa [Addr.add] using World.cell?_spot (hcell 0 (by omega))
   subst hspot
   have hc:∀j,j<ss.length->W.cell? ⟨b,off+j,none⟩=some (.string (ss.getD j ByteArray.empty)):=fun j hj=>by rw [←Go.WideShapes.add_plain];exact hcell j hj
   refine .inr ⟨b,off,rfl,?_,fun i s hs=> ?_⟩
   ·exact World.block_lt_of_cell? W ⟨b,off+0,none⟩ (hc 0 (by omega))
   ·have hi:i<len:=by
     have:=(List.getElem?_eq_some_iff.1 hs).1
     omega
    rw [List.getElem?_take_of_lt hi] at hs
    rw [hc i (by omega)]
    simp [List.getD,hs]
theorem read_str {H:Type} {enc:TypeId×Value->H} {W:World} {base:Nat} {spare:Nat->Bool} {held:Bool} {fuel:Nat} {v:Value} {y:DataW H×List MemPlace}
 (h:DataW.trod enc Tryz.prog W base spare held fuel 9 [v]=some y):∃s,v=.string s/\s.size<=maxLen:=by
 obtain ⟨s,hs,_,hm⟩:=DataW.trod_string Tryz.underlying9 h
 simp at hs
 exact ⟨s,hs,hm⟩
end Go.Proofs.YtpekbmegopfhfaaGreatDoor
namespace Go.Proofs.YtpekbmegopfhfaaGreatDoor
open Go.ChangeShapes Go.WideShapes Go.ChangeAt Go.RowKit
theorem cInt:Tryz.prog.cellsOf 3=1:=by kernel_rfl
end Go.Proofs.YtpekbmegopfhfaaGreatDoor
namespace Go.Proofs.YtpekbmegopfhfaaGreatDoor
open Go.ChangeShapes Go.WideShapes Go.ChangeAt Go.RowKit
theorem gKind:Tryz.prog.globalNamed "loop.example/kilnvault/impl.kindParts" =some 5:=by kernel_rfl
theorem gKindType:(Tryz.prog.globals[5]?).map (·.type)=some 247:=by kernel_rfl
theorem cParts:Tryz.prog.cellsOf 211=4:=by kernel_rfl
theorem cBool:Tryz.prog.cellsOf 4=1:=by kernel_rfl
theorem list4 {α:Type} {l:List α} (h:l.length=4):∃a b c d,l=[a,b,c,d]:=by
 match l,h with
 |[a,b,c,d],_=>exact ⟨a,b,c,d,rfl⟩
theorem parts_cells {H:Type} {enc:TypeId×Value->H} {W:World} {base:Nat} {spare:Nat->Bool} {held:Bool} {fuel:Nat} {l:List Value} {p:List MemPlace} {a b c:Bool} {m:Int}
 (h:DataW.trod enc Tryz.prog W base spare held fuel 211 l=some (.agg [.lit (.bool a),.lit (.bool b),.lit (.bool c),.lit (.int .i64 m)],p)):l=[.bool a,.bool b,.bool c,.int .i64 m]:=by
 obtain ⟨xs,n0,_,hx,hl,hlen,hf⟩:=DataW.trod_struct Tryz.underlying211 h
 rw [cParts] at hl
 obtain ⟨v0,v1,v2,v3,rfl⟩:=list4 hl
 obtain ⟨x0,x1,x2,x3,rfl⟩:=list4 hlen
 have f0:DataW.trod enc Tryz.prog W base spare held n0 4 [v0]=some x0:=by simpa [cBool] using hf 0 _ rfl
 have f1:DataW.trod enc Tryz.prog W base spare held n0 4 [v1]=some x1:=by simpa [cBool] using hf 1 _ rfl
 have f2:DataW.trod enc Tryz.prog W base spare held n0 4 [v2]=some x2:=by simpa [cBool] using hf 2 _ rfl
 have f3:DataW.trod enc Tryz.prog W base spare held n0 3 [v3]=some x3:=by simpa [cInt] using hf 3 _ rfl
 obtain ⟨a',e0,rfl⟩:=DataW.trod_bool Tryz.underlying4 f0
 obtain ⟨b',e1,rfl⟩:=DataW.trod_bool Tryz.underlying4 f1
 obtain ⟨c',e2,rfl⟩:=DataW.trod_bool Tryz.underlying4 f2
 obtain ⟨m',e3,rfl,_⟩:=DataW.trod_int Tryz.underlying3 f3
 simp at e0 e1 e2 e3 hx
 obtain ⟨⟨rfl,rfl,rfl,rfl⟩,_⟩:=hx
 rw [e0,e1,e2,e3]
theorem tab_of_parts {W:World} {cs:Array Value} {fuel:Nat} {p:List MemPlace} (hvar:W.var? Tryz.prog "loop.example/kilnvault/impl.kindParts" =some cs)
 (hd:DataW.trod (fun _=>()) Tryz.prog W 0 (fun _=>true) false fuel 247 cs.toList=some (Rows.laid_loop_example_kilnvault_impl_kindParts,p)):Tab W:=by
 obtain ⟨xs,n0,_,hx,hl,hlen,hf⟩:=DataW.trod_array Tryz.underlying247 hd
 rw [cParts] at hf
 have hx1:xs.map (·.1)=_:=(DataW.agg.inj (Prod.mk.inj hx).1).symm
 intro k h1 h7
 have key:(xs.map (·.1))[k]?=some (.agg [.lit (.bool (kName k)),.lit (.bool (kSum k)),.lit (.bool (kThing k)),.lit (.int .i64 (kMost k))]):=by
  rw [hx1]
  match k,h1,h7 with
  |1,_,_=>rfl
  |2,_,_=>rfl
  |3,_,_=>rfl
  |4,_,_=>rfl
  |5,_,_=>rfl
  |6,_,_=>rfl
  |7,_,_=>rfl
 rw [List.getElem?_map] at key
 obtain ⟨⟨yd,yp⟩,hy,hyd⟩:=Option.map_eq_some_iff.1 key
 simp only at hyd
 subst hyd
 have hk:=hf k (by omega)
 rw [hy] at hk
 have hcs:=parts_cells hk
 have at_:∀j,j<4->W.cell? ⟨5,k *4+j,none⟩=([.bool (kName k),.bool (kSum k),.bool (kThing k),.int .i64 (kMost k)]:List Value)[j]?:=by
  intro j hj
  rw [World.var?_cell gKind hvar,←hcs,List.getElem?_take_of_lt hj,List.getElem?_drop]
  simp
 exact ⟨at_ 0 (by omega),at_ 1 (by omega),at_ 2 (by omega),at_ 3 (by omega)⟩
end Go.Proofs.YtpekbmegopfhfaaGreatDoor
