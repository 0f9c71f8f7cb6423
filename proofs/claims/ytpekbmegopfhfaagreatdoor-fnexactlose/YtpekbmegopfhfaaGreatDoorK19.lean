import Derived.Test.YtpekbmegopfhfaaGreatDoorK02
import Derived.Deep.RegionLaw
import Derived.Test.YtpekbmegopfhfaaGreatDoorRows
import Derived.OpenShut
import Derived.ShutString
import Derived.Lib.LaidTab
set_option maxRecDepth 100000
set_option maxHeartbeats 16000000
namespace Go.Proofs.YtpekbmegopfhfaaGreatDoor
open Go.ChangeShapes Go.WideShapes Go.ChangeAt Go.RowKit _root_.Go.Proofs.Tryz
def Di (k:Nat):Bool:=k==2||k==4||k==7
def CS (k:Nat):Bool:=k==2||k==3
def Cx (k:Nat):Bool:=k==1
def Co (k:Nat):Int:=if k=1∨k=4∨k=6 then 100000 else if k=5 then 1000000000 else 0
def Dx (u:Bool) (s:ByteArray) (wd:Int):Bool:=if u then decide ((s.size:Int)=wd) else decide (s.size=0)
def En (u:Bool) (s:ByteArray):Bool:=if u then CH s else decide (s.size=0)
def Dy (m n:Int):Bool:=if m=0 then decide (n=0) else decide (1<=n/\n<=m)
def GN (u:Bool) (t:ByteArray) (ss:List ByteArray) (wd:Int):Bool:=if u then AH t ss wd else decide (t.size=0/\ss.length=0)
theorem ET {s:ByteArray}:s.toList.isEmpty=decide (s.size=0):=by
 have:s.toList.length=s.size:=by rw[ByteArray.toList_eq];simp
 rw[←this];cases s.toList<;>simp
theorem NN (s:ByteArray) (a b c:Bool) (m wd:Int) (w:World):
 Calls prog 190 #[.string s,.agg #[.bool a,.bool b,.bool c,XJ m],XJ wd] w fun e w'=>e=.returned (.bool (Dx b s wd))/\Xz w w':=by
 cases b with
 |true=>
  go_enter func190,ntmps190;go_wp2;go_ret;exact⟨Ao rfl,XA⟩
 |false=>
  have he:=ET (s:=s);have HE:Hid _:=he;clear he;go_enter func190,ntmps190;go_wp2;go_ret;exact⟨Ao HE.o,XA⟩
theorem MT (s:ByteArray) (a b c:Bool) (m:Int) (w:World) (hs:s.size<=maxLen):
 Calls prog 191 #[.string s,.agg #[.bool a,.bool b,.bool c,XJ m]] w fun e w'=>e=.returned (.bool (En a s))/\Xz w w':=by
 cases a with
 |true=>
  go_enter func191,ntmps191;go_wp2_with fail;refine(QC s _ hs).mono ?_;rintro e w1 ⟨rfl,rfl⟩;go_wp2;go_ret;exact⟨Ao rfl,XA⟩
 |false=>
  have HE:Hid _:=ET (s:=s);go_enter func191,ntmps191;go_wp2;go_ret;exact⟨Ao HE.o,XA⟩
theorem NO (n:Int) (a b c:Bool) (m:Int) (w:World):
 Calls prog 192 #[XJ n,.agg #[.bool a,.bool b,.bool c,XJ m]] w fun e w'=>e=.returned (.bool (Dy m n))/\Xz w w':=by
 by_cases hm:m=0
 ·subst hm
  go_enter func192,ntmps192;go_wp2;go_ret;exact⟨Ao (by unfold Dy;rw[if_pos rfl];rfl),XA⟩
 ·have zA:(m==0)=false:=by simpa using hm
  have HM:Hid _:=hm;clear hm;by_cases h1:1<=n
  ·go_enter func192,ntmps192
   go_wp2;go_ret;exact⟨Ao (by unfold Dy;rw[if_neg HM.o];simp[h1]),XA⟩
  ·have zB:decide (1<=n)=false:=by simpa using h1
   go_enter func192,ntmps192;go_wp2;go_ret;exact⟨Ao (by unfold Dy;rw[if_neg HM.o,decide_eq_false (by omega)]),XA⟩
theorem LU (t:ByteArray) (ad:Option Addr) (cap:Nat) (ss:List ByteArray) (a b c:Bool) (m wd:Int) (w:World) (zB:Ae w w.heap.size ad ss) (hl:ss.length<=1048576) (ht:t.size<=maxLen):
 Calls prog 193 #[.agg #[.string t,.slice ad ss.length cap],.agg #[.bool a,.bool b,.bool c,XJ m],XJ wd] w fun e w'=>e=.returned (.bool (GN c t ss wd))/\Xz w w':=by
 have zA:Below w.heap.size w ((w.alloc (.cells #[.string t,.slice ad ss.length cap] 66)).alloc (.cells #[.bool a,.bool b,.bool c,XJ m] 211)):=(XA).alloc (by simp) _;cases c with
 |true=>
  go_enter func193,ntmps193;go_wp2_with fail;refine(DJ t ad cap ss wd _ (zB.below' zA) hl ht).mono ?_;rintro e w1 ⟨rfl,rfl⟩;go_wp2;go_ret;exact⟨Ao rfl,zA.alloc (by simp;omega) _⟩
 |false=>
  by_cases h1:t.size=0
  ·have he:t.toList.isEmpty=true:=by rw[ET];simpa using h1
   have HE:Hid _:=h1;clear h1;go_enter func193,ntmps193;go_wp2;go_ret;refine⟨Ao ?_,zA⟩;unfold GN;rw[if_neg (by decide)];have h0:=HE.o;by_cases hs0:ss.length=0
   ·rw[decide_eq_true ⟨h0,hs0⟩]
    simp[hs0]
   ·rw[decide_eq_false (fun h=>hs0 h.2)]
    simp;intro h;exact hs0 (by rw[h];rfl)
  ·have he:t.toList.isEmpty=false:=by rw[ET];simpa using h1
   have HE:Hid _:=h1;clear h1;go_enter func193,ntmps193;go_wp2;go_ret;refine⟨Ao ?_,zA⟩;unfold GN;rw[if_neg (by decide),decide_eq_false (fun h=>HE.o h.1)]
def Ka (w:World):Prop:=∀k,1<=k->k<=7->w.cell? (XL 5 (k *4))=some (.bool (CS k))/\w.cell? (XL 5 (k *4+1))=some (.bool (Di k))/\w.cell? (XL 5 (k *4+2))=some (.bool (Cx k))/\w.cell? (XL 5 (k *4+3))=some (XJ (Co k))
theorem Ka.below {w w':World} (h:Ka w) (hb:Xz w w'):Ka w':=by
 intro k h1 h2;obtain⟨a,b,c,d⟩:=h k h1 h2;have zA:=World.block_lt_of_cell? w _ a;exact⟨(hb.cell (p:=⟨5,k *4,none⟩) zA).trans a,(hb.cell (p:=⟨5,k *4+1,none⟩) zA).trans b,(hb.cell (p:=⟨5,k *4+2,none⟩) zA).trans c,(hb.cell (p:=⟨5,k *4+3,none⟩) zA).trans d⟩
theorem IX (k:Nat) (w:World) (hT:Ka w) (h1:1<=k) (h2:k<=7):
 Calls prog 160 #[XJ k] w fun e w'=>e=.returned (.tuple #[.agg #[.bool (CS k),.bool (Di k),.bool (Cx k),XJ (Co k)],.bool true])/\Xz w w':=by
 obtain⟨c0,c1,c2,c3⟩:=hT k h1 h2;have zA:=World.block_lt_of_cell? w _ c0;have e1:decide ((k:Int)<1)=false:=by simp;omega
 have e2:decide ((7:Int)<k)=false:=by simp;omega
 have e3:(k:Int)<8:=by omega
 go_enter func160,ntmps160;go_wp2;exact bodyPost_ret (v:=.tuple #[.agg #[.bool (CS k),.bool (Di k),.bool (Cx k),XJ (Co k)],.bool true]) (by simp[results,results160,go_sem]) rfl ⟨rfl,XA⟩
theorem Kb (k:Int) (w:World) (h:¬(1<=k/\k<=7)):
 Calls prog 160 #[XJ k] w fun e w'=>e=.returned (.tuple #[.agg #[.bool false,.bool false,.bool false,XK],.bool false])/\Xz w w':=by
 by_cases h1:k<1
 ·have e1:decide (k<1)=true:=by simpa using h1
  go_enter func160,ntmps160;go_wp2;exact bodyPost_ret (v:=.tuple #[.agg #[.bool false,.bool false,.bool false,XK],.bool false]) (by simp[results,results160,go_sem]) rfl ⟨rfl,XA⟩
 ·have e1:decide (k<1)=false:=by simpa using h1
  have e2:decide (7<k)=true:=by simp;omega
  go_enter func160,ntmps160;go_wp2;exact bodyPost_ret (v:=.tuple #[.agg #[.bool false,.bool false,.bool false,XK],.bool false]) (by simp[results,results160,go_sem]) rfl ⟨rfl,XA⟩
def CD (k:Nat) (sum name:ByteArray) (n:Int) (t:ByteArray) (ss:List ByteArray) (wd:Int):Bool:=
 decide (1<=wd/\wd<=8)&&(Dx (Di k) sum wd&&(En (CS k) name&&(Dy (Co k) n&&GN (Cx k) t ss wd)))
abbrev Fi (k:Int) (sum name:ByteArray) (n:Int) (t:ByteArray) (ad:Option Addr) (len cap:Nat):Array Value:= #[XJ k,.string sum,.string name,XJ n,.string t,.slice ad len cap]
theorem NP (k:Int) (sum name:ByteArray) (n:Int) (t:ByteArray) (ad:Option Addr) (cap:Nat) (ss:List ByteArray) (wd:Int) (w:World) (hk:¬(1<=k/\k<=7)):
 Calls prog 163 #[.agg (Fi k sum name n t ad ss.length cap),XJ wd] w fun e w'=>e=.returned (.bool false)/\Xz w w':=by
 go_enter func163,ntmps163;go_wp2_with fail;refine(Kb k _ hk).mono ?_;rintro e w1 ⟨rfl,zA⟩;go_wp2;go_ret;exact⟨rfl,((XA).trans (zA.mono (by simp))).alloc (by have:=zA.size;simp at this;omega) _⟩
structure EB (W:World) (B P:Nat) (sum name:ByteArray) (n:Int) (t:ByteArray) (v:Value) (a b c:Bool) (m:Int):Prop where
 x1:W.cell? (XL B 1)=some (.string sum)
 x2:W.cell? (XL B 2)=some (.string name)
 x3:W.cell? (XL B 3)=some (XJ n)
 x4:W.cell? (XL B 4)=some (.string t)
 x5:W.cell? (XL B 5)=some v
 y0:W.cell? (XL P 0)=some (.bool a)
 y1:W.cell? (XL P 1)=some (.bool b)
 y2:W.cell? (XL P 2)=some (.bool c)
 y3:W.cell? (XL P 3)=some (XJ m)
theorem EB.below {W W':World} {B P:Nat} {sum name:ByteArray} {n:Int} {t:ByteArray} {v:Value} {a b c:Bool} {m:Int} (h:EB W B P sum name n t v a b c m) (hb:Xz W W'):EB W' B P sum name n t v a b c m:=by
 have k1:=World.block_lt_of_cell? W _ h.x1;have k2:=World.block_lt_of_cell? W _ h.y0;exact⟨(hb.cell (p:=⟨B,1,none⟩) k1).trans h.x1,(hb.cell (p:=⟨B,2,none⟩) k1).trans h.x2,(hb.cell (p:=⟨B,3,none⟩) k1).trans h.x3,(hb.cell (p:=⟨B,4,none⟩) k1).trans h.x4,(hb.cell (p:=⟨B,5,none⟩) k1).trans h.x5,
  (hb.cell (p:=⟨P,0,none⟩) k2).trans h.y0,(hb.cell (p:=⟨P,1,none⟩) k2).trans h.y1,(hb.cell (p:=⟨P,2,none⟩) k2).trans h.y2,(hb.cell (p:=⟨P,3,none⟩) k2).trans h.y3⟩
theorem PF (k:Nat) (sum name:ByteArray) (n:Int) (t:ByteArray) (ad:Option Addr) (cap:Nat) (ss:List ByteArray) (wd:Int) (w:World) (hT:Ka w) (h1:1<=k) (h7:k<=7)
 (zP:Ae w w.heap.size ad ss) (hl:ss.length<=1048576) (ht:t.size<=maxLen) (hn:name.size<=maxLen):
 Calls prog 163 #[.agg (Fi k sum name n t ad ss.length cap),XJ wd] w fun e w'=>e=.returned (.bool (CD k sum name n t ss wd))/\Xz w w':=by
 have zU:Below w.heap.size w (w.alloc (.cells (Fi k sum name n t ad ss.length cap) 77)):=XA;go_enter func163,ntmps163;go_wp2_with fail;refine(IX k _ (hT.below zU) h1 h7).mono ?_;rintro e w1 ⟨rfl,zB⟩;have zX:=zB.size;simp at zX;have zA:w.heap.size<w1.heap.size:=by omega
 have zT:=zU.trans (zB.mono (by simp));obtain⟨zZ,zY⟩:=IE zB;have x1:w1.cell? (XL (w.heap.size) 1)=some (.string sum):=by rw[zB.cell (p:=⟨w.heap.size,1,none⟩) (by simp)];simp
 have x2:w1.cell? (XL (w.heap.size) 2)=some (.string name):=by rw[zB.cell (p:=⟨w.heap.size,2,none⟩) (by simp)];simp
 have x3:w1.cell? (XL (w.heap.size) 3)=some (XJ n):=by rw[zB.cell (p:=⟨w.heap.size,3,none⟩) (by simp)];simp
 have x4:w1.cell? (XL (w.heap.size) 4)=some (.string t):=by rw[zB.cell (p:=⟨w.heap.size,4,none⟩) (by simp)];simp
 have x5:w1.cell? (XL (w.heap.size) 5)=some (.slice ad ss.length cap):=by rw[zB.cell (p:=⟨w.heap.size,5,none⟩) (by simp)];simp
 clear zZ zY;obtain⟨W2,zH⟩:∃W,W=w1.alloc (.cells #[.bool (CS k),.bool (Di k),.bool (Cx k),XJ (Co k)] 211):=⟨_,rfl⟩;have zC:Below w1.heap.size w1 W2:=by rw[zH];exact XA
 have E2:EB W2 w.heap.size w1.heap.size sum name n t (.slice ad ss.length cap) (CS k) (Di k) (Cx k) (Co k):=by
  refine⟨(zC.cell (p:=⟨w.heap.size,1,none⟩) zA).trans x1,(zC.cell (p:=⟨w.heap.size,2,none⟩) zA).trans x2,(zC.cell (p:=⟨w.heap.size,3,none⟩) zA).trans x3,(zC.cell (p:=⟨w.heap.size,4,none⟩) zA).trans x4,(zC.cell (p:=⟨w.heap.size,5,none⟩) zA).trans x5,?_,?_,?_,?_⟩<;>(rw[zH];simp)
 have zG:=zT.trans (zC.mono zT.size);have zJ:Hid _:=zH;clear zH;by_cases hw:1<=wd/\wd<=8
 ·obtain⟨zV,zS⟩:=hw
  have zE:decide (1<=wd/\wd<=8)=true:=by simp[zV,zS]
  have zI:Hid _:=zE;clear zE;go_wp2_with (go_at_call 44;go_in);rw[←zJ.o];refine(NN sum (CS k) (Di k) (Cx k) (Co k) wd W2).mono ?_;rintro e w3 ⟨rfl,zR⟩;have E3:=E2.below zR;have zK:=zG.trans (zR.mono zG.size);clear E2 zR;cases hs:Dx (Di k) sum wd with
  |false=>
   go_wp2;go_ret;exact⟨Ao (by unfold CD;rw[hs];simp),zK⟩
  |true=>
   have HS:Hid _:=hs;clear hs;obtain⟨x1,x2,x3,x4,x5,y0,y1,y2,y3⟩:=E3;go_wp2_with fail;refine(MT name (CS k) (Di k) (Cx k) (Co k) _ hn).mono ?_;rintro e w4 ⟨rfl,zM⟩;have E4:=(EB.mk x1 x2 x3 x4 x5 y0 y1 y2 y3).below zM;have zO:=zK.trans (zM.mono zK.size);clear x1 x2 x3 x4 x5 y0 y1 y2 y3 zM;cases hnm:En (CS k) name with
   |false=>
    go_wp2;go_ret;exact⟨Ao (by unfold CD;rw[hnm];simp),zO⟩
   |true=>
    have HN:Hid _:=hnm;clear hnm;obtain⟨x1,x2,x3,x4,x5,y0,y1,y2,y3⟩:=E4;go_wp2_with fail;refine(NO n (CS k) (Di k) (Cx k) (Co k) _).mono ?_;rintro e w5 ⟨rfl,zN⟩;have E5:=(EB.mk x1 x2 x3 x4 x5 y0 y1 y2 y3).below zN;have zF:=zO.trans (zN.mono zO.size);clear x1 x2 x3 x4 x5 y0 y1 y2 y3 zN;cases hnu:Dy (Co k) n with
    |false=>
     go_wp2;go_ret;exact⟨Ao (by unfold CD;rw[hnu];simp),zF⟩
    |true=>
     have HU:Hid _:=hnu;clear hnu;obtain⟨x1,x2,x3,x4,x5,y0,y1,y2,y3⟩:=E5;go_wp2_with fail;refine(LU t ad cap ss (CS k) (Di k) (Cx k) (Co k) wd _ (zP.below' zF) hl ht).mono ?_;rintro e w6 ⟨rfl,zW⟩;go_wp2;go_ret;exact⟨Ao (by unfold CD;rw[zI.o,HS.o,HN.o,HU.o];rfl),zF.trans (zW.mono zF.size)⟩
 ·have zE:decide (1<=wd/\wd<=8)=false:=by simpa using hw
  have zI:Hid _:=zE;clear zE;by_cases zV:1<=wd
  ·have zS:decide (wd<=8)=false:=by simp;omega
   go_wp2;go_ret;refine⟨Ao (by unfold CD;rw[zI.o];rfl),?_⟩;rw[←zJ.o];exact zG
  ·go_wp2
   go_ret;refine⟨Ao (by unfold CD;rw[zI.o];rfl),?_⟩;rw[←zJ.o];exact zG
def Iv (k:Nat):Int:=if k=1∨k=4∨k=6 then 1 else if k=5 then 2 else 0
theorem Te (k:Nat) (w:World) (h1:1<=k) (h7:k<=7):
 Calls prog 128 #[XJ k] w fun e w'=>e=.returned (.tuple #[.bool (Di k),.bool (CS k),XJ (Iv k),.bool (Cx k)])/\w'=w:=by
 match k,h1,h7 with
 |1,_,_|2,_,_|3,_,_|4,_,_|5,_,_|6,_,_|7,_,_=>
  go_enter func128,ntmps128;go_wp2;refine bodyPost_ret ?_ rfl ⟨rfl,rfl⟩;simp[results,results128,go_sem,Di,CS,Iv,Cx]
theorem Tf (k:Nat) (n:Int) (w:World):
 Calls prog 129 #[XJ n,XJ (Iv k)] w fun e w'=>e=.returned (.bool (Dy (Co k) n))/\w'=w:=by
 have hm:(Iv k=1/\Co k=100000)∨(Iv k=2/\Co k=1000000000)∨(Iv k=0/\Co k=0):=by
  unfold Iv Co;split
  ·exact .inl ⟨rfl,rfl⟩
  ·split
   ·exact .inr (.inl ⟨rfl,rfl⟩)
   ·exact .inr (.inr ⟨rfl,rfl⟩)
 rcases hm with⟨h1,h2⟩|⟨h1,h2⟩|⟨h1,h2⟩<;>rw[h1,h2]
 ·by_cases hn:1<=n
  ·go_enter func129,ntmps129
   go_wp2;go_ret;exact⟨Ao (by unfold Dy;rw[if_neg (by decide)];simp[hn]),rfl⟩
  ·have zA:decide (1<=n)=false:=by simpa using hn
   go_enter func129,ntmps129;go_wp2;go_ret;exact⟨Ao (by unfold Dy;rw[if_neg (by decide),decide_eq_false (by omega)]),rfl⟩
 ·by_cases hn:1<=n
  ·go_enter func129,ntmps129
   go_wp2;go_ret;exact⟨Ao (by unfold Dy;rw[if_neg (by decide)];simp[hn]),rfl⟩
  ·have zA:decide (1<=n)=false:=by simpa using hn
   go_enter func129,ntmps129;go_wp2;go_ret;exact⟨Ao (by unfold Dy;rw[if_neg (by decide),decide_eq_false (by omega)]),rfl⟩
 ·go_enter func129,ntmps129
  go_wp2;go_ret;exact⟨Ao (by unfold Dy;rw[if_pos rfl];rfl),rfl⟩
theorem Tg (k:Int) (sum name:ByteArray) (n:Int) (t:ByteArray) (ad:Option Addr) (cap:Nat) (ss:List ByteArray) (wd:Int) (w:World) (hk:¬(1<=k/\k<=7)):
 Calls prog 83 #[.agg (Fi k sum name n t ad ss.length cap),XJ wd] w fun e w'=>e=.returned (.bool false)/\Xz w w':=by
 by_cases hw:1<=wd/\wd<=8
 ·obtain⟨zB,zA⟩:=hw
  by_cases h1:k<1
  ·have e1:decide (k<1)=true:=by simpa using h1
   go_enter func83,ntmps83;go_wp2;go_ret;exact⟨rfl,XA⟩
  ·have e1:decide (k<1)=false:=by simpa using h1
   have e2:decide (7<k)=true:=by simp;omega
   go_enter func83,ntmps83;go_wp2;go_ret;exact⟨rfl,XA⟩
 ·by_cases zB:1<=wd
  ·have zA:decide (wd<=8)=false:=by simp;omega
   go_enter func83,ntmps83;go_wp2;go_ret;exact⟨rfl,XA⟩
  ·go_enter func83,ntmps83
   go_wp2;go_ret;exact⟨rfl,XA⟩
theorem Rh (k:Nat) (sum name:ByteArray) (n:Int) (t:ByteArray) (ad:Option Addr) (cap:Nat) (ss:List ByteArray) (wd:Int) (w:World) (hw:¬(1<=wd/\wd<=8)):
 Calls prog 83 #[.agg (Fi k sum name n t ad ss.length cap),XJ wd] w fun e w'=>e=.returned (.bool (CD k sum name n t ss wd))/\Xz w w':=by
 have zA:Hid (decide (1<=wd/\wd<=8)=false):=by show _=_;simpa using hw
 by_cases hw1:1<=wd
 ·have zB:decide (wd<=8)=false:=by simp;omega
  go_enter func83,ntmps83;go_wp2;go_ret;exact⟨Ao (by unfold CD;rw[zA.o];rfl),XA⟩
 ·go_enter func83,ntmps83
  go_wp2;go_ret;exact⟨Ao (by unfold CD;rw[zA.o];rfl),XA⟩
theorem Hg {t:ByteArray} {ss:List ByteArray} {wd:Int} (h0:t.size=0):((ss.length:Int)==0)=(true&&(true&&(true&&GN false t ss wd))):=by
 unfold GN;rw[if_neg (by decide)];by_cases hs0:ss.length=0
 ·rw[decide_eq_true ⟨h0,hs0⟩]
  simp[hs0]
 ·rw[decide_eq_false (fun h=>hs0 h.2)]
  simp;intro h;exact hs0 (by rw[h];rfl)
theorem Hi {t:ByteArray} {ss:List ByteArray} {wd:Int} (h0:¬t.size=0):false=(true&&(true&&(true&&GN false t ss wd))):=by
 unfold GN;rw[if_neg (by decide),decide_eq_false (fun h=>h0 h.1)];rfl
theorem OG (k:Nat) (sum name:ByteArray) (n:Int) (t:ByteArray) (ad:Option Addr) (cap:Nat) (ss:List ByteArray) (wd:Int) (w:World) (h1:1<=k) (h7:k<=7) (zM:1<=wd) (zI:wd<=8)
 (zB:Ae w w.heap.size ad ss) (hl:ss.length<=1048576) (ht:t.size<=maxLen) (hn:name.size<=maxLen):
 Calls prog 83 #[.agg (Fi k sum name n t ad ss.length cap),XJ wd] w fun e w'=>e=.returned (.bool (CD k sum name n t ss wd))/\Xz w w':=by
 have zA:Below w.heap.size w (w.alloc (.cells (Fi k sum name n t ad ss.length cap) 77)):=XA;have zK:Hid (decide (1<=wd/\wd<=8)=true):=by show _=_;simp[zM,zI]
 have e1:decide ((k:Int)<1)=false:=by simp;omega
 have e2:decide ((7:Int)<k)=false:=by simp;omega
 have HU:=Te k;have zH:=Tf k n;unfold CD;rw[zK.o,Bool.true_and];generalize Iv k=kn at *
 generalize Dy (Co k) n=nu at *
 generalize hks:Di k=us at *
 generalize hkn:CS k=un at *
 generalize hkt:Cx k=ut at *
 have zJ:Hid _:=HU;have zG:Hid _:=zH;clear HU zH hks hkn hkt;go_enter func83,ntmps83;go_wp2_with (go_at_call 40;go_in);refine(zJ.o _ h1 h7).mono ?_;rintro e w1 ⟨rfl,rfl⟩;cases us with
 |true=>
  by_cases hs:(sum.size:Int)=wd
  ·have zF:((sum.size:Int) !=wd)=false:=by simpa using hs
   have HS:Hid (Dx true sum wd=true):=by show _=_;simpa [Dx] using hs
   clear hs;go_wp2_with fail;refine(zG.o _).mono ?_;rintro e w2 ⟨rfl,rfl⟩;cases nu with
   |false=>
    go_wp2;go_ret;exact⟨Ao (by simp),zA⟩
   |true=>
    cases un with
    |true=>
     go_wp2_with fail;refine(KS name _ hn).mono ?_;rintro e w3 ⟨rfl,rfl⟩;cases hno:CH name with
     |false=>
      go_wp2;go_ret;exact⟨Ao (by simp[En,hno]),zA⟩
     |true=>
      have HM:Hid (En true name=true):=hno;clear hno;cases ut with
      |true=>
       go_wp2_with fail;refine(CP t ad cap ss wd _ (zB.below' zA) hl ht).mono ?_;rintro e w4 ⟨rfl,zC⟩;go_wp2;go_ret;exact⟨Ao (by rw[HS.o,HM.o];rfl),zA.trans (zC.mono (by simp))⟩
      |false=>
       by_cases h0:t.size=0
       ·have he:t.toList.isEmpty=true:=by rw[ET];simpa using h0
        have H0:Hid _:=h0;clear h0;go_wp2;go_ret;exact⟨Ao (by rw[HS.o,HM.o];exact Hg H0.o),zA⟩
       ·have he:t.toList.isEmpty=false:=by rw[ET];simpa using h0
        have H0:Hid _:=h0;clear h0;go_wp2;go_ret;exact⟨Ao (by rw[HS.o,HM.o];exact Hi H0.o),zA⟩
    |false=>
     by_cases hno:name.size=0
     ·have zE:name.toList.isEmpty=true:=by rw[ET];simpa using hno
      have HM:Hid (En false name=true):=by show _=_;simpa [En] using hno
      clear hno;cases ut with
      |true=>
       go_wp2_with fail;refine(CP t ad cap ss wd _ (zB.below' zA) hl ht).mono ?_;rintro e w4 ⟨rfl,zC⟩;go_wp2;go_ret;exact⟨Ao (by rw[HS.o,HM.o];rfl),zA.trans (zC.mono (by simp))⟩
      |false=>
       by_cases h0:t.size=0
       ·have he:t.toList.isEmpty=true:=by rw[ET];simpa using h0
        have H0:Hid _:=h0;clear h0;go_wp2;go_ret;exact⟨Ao (by rw[HS.o,HM.o];exact Hg H0.o),zA⟩
       ·have he:t.toList.isEmpty=false:=by rw[ET];simpa using h0
        have H0:Hid _:=h0;clear h0;go_wp2;go_ret;exact⟨Ao (by rw[HS.o,HM.o];exact Hi H0.o),zA⟩
     ·have zE:name.toList.isEmpty=false:=by rw[ET];simpa using hno
      have HM:Hid (En false name=false):=by show _=_;simpa [En] using hno
      clear hno;go_wp2;go_ret;exact⟨Ao (by rw[HM.o];simp),zA⟩
  ·have zF:((sum.size:Int) !=wd)=true:=by simpa using hs
   have HS:Hid (Dx true sum wd=false):=by show _=_;simpa [Dx] using hs
   clear hs;go_wp2;go_ret;exact⟨Ao (by rw[HS.o];rfl),zA⟩
 |false=>
  by_cases hs:sum.size=0
  ·have zF:sum.toList.isEmpty=true:=by rw[ET];simpa using hs
   have HS:Hid (Dx false sum wd=true):=by show _=_;simpa [Dx] using hs
   clear hs;go_wp2_with fail;refine(zG.o _).mono ?_;rintro e w2 ⟨rfl,rfl⟩;cases nu with
   |false=>
    go_wp2;go_ret;exact⟨Ao (by simp),zA⟩
   |true=>
    cases un with
    |true=>
     go_wp2_with fail;refine(KS name _ hn).mono ?_;rintro e w3 ⟨rfl,rfl⟩;cases hno:CH name with
     |false=>
      go_wp2;go_ret;exact⟨Ao (by simp[En,hno]),zA⟩
     |true=>
      have HM:Hid (En true name=true):=hno;clear hno;cases ut with
      |true=>
       go_wp2_with fail;refine(CP t ad cap ss wd _ (zB.below' zA) hl ht).mono ?_;rintro e w4 ⟨rfl,zC⟩;go_wp2;go_ret;exact⟨Ao (by rw[HS.o,HM.o];rfl),zA.trans (zC.mono (by simp))⟩
      |false=>
       by_cases h0:t.size=0
       ·have he:t.toList.isEmpty=true:=by rw[ET];simpa using h0
        have H0:Hid _:=h0;clear h0;go_wp2;go_ret;exact⟨Ao (by rw[HS.o,HM.o];exact Hg H0.o),zA⟩
       ·have he:t.toList.isEmpty=false:=by rw[ET];simpa using h0
        have H0:Hid _:=h0;clear h0;go_wp2;go_ret;exact⟨Ao (by rw[HS.o,HM.o];exact Hi H0.o),zA⟩
    |false=>
     by_cases hno:name.size=0
     ·have zE:name.toList.isEmpty=true:=by rw[ET];simpa using hno
      have HM:Hid (En false name=true):=by show _=_;simpa [En] using hno
      clear hno;cases ut with
      |true=>
       go_wp2_with fail;refine(CP t ad cap ss wd _ (zB.below' zA) hl ht).mono ?_;rintro e w4 ⟨rfl,zC⟩;go_wp2;go_ret;exact⟨Ao (by rw[HS.o,HM.o];rfl),zA.trans (zC.mono (by simp))⟩
      |false=>
       by_cases h0:t.size=0
       ·have he:t.toList.isEmpty=true:=by rw[ET];simpa using h0
        have H0:Hid _:=h0;clear h0;go_wp2;go_ret;exact⟨Ao (by rw[HS.o,HM.o];exact Hg H0.o),zA⟩
       ·have he:t.toList.isEmpty=false:=by rw[ET];simpa using h0
        have H0:Hid _:=h0;clear h0;go_wp2;go_ret;exact⟨Ao (by rw[HS.o,HM.o];exact Hi H0.o),zA⟩
     ·have zE:name.toList.isEmpty=false:=by rw[ET];simpa using hno
      have HM:Hid (En false name=false):=by show _=_;simpa [En] using hno
      clear hno;go_wp2;go_ret;exact⟨Ao (by rw[HM.o];simp),zA⟩
  ·have zF:sum.toList.isEmpty=false:=by rw[ET];simpa using hs
   have HS:Hid (Dx false sum wd=false):=by show _=_;simpa [Dx] using hs
   clear hs;go_wp2;go_ret;exact⟨Ao (by rw[HS.o];rfl),zA⟩
def u8 (x:Int):UInt8:=UInt8.ofNat x.toNat
theorem FX (x:Int) (h0:0<=x) (h:x<256):Value.int .u8 x=.int .u8 ((u8 x).toNat:Int):=by
 have:(u8 x).toNat=x.toNat:=by simp[u8];omega
 rw[this];congr 1;omega
def CU (k n m:Int):List UInt8:=[u8 k,u8 (n/16777216),u8 (n/65536%256),u8 (n/256%256),u8 (n%256),u8 m]
def DT (k:Nat) (sum name:ByteArray) (n:Int) (t:ByteArray) (ss:List ByteArray):List UInt8:=
 CU k n name.size++name.data.toList++sum.data.toList++(if k=1 then BZ t ss else [])
theorem GA {P:Program} (w:World) {ops:Array Oper} {o:Oper} {a:Act} {K:Act->World->Prop} {Q:Exit->Act->World->Prop} {E:Prop} (zF:o.guard=none) (sl x:Operand) (t u:TypeId)
 (ho:o.op=.call {callee:=.builtin .append,args:= #[sl,x],argTypes:= #[t,u]})
 (base:Nat) (e:TypeId) (i:TypeInfo) (ht:P.underlying t=some (.slice e)) (hu:P.underlying u=some .string) (hi:P.info? e=some i) (hz:i.zero=some (.int .u8 0))
 (zC:i.size=1) (zG:i.bytes=1)
 (v:Value) (n:Nat) (xs:List Value) (hs:a.eval sl=v) (zE:w.ownsRow base e 1 v n xs) (s:ByteArray) (hx:a.eval x=.string s)
 (zH:n+s.size<=maxLen) (zA:n+s.size<=140737488355328) (zB:base<=w.heap.size)
 (h:∀v' w',w'.ownsRow base e 1 v' (n+s.size) (xs++Lib.strCells s)->w.grownBy w' v.ownBlock->K (a.put o.dst v') w'):
 if Region.wanted o (yielded ops a.tmps)=true then Oper.wp P o a w K Q else E:=by
 have hw:Region.wanted o (yielded ops a.tmps)=true:=by simp[Region.wanted,zF]
 rw[if_pos hw];obtain⟨v',w',hr,h2,h3,_⟩:=Lib.run_append_own_string (P:=P) w base t u o.type e i ht hu hi hz zC zG v n xs zE s zH zA zB;unfold Oper.wp execOp;simp only[ho,resolve,invoke,builtin,Sem.run_bind,Sem.run_pure,Result.andThen_ok,List.map_toArray,List.map_cons,List.map_nil,hs,hx,hr];exact h v' w' h2 h3
structure Ue (k:Nat) (sum name:ByteArray) (n:Int) (t:ByteArray) (ss:List ByteArray) (wd:Int):Prop where
 w1:1<=wd
 w2:wd<=8
 sum:sum.size<=8
 name:name.size<=40
 n0:0<=n
 n1:n<=1000000000
 thing:k=1->AH t ss wd=true
theorem Fw {k:Nat} {sum name:ByteArray} {n:Int} {t:ByteArray} {ss:List ByteArray} {wd:Int} (h:CD k sum name n t ss wd=true):Ue k sum name n t ss wd:=by
 unfold CD at h;simp only[Bool.and_eq_true,decide_eq_true_eq] at h;obtain⟨⟨h1,h2⟩,hs,hn,hu,ht⟩:=h;refine⟨h1,h2,?_,?_,?_,?_,?_⟩
 ·unfold Dx at hs
  split at hs<;>simp at hs
  ·omega
  ·simp[hs]
 ·unfold En at hn
  split at hn
  ·unfold CH at hn
   simp at hn;omega
  ·simp at hn
   simp[hn]
 ·unfold Dy at hu
  split at hu<;>simp at hu<;>omega
 ·have hm:Co k<=1000000000:=by
   unfold Co;split
   ·omega
   ·split<;>omega
  unfold Dy at hu;split at hu<;>simp at hu<;>omega
 ·intro hk
  subst hk;exact ht
theorem Ri:(prog.info? 5).map (fun i=>(i.zero,i.size,i.bytes))=some (some (.int .u8 0),1,1):=by kernel_rfl
theorem Rj (k n m:Int) (zA:0<=k) (hk:k<256) (zC:0<=n) (hn:n<=1000000000) (zB:0<=m) (hm:m<256):
 [Value.int .u8 k,.int .u8 (n/16777216),.int .u8 (n/65536%256),.int .u8 (n/256%256),.int .u8 (n%256),.int .u8 m]=Lib.byteCells (CU k n m):=by
 rw[FX k zA hk,FX (n/16777216) (by omega) (by omega),FX (n/65536%256) (by omega) (by omega),FX (n/256%256) (by omega) (by omega),FX (n%256) (by omega) (by omega),FX m zB hm];rfl
theorem OH {w:World} {base:Nat} {e:TypeId} {v:Value} {n:Nat} {xs:List Value} (h:w.ownsRow base e 1 v n xs) {b:Nat} (hb:b<base):some b≠v.ownBlock:=by
 intro he;have:=(h.lt b he.symm).1;omega
theorem Rk (k:Nat) (sum name:ByteArray) (n:Int) (t:ByteArray) (ad:Option Addr) (cap:Nat) (ss:List ByteArray) (wd:Int) (w:World) (h1:1<=k) (h7:k<=7)
 (zK:Ae w w.heap.size ad ss) (hl:ss.length<=1048576) (ht:t.size<=maxLen) (zV:CD k sum name n t ss wd=true):
 Calls prog 84 #[.agg (Fi k sum name n t ad ss.length cap),XJ wd] w fun e w'=>e=.returned (.string ⟨(DT k sum name n t ss).toArray⟩)/\Xz w w':=by
 have hp:=Fw zV;obtain⟨yY,yV,yR,yI,yU,yW,zU⟩:=hp;obtain⟨i0,hi,yB,yD,zI⟩:=info_parts Ri;have yF:Below w.heap.size w (w.alloc (.cells (Fi k sum name n t ad ss.length cap) 77)):=XA;go_enter func84,ntmps84;go_wp2_with fail;refine(OG k sum name n t ad cap ss wd _ h1 h7 yY yV (zK.below' yF) hl ht (by unfold maxLen;omega)).mono ?_;rintro e w1 ⟨rfl,zC⟩;rw[zV];have hz:=zC.size;simp at hz
 have zA:w.heap.size<w1.heap.size:=by omega
 have yE:=yF.trans (zC.mono (by simp));have x0:w1.cell? (XL (w.heap.size) 0)=some (XJ k):=by rw[zC.cell (p:=⟨w.heap.size,0,none⟩) (by simp)];simp
 have x1:w1.cell? (XL (w.heap.size) 1)=some (.string sum):=by rw[zC.cell (p:=⟨w.heap.size,1,none⟩) (by simp)];simp
 have x2:w1.cell? (XL (w.heap.size) 2)=some (.string name):=by rw[zC.cell (p:=⟨w.heap.size,2,none⟩) (by simp)];simp
 have x3:w1.cell? (XL (w.heap.size) 3)=some (XJ n):=by rw[zC.cell (p:=⟨w.heap.size,3,none⟩) (by simp)];simp
 have x4:w1.cell? (XL (w.heap.size) 4)=some (.string t):=by rw[zC.cell (p:=⟨w.heap.size,4,none⟩) (by simp)];simp
 have x5:w1.cell? (XL (w.heap.size) 5)=some (.slice ad ss.length cap):=by rw[zC.cell (p:=⟨w.heap.size,5,none⟩) (by simp)];simp
 have zS:=zK.below yE;have yO:Hid _:=zV;clear zV zU zK zC yF;obtain⟨W2,zW⟩:∃W,W=w1.alloc (.cells #[.int .u8 k,.int .u8 (n/16777216),.int .u8 (n/65536%256),.int .u8 (n/256%256),.int .u8 (n%256),.int .u8 name.size] 5):=⟨_,rfl⟩;have zX:W2.ownsRow w1.heap.size 5 1 (.slice (some ⟨w1.heap.size,0,none⟩) 6 6) 6 (Lib.byteCells (CU k n name.size)):=by
  rw[zW,←Rj k n name.size (by omega) (by omega) yU yW (by omega) (by omega)];exact World.ownsRow_lit w1 _ 6 (XB) (by simp[maxLen]) rfl
 have zH:Below w1.heap.size w1 W2:=by rw[zW];exact XA
 have yG:=zH.size;have HW:Hid _:=zW;clear zW;go_wp2;rw[←HW.o];have x0:W2.cell? (XL (w.heap.size) 0)=some (XJ k):=(zH.cell (p:=⟨w.heap.size,0,none⟩) zA).trans x0;have x1:W2.cell? (XL (w.heap.size) 1)=some (.string sum):=(zH.cell (p:=⟨w.heap.size,1,none⟩) zA).trans x1;have x2:W2.cell? (XL (w.heap.size) 2)=some (.string name):=(zH.cell (p:=⟨w.heap.size,2,none⟩) zA).trans x2
 have x4:W2.cell? (XL (w.heap.size) 4)=some (.string t):=(zH.cell (p:=⟨w.heap.size,4,none⟩) zA).trans x4;have x5:W2.cell? (XL (w.heap.size) 5)=some (.slice ad ss.length cap):=(zH.cell (p:=⟨w.heap.size,5,none⟩) zA).trans x5;have zB:=OH zX zA
 go_region_law (first
  |(refine GA _ rfl (.tmp 35) (.tmp 37) 143 9 rfl w1.heap.size 5 i0 underlying143 underlying9 hi yB yD zI _ 6 (Lib.byteCells (CU k n name.size)) rfl (by exact zX) name rfl (by unfold maxLen;omega) (by omega) (by exact yG) ?_;intro v3 w3 zT zG;have y1:=zG.cell (a:=⟨w.heap.size,1,none⟩) (by exact x1) zB)
  |(refine GA _ rfl (.tmp 38) (.tmp 40) 143 9 rfl w1.heap.size 5 i0 underlying143 underlying9 hi yB yD zI _ (6+name.size) (Lib.byteCells (CU k n name.size)++Lib.strCells name) rfl zT sum rfl (by unfold maxLen;omega) (by omega) (by have:=zG.size;simp at this;omega) ?_;intro v4 w4 zN zM))
 all_goals
  have zF:=OH zT zA;have yT:=zG.size;have xH:=zM.size;simp at yT;have z0:=zM.cell (a:=⟨w.heap.size,0,none⟩) (zG.cell (a:=⟨w.heap.size,0,none⟩) (by exact x0) zB) zF;have z4:=zM.cell (a:=⟨w.heap.size,4,none⟩) (zG.cell (a:=⟨w.heap.size,4,none⟩) (by exact x4) zB) zF;have z5:=zM.cell (a:=⟨w.heap.size,5,none⟩) (zG.cell (a:=⟨w.heap.size,5,none⟩) (by exact x5) zB) zF
  have yJ:Below w1.heap.size w1 w4:=((zH.drew).grown zG (by exact yG) (fun k hk=>(zX.lt k hk).1)).grown zM (by omega) (fun k hk=>(zT.lt k hk).1);obtain⟨g4,c4,yZ,xD,xB⟩:=zN.form (by omega);subst yZ;have zR:Lib.byteCells (CU k n name.size)++Lib.strCells name++Lib.strCells sum=Lib.byteCells (CU k n name.size++name.data.toList++sum.data.toList):=by
   rw[Lib.strCells_eq,Lib.strCells_eq,←Lib.byteCells_append,←Lib.byteCells_append]
  rw[zR] at zN;have yA:=yE.trans (yJ.mono yE.size);have zP:=zS.below (yJ.mono (by omega));clear zR zG zM zT x0 x1 x2 x4 x5 y1 zX zH zB zF;by_cases hk1:k=1
  ·subst hk1
   have zU:=(Fw yO.o).thing rfl;have zY:=Cq zU;have xC:=zY.bulk_le;have xE:=zY.text;have xA:=zY.refs;go_wp2_with fail;refine(KN t ad cap ss wd w4 (zP.mono (by omega)) zU).mono ?_;rintro e w5 ⟨rfl,zJ⟩;have yC:=zN.kept (row:=none) ⟨zJ.os,zJ.tape,zJ.output,zJ.size,fun k hk _=>zJ.block k hk⟩ (.inr (by simp[Value.ownBlock]));have xF:=zJ.size;have yX:(BZ t ss).length<=3000:=by
    have:=Er ss;simp[BZ,this];omega
   have yK:(ByteArray.mk (BZ t ss).toArray).size=(BZ t ss).length:=by simp[ByteArray.size]
   have zZ:Hid _:=yK;clear yK;obtain⟨F,hF⟩:∃F,F=ByteArray.mk (BZ t ss).toArray:=⟨_,rfl⟩;rw[←hF] at zZ ⊢;have xI:F.size<=3000:=by rw[zZ.o];exact yX
   have HF:Hid _:=hF;clear hF;go_wp2_with (at_builtin;refine Lib.wpList_append_own_string _ rfl _ _ 143 9 rfl w1.heap.size 5 i0 underlying143 underlying9 hi yB yD zI _ _ _ rfl yC F rfl ?c3 ?c4 ?c5 ?_)
   case c3=>unfold maxLen;omega
   case c4=>omega
   case c5=>omega
   intro v6 w6 zO yQ _;obtain⟨g6,c6,yM,yS,yL⟩:=zO.form (by omega);subst yM;have yP:=(zJ.mono yA.size).grown yQ (by omega) (fun k hk=>by have:=(yC.lt k hk).1;omega);have zR:Lib.byteCells (CU 1 n name.size++(name.data.toList++sum.data.toList))++Lib.strCells F=Lib.byteCells (DT 1 sum name n t ss):=by
    rw[Lib.strCells_eq,←Lib.byteCells_append,HF.o];unfold DT;rw[if_pos rfl];simp[List.append_assoc]
   rw[zR] at zO;have zE:6+name.size+sum.size+F.size=(DT 1 sum name n t ss).length:=by
    rw[zZ.o];simp[DT,CU];omega
   rw[zE] at zO ⊢;have yN:=run_convert_bytes_back (P:=prog) w6 143 9 5 ⟨g6,0,none⟩ c6 (DT 1 sum name n t ss) underlying143 underlying5 underlying9 (fun j hj=>zO.cells rfl j _ (by simp[Lib.byteCells,hj]));clear zO yC zR;go_wp2;go_ret;exact⟨rfl,yA.trans yP⟩
  ·have xG:((k:Int)==1)=false:=beq_eq_false_iff_ne.2 (by omega)
   have zE:6+name.size+sum.size=(DT k sum name n t ss).length:=by
    unfold DT;rw[if_neg hk1];simp[CU];omega
   have yH:CU k n name.size++name.data.toList++sum.data.toList=DT k sum name n t ss:=by
    unfold DT;rw[if_neg hk1,List.append_nil]
   rw[yH,zE] at zN;rw[zE];have yN:=run_convert_bytes_back (P:=prog) w4 143 9 5 ⟨g4,0,none⟩ c4 (DT k sum name n t ss) underlying143 underlying5 underlying9 (fun j hj=>zN.cells rfl j _ (by simp[Lib.byteCells,hj]));clear zN yH;go_wp2;go_ret;exact⟨rfl,yA⟩
def Cs (k:Int) (sum name:ByteArray) (n:Int) (t:ByteArray) (ss:List ByteArray) (wd:Int):Bool:=decide (1<=k/\k<=7)&&CD k.toNat sum name n t ss wd
theorem VA (k:Int) (sum name:ByteArray) (n:Int) (t:ByteArray) (ad:Option Addr) (cap:Nat) (ss:List ByteArray) (wd:Int) (w:World)
 (zA:Ae w w.heap.size ad ss) (hl:ss.length<=1048576) (ht:t.size<=maxLen) (hn:name.size<=maxLen):
 Calls prog 83 #[.agg (Fi k sum name n t ad ss.length cap),XJ wd] w fun e w'=>e=.returned (.bool (Cs k sum name n t ss wd))/\Xz w w':=by
 unfold Cs;by_cases hk:1<=k/\k<=7
 ·obtain⟨m,rfl⟩:∃m:Nat,k=m:=⟨k.toNat,by omega⟩
  rw[decide_eq_true hk,Bool.true_and,Int.toNat_natCast];by_cases hw:1<=wd/\wd<=8
  ·exact OG m sum name n t ad cap ss wd w (by omega) (by omega) hw.1 hw.2 zA hl ht hn
  ·exact Rh m sum name n t ad cap ss wd w hw
 ·rw[decide_eq_false hk,Bool.false_and]
  exact Tg k sum name n t ad cap ss wd w hk
theorem WE (k:Int) (sum name:ByteArray) (n:Int) (t:ByteArray) (ad:Option Addr) (cap:Nat) (ss:List ByteArray) (wd:Int) (w:World) (hT:Ka w)
 (zA:Ae w w.heap.size ad ss) (hl:ss.length<=1048576) (ht:t.size<=maxLen) (hn:name.size<=maxLen):
 Calls prog 163 #[.agg (Fi k sum name n t ad ss.length cap),XJ wd] w fun e w'=>e=.returned (.bool (Cs k sum name n t ss wd))/\Xz w w':=by
 unfold Cs;by_cases hk:1<=k/\k<=7
 ·obtain⟨m,rfl⟩:∃m:Nat,k=m:=⟨k.toNat,by omega⟩
  rw[decide_eq_true hk,Bool.true_and,Int.toNat_natCast];exact PF m sum name n t ad cap ss wd w hT (by omega) (by omega) zA hl ht hn
 ·rw[decide_eq_false hk,Bool.false_and]
  exact NP k sum name n t ad cap ss wd w hk
def DE (k:Int) (sum name:ByteArray) (n:Int) (t:ByteArray) (ss:List ByteArray) (wd:Int):ByteArray:=if Cs k sum name n t ss wd=true then ⟨(DT k.toNat sum name n t ss).toArray⟩ else ByteArray.empty
theorem Fj:prog.cellsOf 9=1:=by kernel_rfl
theorem own:ownKnob prog.godebug=none:=by kernel_rfl
theorem laidOut:laidOutB prog=true:=by kernel_rfl
theorem FG {H:Type} {enc:TypeId×Value->H} {W:World} {base:Nat} {zE:Nat->Bool} {held:Bool} {zF:Nat} {v:Value} {y:DataW H×List MemPlace}
 (h:DataW.trod enc prog W base zE held zF 22 [v]=some y):
 ∃a cap ss,v=.slice a (List.length ss) cap/\Ae W W.heap.size a ss/\ss.length<=maxLen/\∀s∈ss,ByteArray.size s<=maxLen:=by
 rcases open_strings underlying22 underlying9 Fj h with⟨zB,_⟩|⟨a,len,cap,ss,zB,_,hl,hm,hn,_,zA,zH⟩
 ·simp at zB
  subst zB;exact⟨none,0,[],rfl,.inl rfl,by simp[maxLen],fun s hs=>by cases hs⟩
 ·simp at zB
  subst zB;have zI:len<=ss.length:=by rw[hn];split<;>omega
  have zG:(ss.take len).length=len:=by simp;omega
  refine⟨some a,cap,ss.take len,by rw[zG],?_,by rw[zG];omega,fun s hs=>zH s (List.mem_of_mem_take hs)⟩;by_cases h0:len=0
  ·exact .inl (by simp[h0])
  ·obtain⟨b,off,spot⟩:=a
   have zC:spot=none:=by simpa [Addr.add] using World.cell?_spot (zA 0 (by omega))
   subst zC;have hc:∀j,j<ss.length->W.cell? ⟨b,off+j,none⟩=some (.string (ss.getD j ByteArray.empty)):=fun j hj=>by rw[←Go.WideShapes.add_plain];exact zA j hj
   refine .inr ⟨b,off,rfl,?_,fun i s hs=> ?_⟩
   ·exact World.block_lt_of_cell? W ⟨b,off+0,none⟩ (hc 0 (by omega))
   ·have hi:i<len:=by
     have:=(XC hs).1;omega
    rw[List.getElem?_take_of_lt hi] at hs;rw[hc i (by omega)];simp[List.getD,hs]
theorem Gl {H:Type} {enc:TypeId×Value->H} {W:World} {base:Nat} {zA:Nat->Bool} {held:Bool} {zB:Nat} {v:Value} {y:DataW H×List MemPlace}
 (h:DataW.trod enc prog W base zA held zB 9 [v]=some y):∃s,v=.string s/\s.size<=maxLen:=by
 obtain⟨s,hs,_,hm⟩:=DataW.trod_string underlying9 h;simp at hs;exact⟨s,hs,hm⟩
theorem WG:prog.cellsOf 3=1:=by kernel_rfl
theorem Uf:prog.globalNamed "loop.example/kilnvault/impl.kindParts" =some 5:=by kernel_rfl
theorem Rl:(prog.globals[5]?).map (·.type)=some 247:=by kernel_rfl
theorem Rm:prog.cellsOf 211=4:=by kernel_rfl
theorem PG:prog.cellsOf 4=1:=by kernel_rfl
theorem Ug {α:Type} {l:List α} (h:l.length=4):∃a b c d,l=[a,b,c,d]:=by
 match l,h with
 |[a,b,c,d],_=>exact⟨a,b,c,d,rfl⟩
theorem NQ {H:Type} {enc:TypeId×Value->H} {W:World} {base:Nat} {zA:Nat->Bool} {held:Bool} {zB:Nat} {l:List Value} {p:List MemPlace} {a b c:Bool} {m:Int}
 (h:DataW.trod enc prog W base zA held zB 211 l=some (.agg [.lit (.bool a),.lit (.bool b),.lit (.bool c),.lit (.int .i64 m)],p)):l=[.bool a,.bool b,.bool c,.int .i64 m]:=by
 obtain⟨xs,n0,_,hx,hl,zC,hf⟩:=DataW.trod_struct underlying211 h;rw[Rm] at hl;obtain⟨v0,v1,v2,v3,rfl⟩:=Ug hl;obtain⟨x0,x1,x2,x3,rfl⟩:=Ug zC;have f0:DataW.trod enc prog W base zA held n0 4 [v0]=some x0:=by simpa [PG] using hf 0 _ rfl
 have f1:DataW.trod enc prog W base zA held n0 4 [v1]=some x1:=by simpa [PG] using hf 1 _ rfl
 have f2:DataW.trod enc prog W base zA held n0 4 [v2]=some x2:=by simpa [PG] using hf 2 _ rfl
 have f3:DataW.trod enc prog W base zA held n0 3 [v3]=some x3:=by simpa [WG] using hf 3 _ rfl
 obtain⟨a',e0,rfl⟩:=DataW.trod_bool underlying4 f0;obtain⟨b',e1,rfl⟩:=DataW.trod_bool underlying4 f1;obtain⟨c',e2,rfl⟩:=DataW.trod_bool underlying4 f2;obtain⟨m',e3,rfl,_⟩:=DataW.trod_int underlying3 f3;simp at e0 e1 e2 e3 hx;obtain⟨⟨rfl,rfl,rfl,rfl⟩,_⟩:=hx;rw[e0,e1,e2,e3]
theorem MU {W:World} {cs:Array Value} {zA:Nat} {p:List MemPlace} (zB:W.var? prog "loop.example/kilnvault/impl.kindParts" =some cs)
 (hd:DataW.trod (fun _=>()) prog W 0 (fun _=>true) false zA 247 cs.toList=some (Rows.laid_loop_example_kilnvault_impl_kindParts,p)):Ka W:=by
 obtain⟨xs,n0,_,hx,hl,zF,hf⟩:=DataW.trod_array underlying247 hd;rw[Rm] at hf;have zG:xs.map (·.1)=_:=(DataW.agg.inj (Prod.mk.inj hx).1).symm;intro k h1 h7;have key:(xs.map (·.1))[k]?=some (.agg [.lit (.bool (CS k)),.lit (.bool (Di k)),.lit (.bool (Cx k)),.lit (.int .i64 (Co k))]):=by
  rw[zG]
  match k,h1,h7 with
  |1,_,_=>rfl
  |2,_,_=>rfl
  |3,_,_=>rfl
  |4,_,_=>rfl
  |5,_,_=>rfl
  |6,_,_=>rfl
  |7,_,_=>rfl
 rw[List.getElem?_map] at key;obtain⟨⟨yd,yp⟩,hy,zC⟩:=Option.map_eq_some_iff.1 key;simp only at zC;subst zC;have hk:=hf k (by omega);rw[hy] at hk;have zE:=NQ hk;have at_:∀j,j<4->W.cell? ⟨5,k *4+j,none⟩=([.bool (CS k),.bool (Di k),.bool (Cx k),.int .i64 (Co k)]:List Value)[j]?:=by
  intro j hj;rw[World.var?_cell Uf zB,←zE,List.getElem?_take_of_lt hj,List.getElem?_drop];simp
 exact⟨at_ 0 (by omega),at_ 1 (by omega),at_ 2 (by omega),at_ 3 (by omega)⟩
end Go.Proofs.YtpekbmegopfhfaaGreatDoor
