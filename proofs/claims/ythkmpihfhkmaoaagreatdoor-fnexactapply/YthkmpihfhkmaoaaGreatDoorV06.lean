import Derived.Test.YthkmpihfhkmaoaaGreatDoorV05
import Derived.Test.YthkmpihfhkmaoaaGreatDoorV03
import Derived.Test.YthkmpihfhkmaoaaGreatDoorV01
import Derived.WideKeyEntry
import Derived.Maps.Views
import Derived.Deep.RegionWith
import Derived.Deep.DrawnRows
import Derived.Deep.RegionHeld3
import Derived.Maps.AppendAt
import Derived.Maps.Range
import Derived.Deep.AppendLies
import Derived.Deep.RegionLaw
import Derived.Deep.DeepCutAuto
namespace Go.Proofs.YthkmpihfhkmaoaaGreatDoor
open Go.ChangeShapes Go.WideShapes Go.ChangeAt Go.RowKit
attribute [local go_sem↓] Go.wp_at_zero Go.wp_at_succ
def HBox (w:World) (b:Nat) (wd:Int) (m:Nat):Prop:=w.cell? ⟨b,0,none⟩=some (.int .i64 wd)/\w.cell? ⟨b,1,none⟩=some (.map (some m))/\b<w.heap.size
theorem HBox.new (w:World) (wd:Int) (m:Nat) (t:TypeId):HBox (w.alloc (.cells #[.int .i64 wd,.map (some m)] t)) w.heap.size wd m:=⟨by simp,by simp,by simp⟩
theorem HBox.keep {w w':World} {b B m:Nat} {wd:Int} (h:HBox w b wd m) (hb:Below B w w') (hB:b<B):HBox w' b wd m:=
 ⟨(hb.cell (p:=⟨b,0,none⟩) hB).trans h.1,(hb.cell (p:=⟨b,1,none⟩) hB).trans h.2.1,Nat.lt_of_lt_of_le h.2.2 hb.size⟩
def HasAt (w:World) (wd:Int) (m:Nat) (ks:List Kd) (s:ByteArray):Prop:=
 ∃ok,(ok=true↔There ks s)/\∀w',Below w.heap.size w w'->Calls Tryz.prog 142 #[.agg #[.int .i64 wd,.map (some m)],.string s] w' fun e w''=>e=.returned (.bool ok)/\Below w'.heap.size w' w''
def Says (P:Prop) (w0 w:World) (e:Ending):Prop:=∃b,e=.returned (.bool b)/\(b=true↔P)/\Below w0.heap.size w0 w
theorem Says.yes {P:Prop} {w0 w:World} (h:P) (hb:Below w0.heap.size w0 w):Says P w0 w (.returned (.bool true)):=⟨_,rfl,by simpa using h,hb⟩
theorem Says.no {P:Prop} {w0 w:World} (h:¬P) (hb:Below w0.heap.size w0 w):Says P w0 w (.returned (.bool false)):=⟨_,rfl,by simpa using h,hb⟩
theorem wrap_big {a:Int} (h0:0<=a) (h1:a<=2000000000):IntKind.i64.wrap a=a:=by
 unfold IntKind.wrap;simp[IntKind.signed,IntKind.bits];omega
set_option maxRecDepth 20000 in
set_option maxHeartbeats 4000000 in
theorem ivalidPins_any (wd now given births:Int) (T P L:Value) (a:Option Addr) (ac m:Nat) (ks:List Kd) (ps:List Pd) (w:World) (hrow:PRow w w.heap.size a ps) (hm:PMem ps) (hl:ps.length<=1048576) (hhas:∀s,HasAt w wd m ks s) (hX:P=.slice a ps.length ac):
 Calls Tryz.prog 100 #[.agg #[.int .i64 wd,.int .i64 now,.int .i64 given,.int .i64 births,T,P,L],.agg #[.int .i64 wd,.map (some m)]] w fun e w'=>Says (ps.length<=100/\∀(i:Nat) x,ps[i]?=some x->PinAt ks ps i x) w w' e:=by
 subst hX;have hb0:∀o1 o2,Below w.heap.size w ((w.alloc o1).alloc o2):=fun o1 o2=>((Below.refl _ _).alloc (Nat.le_refl _) _).alloc (by simp) _;by_cases hn:100<ps.length
 ·go_enter Tryz.func100,Tryz.ntmps100
  go_wp2;go_ret;exact Says.no (fun h=>by omega) (hb0 _ _)
 ·have hx:=SBox.below (SBox.new w wd now given births T (.slice a ps.length ac) L 38) ((Below.refl _ _).alloc (Nat.le_refl _) (.cells #[.int .i64 wd,.map (some m)] 145))
  have hh:HBox ((w.alloc (.cells #[.int .i64 wd,.int .i64 now,.int .i64 given,.int .i64 births,T,(.slice a ps.length ac),L] 38)).alloc (.cells #[.int .i64 wd,.map (some m)] 145)) (w.heap.size+1) wd m:=⟨by simp[go_sem],by simp[go_sem],by simp⟩;go_enter Tryz.func100,Tryz.ntmps100;go_wp2
  go_loopw [14] (fun i wr=>∃k:Nat,k<=ps.length/\i=.int .i64 k/\Below w.heap.size w wr/\Hid (SBox wr w.heap.size wd now given births T (.slice a ps.length ac) L)/\Hid (HBox wr (w.heap.size+1) wd m)/\Hid (∀(j:Nat) x,j<k->ps[j]?=some x->PinAt ks ps j x)) (fun i _=>ps.length -(intOf i).toNat)
  case atStart=>exact⟨0,Nat.zero_le _,rfl,hb0 _ _,hx,hh,fun j x h=>by omega⟩
  case round=>
   obtain⟨k,hk,rfl,hbel,HX,HH,hall⟩:=hrel;obtain⟨x0,x1,x2,x3,x4,x5,x6,x7⟩:=HX.out;obtain⟨g0,g1,g2⟩:=HH.out;by_cases hlt:k<ps.length
   ·obtain⟨b,off,ha,hb,hc⟩:=(hrow.below hbel).at hlt
    subst ha;have hg:ps[k]?=some ps[k]:=List.getElem?_eq_getElem hlt;obtain⟨c0,c1⟩:=hc k _ hg;have hmem:=List.getElem_mem hlt;have m1:=hm.name _ hmem;have hbr:b<wr.heap.size:=by omega
    match k,hk,hlt,hall,hg,c0,c1,m1 with
    |0,hk,hlt,hall,hg,c0,c1,m1=>
     have HG:Hid _:=hg;clear hc hrow hm hmem hg;simp only[Nat.zero_mul,Nat.add_zero] at c0 c1;generalize ps[0]=x at *
     go_wp2;go_quiet (fail);have hBx:Below w.heap.size w ((wr.alloc (Obj.cells #[Value.string x.name,Value.string x.sum] 130)).drewN nq):=belowN (hbel.alloc hbel.size _) _;have hbx:Below wr.heap.size wr ((wr.alloc (Obj.cells #[Value.string x.name,Value.string x.sum] 130)).drewN nq):=belowN ((Below.refl _ _).alloc (Nat.le_refl _) _) _;obtain⟨ok,hok,hcl⟩:=hhas x.sum;have HC:Hid _:=hcl _ hBx
     clear hhas hcl;go_wp2_with fail;refine(iName_any x.name _ m1).mono ?_;rintro e w1 ⟨rfl,rfl⟩;cases hnm:nameOk x.name with
     |false=>
      go_wp2;go_ret;refine Says.no (fun h=> ?_) (hBx);exact by have:=(h.2 _ _ HG.out).name;rw[hnm] at this;cases this
     |true=>
      go_wp2_with fail;refine Calls.mono HC.out ?_;rintro e w2 ⟨rfl,hb2⟩;have hB2:=hBx.trans (hb2.mono hBx.size);have hbn:=hbx.trans (hb2.mono hbx.size);cases ok with
      |false=>
       go_wp2;go_ret;refine Says.no (fun h=> ?_) (hB2);exact by have:=hok.2 (h.2 _ _ HG.out).sum;cases this
      |true=>
       have HA:Hid (∀(j':Nat) y,j'<0+1->ps[j']?=some y->PinAt ks ps j' y):=by
        intro j' y hj hy;rcases Nat.lt_or_ge j' (0) with h'|h'
        ·exact hall.out j' y h' hy
        ·obtain rfl:j'=0:=by omega
         rw[HG.out] at hy;cases hy;exact⟨hnm,fun j p h=>by omega,hok.1 rfl⟩
       go_wp2;exact⟨⟨0+1,by omega,by go_num,hB2,SBox.keep HX.out hbn x7,HBox.keep HH.out hbn g2,HA⟩,by simp[intOf];omega⟩
    |j+1,hk,hlt,hall,hg,c0,c1,m1=>
     have HG:Hid _:=hg;have HP:Hid (ps[j]?=some ps[j]):=List.getElem?_eq_getElem (by omega);obtain⟨d0,_⟩:=hc j _ HP.out;clear hc hrow hm hmem hg;generalize ps[j+1]=x at *
     generalize ps[j]=p at *
     have hwj:IntKind.i64.wrap (j:Int)=(j:Int):=wrap_small (by omega) (by omega);have hj0:(0:Int)<=(j:Int):=by omega
     have hj1:(j:Int)<(ps.length:Int):=by omega
     cases hless:Op.bytesLess p.name.toList x.name.toList with
     |false=>
      go_wp2;go_quiet (fail);go_wp2;go_ret;refine Says.no (fun h=> ?_) (belowN (hbel.alloc hbel.size _) _);exact by have:=(h.2 _ _ HG.out).up j p rfl HP.out;unfold less at this;rw[hless] at this;cases this
     |true=>
      go_wp2;go_quiet (fail);have hBx:Below w.heap.size w ((wr.alloc (Obj.cells #[Value.string x.name,Value.string x.sum] 130)).drewN nq):=belowN (hbel.alloc hbel.size _) _;have hbx:Below wr.heap.size wr ((wr.alloc (Obj.cells #[Value.string x.name,Value.string x.sum] 130)).drewN nq):=belowN ((Below.refl _ _).alloc (Nat.le_refl _) _) _;obtain⟨ok,hok,hcl⟩:=hhas x.sum;have HC:Hid _:=hcl _ hBx
      clear hhas hcl;go_wp2_with fail;refine(iName_any x.name _ m1).mono ?_;rintro e w1 ⟨rfl,rfl⟩;cases hnm:nameOk x.name with
      |false=>
       go_wp2;go_ret;refine Says.no (fun h=> ?_) (hBx);exact by have:=(h.2 _ _ HG.out).name;rw[hnm] at this;cases this
      |true=>
       go_wp2_with fail;refine Calls.mono HC.out ?_;rintro e w2 ⟨rfl,hb2⟩;have hB2:=hBx.trans (hb2.mono hBx.size);have hbn:=hbx.trans (hb2.mono hbx.size);cases ok with
       |false=>
        go_wp2;go_ret;refine Says.no (fun h=> ?_) (hB2);exact by have:=hok.2 (h.2 _ _ HG.out).sum;cases this
       |true=>
        have HA:Hid (∀(j':Nat) y,j'<(j+1)+1->ps[j']?=some y->PinAt ks ps j' y):=by
         intro j' y hj hy;rcases Nat.lt_or_ge j' ((j+1)) with h'|h'
         ·exact hall.out j' y h' hy
         ·obtain rfl:j'=(j+1):=by omega
          rw[HG.out] at hy;cases hy;exact⟨hnm,fun j2 p2 h hp2=>by cases h;rw[HP.out] at hp2;cases hp2;exact hless,hok.1 rfl⟩
        go_wp2;exact⟨⟨(j+1)+1,by omega,by go_num,hB2,SBox.keep HX.out hbn x7,HBox.keep HH.out hbn g2,HA⟩,by simp[intOf];omega⟩
   ·go_wp2
    go_ret;exact Says.yes ⟨by omega,fun i x hx=>hall.out i x (by have:=(List.getElem?_eq_some_iff.1 hx).1;omega) hx⟩ hbel
set_option maxRecDepth 20000 in
set_option maxHeartbeats 4000000 in
theorem ivalidLeases_any (wd now given births:Int) (T P L:Value) (a:Option Addr) (ac m:Nat) (ks:List Kd) (ls:List Ld) (w:World) (hrow:LRow w w.heap.size a ls) (hm:LMem ls) (hl:ls.length<=1048576) (hnow0:0<=now) (hnow:now<=1000000000) (hhas:∀s,HasAt w wd m ks s) (hX:L=.slice a ls.length ac):
 Calls Tryz.prog 101 #[.agg #[.int .i64 wd,.int .i64 now,.int .i64 given,.int .i64 births,T,P,L],.agg #[.int .i64 wd,.map (some m)]] w fun e w'=>Says (ls.length<=200/\∀(i:Nat) x,ls[i]?=some x->LeaseAt now given ks ls i x) w w' e:=by
 subst hX;have hb0:∀o1 o2,Below w.heap.size w ((w.alloc o1).alloc o2):=fun o1 o2=>((Below.refl _ _).alloc (Nat.le_refl _) _).alloc (by simp) _;by_cases hn:200<ls.length
 ·go_enter Tryz.func101,Tryz.ntmps101
  go_wp2;go_ret;exact Says.no (fun h=>by omega) (hb0 _ _)
 ·have hx:=SBox.below (SBox.new w wd now given births T P (.slice a ls.length ac) 38) ((Below.refl _ _).alloc (Nat.le_refl _) (.cells #[.int .i64 wd,.map (some m)] 145))
  have hh:HBox ((w.alloc (.cells #[.int .i64 wd,.int .i64 now,.int .i64 given,.int .i64 births,T,P,(.slice a ls.length ac)] 38)).alloc (.cells #[.int .i64 wd,.map (some m)] 145)) (w.heap.size+1) wd m:=⟨by simp[go_sem],by simp[go_sem],by simp⟩;go_enter Tryz.func101,Tryz.ntmps101;go_wp2
  go_loopw [14] (fun i wr=>∃k:Nat,k<=ls.length/\i=.int .i64 k/\Below w.heap.size w wr/\Hid (SBox wr w.heap.size wd now given births T P (.slice a ls.length ac))/\Hid (HBox wr (w.heap.size+1) wd m)/\Hid (∀(j:Nat) x,j<k->ls[j]?=some x->LeaseAt now given ks ls j x)) (fun i _=>ls.length -(intOf i).toNat)
  case atStart=>exact⟨0,Nat.zero_le _,rfl,hb0 _ _,hx,hh,fun j x h=>by omega⟩
  case round=>
   obtain⟨k,hk,rfl,hbel,HX,HH,hall⟩:=hrel;obtain⟨x0,x1,x2,x3,x4,x5,x6,x7⟩:=HX.out;obtain⟨g0,g1,g2⟩:=HH.out;by_cases hlt:k<ls.length
   ·obtain⟨b,off,ha,hb,hc⟩:=(hrow.below hbel).at hlt
    subst ha;have hg:ls[k]?=some ls[k]:=List.getElem?_eq_getElem hlt;obtain⟨c0,c1,c2⟩:=hc k _ hg;have hmem:=List.getElem_mem hlt;have m1:=hm.sum _ hmem;have hbr:b<wr.heap.size:=by omega
    match k,hk,hlt,hall,hg,c0,c1,c2,m1 with
    |0,hk,hlt,hall,hg,c0,c1,c2,m1=>
     have HG:Hid _:=hg;clear hc hrow hm hmem hg;simp only[Nat.zero_mul,Nat.add_zero] at c0 c1 c2;generalize ls[0]=x at *
     go_wp2;go_quiet (fail);have hBx:Below w.heap.size w ((wr.alloc (Obj.cells #[Value.int IntKind.i64 x.num,Value.string x.sum,Value.int IntKind.i64 x.til] 131)).drewN nq):=belowN (hbel.alloc hbel.size _) _
     have hbx:Below wr.heap.size wr ((wr.alloc (Obj.cells #[Value.int IntKind.i64 x.num,Value.string x.sum,Value.int IntKind.i64 x.til] 131)).drewN nq):=belowN ((Below.refl _ _).alloc (Nat.le_refl _) _) _
     have e0:((wr.alloc (Obj.cells #[Value.int IntKind.i64 x.num,Value.string x.sum,Value.int IntKind.i64 x.til] 131)).drewN nq).cell? ⟨wr.heap.size,2,none⟩=some (.int .i64 x.til):=by rw[drewN_cell];simp
     have e1:((wr.alloc (Obj.cells #[Value.int IntKind.i64 x.num,Value.string x.sum,Value.int IntKind.i64 x.til] 131)).drewN nq).heap.size=wr.heap.size+1:=by rw[drewN_size];simp
     obtain⟨ok,hok,hcl⟩:=hhas x.sum;have HC:Hid _:=hcl _ hBx;have HE:Hid _:=And.intro e0 e1;clear hhas hcl e0 e1;by_cases hlo:1<=x.num
     ·have hlo':decide (x.num<1)=false:=by simp;omega
      by_cases hhi:x.num<=given
      ·have hhi':decide (given<x.num)=false:=by simp;omega
       go_wp2_with fail;refine Calls.mono HC.out ?_;rintro e w2 ⟨rfl,hb2⟩;have hB2:=hBx.trans (hb2.mono hBx.size);have hbn:=hbx.trans (hb2.mono hbx.size);cases ok with
       |false=>
        go_wp2;go_ret;refine Says.no (fun h=> ?_) (hB2);exact by have:=hok.2 (h.2 _ _ HG.out).sum;cases this
       |true=>
        obtain⟨y0,y1,y2,y3,y4,y5,y6,y7⟩:=SBox.keep HX.out hbn x7;have e2:=(hb2.cell (p:=⟨wr.heap.size,2,none⟩) (by rw[HE.out.2];simp)).trans HE.out.1;have HK:Hid _:=And.intro hB2 (And.intro (SBox.keep HX.out hbn x7) (HBox.keep HH.out hbn g2));have HO:Hid _:=hok.1 rfl;clear x0 x1 x2 x3 x4 x5 x6 g0 g1 hbx hb2 hB2 hbn HX HH hok HC HE hb0 hx hh hbel m1 c0 c1 c2 hBx;by_cases ht1:now<x.til
        ·have ht1':decide (x.til<=now)=false:=by simp;omega
         by_cases ht2:x.til<=now+100000
         ·have ht2':decide (now+100000<x.til)=false:=by simp;omega
          have HA:Hid (∀(j':Nat) y,j'<0+1->ls[j']?=some y->LeaseAt now given ks ls j' y):=by
           intro j' y hj hy;rcases Nat.lt_or_ge j' (0) with h'|h'
           ·exact hall.out j' y h' hy
           ·obtain rfl:j'=0:=by omega
            rw[HG.out] at hy;cases hy;exact⟨hlo,hhi,fun j p h=>by omega,HO.out,ht1,ht2⟩
          go_wp2;exact⟨⟨0+1,by omega,by go_num,HK.out.1,HK.out.2.1,HK.out.2.2,HA⟩,by simp[intOf];omega⟩
         ·have ht2':decide (now+100000<x.til)=true:=by simp;omega
          go_wp2;go_ret;refine Says.no (fun h=> ?_) (HK.out.1);exact by have:=(h.2 _ _ HG.out).til2;omega
        ·have ht1':decide (x.til<=now)=true:=by simp;omega
         go_wp2;go_ret;refine Says.no (fun h=> ?_) (HK.out.1);exact by have:=(h.2 _ _ HG.out).til1;omega
      ·have hhi':decide (given<x.num)=true:=by simp;omega
       go_wp2;go_ret;refine Says.no (fun h=> ?_) (hBx);exact by have:=(h.2 _ _ HG.out).hi;omega
     ·have hlo':decide (x.num<1)=true:=by simp;omega
      go_wp2;go_ret;refine Says.no (fun h=> ?_) (hBx);exact by have:=(h.2 _ _ HG.out).lo;omega
    |j+1,hk,hlt,hall,hg,c0,c1,c2,m1=>
     have HG:Hid _:=hg;have HP:Hid (ls[j]?=some ls[j]):=List.getElem?_eq_getElem (by omega);obtain⟨d0,_,_⟩:=hc j _ HP.out;clear hc hrow hm hmem hg;generalize ls[j+1]=x at *
     generalize ls[j]=p at *
     have hwj:IntKind.i64.wrap (j:Int)=(j:Int):=wrap_small (by omega) (by omega);have hj0:(0:Int)<=(j:Int):=by omega
     have hj1:(j:Int)<(ls.length:Int):=by omega
     by_cases hless:p.num<x.num
     ·have hless':decide (x.num<=p.num)=false:=by simp;omega
      go_wp2;go_quiet (fail);have hBx:Below w.heap.size w ((wr.alloc (Obj.cells #[Value.int IntKind.i64 x.num,Value.string x.sum,Value.int IntKind.i64 x.til] 131)).drewN nq):=belowN (hbel.alloc hbel.size _) _
      have hbx:Below wr.heap.size wr ((wr.alloc (Obj.cells #[Value.int IntKind.i64 x.num,Value.string x.sum,Value.int IntKind.i64 x.til] 131)).drewN nq):=belowN ((Below.refl _ _).alloc (Nat.le_refl _) _) _
      have e0:((wr.alloc (Obj.cells #[Value.int IntKind.i64 x.num,Value.string x.sum,Value.int IntKind.i64 x.til] 131)).drewN nq).cell? ⟨wr.heap.size,2,none⟩=some (.int .i64 x.til):=by rw[drewN_cell];simp
      have e1:((wr.alloc (Obj.cells #[Value.int IntKind.i64 x.num,Value.string x.sum,Value.int IntKind.i64 x.til] 131)).drewN nq).heap.size=wr.heap.size+1:=by rw[drewN_size];simp
      obtain⟨ok,hok,hcl⟩:=hhas x.sum;have HC:Hid _:=hcl _ hBx;have HE:Hid _:=And.intro e0 e1;clear hhas hcl e0 e1;by_cases hlo:1<=x.num
      ·have hlo':decide (x.num<1)=false:=by simp;omega
       by_cases hhi:x.num<=given
       ·have hhi':decide (given<x.num)=false:=by simp;omega
        go_wp2_with fail;refine Calls.mono HC.out ?_;rintro e w2 ⟨rfl,hb2⟩;have hB2:=hBx.trans (hb2.mono hBx.size);have hbn:=hbx.trans (hb2.mono hbx.size);cases ok with
        |false=>
         go_wp2;go_ret;refine Says.no (fun h=> ?_) (hB2);exact by have:=hok.2 (h.2 _ _ HG.out).sum;cases this
        |true=>
         obtain⟨y0,y1,y2,y3,y4,y5,y6,y7⟩:=SBox.keep HX.out hbn x7;have e2:=(hb2.cell (p:=⟨wr.heap.size,2,none⟩) (by rw[HE.out.2];simp)).trans HE.out.1;have HK:Hid _:=And.intro hB2 (And.intro (SBox.keep HX.out hbn x7) (HBox.keep HH.out hbn g2));have HO:Hid _:=hok.1 rfl;clear x0 x1 x2 x3 x4 x5 x6 g0 g1 hbx hb2 hB2 hbn HX HH hok HC HE hb0 hx hh hbel m1 c0 c1 c2 hBx;by_cases ht1:now<x.til
         ·have ht1':decide (x.til<=now)=false:=by simp;omega
          by_cases ht2:x.til<=now+100000
          ·have ht2':decide (now+100000<x.til)=false:=by simp;omega
           have HA:Hid (∀(j':Nat) y,j'<(j+1)+1->ls[j']?=some y->LeaseAt now given ks ls j' y):=by
            intro j' y hj hy;rcases Nat.lt_or_ge j' ((j+1)) with h'|h'
            ·exact hall.out j' y h' hy
            ·obtain rfl:j'=(j+1):=by omega
             rw[HG.out] at hy;cases hy;exact⟨hlo,hhi,fun j2 p2 h hp2=>by cases h;rw[HP.out] at hp2;cases hp2;exact hless,HO.out,ht1,ht2⟩
           go_wp2;exact⟨⟨(j+1)+1,by omega,by go_num,HK.out.1,HK.out.2.1,HK.out.2.2,HA⟩,by simp[intOf];omega⟩
          ·have ht2':decide (now+100000<x.til)=true:=by simp;omega
           go_wp2;go_ret;refine Says.no (fun h=> ?_) (HK.out.1);exact by have:=(h.2 _ _ HG.out).til2;omega
         ·have ht1':decide (x.til<=now)=true:=by simp;omega
          go_wp2;go_ret;refine Says.no (fun h=> ?_) (HK.out.1);exact by have:=(h.2 _ _ HG.out).til1;omega
       ·have hhi':decide (given<x.num)=true:=by simp;omega
        go_wp2;go_ret;refine Says.no (fun h=> ?_) (hBx);exact by have:=(h.2 _ _ HG.out).hi;omega
      ·have hlo':decide (x.num<1)=true:=by simp;omega
       go_wp2;go_ret;refine Says.no (fun h=> ?_) (hBx);exact by have:=(h.2 _ _ HG.out).lo;omega
     ·have hless':decide (x.num<=p.num)=true:=by simp;omega
      go_wp2;go_quiet (fail);go_wp2;go_ret;refine Says.no (fun h=> ?_) (belowN (hbel.alloc hbel.size _) _);exact by have:=(h.2 _ _ HG.out).up j p rfl HP.out;omega
   ·go_wp2
    go_ret;exact Says.yes ⟨by omega,fun i x hx=>hall.out i x (by have:=(List.getElem?_eq_some_iff.1 hx).1;omega) hx⟩ hbel
end Go.Proofs.YthkmpihfhkmaoaaGreatDoor
namespace Go.Proofs.YthkmpihfhkmaoaaGreatDoor
open Go.ChangeShapes Go.WideShapes Go.ChangeAt Go.RowKit
theorem key_out (s:ByteArray) (w:World):
 Calls Tryz.prog 110 #[.string s] w fun e w'=>e=.returned (.agg #[.int .u8 (kB s 0),.int .u8 (kB s 1),.int .u8 (kB s 2),.int .u8 (kB s 3),.int .u8 (kB s 4),.int .u8 (kB s 5),.int .u8 (kB s 6),.int .u8 (kB s 7)])/\Below w.heap.size w w':=key_any s w
def oneK (s:ByteArray):Obj:=.cells #[.int .u8 (kB s 0),.int .u8 (kB s 1),.int .u8 (kB s 2),.int .u8 (kB s 3),.int .u8 (kB s 4),.int .u8 (kB s 5),.int .u8 (kB s 6),.int .u8 (kB s 7)] 162
theorem R8.one (w:World) (s:ByteArray):R8 (w.alloc (oneK s)) (w.heap.size+1) (.slice (some ⟨w.heap.size,0,none⟩) 1 1) [s]:=by
 refine .inr ⟨w.heap.size,0,1,rfl,by omega,fun i t ht j hj=> ?_⟩;cases i with
 |zero=>
  simp at ht;subst ht;rw[Nat.zero_mul,Nat.zero_add,Nat.zero_add];unfold oneK;rw[World.cell?_alloc_at _ _ _ _ rfl]
  match j,hj with
  |0,_|1,_|2,_|3,_|4,_|5,_|6,_|7,_=>rfl
 |succ i=>simp at ht
theorem QRow.alloc {w:World} {base:Nat} {v:Value} {ss:List ByteArray} (h:QRow w base v ss) (o:Obj):QRow (w.alloc o) base v ss:=h.below ((Below.refl _ _).alloc (Nat.le_refl _) _)
theorem qpush (w:World) (base:Nat) (v:Value) (ss:List ByteArray) (hq:QRow w base v ss) (s:ByteArray) (hn:ss.length<=1000000) (hbase:base<=w.heap.size) (ty:TypeId):
 ∃v' w',(Builtin.append_ #[158,158] ty #[v,.slice (some ⟨w.heap.size,0,none⟩) 1 1]).run Tryz.prog (w.alloc (oneK s))=.ok v' w'/\QRow w' base v' (ss++[s])/\w.grownBy w' (sBlk v)/\(sBlk v'=sBlk v∨sBlk v'=some (w.heap.size+1)):=by
 obtain⟨v',w',h1,h2,h3,h4⟩:=qappend (w.alloc (oneK s)) base v ss (hq.alloc _) _ [s] _ (R8.one w s) (by simp;omega) (by simp;omega) ty;refine⟨v',w',h1,h2,(World.grownBy_alloc w (oneK s) (sBlk v)).trans h3,?_⟩;simpa using h4
end Go.Proofs.YthkmpihfhkmaoaaGreatDoor
namespace Go.Proofs.YthkmpihfhkmaoaaGreatDoor
open Go.ChangeShapes Go.WideShapes Go.ChangeAt Go.RowKit
attribute [local go_sem↓] Go.wp_at_zero Go.wp_at_succ
section
open Go.WideElems Go.MapKept Go.ChangeMaps
theorem setBlock_twice (w:World) (b:Nat) (x y:Obj):setBlock (setBlock w b x) b y=setBlock w b y:=by simp[setBlock]
theorem store_run {P:Program} {w2:World} {t:TypeId} {b:Nat} {es:Array MapEntry} {clock st i:Nat} (val:Value) (hw2:w2.heap[b]?=some (.map es clock)) (hidx:es.findIdx? (fun e=>((e.born:Nat):Int)==((st:Nat):Int))=some i):
 (Instr.entryStore t (.map (some b)) (goInt st) val).run P w2=.ok () (setBlock w2 b (.map (es.modify i (fun e=>{e with val:=val})) clock)):=by
 simp[Instr.entryStore,MapKept.run_getObj_map hw2,asInt,asIntOf,goInt,hidx,MapKept.run_setObj_map _ hw2,Result.andThen,setBlock]
theorem entry_all {H:Type} {P:Program} {w:World} {t k e:TypeId} {R:Value->Option (DataW H×List MemPlace)} {b:Nat} {es:Array MapEntry} {clock:Nat} (K:Maps.Keyed P k) (ht:P.underlying t=some (.map k e)) {z:Value}
 (hz:∀u:World,(zeroValue e).run P u=.ok z u) (hb:w.heap[b]?=some (.map es clock)) (F:Fit P k R es clock) {key:Value} {kl:Lit} (hkey:keyOf P k key=some kl):
 ∃(v0:Value) (st:Nat) (w3:World),(Instr.mapEntry t (.map (some b)) key).run P w=.ok (.tuple #[v0,goInt st]) w3/\(Instr.lookup t (.map (some b)) key false).run P w=.ok v0 w/\(Instr.mapUpdate t (.map (some b)) key v0).run P w=.ok () w3/\
  ∀val:Value,∃w4,(Instr.entryStore t (.map (some b)) (goInt st) val).run P w3=.ok () w4/\(Instr.mapUpdate t (.map (some b)) key val).run P w=.ok () w4:=by
 obtain⟨s1,s2,_⟩:=F.stamped;rcases K.find w hkey es.toList F.keys with⟨h1,h2⟩|⟨j,e0,h1,h2,h3⟩
 ·have hw3:(setBlock w b (.map (es.push ⟨key,z,clock⟩) (clock+1))).heap[b]?=some (.map (es.push ⟨key,z,clock⟩) (clock+1)):=heap_setBlock_same hb _
  refine⟨z,clock,setBlock w b (.map (es.push ⟨key,z,clock⟩) (clock+1)),?_,?_,?_,fun val=>⟨setBlock w b (.map (es.push ⟨key,val,clock⟩) (clock+1)),?_,?_⟩⟩
  ·simp[Instr.mapEntry,run_underlying ht,MapKept.run_getObj_map hb,K.check w false hkey,h1,hz,MapKept.run_setObj_map _ hb,Result.andThen,setBlock]
  ·simp[Instr.lookup,run_underlying ht,MapKept.run_getObj_map hb,K.check w _ hkey,h1,hz,Result.andThen]
  ·simp[Instr.mapUpdate,run_underlying ht,MapKept.run_getObj_map hb,K.check w false hkey,h1,MapKept.run_setObj_map _ hb,Result.andThen,setBlock]
  ·have hidx:(es.push ⟨key,z,clock⟩).findIdx? (fun e=>((e.born:Nat):Int)==((clock:Nat):Int))=some es.size:=by
    rw[findIdx_arr];have:=findIdx_born (l:=(es.push ⟨key,z,clock⟩).toList) (j:=es.size) (e0:=⟨key,z,clock⟩) (by
     simp only[Array.toList_push,List.map_append,List.map_cons,List.map_nil];refine List.nodup_append.2 ⟨s2,by simp,fun a ha c hc e1=> ?_⟩;simp only[List.mem_singleton] at hc;obtain⟨x,hx,rfl⟩:=List.mem_map.1 ha;have:=s1 x hx;omega) (by simp)
    exact this
   have hmod:(es.push ⟨key,z,clock⟩).modify es.size (fun e=>{e with val:=val})=es.push ⟨key,val,clock⟩:=by
    apply Array.ext';rw[Array.toList_modify,Array.toList_push,Array.toList_push,←Array.length_toList,modify_last]
   rw[store_run val hw3 hidx,setBlock_twice,hmod]
  ·simp[Instr.mapUpdate,run_underlying ht,MapKept.run_getObj_map hb,K.check w false hkey,h1,MapKept.run_setObj_map _ hb,Result.andThen,setBlock]
 ·have hj:es[j]?=some e0:=by simpa using h2
  have hsame:es.modify j (fun e=>{e with key:=key})=es:=by
   apply Array.ext';rw[Array.toList_modify,modify_eq_set _ _ _ _ h2];have:({e0 with key:=key}:MapEntry)=e0:=by rw[←h3]
   rw[this];exact set_self _ _ _ h2
  have hsame2:es.modify j (fun e'=>{e' with key:=key,val:=e0.val})=es:=by
   apply Array.ext';rw[Array.toList_modify,modify_eq_set _ _ _ _ h2];have:({e0 with key:=key,val:=e0.val}:MapEntry)=e0:=by rw[←h3]
   rw[this];exact set_self _ _ _ h2
  have hw3:(setBlock w b (.map es clock)).heap[b]?=some (.map es clock):=heap_setBlock_same hb _;refine⟨e0.val,e0.born,setBlock w b (.map es clock),?_,?_,?_,fun val=>⟨setBlock w b (.map (es.modify j (fun e'=>{e' with key:=key,val:=val})) clock),?_,?_⟩⟩
  ·simp[Instr.mapEntry,run_underlying ht,MapKept.run_getObj_map hb,K.check w false hkey,h1,hj,h3,K.stays w hkey,hsame,MapKept.run_setObj_map _ hb,Result.andThen,setBlock]
  ·simp[Instr.lookup,run_underlying ht,MapKept.run_getObj_map hb,K.check w _ hkey,h1,Result.andThen]
  ·simp[Instr.mapUpdate,run_underlying ht,MapKept.run_getObj_map hb,K.check w false hkey,h1,hj,h3,K.stays w hkey,hsame2,MapKept.run_setObj_map _ hb,Result.andThen,setBlock]
  ·have hidx:es.findIdx? (fun e=>((e.born:Nat):Int)==((e0.born:Nat):Int))=some j:=by
    rw[findIdx_arr];exact findIdx_born s2 h2
   have hmod:es.modify j (fun e=>{e with val:=val})=es.modify j (fun e'=>{e' with key:=key,val:=val}):=by
    apply Array.ext';rw[Array.toList_modify,Array.toList_modify,modify_eq_set _ _ _ _ h2,modify_eq_set _ _ _ _ h2,←h3]
   rw[store_run val hw3 hidx,setBlock_twice,hmod]
  ·simp[Instr.mapUpdate,run_underlying ht,MapKept.run_getObj_map hb,K.check w false hkey,h1,hj,h3,K.stays w hkey,MapKept.run_setObj_map _ hb,Result.andThen,setBlock]
end
def KMapC (w:World) (K:TypeId) (b n c:Nat) (f:Lit->Option Value):Prop:=
 ∃D:DataW Value,w.ownsMap Tryz.prog K heldR b n D/\(∀kl z,D.atKey kl (.held z)=.held ((f kl).getD z))/\(∀kl,Maps.has D kl=(f kl).isSome)/\Maps.Tidy D/\Maps.size D=c
theorem KMapC.map {w:World} {K:TypeId} {b n c:Nat} {f:Lit->Option Value} (h:KMapC w K b n c f):KMap w K b n f:=let ⟨D,h1,h2,h3,_⟩:=h;⟨D,h1,h2,h3⟩
theorem KMapC.new (w:World) (K:TypeId):KMapC (w.alloc (.map #[] 0)) K w.heap.size 0 0 (fun _=>none):=
 ⟨.map [],World.ownsMap_made _ _ _ _,fun _ _=>rfl,fun _=>rfl,Maps.tidy_empty,rfl⟩
theorem KMapC.keep {w w':World} {K:TypeId} {b n c:Nat} {f:Lit->Option Value} (h:KMapC w K b n c f) {B:Nat} (hb:Below B w w') (hB:b<B):KMapC w' K b n c f:=by
 obtain⟨D,⟨es,clock,h1,h2⟩,h3⟩:=h;exact⟨D,⟨es,clock,(hb.block b hB).trans h1,h2⟩,h3⟩
theorem KMapC.lt {w:World} {K:TypeId} {b n c:Nat} {f:Lit->Option Value} (h:KMapC w K b n c f):b<w.heap.size:=h.choose_spec.1.lt
theorem KMapC.len {w:World} {K t e:TypeId} {b n c:Nat} {f:Lit->Option Value} (h:KMapC w K b n c f) (ht:Tryz.prog.underlying t=some (.map K e)) (ty:TypeId):(Builtin.len_ #[t] ty #[.map (some b)]).run Tryz.prog w=.ok (.int .i64 c) w:=by
 obtain⟨D,h1,_,_,_,h5⟩:=h;rw[←h5];exact h1.len ht ty
theorem KMapC.put {w:World} {K t e:TypeId} {b n c:Nat} {f:Lit->Option Value} (h:KMapC w K b n c f) (hK:Maps.Keyed Tryz.prog K) (ht:Tryz.prog.underlying t=some (.map K e)) (hn:n<maxLen) {key val:Value} {kl:Lit} (hkey:keyOf Tryz.prog K key=some kl):
 ∃w',(Instr.mapUpdate t (.map (some b)) key val).run Tryz.prog w=.ok () w'/\KMapC w' K b (n+1) (if (f kl).isSome then c else c+1) (upd f kl val)/\w.grownBy w' (some b):=by
 obtain⟨D,h1,h2,h3,h4,h5⟩:=h;obtain⟨w',hr,ho,hg⟩:=h1.update hK ht hn hkey (d:=.held val) (ps:=[]) (val:=val) rfl;have hm:=h1.isMap;have hik:=hK.key hkey;refine⟨w',hr,⟨_,ho,fun x z=> ?_,fun x=> ?_,h4.put hik _,?_⟩,hg⟩
 ·by_cases hx:x=kl
  ·subst hx;rw[Maps.atKey_put_same hm hik,upd_same];rfl
  ·rw[Maps.atKey_put_other hx,upd_other _ _ hx];exact h2 x z
 ·by_cases hx:x=kl
  ·subst hx;rw[Maps.has_put_same hm hik,upd_same];rfl
  ·rw[Maps.has_put_other hx,upd_other _ _ hx];exact h3 x
 ·rw[Maps.size_put h4,h3,h5]
theorem KMapC.bump {w:World} {K t e:TypeId} {b n c:Nat} {f:Lit->Option Value} (h:KMapC w K b n c f) (hK:Maps.Keyed Tryz.prog K) (ht:Tryz.prog.underlying t=some (.map K e)) (hn:n<maxLen) {z:Value} (hz:∀u:World,(zeroValue e).run Tryz.prog u=.ok z u) {key:Value} {kl:Lit} (hkey:keyOf Tryz.prog K key=some kl) (val:Value):
 ∃st w3 w4,(Instr.mapEntry t (.map (some b)) key).run Tryz.prog w=.ok (.tuple #[(f kl).getD z,goInt st]) w3/\(Instr.lookup t (.map (some b)) key false).run Tryz.prog w=.ok ((f kl).getD z) w/\(Instr.lookup t (.map (some b)) key false).run Tryz.prog w3=.ok ((f kl).getD z) w3/\
  (Instr.entryStore t (.map (some b)) (goInt st) val).run Tryz.prog w3=.ok () w4/\KMapC w4 K b (n+1) (if (f kl).isSome then c else c+1) (upd f kl val)/\w.grownBy w3 (some b)/\w.grownBy w4 (some b):=by
 have h0:=h;obtain⟨D,⟨es,clock,hb,F,hs,hD⟩,h2,h3,h4,h5⟩:=h;obtain⟨v0,st,w3,he,hl,hu,hst⟩:=entry_all hK ht hz hb F hkey;have hl':=h0.map.look hK ht (hz w) hkey;rw[hl] at hl';cases hl';obtain⟨w4,hs4,hu4⟩:=hst val;obtain⟨w3',hu3,hm3,hg3⟩:=h0.put hK ht hn hkey (val:=(f kl).getD z);rw[hu] at hu3;cases hu3;obtain⟨w4',hu4',hm4,hg4⟩:=h0.put hK ht hn hkey (val:=val);rw[hu4] at hu4';cases hu4'
 have hl3:=hm3.map.look hK ht (hz w3) hkey;rw[upd_same] at hl3;exact⟨st,w3,w4,he,hl,hl3,hs4,hm4,hg3,hg4⟩
structure MK (ms:List ByteArray) (f:Lit->Option Value) (c:Nat):Prop where
 has:∀l,(f l).isSome=true↔l∈ms.map keyL
 num:∀l v,f l=some v->∃n:Int,v=.int .i64 n/\1<=n/\n<=ms.length
 le:c<=ms.length
 all:c=ms.length↔(ms.map keyL).Nodup
theorem MK.nil:MK [] (fun _=>none) 0:=⟨fun l=>(by simp),fun l v h=>(by simp at h),Nat.le_refl _,(by simp)⟩
theorem MK.get {ms:List ByteArray} {f:Lit->Option Value} {c:Nat} (h:MK ms f c) (l:Lit):∃n:Int,(f l).getD (.int .i64 0)=.int .i64 n/\0<=n/\n<=ms.length/\(0<n↔l∈ms.map keyL):=by
 cases hf:f l with
 |none=>
  refine⟨0,rfl,Int.le_refl _,by omega,?_⟩;have:=h.has l;rw[hf] at this;simp at this ⊢;exact this
 |some v=>
  obtain⟨n,rfl,h1,h2⟩:=h.num l v hf;have:=h.has l;rw[hf] at this;exact⟨n,rfl,by omega,h2,⟨fun _=>this.1 rfl,fun _=>by omega⟩⟩
theorem MK.snoc {ms:List ByteArray} {f:Lit->Option Value} {c:Nat} (h:MK ms f c) (x:ByteArray) {n:Int} (h0:0<=n) (h1:n<=ms.length):
 MK (ms++[x]) (upd f (keyL x) (.int .i64 (n+1))) (if (f (keyL x)).isSome then c else c+1):=by
 have hx:=h.has (keyL x);refine⟨fun l=> ?_,fun l v hv=> ?_,?_,?_⟩
 ·by_cases e:l=keyL x
  ·subst e;rw[upd_same];simp
  ·rw[upd_other _ _ e,h.has l]
   simp only[List.map_append,List.map_cons,List.map_nil,List.mem_append,List.mem_singleton];exact⟨fun h=> .inl h,fun h=>h.resolve_right e⟩
 ·by_cases e:l=keyL x
  ·subst e
   rw[upd_same] at hv;cases hv;exact⟨n+1,rfl,by omega,by simp;omega⟩
  ·rw[upd_other _ _ e] at hv
   obtain⟨m,e1,e2,e3⟩:=h.num l v hv;exact⟨m,e1,e2,by simp;omega⟩
 ·have:=h.le
  split<;>simp<;>omega
 ·have hle:=h.le
  have hal:=h.all;rw[List.map_append,List.map_cons,List.map_nil,List.length_append];by_cases hm:keyL x∈ms.map keyL
  ·rw[if_pos (hx.2 hm)]
   constructor
   ·intro e;simp at e;omega
   ·intro e
    have:=(List.nodup_append.1 e).2.2 _ hm _ (by simp) rfl;cases this
  ·rw[if_neg (fun e=>hm (hx.1 e))]
   constructor
   ·intro e
    refine List.nodup_append.2 ⟨hal.1 (by simp at e;omega),by simp,fun a ha b hb e=> ?_⟩;simp at hb;subst hb;subst e;exact hm ha
   ·intro e
    have:=hal.2 (List.nodup_append.1 e).1;simp;omega
theorem cnt_wrap {a:Int} (h0:0<=a) (h1:a<=2000000000):IntKind.i64.wrap a=a:=by
 unfold IntKind.wrap;simp[IntKind.signed,IntKind.bits];omega
theorem zeroInt (w:World):(zeroValue 3).run Tryz.prog w=.ok (.int .i64 0) w:=by kernel_rfl
end Go.Proofs.YthkmpihfhkmaoaaGreatDoor
namespace Go.Proofs.YthkmpihfhkmaoaaGreatDoor
open Go.ChangeShapes Go.WideShapes Go.ChangeAt Go.RowKit
theorem sne {a b:Nat} (h:b<a):some a≠some b:=fun e=>by have:=Option.some.inj e;omega
theorem rd_grown (w:World) (g p:Nat) (v:Value):w.grownBy (w.setCell ⟨g,p,none⟩ v) (some g):=
 ⟨rfl,rfl,rfl,by simp,fun i _ hi=>Below.heap_setCell _ _ _ _ (fun e=>hi (by rw[e]))⟩
def CellsAt (w:World) (B:Nat) (l:List Value):Prop:=∀j v,l[j]?=some v->w.cell? ⟨B,j,none⟩=some v/\w.frozen? ⟨B,j,none⟩=false
theorem CellsAt.lt {w:World} {B:Nat} {v:Value} {l:List Value} (h:CellsAt w B (v::l)):B<w.heap.size:=World.block_lt_of_cell? w _ (h 0 v rfl).1
theorem CellsAt.far {w w':World} {B b:Nat} {v:Value} {l:List Value} (h:CellsAt w B (v::l)) (hg:w.grownBy w' (some b)) (hb:b<B):CellsAt w' B (v::l):=by
 intro j x hx;have hl:=h.lt;exact⟨(hg.cell_far ⟨B,j,none⟩ hl (sne hb)).trans (h j x hx).1,(hg.frozen_far ⟨B,j,none⟩ hl (sne hb)).trans (h j x hx).2⟩
theorem CellsAt.below {w w':World} {B:Nat} {v:Value} {l:List Value} (h:CellsAt w B (v::l)) (hb:Below w.heap.size w w'):CellsAt w' B (v::l):=by
 intro j x hx;have hl:=h.lt;exact⟨(hb.cell (p:=⟨B,j,none⟩) hl).trans (h j x hx).1,(hb.frozen (p:=⟨B,j,none⟩) hl).trans (h j x hx).2⟩
theorem CellsAt.new (w:World) (l:List Value) (T:TypeId):CellsAt (w.alloc (.cells l.toArray T)) w.heap.size l:=by
 intro j v hv;refine⟨?_,by simp⟩;rw[World.cell?_alloc_at _ _ _ _ rfl];simpa using hv
theorem CellsAt.far' {w w':World} {B c:Nat} {v:Value} {l:List Value} (h:CellsAt w B (v::l)) (hg:w.grownBy w' (some c)) (hc:c≠B):CellsAt w' B (v::l):=by
 intro j x hx;have hl:=h.lt;have hn:some B≠some c:=fun e=>hc (Option.some.inj e).symm;exact⟨(hg.cell_far ⟨B,j,none⟩ hl hn).trans (h j x hx).1,(hg.frozen_far ⟨B,j,none⟩ hl hn).trans (h j x hx).2⟩
theorem CellsAt.set {w:World} {B:Nat} {l:List Value} (h:CellsAt w B l) (j:Nat) (v:Value):CellsAt (w.setCell ⟨B,j,none⟩ v) B (l.set j v):=by
 intro i x hx;by_cases hij:i=j
 ·subst hij
  have hlt:i<l.length:=by
   rcases Nat.lt_or_ge i l.length with h'|h'
   ·exact h'
   ·rw[List.getElem?_eq_none (by simpa using h')] at hx;cases hx
  rw[List.getElem?_set_self hlt] at hx;injection hx with hx;subst hx;obtain⟨h1,h2⟩:=h i _ (List.getElem?_eq_getElem hlt);exact⟨by simp[go_sem,h1],by simpa [go_sem] using h2⟩
 ·rw[List.getElem?_set_ne (fun e=>hij e.symm)] at hx
  obtain⟨h1,h2⟩:=h i x hx;refine⟨?_,by simpa [go_sem] using h2⟩;rw[World.cell?_setCell_other _ _ _ _ (by intro e;injection e;omega)];exact h1
end Go.Proofs.YthkmpihfhkmaoaaGreatDoor
namespace Go.Proofs.YthkmpihfhkmaoaaGreatDoor
open Go.ChangeShapes Go.WideShapes Go.ChangeAt Go.RowKit
theorem KMap.block {w w':World} {K:TypeId} {b n:Nat} {f:Lit->Option Value} (h:KMap w K b n f) (hb:w'.heap[b]?=w.heap[b]?):KMap w' K b n f:=by
 obtain⟨D,⟨es,clock,h1,h2⟩,h3⟩:=h;exact⟨D,⟨es,clock,hb.trans h1,h2⟩,h3⟩
section
open Go.WideElems Go.MapKept Go.ChangeMaps
theorem setB_grown (W:World) (b:Nat) (o:Obj):W.grownBy (setBlock W b o) (some b):=
 ⟨rfl,rfl,rfl,by simp[setBlock],fun k hk hne=>by
  have:b≠k:=fun e=>hne (by rw[e]);simp[setBlock,this]⟩
theorem KMap.entry {w:World} {K t e:TypeId} {b n:Nat} {f:Lit->Option Value} (h:KMap w K b n f) (hK:Maps.Keyed Tryz.prog K) (ht:Tryz.prog.underlying t=some (.map K e)) (hn:n<maxLen) {z:Value} (hz:∀u:World,(zeroValue e).run Tryz.prog u=.ok z u) {key:Value} {kl:Lit} (hkey:keyOf Tryz.prog K key=some kl):
 ∃st w3,(Instr.mapEntry t (.map (some b)) key).run Tryz.prog w=.ok (.tuple #[(f kl).getD z,goInt st]) w3/\w.grownBy w3 (some b)/\
  ∀W,W.heap[b]?=w3.heap[b]? ->∀val,∃W',(Instr.entryStore t (.map (some b)) (goInt st) val).run Tryz.prog W=.ok () W'/\KMap W' K b (n+1) (upd f kl val)/\W.grownBy W' (some b):=by
 have h0:=h;obtain⟨D,⟨es,clock,hb,F,hs,hD⟩,h2,h3⟩:=h;obtain⟨v0,st,w3,he,hl,hu,hst⟩:=entry_all hK ht hz hb F hkey;have hl':=h0.look hK ht (hz w) hkey;rw[hl] at hl';cases hl';obtain⟨w3',hu3,hm3,hg3⟩:=h0.put hK ht hn hkey (val:=(f kl).getD z);rw[hu] at hu3;cases hu3;refine⟨st,w3,he,hg3,fun W hW val=> ?_⟩;obtain⟨w4,hs4,hu4⟩:=hst val;obtain⟨w4',hu4',hm4,_⟩:=h0.put hK ht hn hkey (val:=val)
 rw[hu4] at hu4';cases hu4';obtain⟨D3,⟨es3,clock3,hb3,_⟩,_⟩:=hm3;cases hidx:es3.findIdx? (fun e=>((e.born:Nat):Int)==((st:Nat):Int)) with
 |none=>
  exfalso;simp[Instr.entryStore,MapKept.run_getObj_map hb3,asInt,asIntOf,goInt,hidx,Result.andThen] at hs4
 |some i=>
  have hr3:=store_run (P:=Tryz.prog) (t:=t) val hb3 hidx;rw[hs4] at hr3;cases hr3;have hbW:W.heap[b]?=some (.map es3 clock3):=hW.trans hb3;refine⟨_,store_run val hbW hidx,hm4.block ?_,setB_grown _ _ _⟩;rw[heap_setBlock_same hbW,heap_setBlock_same hb3]
end
def linkL (E:List (ByteArray×ByteArray)) (t:ByteArray):List ByteArray:=E.filterMap (fun p=>if p.1=t then some p.2 else none)
theorem linkL_snoc (E:List (ByteArray×ByteArray)) (s r t:ByteArray):linkL (E++[(s,r)]) t=if s=t then linkL E t++[r] else linkL E t:=by
 unfold linkL;rw[List.filterMap_append];by_cases h:s=t<;>simp[h]
theorem linkL_len (E:List (ByteArray×ByteArray)) (t:ByteArray):(linkL E t).length<=E.length:=by
 unfold linkL;exact List.length_filterMap_le _ _
noncomputable def rowV (f:Lit->Option Value) (t:ByteArray):Value:=(f (keyL t)).getD (.slice none 0 0)
structure Lk (w:World) (base b n:Nat) (wd:Int) (E:List (ByteArray×ByteArray)) (av:List Nat) (f:Lit->Option Value):Prop where
 map:KMap w 162 b n f
 row:∀t:ByteArray,(t.size:Int)=wd->QRow w base (rowV f t) (linkL E t)
 apart:∀s t:ByteArray,(s.size:Int)=wd->(t.size:Int)=wd->s≠t->∀g,sBlk (rowV f s)=some g->sBlk (rowV f t)≠some g
 far:∀t:ByteArray,(t.size:Int)=wd->∀g,sBlk (rowV f t)=some g->g∉av
theorem Lk.keep {w w':World} {base b n:Nat} {wd:Int} {E:List (ByteArray×ByteArray)} {av:List Nat} {f:Lit->Option Value} (h:Lk w base b n wd E av f) (hb:Below w.heap.size w w'):Lk w' base b n wd E av f:=
 ⟨h.map.keep hb h.map.lt,fun t ht=>(h.row t ht).below hb,h.apart,h.far⟩
theorem Lk.add {wr X:World} {base b n:Nat} {wd:Int} {E:List (ByteArray×ByteArray)} {av:List Nat} {f:Lit->Option Value} (h:Lk wr base b n wd E av f) (hb:b<base) (hbw:base<=wr.heap.size) (hav:∀q∈av,q<wr.heap.size) (hg:wr.grownBy X (some b)) {s r:ByteArray} (hs:(s.size:Int)=wd) (h8:wd<=8) {T:TypeId} {st:Int}
 (hE:∀W,W.heap[b]?=X.heap[b]? ->∀val,∃W',(Instr.entryStore T (.map (some b)) (goInt st) val).run Tryz.prog W=.ok () W'/\KMap W' 162 b (n+1) (upd f (keyL s) val)/\W.grownBy W' (some b))
 {xv:Value} (hx:R8 X X.heap.size xv [r]) (hlen:E.length<=1000000) (ty:TypeId):
 ∃v' w4 w5,(Builtin.append_ #[158,158] ty #[rowV f s,xv]).run Tryz.prog X=.ok v' w4/\(Instr.entryStore T (.map (some b)) (goInt st) v').run Tryz.prog w4=.ok () w5/\
  Lk w5 base b (n+1) wd (E++[(s,r)]) av (upd f (keyL s) v')/\Below b wr w5/\(∀q∈av,q≠b->w5.heap[q]?=wr.heap[q]? /\w4.heap[q]?=wr.heap[q]?)/\wr.heap.size<=w5.heap.size:=by
 have hstay:∀t:ByteArray,(t.size:Int)=wd->∀g,sBlk (rowV f t)=some g->X.heap[g]?=wr.heap[g]?:=fun t ht g hgt=>by
  have:=(h.row t ht).blk hgt;exact hg.block g this.2 (fun e=>by have:=Option.some.inj e;omega)
 have hrX:∀t:ByteArray,(t.size:Int)=wd->QRow X base (rowV f t) (linkL E t):=fun t ht=>(h.row t ht).stays hg.size (hstay t ht);have hll:=linkL_len E s;have hzX:=hg.size;obtain⟨v',w4,hr,hq,hg4,hs4⟩:=qappend X base (rowV f s) (linkL E s) (hrX s hs) xv [r] _ hx (by simp;omega) (by omega) ty;have hz4:=hg4.size
 have hb4:w4.heap[b]?=X.heap[b]?:=hg4.block b (by omega) (fun e=>by have:=((h.row s hs).blk e.symm).1;omega);obtain⟨w5,hr5,hm5,hg5⟩:=hE w4 hb4 v';have hz5:=hg5.size;have hblk':∀g,sBlk v'=some g->(sBlk (rowV f s)=some g∨g=X.heap.size):=fun g hg'=>by
  rcases hs4 with e|e
  ·exact .inl (e▸hg')
  ·rw[e] at hg';exact .inr (Option.some.inj hg').symm
 have hsame:rowV (upd f (keyL s) v') s=v':=by unfold rowV;rw[upd_same];rfl
 have hother:∀t:ByteArray,(t.size:Int)=wd->s≠t->rowV (upd f (keyL s) v') t=rowV f t:=fun t ht hne=>by
  unfold rowV;rw[upd_other];intro e;exact hne (key_inj e.symm (by omega) (by omega))
 refine⟨v',w4,w5,hr,hr5,⟨hm5,fun t ht=> ?_,fun u t hu ht hne g hgu=> ?_,fun t ht g hgt=> ?_⟩,?_,fun q hqa hqb=> ?_,by omega⟩
 ·rw[linkL_snoc]
  by_cases e:s=t
  ·subst e
   rw[if_pos rfl,hsame];exact hq.stays hz5 (fun g hgv=>by
    have:base<=g:=(hq.blk hgv).1;exact hg5.block g (hq.blk hgv).2 (fun e=>by have:=Option.some.inj e;omega))
  ·rw[if_neg e,hother t ht e]
   refine(hrX t ht).stays (by omega) (fun g hgt=> ?_);have hbk:=(h.row t ht).blk hgt;rw[hg5.block g (by omega) (fun e=>by have:=Option.some.inj e;omega)];exact hg4.block g (by omega) (fun e2=>h.apart s t hs ht e g e2.symm hgt)
 ·by_cases eu:s=u
  ·subst eu
   rw[hsame] at hgu;rw[hother t ht hne];intro hgt;rcases hblk' g hgu with h1|h1
   ·exact h.apart s t hs ht hne g h1 hgt
   ·have:=((h.row t ht).blk hgt).2;omega
  ·rw[hother u hu eu] at hgu
   by_cases et:s=t
   ·subst et
    rw[hsame];intro hgt;rcases hblk' g hgt with h1|h1
    ·exact h.apart s u hs hu eu g h1 hgu
    ·have:=((h.row u hu).blk hgu).2;omega
   ·rw[hother t ht et]
    exact h.apart u t hu ht hne g hgu
 ·by_cases et:s=t
  ·subst et
   rw[hsame] at hgt;rcases hblk' g hgt with h1|h1
   ·exact h.far s hs g h1
   ·intro hin
    have:=hav g hin;omega
  ·rw[hother t ht et] at hgt
   exact h.far t ht g hgt
 ·have b1:Below b wr X:=(Below.refl _ _).grown hg (by omega) (fun k e=>by cases e;exact Nat.le_refl _)
  have b2:Below b X w4:=(Below.refl _ _).grown hg4 (by omega) (fun k e=>by have:=((h.row s hs).blk e).1;omega);have b3:Below b w4 w5:=(Below.refl _ _).grown hg5 (by omega) (fun k e=>by cases e;exact Nat.le_refl _);exact(b1.trans b2).trans b3
 ·have hq':=hav q hqa
  have e4:w4.heap[q]?=wr.heap[q]?:=by rw[hg4.block q (by omega) (fun e=>h.far s hs q e.symm hqa),hg.block q hq' (fun e=>hqb (Option.some.inj e))]
  exact⟨(hg5.block q (by omega) (fun e=>hqb (Option.some.inj e))).trans e4,e4⟩
theorem Lk.new {w:World} {base b:Nat} {wd:Int} (hm:KMap w 162 b 0 (fun _=>none)):Lk w base b 0 wd [] [] (fun _=>none):=
 ⟨hm,fun _ _=> .inl ⟨rfl,rfl⟩,fun _ _ _ _ _ _ h=>(by cases h),fun _ _ _ h=>(by cases h)⟩
theorem Lk.avoid {w:World} {base b n:Nat} {wd:Int} {E:List (ByteArray×ByteArray)} {av:List Nat} {f:Lit->Option Value} (h:Lk w base b n wd E av f) (av':List Nat) (hav:∀q∈av',w.heap.size<=q):Lk w base b n wd E av' f:=
 ⟨h.map,h.row,h.apart,fun t ht g hg hin=>by have:=hav g hin;have:=((h.row t ht).blk hg).2;omega⟩
theorem Lk.free {w:World} {base b n:Nat} {wd:Int} {E:List (ByteArray×ByteArray)} {av:List Nat} {f:Lit->Option Value} (h:Lk w base b n wd E av f):Lk w base b n wd E [] f:=⟨h.map,h.row,h.apart,fun _ _ _ _ hin=>by cases hin⟩
end Go.Proofs.YthkmpihfhkmaoaaGreatDoor
namespace Go.Proofs.YthkmpihfhkmaoaaGreatDoor
open Go.ChangeShapes Go.WideShapes Go.ChangeAt Go.RowKit
attribute [local go_sem↓] Go.wp_at_zero Go.wp_at_succ
theorem step_callL {P:Program} {ops:Array Oper} {o:Oper} {a:Act} {w:World} {K:Act->World->Prop} {Q:Exit->Act->World->Prop} {E:Prop} (hgd:o.guard=none) (f:FuncId) (args:Array Value) (hrun:(execOp a.eval o).run P w=.ok (.enter f args) w)
 {post:Ending->World->Prop} (hc:Calls P f args w post) (h:∀e w',post e w'->∃v,e=.returned v/\K (a.put o.dst v) w'):if Region.wanted o (yielded ops a.tmps)=true then Oper.wp P o a w K Q else E:=by
 have hw:Region.wanted o (yielded ops a.tmps)=true:=by simp[Region.wanted,hgd]
 rw[if_pos hw];unfold Oper.wp;rw[hrun,Oper.upon_enter];refine hc.mono fun e w' hp=> ?_;obtain⟨v,rfl,hk⟩:=h e w' hp;exact hk
theorem map_snoc {α:Type} (g:ByteArray->α) {rs:List ByteArray} {m:Nat} {r:ByteArray} (h:rs[m]?=some r):(rs.take (m+1)).map g=(rs.take m).map g++[g r]:=by
 obtain⟨hlt,rfl⟩:=List.getElem?_eq_some_iff.1 h;rw[List.take_succ_eq_append_getElem hlt,List.map_append];rfl
theorem zeroRow8 (w:World):(zeroValue 158).run Tryz.prog w=.ok (.slice none 0 0) w:=by kernel_rfl
theorem R8.stay1 {w w':World} {g c:Nat} {ts:List ByteArray} {B B' b:Nat} (h:R8 w B (.slice (some ⟨g,0,none⟩) ts.length c) ts) (hg:w.grownBy w' (some b)) (hne:g≠b) (hlt:g<w.heap.size) (hB:B<=B'):R8 w' B' (.slice (some ⟨g,0,none⟩) ts.length c) ts:=
 (h.stays (fun k e=>by cases e;exact hg.block g hlt (fun e=>hne (Option.some.inj e)))).mono hB
theorem R8.one_stay {w3 wC:World} {b:Nat} (r:ByteArray) (hg:(w3.alloc (oneK r)).grownBy wC (some b)) (hne:w3.heap.size≠b):R8 wC wC.heap.size (.slice (some ⟨w3.heap.size,0,none⟩) 1 1) [r]:=
 R8.stay1 (ts:=[r]) (g:=w3.heap.size) (c:=1) (R8.one w3 r) hg hne (by simp) (by have:=hg.size;simp at this;omega)
theorem CellsAt.same {w w':World} {B:Nat} {l:List Value} (h:CellsAt w B l) (hb:w'.heap[B]?=w.heap[B]?):CellsAt w' B l:=
 fun j v hj=>⟨(World.cell?_of_block (a:=⟨B,j,none⟩) hb).trans (h j v hj).1,(World.frozen?_of_block (a:=⟨B,j,none⟩) hb).trans (h j v hj).2⟩
theorem alloc_same (w:World) (o:Obj) {b:Nat} (h:b<w.heap.size):(w.alloc o).heap[b]?=w.heap[b]?:=Below.heap_alloc w o b h
theorem sk8 {w w':World} {B:Nat} {s:ByteArray} (h:w'.heap[B]?=w.heap[B]?) (hc:CellsAt w B [.int .u8 (kB s 0),.int .u8 (kB s 1),.int .u8 (kB s 2),.int .u8 (kB s 3),.int .u8 (kB s 4),.int .u8 (kB s 5),.int .u8 (kB s 6),.int .u8 (kB s 7)]):
 w'.cell? ⟨B,0,none⟩=some (.int .u8 (kB s 0))/\w'.cell? ⟨B,1,none⟩=some (.int .u8 (kB s 1))/\w'.cell? ⟨B,2,none⟩=some (.int .u8 (kB s 2))/\w'.cell? ⟨B,3,none⟩=some (.int .u8 (kB s 3))/\w'.cell? ⟨B,4,none⟩=some (.int .u8 (kB s 4))/\w'.cell? ⟨B,5,none⟩=some (.int .u8 (kB s 5))/\w'.cell? ⟨B,6,none⟩=some (.int .u8 (kB s 6))/\w'.cell? ⟨B,7,none⟩=some (.int .u8 (kB s 7)):=by
 have:=CellsAt.same hc h;exact⟨(this 0 _ rfl).1,(this 1 _ rfl).1,(this 2 _ rfl).1,(this 3 _ rfl).1,(this 4 _ rfl).1,(this 5 _ rfl).1,(this 6 _ rfl).1,(this 7 _ rfl).1⟩
end Go.Proofs.YthkmpihfhkmaoaaGreatDoor
