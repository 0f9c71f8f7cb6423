import Derived.Test.YtpekbmegopfhfaaGreatDoorK30
import Derived.RangeFuncNested
import Derived.Shelf.Abstract
import Derived.Shelf.RegionOpen
import Derived.RangeFuncBound
import Derived.RangeFuncCalls
import Derived.RangeFuncLeaves
import Derived.OwnWalkIn
import Derived.TacticsInMore
import Derived.LoopNIn
import Derived.LoopIn
set_option maxRecDepth 100000
set_option maxHeartbeats 16000000
namespace Go.Proofs.YtpekbmegopfhfaaGreatDoor
open Go.ChangeShapes Go.WideShapes Go.ChangeAt Go.RowKit _root_.Go.Proofs.Tryz
theorem Ma (a b:Option Addr) (c d:Nat) (ks ls:List Kd) (w:World) (hr:Bx w w.heap.size a ks) (hq:Bx w w.heap.size b ls) (hl:ks.length<=100000) (yA:ls.length<=1048576) (h1:∀k∈ks,k.refs.length<=100000) (h2:∀k∈ls,k.refs.length<=1048576):
 Calls prog 149 #[.slice a ks.length c,.slice b ls.length d,.func (.func 150) #[] #[]] w fun e w'=>Ak (ks=ls) w w' e:=by
 have HR:Hid (∀X,Xz w X->Bx X w.heap.size a ks/\Bx X w.heap.size b ls):=fun X hX=>⟨hr.below hX,hq.below hX⟩;clear hr hq;by_cases hlen:ks.length=ls.length
 ·have zT:((ks.length:Int) !=(ls.length:Int))=false:=by simp;omega
  have zB:Hid _:=hlen;clear hlen;go_enter func149,ntmps149;go_wp2
  go_loopw [17] (fun i wr=>∃k:Nat,k<=ks.length/\i=XJ k/\Hid (ks.take k=ls.take k/\Xz w wr)) (fun i _=>ks.length -(intOf i).toNat)
  case atStart=>exact⟨0,Nat.zero_le _,rfl,⟨by simp,Below.refl _ _⟩⟩
  case round=>
   obtain⟨k,hk,rfl,HI⟩:=hrel;by_cases hlt:k<ks.length
   ·have zA:k<ls.length:=by have:=zB.o;omega
    obtain⟨rb,ro,ha,zY,zJ⟩:=(HR.o wr HI.o.2).1.at hlt;obtain⟨qb,qo,hb,zW,zN⟩:=(HR.o wr HI.o.2).2.at zA;subst ha hb;obtain⟨c0,c1,c2,ra,rc,c3,zM⟩:=zJ k _ (XD hlt);obtain⟨d0,d1,d2,zF,zG,d3,zE⟩:=zN k _ (XD zA);have hz:=HI.o.2.size;have yD:=XH zY hz;have yB:=XH zW hz;have zP:Hid _:=XE hlt;have zV:Hid _:=XE zA;have HN:Hid (∀x y,ks[k]?=some x->ls[k]?=some y->x≠y->ks≠ls):=fun x y h1 h2 hne e=>by
     subst e;rw[h1] at h2;exact hne (Option.some.inj h2)
    have zU:Hid _:=XD hlt;have zX:Hid _:=XD zA;have zS:=h1 _ (List.getElem_mem hlt);have zR:=h2 _ (List.getElem_mem zA);have yC:(k:Int)<ls.length:=by omega
    clear zJ zN;generalize ks[k]=x at *
    generalize ls[k]=y at *
    obtain⟨U,hU⟩:∃U,U=(wr.alloc (.cells #[.string x.sum,XJ x.born,.string x.text,.slice ra x.refs.length rc] 114)).alloc (.cells #[.string y.sum,XJ y.born,.string y.text,.slice zF y.refs.length zG] 114):=⟨_,rfl⟩;have bU:=(AP hU).1;have HB:Hid _:=HI.o.2.trans (bU.mono hz);have xU:=(AP hU).2.2.1;have yU:Aa U (wr.heap.size+1) [.string y.sum,XJ y.born,.string y.text,.slice zF y.refs.length zG]:=by
     have h1:=Aa.new (wr.alloc (.cells #[.string x.sum,XJ x.born,.string x.text,.slice ra x.refs.length rc] 114)) [.string y.sum,XJ y.born,.string y.text,.slice zF y.refs.length zG] 114;rw[World.size_alloc] at h1;rw[hU];exact h1
    have HS:Hid _:=No x y ra zF rc zG U (Ae.below' (Ae.mono zM hz) bU) (Ae.below' (Ae.mono zE hz) bU) zS zR;obtain⟨m0,m1,m2,m3⟩:=Aa.c4 xU 0 1 2 3;obtain⟨n0,n1,n2,n3⟩:=Aa.c4 yU 0 1 2 3;have HU:Hid _:=hU;clear hU xU yU zM zE bU;go_upto_region 7 with fail;rw[←HU.o];clear HU c0 c1 c2 c3 d0 d1 d2 d3;go_wp2_with fail;refine Calls.mono HS.o ?_;rintro e w1 ⟨bb,rfl,zO,zI⟩
    have zK:Hid _:=HB.o.trans (zI.mono HB.o.size);clear m0 m1 m2 m3 n0 n1 n2 n3 HS zI;cases bb with
    |true=>
     have zH:=zO.1 rfl;go_wp2;exact⟨⟨k+1,by omega,by go_num,⟨by rw[zP.o,zV.o,HI.o.1,zH],zK.o⟩⟩,by simp[intOf];omega⟩
    |false=>
     have zH:x≠y:=fun e=>by have:=zO.2 e;cases this
     go_wp2;go_ret;exact Ak.no (fun h=>HN.o x y zU.o zX.o zH h) zK.o
   ·obtain rfl:k=ks.length:=by omega
    have zC:=HI.o.1;rw[XF (XB),XF (by have:=zB.o;omega)] at zC;go_wp2;go_ret;exact Ak.yes zC HI.o.2
 ·have zT:((ks.length:Int)==(ls.length:Int))=false:=by simp;omega
  have zZ:((ks.length:Int) !=(ls.length:Int))=true:=by simp;omega
  go_enter func149,ntmps149;go_wp2;go_ret;exact Ak.no (fun h=>hlen (by rw[h])) (Below.refl _ _)
theorem Qh (a b:Option Addr) (c d:Nat) (ss tt:List Pd) (w:World) (hr:AQ w w.heap.size a ss) (hq:AQ w w.heap.size b tt) (hl:ss.length<=100000) (zS:tt.length<=1048576):
 Calls prog 151 #[.slice a ss.length c,.slice b tt.length d] w fun e w'=>Ak (ss=tt) w w' e:=by
 have HR:Hid (∀X,Xz w X->AQ X w.heap.size a ss/\AQ X w.heap.size b tt):=fun X hX=>⟨hr.below hX,hq.below hX⟩;clear hr hq;by_cases hlen:ss.length=tt.length
 ·have zI:((ss.length:Int) !=(tt.length:Int))=false:=by simp;omega
  have zC:Hid _:=hlen;clear hlen;go_enter func151,ntmps151;go_wp2
  go_loopw [13] (fun i wr=>∃k:Nat,k<=ss.length/\i=XJ k/\Hid (ss.take k=tt.take k/\Xz w wr)) (fun i _=>ss.length -(intOf i).toNat)
  case atStart=>exact⟨0,Nat.zero_le _,rfl,⟨by simp,Below.refl _ _⟩⟩
  case round=>
   obtain⟨k,hk,rfl,HI⟩:=hrel;by_cases hlt:k<ss.length
   ·have zA:k<tt.length:=by have:=zC.o;omega
    obtain⟨rb,ro,ha,zN,zG⟩:=(HR.o wr HI.o.2).1.at hlt;obtain⟨qb,qo,hb,zK,zF⟩:=(HR.o wr HI.o.2).2.at zA;subst ha hb;obtain⟨c0,c1⟩:=zG k _ (XD hlt);obtain⟨d0,d1⟩:=zF k _ (XD zA);have hz:=HI.o.2.size;have zU:=XH zN hz;have zR:=XH zK hz;have zO:Hid _:=XE hlt;have zJ:Hid _:=XE zA;have HN:Hid (∀x y,ss[k]?=some x->tt[k]?=some y->x≠y->ss≠tt):=fun x y h1 h2 hne e=>by
     subst e;rw[h1] at h2;exact hne (Option.some.inj h2)
    have zH:Hid _:=XD hlt;have zE:Hid _:=XD zA;have zT:(k:Int)<tt.length:=by omega
    clear zG zF;generalize ss[k]=x at *
    generalize tt[k]=y at *
    have HB:Hid _:=HI.o.2;by_cases hxy:x=y
    ·subst hxy
     go_wp2
     go_region
     all_goals go_wp2
     all_goals exact⟨⟨k+1,by omega,by go_num,⟨by rw[zO.o,zJ.o,HI.o.1],HB.o.drew⟩⟩,by simp[intOf];omega⟩
    ·by_cases hn:x.name=y.name
     ·have hs:¬x.sum.toList=y.sum.toList:=fun e=>hxy (by
       have e2:=Fm e;cases x;cases y;simp_all)
      have zM:x.name.toList=y.name.toList:=by rw[hn]
      have HX:Hid _:=hxy;clear hn hxy;go_wp2
      go_region
      all_goals go_wp2
      all_goals go_ret
      all_goals exact Ak.no (fun h=>HN.o x y zH.o zE.o HX.o h) HB.o.drew
     ·have zM:¬x.name.toList=y.name.toList:=fun e=>hn (Fm e)
      have HX:Hid _:=hxy;clear hn hxy;go_wp2
      go_region
      all_goals go_wp2
      all_goals go_ret
      all_goals exact Ak.no (fun h=>HN.o x y zH.o zE.o HX.o h) HB.o.drew
   ·obtain rfl:k=ss.length:=by omega
    have zB:=HI.o.1;rw[XF (XB),XF (by have:=zC.o;omega)] at zB;go_wp2;go_ret;exact Ak.yes zB HI.o.2
 ·have zI:((ss.length:Int)==(tt.length:Int))=false:=by simp;omega
  have zP:((ss.length:Int) !=(tt.length:Int))=true:=by simp;omega
  go_enter func151,ntmps151;go_wp2;go_ret;exact Ak.no (fun h=>hlen (by rw[h])) (Below.refl _ _)
theorem Qi (a b:Option Addr) (c d:Nat) (ss tt:List Ld) (w:World) (hr:AR w w.heap.size a ss) (hq:AR w w.heap.size b tt) (hl:ss.length<=100000) (zS:tt.length<=1048576):
 Calls prog 152 #[.slice a ss.length c,.slice b tt.length d] w fun e w'=>Ak (ss=tt) w w' e:=by
 have HR:Hid (∀X,Xz w X->AR X w.heap.size a ss/\AR X w.heap.size b tt):=fun X hX=>⟨hr.below hX,hq.below hX⟩;clear hr hq;by_cases hlen:ss.length=tt.length
 ·have zI:((ss.length:Int) !=(tt.length:Int))=false:=by simp;omega
  have zC:Hid _:=hlen;clear hlen;go_enter func152,ntmps152;go_wp2
  go_loopw [13] (fun i wr=>∃k:Nat,k<=ss.length/\i=XJ k/\Hid (ss.take k=tt.take k/\Xz w wr)) (fun i _=>ss.length -(intOf i).toNat)
  case atStart=>exact⟨0,Nat.zero_le _,rfl,⟨by simp,Below.refl _ _⟩⟩
  case round=>
   obtain⟨k,hk,rfl,HI⟩:=hrel;by_cases hlt:k<ss.length
   ·have zA:k<tt.length:=by have:=zC.o;omega
    obtain⟨rb,ro,ha,zM,zH⟩:=(HR.o wr HI.o.2).1.at hlt;obtain⟨qb,qo,hb,zK,zG⟩:=(HR.o wr HI.o.2).2.at zA;subst ha hb;obtain⟨c0,c1,c2⟩:=zH k _ (XD hlt);obtain⟨d0,d1,d2⟩:=zG k _ (XD zA);have hz:=HI.o.2.size;have zU:=XH zM hz;have zR:=XH zK hz;have zN:Hid _:=XE hlt;have zJ:Hid _:=XE zA;have HN:Hid (∀x y,ss[k]?=some x->tt[k]?=some y->x≠y->ss≠tt):=fun x y h1 h2 hne e=>by
     subst e;rw[h1] at h2;exact hne (Option.some.inj h2)
    have zF:Hid _:=XD hlt;have zE:Hid _:=XD zA;have zT:(k:Int)<tt.length:=by omega
    clear zH zG;generalize ss[k]=x at *
    generalize tt[k]=y at *
    have HB:Hid _:=HI.o.2;by_cases hxy:x=y
    ·subst hxy
     go_wp2
     go_region
     all_goals go_wp2
     all_goals exact⟨⟨k+1,by omega,by go_num,⟨by rw[zN.o,zJ.o,HI.o.1],HB.o.drew⟩⟩,by simp[intOf];omega⟩
    ·have HX:Hid _:=hxy
     by_cases hn:x.num=y.num
     ·by_cases hs:x.sum=y.sum
      ·have ht:¬x.til=y.til:=fun e=>hxy (by
        cases x;cases y;simp_all)
       have zO:x.sum.toList=y.sum.toList:=by rw[hs]
       clear hs hxy;go_wp2
       go_region
       all_goals go_wp2
       all_goals go_ret
       all_goals exact Ak.no (fun h=>HN.o x y zF.o zE.o HX.o h) HB.o.drew
      ·have zO:¬x.sum.toList=y.sum.toList:=fun e=>hs (Fm e)
       clear hs hxy;go_wp2
       go_region
       all_goals go_wp2
       all_goals go_ret
       all_goals exact Ak.no (fun h=>HN.o x y zF.o zE.o HX.o h) HB.o.drew
     ·clear hxy
      go_wp2
      go_region
      all_goals go_wp2
      all_goals go_ret
      all_goals exact Ak.no (fun h=>HN.o x y zF.o zE.o HX.o h) HB.o.drew
   ·obtain rfl:k=ss.length:=by omega
    have zB:=HI.o.1;rw[XF (XB),XF (by have:=zC.o;omega)] at zB;go_wp2;go_ret;exact Ak.yes zB HI.o.2
 ·have zI:((ss.length:Int)==(tt.length:Int))=false:=by simp;omega
  have zP:((ss.length:Int) !=(tt.length:Int))=true:=by simp;omega
  go_enter func152,ntmps152;go_wp2;go_ret;exact Ak.no (fun h=>hlen (by rw[h])) (Below.refl _ _)
theorem Mb (wd now given births zI zC zB zA:Int) (a p l a' p' l':Option Addr) (ac pc lc zM zK zJ:Nat) (ks zG:List Kd) (ps zE:List Pd) (ls zF:List Ld) (w:World) (hr:Bt w w.heap.size a p l ks ps ls) (hq:Bt w w.heap.size a' p' l' zG zE zF) (hl:ks.length<=100000/\ps.length<=100000/\ls.length<=100000) (zO:zG.length<=1048576/\zE.length<=1048576/\zF.length<=1048576) (h1:∀k∈ks,k.refs.length<=100000) (h2:∀k∈zG,k.refs.length<=1048576):
 Calls prog 119 #[.agg #[XJ wd,XJ now,XJ given,XJ births,.slice a ks.length ac,.slice p ps.length pc,.slice l ls.length lc],.agg #[XJ zI,XJ zC,XJ zB,XJ zA,.slice a' zG.length zM,.slice p' zE.length zK,.slice l' zF.length zJ]] w fun e w'=>Ak ((wd=zI/\now=zC/\given=zB/\births=zA)/\ks=zG/\ps=zE/\ls=zF) w w' e:=by
 obtain⟨W,hW⟩:∃W,W=(w.alloc (.cells #[XJ wd,XJ now,XJ given,XJ births,.slice a ks.length ac,.slice p ps.length pc,.slice l ls.length lc] 28)).alloc (.cells #[XJ zI,XJ zC,XJ zB,XJ zA,.slice a' zG.length zM,.slice p' zE.length zK,.slice l' zF.length zJ] 28):=⟨_,rfl⟩;have bW:=(AP hW).1;have x0:=(AP hW).2.2.1
 have x1:Aa W (w.heap.size+1) [XJ zI,XJ zC,XJ zB,XJ zA,.slice a' zG.length zM,.slice p' zE.length zK,.slice l' zF.length zJ]:=by
  have h1:=Aa.new (w.alloc (.cells #[XJ wd,XJ now,XJ given,XJ births,.slice a ks.length ac,.slice p ps.length pc,.slice l ls.length lc] 28)) [XJ zI,XJ zC,XJ zB,XJ zA,.slice a' zG.length zM,.slice p' zE.length zK,.slice l' zF.length zJ] 28;rw[World.size_alloc] at h1;rw[hW];exact h1
 have HX:Hid (∀X,Xz W X->Aa X w.heap.size [XJ wd,XJ now,XJ given,XJ births,.slice a ks.length ac,.slice p ps.length pc,.slice l ls.length lc]/\Aa X (w.heap.size+1) [XJ zI,XJ zC,XJ zB,XJ zA,.slice a' zG.length zM,.slice p' zE.length zK,.slice l' zF.length zJ]/\Xz w X):=fun X hX=>⟨Aa.below x0 hX,Aa.below x1 hX,bW.trans (hX.mono bW.size)⟩
 have HK:Hid _:=Ma a a' ac zM ks zG W (hr.below' bW).k (hq.below' bW).k hl.1 zO.1 h1 h2;have HP:Hid (∀X,Xz W X->Calls prog 151 #[.slice p ps.length pc,.slice p' zE.length zK] X fun e w'=>Ak (ps=zE) X w' e):=fun X hX=>Qh p p' pc zK ps zE X (hr.below' (bW.trans (hX.mono bW.size))).p (hq.below' (bW.trans (hX.mono bW.size))).p hl.2.1 zO.2.1
 have HL:Hid (∀X,Xz W X->Calls prog 152 #[.slice l ls.length lc,.slice l' zF.length zJ] X fun e w'=>Ak (ls=zF) X w' e):=fun X hX=>Qi l l' lc zJ ls zF X (hr.below' (bW.trans (hX.mono bW.size))).l (hq.below' (bW.trans (hX.mono bW.size))).l hl.2.2 zO.2.2;obtain⟨u0,_⟩:=x0 0 _ rfl;obtain⟨v0,_⟩:=x1 0 _ rfl;obtain⟨u1,_⟩:=x0 1 _ rfl;obtain⟨v1,_⟩:=x1 1 _ rfl;obtain⟨u2,_⟩:=x0 2 _ rfl
 obtain⟨v2,_⟩:=x1 2 _ rfl;obtain⟨u3,_⟩:=x0 3 _ rfl;obtain⟨v3,_⟩:=x1 3 _ rfl;obtain⟨u4,_⟩:=x0 4 _ rfl;obtain⟨v4,_⟩:=x1 4 _ rfl;obtain⟨u5,_⟩:=x0 5 _ rfl;obtain⟨v5,_⟩:=x1 5 _ rfl;obtain⟨u6,_⟩:=x0 6 _ rfl;obtain⟨v6,_⟩:=x1 6 _ rfl;have HW:Hid _:=hW;clear hW hr hq x0 x1;by_cases e1:wd=zI
 ·have b1:(wd==zI)=true:=by simp[e1]
  have E1:Hid _:=e1;clear e1;by_cases e2:now=zC
  ·have b2:(now==zC)=true:=by simp[e2]
   have E2:Hid _:=e2;clear e2;by_cases e3:given=zB
   ·have b3:(given==zB)=true:=by simp[e3]
    have E3:Hid _:=e3;clear e3;by_cases e4:births=zA
    ·have b4:(births==zA)=true:=by simp[e4]
     have E4:Hid _:=e4;clear e4;go_enter func119,ntmps119;go_upto_region 1 with fail;rw[←HW.o];clear HW;go_wp2_with fail;refine Calls.mono HK.o ?_;rintro e w1 ⟨bb,rfl,zH,zS⟩;obtain⟨x0,x1,zZ⟩:=HX.o w1 zS;have zP:Hid _:=zS;clear u0 v0 u1 v1 u2 v2 u3 v3 u4 v4 u5 v5 u6 v6;obtain⟨u0,_⟩:=x0 0 _ rfl;obtain⟨v0,_⟩:=x1 0 _ rfl;obtain⟨u1,_⟩:=x0 1 _ rfl;obtain⟨v1,_⟩:=x1 1 _ rfl;obtain⟨u2,_⟩:=x0 2 _ rfl
     obtain⟨v2,_⟩:=x1 2 _ rfl;obtain⟨u3,_⟩:=x0 3 _ rfl;obtain⟨v3,_⟩:=x1 3 _ rfl;obtain⟨u4,_⟩:=x0 4 _ rfl;obtain⟨v4,_⟩:=x1 4 _ rfl;obtain⟨u5,_⟩:=x0 5 _ rfl;obtain⟨v5,_⟩:=x1 5 _ rfl;obtain⟨u6,_⟩:=x0 6 _ rfl;obtain⟨v6,_⟩:=x1 6 _ rfl;clear x0 x1;cases bb with
     |false=>
      have zR:ks≠zG:=fun e=>by have:=zH.2 e;cases this
      go_wp2_with fail
      all_goals (try go_wp2)
      all_goals (try go_ret)
      all_goals exact Ak.no (fun h=>zR h.2.1) zZ
     |true=>
      have zX:Hid _:=zH.1 rfl;clear zH;go_wp2_with fail;refine Calls.mono (HP.o w1 zP.o) ?_;rintro e w2 ⟨bb,rfl,zH,zY⟩;have zT:Hid _:=zP.o.trans (zY.mono zP.o.size);obtain⟨x0,x1,zN⟩:=HX.o w2 zT.o;clear u0 v0 u1 v1 u2 v2 u3 v3 u4 v4 u5 v5 u6 v6;obtain⟨u0,_⟩:=x0 0 _ rfl;obtain⟨v0,_⟩:=x1 0 _ rfl;obtain⟨u1,_⟩:=x0 1 _ rfl;obtain⟨v1,_⟩:=x1 1 _ rfl;obtain⟨u2,_⟩:=x0 2 _ rfl;obtain⟨v2,_⟩:=x1 2 _ rfl
      obtain⟨u3,_⟩:=x0 3 _ rfl;obtain⟨v3,_⟩:=x1 3 _ rfl;obtain⟨u4,_⟩:=x0 4 _ rfl;obtain⟨v4,_⟩:=x1 4 _ rfl;obtain⟨u5,_⟩:=x0 5 _ rfl;obtain⟨v5,_⟩:=x1 5 _ rfl;obtain⟨u6,_⟩:=x0 6 _ rfl;obtain⟨v6,_⟩:=x1 6 _ rfl;clear x0 x1;cases bb with
      |false=>
       have zR:ps≠zE:=fun e=>by have:=zH.2 e;cases this
       go_wp2_with fail
       all_goals (try go_wp2)
       all_goals (try go_ret)
       all_goals exact Ak.no (fun h=>zR h.2.2.1) zN
      |true=>
       have zU:Hid _:=zH.1 rfl;clear zH;go_wp2_with fail;refine Calls.mono (HL.o w2 zT.o) ?_;rintro e w3 ⟨bb,rfl,zH,zW⟩;have zV:=zN.trans (zW.mono zN.size);clear u0 v0 u1 v1 u2 v2 u3 v3 u4 v4 u5 v5 u6 v6;go_wp2;go_ret;exact⟨bb,rfl,⟨fun h=>⟨⟨E1.o,E2.o,E3.o,E4.o⟩,zX.o,zU.o,zH.1 h⟩,fun h=>zH.2 h.2.2.2⟩,zV⟩
    ·have b4:(births==zA)=false:=by simp[e4]
     go_enter func119,ntmps119;go_upto_region 1 with fail;rw[←HW.o];clear HW;go_wp2_with fail
     all_goals (try go_wp2)
     all_goals (try go_ret)
     all_goals exact Ak.no (by first|exact id|exact fun h=>e4 h.1.2.2.2) bW
   ·have b3:(given==zB)=false:=by simp[e3]
    go_enter func119,ntmps119;go_upto_region 1 with fail;rw[←HW.o];clear HW;go_wp2_with fail
    all_goals (try go_wp2)
    all_goals (try go_ret)
    all_goals exact Ak.no (by first|exact id|exact fun h=>e3 h.1.2.2.1) bW
  ·have b2:(now==zC)=false:=by simp[e2]
   go_enter func119,ntmps119;go_upto_region 1 with fail;rw[←HW.o];clear HW;go_wp2_with fail
   all_goals (try go_wp2)
   all_goals (try go_ret)
   all_goals exact Ak.no (by first|exact id|exact fun h=>e2 h.1.2.1) bW
 ·have b1:(wd==zI)=false:=by simp[e1]
  go_enter func119,ntmps119;go_upto_region 1 with fail;rw[←HW.o];clear HW;go_wp2_with fail
  all_goals (try go_wp2)
  all_goals (try go_ret)
  all_goals exact Ak.no (by first|exact id|exact fun h=>e1 h.1.1) bW
section
open Go.RowKit
def Bg:Obj->Bool
 |.cells _ t _=> !(t==9||t==139||t==134||t==137)
 |_=>true
structure Bm (B:Nat) (W W':World):Prop where
 size:W.heap.size<=W'.heap.size
 same:∀b o,B<=b->W.heap[b]?=some o->Bg o=true->W'.heap[b]?=some o
theorem Bm.refl (B:Nat) (W:World):Bm B W W:=⟨XB,fun _ _ _ h _=>h⟩
theorem Bm.trans {B:Nat} {X Y Z:World} (h:Bm B X Y) (k:Bm B Y Z):Bm B X Z:=⟨XI h.size k.size,fun b o hb hx ho=>k.same b o hb (h.same b o hb hx ho) ho⟩
theorem Bm.mono {B B':Nat} {W W':World} (h:Bm B W W') (hB:B<=B'):Bm B' W W':=⟨h.size,fun b o hb=>h.same b o (by omega)⟩
def BQ (B:Nat) (J:Nat->World->Prop):Prop:=
 ∀k W W' row,J k W->W.grownBy W' row->(∀r,row=some r->B<=r/\∃o,W.heap[r]?=some o/\Bg o=true)->J k W'
theorem BQ.mono {B B':Nat} {J:Nat->World->Prop} (h:BQ B J) (hB:B<=B'):BQ B' J:=
 fun k W W' row hj hg hr=>h k W W' row hj hg (fun r e=>⟨XI hB (hr r e).1,(hr r e).2⟩)
theorem BQ.putObj {B:Nat} {J:Nat->World->Prop} (h:BQ B J) {k:Nat} {W:World} {l:Nat} {o:Obj} (o':Obj) (hj:J k W) (hB:B<=l) (hl:W.heap[l]?=some o) (ho:Bg o=true):J k (W.putObj l o'):=
 h k W _ (some l) hj (grownBy_putObj' W l o') (fun r e=>by cases e;exact⟨hB,o,hl,ho⟩)
theorem BQ.alloc {B:Nat} {J:Nat->World->Prop} (h:BQ B J) {k:Nat} {W:World} (o:Obj) (hj:J k W):J k (W.alloc o):=
 h k W _ none hj ⟨rfl,rfl,rfl,by simp,fun i hi _=>Below.heap_alloc W o i hi⟩ (fun r e=>by cases e)
def Eu (P:Program) (gf:Nat) (ar:Nat->Array Value) (xs:List ByteArray) (n0:Nat) (w:World):Prop:=
 ∀(l:Nat) (J Jx:Nat->World->Prop) (W:World),Xz w W->BQ W.heap.size J->BQ W.heap.size Jx->
  (∀k W1 s,xs[k]?=some s->J k W1->W.heap.size<=W1.heap.size->∀m,YieldAt Fence.wide m P l #[.string s] W1 fun e W'=>
    Bm W.heap.size W1 W'/\((e=.returned (.bool true)/\J (k+1) W'/\Below n0 W1 W')∨(e=.returned (.bool false)/\Jx (k+1) W')))->
  J 0 W->∀m,CallsIn Fence.wide m P gf (ar l) W fun e W'=>(∃v,e=.returned v)/\(J xs.length W'∨∃k,Jx k W')
def VR (n0 B:Nat) (I:Nat->World->Prop) (Ix:Nat->World->Prop) (k:Nat) (W:World):Exit->Act->World->Prop
 |.normal,_,W'=>Bm B W W'/\I (k+1) W'/\Below n0 W W'
 |.ret,_,W'=>Bm B W W'/\Ix (k+1) W'
 |_,_,_=>False
theorem Gs {P:Program} {n:Nat} {g:Operand} {ps:Array Tmp} {assign body:Code} {Q:Exit->Act->World->Prop} {a:Act} {w:World}
 {gf:Nat} {pre lb:Array Value} (hg:a.eval g=.func (.func gf) pre lb) (eg:∀args w,(callFunc gf args).run P w=.ok (.enter gf args) w)
 {xs:List ByteArray} {n0:Nat} (zN:Eu P gf (fun l=>pre++ #[.func (.yield l) #[] #[]]++lb) xs n0 w) (yF:n0<=w.heap.size) (yC:ps.size=1)
 (I Ix:Nat->World->Prop) (hI:BQ w.heap.size I) (zK:BQ w.heap.size Ix) (h0:I 0 w) (a1:ByteArray->Act)
 (zC:∀(l m:Nat) (s:ByteArray) (W:World) (K:Act->World->Prop),K (a1 s) W->
   assign.wpIn (Fence.wide.inRound l) m P (Exit.then K (fun _ _ _=>False)) {tmps:=(ps.zip #[.string s]).foldl (fun t (p,v)=>t.setIfInBounds p v) a.tmps,defers:=[]} W)
 (zH:∀(l m k:Nat) (s:ByteArray) (W:World),xs[k]?=some s->I k W->w.heap.size+2<=W.heap.size->body.wpIn (Fence.wide.inRound l) m P (VR n0 w.heap.size I Ix k W) (a1 s) W)
 (zI:∀(D:Nat) (W:World),w.heap.size<=D->I xs.length W->W.heap[D]?=some (.deferred (some []))->Q .normal {a with defers:={target:=.collected D,args:= #[]}::a.defers} W)
 (zG:∀(D k:Nat) (W:World),w.heap.size<=D->Ix k W->W.heap[D]?=some (.deferred (some []))->Code.ret.wpIn Fence.wide n P Q {a with defers:={target:=.collected D,args:= #[]}::a.defers} W):
 (Code.rangeFunc g ps assign body).wpIn Fence.wide n P Q a w:=by
 refine wpIn_rangeFunc ?_;intro fn yE;obtain⟨rec,zA⟩:∃rec:LoopState->Option Code->Loop,rec=fun st pe=>{state:=st,pending:=pe,fn,tmps:=a.tmps,params:=ps,assign,body,defers:=w.heap.size}:=⟨_,rfl⟩;obtain⟨V,hV⟩:∃V,V=(w.alloc (.deferred (some []))).alloc (.loop (rec .ready none)):=⟨_,rfl⟩;have yG:V.heap.size=w.heap.size+2:=by rw[hV];simp
 have zS:V.heap[w.heap.size+1]?=some (.loop (rec .ready none)):=by
  have:=World.alloc_heap_new (w.alloc (.deferred (some []))) (.loop (rec .ready none));rw[World.size_alloc] at this;rw[hV];exact this
 have zX:V.heap[w.heap.size]?=some (.deferred (some [])):=by
  rw[hV];exact(Below.heap_alloc _ _ _ (by simp)).trans (World.alloc_heap_new w _)
 have yD:Below w.heap.size w V:=by
  rw[hV];exact((Below.refl _ w).alloc (XB) _).alloc (by simp) _
 have zU:I 0 V:=by rw[hV];exact hI.alloc _ (hI.alloc _ h0)
 refine⟨w.heap.size+1,[{target:=.collected w.heap.size,args:= #[]}],V,{target:=.fn (.func gf) lb,args:=pre++ #[.func (.yield (w.heap.size+1)) #[] #[]]},V,gf,
  pre++ #[.func (.yield (w.heap.size+1)) #[] #[]]++lb,V,?_,?_,fun _ _=>trivial,?_,fun h=>by simp[Fence.wide] at h,?_⟩
 ·rw[hV,zA];exact run_enterLoop_outer _ _ _ _ _
 ·simp only[resolve,hg]
  simp[go_sem]
 ·simp[invoke,go_sem,eg]
 ·have zR:∀{A:World} {row:Option Nat},(∀r,row=some r->V.heap.size<=r/\∃o:Obj,A.heap[r]?=some o/\Bg o=true)->(∀r,row=some r->w.heap.size<=r/\∃o:Obj,A.heap[r]?=some o/\Bg o=true):=
   fun hr r e=>⟨by have:=(hr r e).1;omega,(hr r e).2⟩
  have zB:∀{A B:World} {row:Option Nat} {k:Nat} {o:Obj},A.grownBy B row->(∀r,row=some r->V.heap.size<=r/\∃o:Obj,A.heap[r]?=some o/\Bg o=true)->k<V.heap.size->A.heap[k]?=some o->B.heap[k]?=some o:=
   fun {A B row k o} hg' hr hk ho=>(hg'.block k (Array.getElem?_eq_some_iff.1 ho).1 (fun e=>by have:=(hr k e.symm).1;omega)).trans ho
  refine(zN (w.heap.size+1)
   (fun k W=>I k W/\W.heap[w.heap.size+1]?=some (.loop (rec .ready none))/\W.heap[w.heap.size]?=some (.deferred (some [])))
   (fun k W=>Ix k W/\W.heap[w.heap.size+1]?=some (.loop (rec .done (some .ret)))/\W.heap[w.heap.size]?=some (.deferred (some [])))
   V yD
   (fun s A B row hs hg' hr=>⟨hI s A B row hs.1 hg' (zR hr),zB hg' hr (by omega) hs.2.1,zB hg' hr (by omega) hs.2.2⟩)
   (fun s A B row hs hg' hr=>⟨zK s A B row hs.1 hg' (zR hr),zB hg' hr (by omega) hs.2.1,zB hg' hr (by omega) hs.2.2⟩)
   ?_ ⟨zU,zS,zX⟩ _).mono ?_
  ·rintro k W s yB ⟨hi,hl,hk⟩ yH m
   have zW:w.heap.size+1<W.heap.size:=(Array.getElem?_eq_some_iff.1 hl).1;have hy:=run_yield (P:=P) (args:= #[.string s]) hl (by rw[zA];exact yC.symm);rw[zA] at hy;refine⟨fn,_,assign,body,hy,roundIn_of_wpIn yE (zC _ _ s W _ ?_)⟩;clear hy;refine⟨_,run_beginRound hl (by rw[zA]),?_⟩
   have zY:(W.putObj (w.heap.size+1) (.loop {rec .ready none with state:=.busy})).heap[w.heap.size+1]?=some (.loop {rec .ready none with state:=.busy}):=World.putObj_heap_same zW;have zV:(W.putObj (w.heap.size+1) (.loop {rec .ready none with state:=.busy})).heap[w.heap.size]?=some (.deferred (some [])):=(World.putObj_heap_other (by omega)).trans hk
   refine wpIn_mono (zH _ _ k s _ yB (hI.putObj _ hi (by omega) hl rfl) (by rw[World.putObj_size];omega)) ?_;have fin:∀(jump:Option Code) (W3:World),Bm w.heap.size (W.putObj (w.heap.size+1) (.loop {rec .ready none with state:=.busy})) W3->
    (Instr.endRound (w.heap.size+1) jump).run P W3=.ok (.bool jump.isNone) (W3.putObj (w.heap.size+1) (.loop (rec (if jump.isNone then .ready else .done) jump)))/\
    W3.heap[w.heap.size+1]?=some (.loop {rec .ready none with state:=.busy})/\
    (W3.putObj (w.heap.size+1) (.loop (rec (if jump.isNone then .ready else .done) jump))).heap[w.heap.size+1]?=some (.loop (rec (if jump.isNone then .ready else .done) jump))/\
    (W3.putObj (w.heap.size+1) (.loop (rec (if jump.isNone then .ready else .done) jump))).heap[w.heap.size]?=some (.deferred (some []))/\
    Bm V.heap.size W (W3.putObj (w.heap.size+1) (.loop (rec (if jump.isNone then .ready else .done) jump))):=fun jump W3 zE=>by
    have zF:=zE.same _ _ (by omega) zY rfl;have:=run_endRound (P:=P) jump zF;have yA:Bm V.heap.size W (W3.putObj (w.heap.size+1) (.loop (rec (if jump.isNone then .ready else .done) jump))):=by
     refine⟨by have:=zE.size;rw[World.putObj_size] at this ⊢;exact this,fun b o hb ho hn=> ?_⟩;rw[World.putObj_heap_other (by omega)];exact zE.same b o (by omega) ((World.putObj_heap_other (by omega)).trans ho) hn
    refine⟨?_,zF,World.putObj_heap_same (Array.getElem?_eq_some_iff.1 zF).1,(World.putObj_heap_other (by omega)).trans (zE.same _ _ (XB) zV rfl),yA⟩;rw[zA] at this ⊢;exact this
   rintro e a3 W3 hp;have zT:∀o,Below n0 W (W.putObj (w.heap.size+1) o):=fun o=>⟨rfl,rfl,rfl,by simp,fun i hi=>World.putObj_heap_other (by omega)⟩;cases e with
   |normal=>
    obtain⟨zE,zO,zZ⟩:=hp;obtain⟨hr,zF,zP,zM,zJ⟩:=fin none W3 zE;exact⟨_,_,hr,zJ,.inl ⟨rfl,⟨hI.putObj _ zO (by omega) zF rfl,zP,zM⟩,((zT _).trans zZ).trans ⟨rfl,rfl,rfl,by simp,fun i hi=>World.putObj_heap_other (by omega)⟩⟩⟩
   |ret=>
    obtain⟨zE,zO⟩:=hp;obtain⟨hr,zF,zP,zM,zJ⟩:=fin (some .ret) W3 zE;exact⟨_,_,hr,zJ,.inr ⟨rfl,zK.putObj _ zO (by omega) zF rfl,zP,zM⟩⟩
   |exit id=>exact hp.elim
   |goto t=>exact hp.elim
   |panic ch=>exact hp.elim
   |outgrown=>exact hp.elim
  ·rintro e W2 ⟨⟨v,rfl⟩,(⟨hi,hl,hk⟩|⟨k,hi,hl,hk⟩)⟩
   ·exact⟨none,_,by have:=run_endLoop (P:=P) hl (by rw[zA];simp);rw[zA] at this;exact this,zI _ _ (XB) (hI.putObj _ hi (by omega) hl rfl) ((World.putObj_heap_other (by omega)).trans hk)⟩
   ·exact⟨some .ret,_,by have:=run_endLoop (P:=P) hl (by rw[zA];simp);rw[zA] at this;exact this,zG _ k _ (XB) (zK.putObj _ hi (by omega) hl rfl) ((World.putObj_heap_other (by omega)).trans hk)⟩
end
section
open Go.RowKit
attribute [local go_sem] Oper.semAt_some
theorem Sc (a:Option Addr) (cap:Nat) (ss:List ByteArray) (n0:Nat) (w:World) (zB:Ae w n0 a ss) (zF:n0<=w.heap.size) (hl:ss.length<=maxLen):
 Eu prog 109 (fun l=> #[.agg #[.slice a ss.length cap],.func (.yield l) #[] #[]]) ss n0 w:=by
 intro l J Jx W hW hJ zK hY h0 m;unfold maxLen at hl;have zA:=zB.below (hW.mono zF);refine callsIn_of_wp func109 rfl trivial ?_ rfl;simp only[ntmps109,List.size_toArray,List.length_cons,List.length_nil,Nat.reduceAdd,Nat.reduceSub,Array.replicate_succ,Array.replicate_zero,List.push_toArray,List.append_toArray,List.nil_append,List.cons_append]
 gi_wp2
 gi_loopw [9] (fun i wr=>∃k:Nat,k<=ss.length/\i=XJ k/\J k wr/\Below n0 W wr/\W.heap.size<=wr.heap.size)
  (fun i _=>ss.length -(intOf i).toNat)
 case atStart=>exact⟨0,Nat.zero_le _,rfl,hJ.alloc _ h0,(Below.refl _ _).alloc (XI zF hW.size) _,by simp⟩
 case round=>
  obtain⟨k,hk,rfl,zE,zH,zG⟩:=hrel;by_cases hlt:k<ss.length
  ·obtain⟨b,off,ha,hb,hc⟩:=(zA.below zH).at hlt
   subst ha;have zM:=hc k ss[k] (XD hlt);obtain⟨fn,tmps,assign,body,hy,hR⟩:=hY k wr ss[k] (XD hlt) zE zG (m -1);clear hc zB zA hY;generalize ss[k]=s at *
   gi_wp2
   refine⟨fun h=>by simp[Fence.wide] at h,hR.mono ?_⟩;rintro e W3 ⟨hK,(⟨rfl,zJ,zI⟩|⟨rfl,zC⟩)⟩
   ·gi_wp2
    go_roundw
    case rel=>exact⟨k+1,by omega,by simp,zJ,zH.trans zI,XI zG hK.size⟩
    case measure=>simp[intOf];omega
   ·gi_wp2
    refine bodyPost_ret (results_none rfl _ _ _) rfl ?_;exact⟨⟨_,rfl⟩,.inr ⟨_,zC⟩⟩
  ·obtain rfl:k=ss.length:=by omega
   gi_wp2
   go_end0
   exact⟨⟨_,rfl⟩,.inl zE⟩
theorem Sd (v:Value) (a:Option Addr) (cap:Nat) (ss:List ByteArray) (n0:Nat) (w:World) (zB:Ae w n0 a ss) (zF:n0<=w.heap.size) (hl:ss.length<=maxLen):
 Eu prog 110 (fun l=> #[.agg #[v,.slice a ss.length cap],.func (.yield l) #[] #[]]) ss n0 w:=by
 intro l J Jx W hW hJ zK hY h0 m;unfold maxLen at hl;have zA:=zB.below (hW.mono zF);refine callsIn_of_wp func110 rfl trivial ?_ rfl;simp only[ntmps110,List.size_toArray,List.length_cons,List.length_nil,Nat.reduceAdd,Nat.reduceSub,Array.replicate_succ,Array.replicate_zero,List.push_toArray,List.append_toArray,List.nil_append,List.cons_append]
 gi_wp2
 gi_loopw [9] (fun i wr=>∃k:Nat,k<=ss.length/\i=XJ k/\J k wr/\Below n0 W wr/\W.heap.size<=wr.heap.size)
  (fun i _=>ss.length -(intOf i).toNat)
 case atStart=>exact⟨0,Nat.zero_le _,rfl,hJ.alloc _ h0,(Below.refl _ _).alloc (XI zF hW.size) _,by simp⟩
 case round=>
  obtain⟨k,hk,rfl,zE,zH,zG⟩:=hrel;by_cases hlt:k<ss.length
  ·obtain⟨b,off,ha,hb,hc⟩:=(zA.below zH).at hlt
   subst ha;have zM:=hc k ss[k] (XD hlt);obtain⟨fn,tmps,assign,body,hy,hR⟩:=hY k wr ss[k] (XD hlt) zE zG (m -1);clear hc zB zA hY;generalize ss[k]=s at *
   gi_wp2
   refine⟨fun h=>by simp[Fence.wide] at h,hR.mono ?_⟩;rintro e W3 ⟨hK,(⟨rfl,zJ,zI⟩|⟨rfl,zC⟩)⟩
   ·gi_wp2
    go_roundw
    case rel=>exact⟨k+1,by omega,by simp,zJ,zH.trans zI,XI zG hK.size⟩
    case measure=>simp[intOf];omega
   ·gi_wp2
    refine bodyPost_ret (results_none rfl _ _ _) rfl ?_;exact⟨⟨_,rfl⟩,.inr ⟨_,zC⟩⟩
  ·obtain rfl:k=ss.length:=by omega
   gi_wp2
   go_end0
   exact⟨⟨_,rfl⟩,.inl zE⟩
end
section
open Go.RowKit
attribute [local go_sem] Oper.semAt_some
theorem BQ.and {B:Nat} {J K:Nat->World->Prop} (h:BQ B J) (k:BQ B K):BQ B (fun n W=>J n W/\K n W):=
 fun n W W' row hj hg hr=>⟨h n W W' row hj.1 hg hr,k n W W' row hj.2 hg hr⟩
theorem Dk {B n0:Nat} (w:World) (hw:n0<=w.heap.size) (hn:n0<=B):BQ B (fun _ W=>Below n0 w W):=
 fun _ W W' row hj hg hr=>⟨hg.os.trans hj.os,hg.tape.trans hj.tape,hg.output.trans hj.output,XI hj.size hg.size,fun k hk=>
  (hg.block k (by have:=hj.size;omega) (fun e=>by have:=(hr k e.symm).1;omega)).trans (hj.block k hk)⟩
theorem CB {B b:Nat} (o:Obj) (hb:b<B):BQ B (fun _ W=>W.heap[b]?=some o):=
 fun _ W W' row hj hg hr=>(hg.block b (Array.getElem?_eq_some_iff.1 hj).1 (fun e=>by have:=(hr b e.symm).1;omega)).trans hj
theorem Hs (a a':Option Addr) (cap zA:Nat) (ss tt:List ByteArray) (n0:Nat) (w:World) (zO:Ae w n0 a ss) (zG:Ae w n0 a' tt) (zM:n0<=w.heap.size) (hl:ss.length<=maxLen) (yB:tt.length<=maxLen):
 Eu prog 59 (fun l=> #[.agg #[.slice a ss.length cap,.slice a' tt.length zA],.func (.yield l) #[] #[]]) (ss++tt) n0 w:=by
 intro l J Jx W hW hJ zI hY h0 m;refine callsIn_of_wp_marks func59 rfl trivial ?_ rfl;simp only[ntmps59,List.size_toArray,List.length_cons,List.length_nil,Nat.reduceAdd,Nat.reduceSub,Array.replicate_succ,Array.replicate_zero,List.push_toArray,List.append_toArray,List.nil_append,List.cons_append]
 gi_wp2
 have zZ:=XI zM hW.size;obtain⟨W0,zE⟩:∃W0,W0=(W.alloc (.cells #[.slice a ss.length cap,.slice a' tt.length zA] 99)).alloc (.cells #[.func (.yield l) #[] #[]] 125):=⟨_,rfl⟩;have yG:W0.heap.size=W.heap.size+2:=by rw[zE];simp
 have yD:W0.heap[W.heap.size]?=some (.cells #[.slice a ss.length cap,.slice a' tt.length zA] 99):=by
  rw[zE];exact(Below.heap_alloc _ _ _ (by simp)).trans (World.alloc_heap_new _ _)
 have zV:W0.heap[W.heap.size+1]?=some (.cells #[.func (.yield l) #[] #[]] 125):=by
  rw[zE];have:=World.alloc_heap_new (W.alloc (.cells #[.slice a ss.length cap,.slice a' tt.length zA] 99)) (.cells #[.func (.yield l) #[] #[]] 125);rwa[World.size_alloc] at this
 have zT:Below n0 W W0:=by rw[zE];exact((Below.refl _ W).alloc zZ _).alloc (by simp;omega) _
 have zW:J 0 W0:=by rw[zE];exact hJ.alloc _ (hJ.alloc _ h0)
 rw[←zE];clear zE;have zX:=(zO.below (hW.mono zM)).below zT;have yA:=(zG.below (hW.mono zM)).below zT;refine Gs (gf:=109) (pre:= #[.agg #[.slice a ss.length cap]]) (lb:= #[]) rfl (enters_of func109 (by kernel_rfl) rfl) (xs:=ss) (n0:=n0)
  (by simpa using Sc a cap ss n0 W0 zX (by omega) hl) (by omega) rfl
  (fun k V=>J k V/\Below n0 W0 V/\V.heap[W.heap.size]?=some (.cells #[.slice a ss.length cap,.slice a' tt.length zA] 99)/\V.heap[W.heap.size+1]?=some (.cells #[.func (.yield l) #[] #[]] 125))
  Jx ((hJ.mono (by omega)).and ((Dk W0 (by omega) (by omega)).and ((CB _ (by omega)).and (CB _ (by omega))))) (zI.mono (by omega))
  ⟨zW,Below.refl _ _,yD,zV⟩ (fun s=>{tmps:= #[.agg #[.slice a ss.length cap,.slice a' tt.length zA],.func (.yield l) #[] #[],.pointer (some ⟨W.heap.size,0,none⟩),.pointer (some ⟨W.heap.size+1,0,none⟩),.string s,undef,
   .pointer (some ⟨W.heap.size,0,none⟩),.agg #[.slice a ss.length cap],.func (.func 109) #[.agg #[.slice a ss.length cap]] #[],.string s,undef,undef,undef,undef,undef,undef,undef,undef,undef,undef,undef],defers:=[]}) ?assign ?body ?done ?stop
 case assign=>
  intro l2 m2 s V K hK
  gi_wp2
  exact hK
 case body=>
  rintro l2 m2 k s V hs ⟨hj,zR,zK,zC⟩ yC;obtain⟨fn,tmps,assign,body,hy,hR⟩:=hY k V s (by rw[List.getElem?_append_left (XC hs).1];exact hs) hj (by omega) (m2 -1);have yE:V.cell? (XL (W.heap.size+1) 0)=some (.func (.yield l) #[] #[]):=by simp[World.cell?,zC]
  gi_wp2
  refine⟨fun h=>by simp[Fence.wide] at h,RoundIn.mono (F:=Fence.wide.inRound l2) hR ?_⟩;rintro e V3 ⟨zB,(⟨rfl,zP,zJ⟩|⟨rfl,zF⟩)⟩
  ·gi_wp2
   exact⟨zB.mono (by omega),⟨zP,zR.trans zJ,zB.same _ _ (by omega) zK rfl,zB.same _ _ (by omega) zC rfl⟩,zJ⟩
  ·gi_wp2
   exact⟨zB.mono (by omega),zF⟩
 case done=>
  rintro D V hD ⟨hj,zR,zK,zC⟩ hK;have yH:V.cell? (XL (W.heap.size) 0)=some (.slice a ss.length cap):=by simp[World.cell?,zK]
  have yF:V.cell? (XL (W.heap.size) 1)=some (.slice a' tt.length zA):=by simp[World.cell?,zK]
  gi_wp2
  have zS:=(Array.getElem?_eq_some_iff.1 hK).1;have zY:=(Array.getElem?_eq_some_iff.1 zC).1;refine Gs (gf:=110) (pre:= #[.agg #[.slice a ss.length cap,.slice a' tt.length zA]]) (lb:= #[]) rfl (enters_of func110 (by kernel_rfl) rfl) (xs:=tt) (n0:=n0)
   (by simpa using Sd (.slice a ss.length cap) a' zA tt n0 V (yA.below zR) (by omega) yB) (by omega) rfl
   (fun k X=>J (ss.length+k) X/\X.heap[W.heap.size+1]?=some (.cells #[.func (.yield l) #[] #[]] 125)/\X.heap[D]?=some (.deferred (some [])))
   (fun _ X=>(∃k,Jx k X)/\X.heap[D]?=some (.deferred (some [])))
   (BQ.and (fun k X X' row hj hg hr=>(hJ.mono (by omega)) (ss.length+k) X X' row hj hg hr) ((CB _ zY).and (CB _ zS))) (BQ.and (fun _ X X' row hj hg hr=>hj.elim fun k hk=>⟨k,(zI.mono (by omega)) k X X' row hk hg hr⟩) (CB _ zS))
   ⟨hj,zC,hK⟩ (fun s=>{tmps:= #[.agg #[.slice a ss.length cap,.slice a' tt.length zA],.func (.yield l) #[] #[],.pointer (some ⟨W.heap.size,0,none⟩),.pointer (some ⟨W.heap.size+1,0,none⟩),undef,.string s,
    .pointer (some ⟨W.heap.size,0,none⟩),.agg #[.slice a ss.length cap],.func (.func 109) #[.agg #[.slice a ss.length cap]] #[],undef,undef,undef,undef,undef,
    .agg #[.slice a ss.length cap,.slice a' tt.length zA],.func (.func 110) #[.agg #[.slice a ss.length cap,.slice a' tt.length zA]] #[],.string s,undef,undef,undef,undef],defers:=[]}) ?assign2 ?body2 ?done2 ?stop2
  case assign2=>
   intro l2 m2 s X K hK
   gi_wp2
   exact hK
  case body2=>
   rintro l2 m2 k s X hs ⟨hj,zC,hK⟩ yC;obtain⟨fn,tmps,assign,body,hy,hR⟩:=hY (ss.length+k) X s (by rw[List.getElem?_append_right (by omega),Nat.add_sub_cancel_left];exact hs) hj (by omega) (m2 -1);have yE:X.cell? (XL (W.heap.size+1) 0)=some (.func (.yield l) #[] #[]):=by simp[World.cell?,zC]
   gi_wp2
   refine⟨fun h=>by simp[Fence.wide] at h,RoundIn.mono (F:=Fence.wide.inRound l2) hR ?_⟩;rintro e V3 ⟨zB,(⟨rfl,zP,zJ⟩|⟨rfl,zF⟩)⟩
   ·gi_wp2
    exact⟨zB.mono (by omega),⟨zP,zB.same _ _ (by omega) zC rfl,zB.same _ _ (by omega) hK rfl⟩,zJ⟩
   ·gi_wp2
    exact⟨zB.mono (by omega),⟨_,zF⟩,zB.same _ _ (by omega) hK rfl⟩
  case done2=>
   rintro D2 X zU ⟨hj,zC,hK⟩ zH
   gi_wp2
   refine⟨by simp,.inl ⟨_,_,rfl,run_takeDeferred zH,by simp,.inl ⟨_,_,rfl,run_takeDeferred ((World.putObj_heap_other (by omega)).trans hK),?_⟩⟩⟩;refine⟨_,results_none rfl _ _ _,⟨_,rfl⟩,.inl ?_⟩;rw[List.length_append];exact hJ.putObj _ (hJ.putObj _ hj (by omega) zH rfl) (by omega) ((World.putObj_heap_other (by omega)).trans hK) rfl
  case stop2=>
   rintro D2 k X zU ⟨⟨k2,zN⟩,hK⟩ zH
   gi_wp2
   refine⟨by simp,.inl ⟨_,_,rfl,run_takeDeferred zH,by simp,.inl ⟨_,_,rfl,run_takeDeferred ((World.putObj_heap_other (by omega)).trans hK),?_⟩⟩⟩;refine⟨_,results_none rfl _ _ _,⟨_,rfl⟩,.inr ⟨k2,?_⟩⟩;exact zI.putObj _ (zI.putObj _ zN (by omega) zH rfl) (by omega) ((World.putObj_heap_other (by omega)).trans hK) rfl
 case stop=>
  rintro D k V hD zN hK
  gi_wp2
  refine⟨by simp,.inl ⟨_,_,rfl,run_takeDeferred hK,?_⟩⟩;exact⟨_,results_none rfl _ _ _,⟨_,rfl⟩,.inr ⟨k,zI.putObj _ zN (by omega) hK rfl⟩⟩
end
theorem Dr.stable {V V':World} {base d m B:Nat} {O P L:Value} {wd now given births:Int} {ks:List Kd} {ps:List Pd} {ls:List Ld} (h:Dr V base d m O P L wd now given births ks ps ls) (hd:d<B) (hm:m<B) (hb:base<=B) {row:Option Nat} (hg:V.grownBy V' row) (hr:∀r,row=some r->B<=r/\∃o,V.heap[r]?=some o/\Bg o=true):Dr V' base d m O P L wd now given births ks ps ls:=by
 refine(DU.turn ⟨h⟩ (Cn hg) (fun r hr'=> ?_)).dr;obtain⟨h1,o,h2,h3⟩:=hr r (by simpa using hr');refine⟨by omega,fun hv=> ?_,fun cur fz e=> ?_⟩
 ·unfold vB at hv
  simp only[List.mem_cons,List.mem_append,Option.mem_toList] at hv;rcases hv with e|e|e|e|e
  ·omega
  ·omega
  ·obtain⟨c,hc⟩:=Cd h.ord e
   rw[h2] at hc;cases hc;simp[Bg] at h3
  ·obtain⟨c,hc⟩:=Cd h.pin e
   rw[h2] at hc;cases hc;simp[Bg] at h3
  ·obtain⟨c,hc⟩:=Cd h.lea e
   rw[h2] at hc;cases hc;simp[Bg] at h3
 ·rw[h2] at e
  cases e;simp[Bg] at h3
theorem Dr.boxNotin {V:World} {base d m b:Nat} {O P L:Value} {wd now given births:Int} {ks:List Kd} {ps:List Pd} {ls:List Ld} (h:Dr V base d m O P L wd now given births ks ps ls) {o:Obj} (hx:V.heap[b]?=some o) (ho:Bg o=true) (hd:b≠d) (hm:b≠m):b∉vB d m O P L/\NS V b:=by
 refine⟨fun hv=> ?_,fun cur fz e=> ?_⟩
 ·unfold vB at hv
  simp only[List.mem_cons,List.mem_append,Option.mem_toList] at hv;rcases hv with e|e|e|e|e
  ·exact hd e
  ·exact hm e
  ·obtain⟨c,hc⟩:=Cd h.ord e
   rw[hx] at hc;cases hc;simp[Bg] at ho
  ·obtain⟨c,hc⟩:=Cd h.pin e
   rw[hx] at hc;cases hc;simp[Bg] at ho
  ·obtain⟨c,hc⟩:=Cd h.lea e
   rw[hx] at hc;cases hc;simp[Bg] at ho
 ·rw[hx] at e
  cases e;simp[Bg] at ho
theorem Dr.rebase {V:World} {base zA d m:Nat} {O P L:Value} {wd now given births:Int} {ps:List Pd} {ls:List Ld} (h:Dr V base d m O P L wd now given births [] ps ls) (hb:zA<=base):Dr V zA d m O P L wd now given births [] ps ls:=by
 obtain⟨n,f,h1,h2,h3⟩:=h.map;refine⟨h.box,⟨n,f,h1,h2,fun s hs=> ?_⟩,h.ord.mono hb,h.pin.mono hb,h.lea.mono hb,XI hb h.bd,XI hb h.bm,h.ap⟩;rcases h3 s hs with h|⟨u,_,_,hu,_⟩
 ·exact .inl h
 ·simp at hu
theorem Dr.keepsB {V V':World} {base d m B:Nat} {O P L:Value} {wd now given births:Int} {ks:List Kd} {ps:List Pd} {ls:List Ld} (h:Dr V base d m O P L wd now given births ks ps ls) (hd:d<B) (hm:m<B) (ht:Tn (vB d m O P L) V V'):Bm B V V':=by
 refine⟨ht.size,fun b o hb hx ho=>(ht.block b (Array.getElem?_eq_some_iff.1 hx).1 (fun hv=> ?_)).trans hx⟩;unfold vB at hv;simp only[List.mem_cons,List.mem_append,Option.mem_toList] at hv;rcases hv with e|e|e|e|e
 ·omega
 ·omega
 ·obtain⟨c,hc⟩:=Cd h.ord e
  rw[hx] at hc;cases hc;simp[Bg] at ho
 ·obtain⟨c,hc⟩:=Cd h.pin e
  rw[hx] at hc;cases hc;simp[Bg] at ho
 ·obtain⟨c,hc⟩:=Cd h.lea e
  rw[hx] at hc;cases hc;simp[Bg] at ho
theorem Bm.ofG {B:Nat} {W W':World} {row:Option Nat} (hg:W.grownBy W' row) (zA:∀j,row=some j->j<B):Bm B W W':=
 ⟨hg.size,fun b _ hb h _=>(hg.block b (Array.getElem?_eq_some_iff.1 h).1 (fun e=>by have:=zA b e.symm;omega)).trans h⟩
theorem Bm.below {B:Nat} {V V':World} (h:Xz V V'):Bm B V V':=⟨h.size,fun b _ _ hx _=>(h.block b (Array.getElem?_eq_some_iff.1 hx).1).trans hx⟩
end Go.Proofs.YtpekbmegopfhfaaGreatDoor
