import Derived.Test.YtpekbmegopfhfaaGreatDoorK39
import Derived.Test.YtpekbmegopfhfaaGreatDoorK24
set_option maxRecDepth 100000
set_option maxHeartbeats 16000000
namespace Go.Proofs.YtpekbmegopfhfaaGreatDoor
open Go.ChangeShapes Go.WideShapes Go.ChangeAt Go.RowKit _root_.Go.Proofs.Tryz
section
attribute [local go_sem↓] Go.wp_at_zero Go.wp_at_succ
theorem Kn (wd now given births zO zG zB zA:Int) (a p l a' p' l':Option Addr) (ac pc lc zZ yB yA:Nat) (ks zH:List Kd) (ps zJ:List Pd) (ls zI:List Ld) (w:World) (hr:Bt w w.heap.size a p l ks ps ls) (hq:Bt w w.heap.size a' p' l' zH zJ zI) (hl:ks.length<=100000/\ps.length<=100000/\ls.length<=100000) (xF:zH.length<=1048576/\zJ.length<=1048576/\zI.length<=1048576) (h1:∀k∈ks,k.refs.length<=100000) (h2:∀k∈zH,k.refs.length<=1048576):
 Calls prog 67 #[.agg #[XJ wd,XJ now,XJ given,XJ births,.slice a ks.length ac,.slice p ps.length pc,.slice l ls.length lc],.agg #[XJ zO,XJ zG,XJ zB,XJ zA,.slice a' zH.length zZ,.slice p' zJ.length yB,.slice l' zI.length yA]] w fun e w'=>Ak ((wd=zO/\now=zG/\given=zB/\births=zA)/\ks=zH/\ps=zJ/\ls=zI) w w' e:=by
 obtain⟨W,hW⟩:∃W,W=(w.alloc (.cells #[XJ wd,XJ now,XJ given,XJ births,.slice a ks.length ac,.slice p ps.length pc,.slice l ls.length lc] 28)).alloc (.cells #[XJ zO,XJ zG,XJ zB,XJ zA,.slice a' zH.length zZ,.slice p' zJ.length yB,.slice l' zI.length yA] 28):=⟨_,rfl⟩;have bW:=(AP hW).1;have x0:=(AP hW).2.2.1
 have x1:Aa W (w.heap.size+1) [XJ zO,XJ zG,XJ zB,XJ zA,.slice a' zH.length zZ,.slice p' zJ.length yB,.slice l' zI.length yA]:=by
  have h1:=Aa.new (w.alloc (.cells #[XJ wd,XJ now,XJ given,XJ births,.slice a ks.length ac,.slice p ps.length pc,.slice l ls.length lc] 28)) [XJ zO,XJ zG,XJ zB,XJ zA,.slice a' zH.length zZ,.slice p' zJ.length yB,.slice l' zI.length yA] 28;rw[World.size_alloc] at h1;rw[hW];exact h1
 have HX:Hid (∀X,Xz W X->Aa X w.heap.size [XJ wd,XJ now,XJ given,XJ births,.slice a ks.length ac,.slice p ps.length pc,.slice l ls.length lc]/\Aa X (w.heap.size+1) [XJ zO,XJ zG,XJ zB,XJ zA,.slice a' zH.length zZ,.slice p' zJ.length yB,.slice l' zI.length yA]/\Bt X w.heap.size a p l ks ps ls/\Bt X w.heap.size a' p' l' zH zJ zI/\Xz w X):=fun X hX=>by
  have hb:=bW.trans (hX.mono bW.size);exact⟨Aa.below x0 hX,Aa.below x1 hX,hr.keep hb,hq.keep hb,hb⟩
 have zW:=(AP hW).2.1;obtain⟨xE,_⟩:=x0 0 _ rfl;obtain⟨xA,_⟩:=x1 0 _ rfl;obtain⟨yU,_⟩:=x0 1 _ rfl;obtain⟨yS,_⟩:=x1 1 _ rfl;obtain⟨yQ,_⟩:=x0 2 _ rfl;obtain⟨xC,_⟩:=x1 2 _ rfl;obtain⟨yV,_⟩:=x0 3 _ rfl;obtain⟨xB,_⟩:=x1 3 _ rfl;obtain⟨zR,_⟩:=x0 4 _ rfl;obtain⟨zP,_⟩:=x1 4 _ rfl;obtain⟨xD,_⟩:=x0 5 _ rfl;obtain⟨yT,_⟩:=x1 5 _ rfl;obtain⟨yX,_⟩:=x0 6 _ rfl;obtain⟨yR,_⟩:=x1 6 _ rfl;have HW:Hid _:=hW
 clear hW hr hq x0 x1;by_cases e0:wd=zO
 ·have b0:(wd !=zO)=false:=by simp[e0]
  have E0:Hid _:=e0;clear e0;by_cases e1:now=zG
  ·have b1:(now !=zG)=false:=by simp[e1]
   have E1:Hid _:=e1;clear e1;by_cases e2:given=zB
   ·have b2:(given !=zB)=false:=by simp[e2]
    have E2:Hid _:=e2;clear e2;by_cases e3:births=zA
    ·have b3:(births !=zA)=false:=by simp[e3]
     have E3:Hid _:=e3;clear e3;by_cases e4:ks.length=zH.length
     ·have b4:((ks.length:Int) !=(zH.length:Int))=false:=by simp[e4]
      have E4:Hid _:=e4;clear e4;by_cases e5:ps.length=zJ.length
      ·have b5:((ps.length:Int) !=(zJ.length:Int))=false:=by simp[e5]
       have E5:Hid _:=e5;clear e5;by_cases e6:ls.length=zI.length
       ·have b6:((ls.length:Int) !=(zI.length:Int))=false:=by simp[e6]
        have E6:Hid _:=e6;clear e6;go_enter func67,ntmps67;go_upto_region 1 with fail;rw[←HW.o];clear HW;go_wp2;clear b0 b1 b2 b3 b4 b5 b6
        go_loopw [5] (fun i wr=>∃k:Nat,k<=ks.length/\i=XJ k/\Hid (ks.take k=zH.take k/\Xz W wr)) (fun i _=>ks.length -(intOf i).toNat)
        case atStart=>exact⟨0,Nat.zero_le _,rfl,⟨by simp,Below.refl _ _⟩⟩
        case round=>
         clear xE xA yU yS yQ xC yV xB zR zP xD yT yX yR;obtain⟨k,hk,rfl,HI⟩:=hrel;obtain⟨x0,x1,hr,hq,zF⟩:=HX.o wr HI.o.2;have yK:=HI.o.2.size;obtain⟨zR,_⟩:=x0 4 _ rfl;obtain⟨zP,_⟩:=x1 4 _ rfl;by_cases hlt:k<ks.length
         ·have zC:k<zH.length:=by have:=E4.o;omega
          obtain⟨rb,ro,ha,yG,zS⟩:=hr.k.at hlt;obtain⟨qb,qo,hb,yF,zU⟩:=hq.k.at zC;subst ha hb;obtain⟨c0,c1,c2,ra,rc,c3,yL⟩:=zS k _ (XD hlt);obtain⟨d0,d1,d2,sa,sc,d3,yN⟩:=zU k _ (XD zC);have zX:=XH yG zF.size;have zV:=XH yF zF.size;have yC:Hid _:=XE hlt;have yE:Hid _:=XE zC;have HN:Hid (∀x y,ks[k]?=some x->zH[k]?=some y->x≠y->ks≠zH):=fun x y h1 h2 zY e=>by
           subst e;rw[h1] at h2;exact zY (Option.some.inj h2)
          have zK:Hid _:=XD hlt;have zM:Hid _:=XD zC;have yM:(k:Int)<zH.length:=by omega
          have m1:=h1 _ (List.getElem_mem hlt);have m2:=h2 _ (List.getElem_mem zC);clear zS zU;generalize ks[k]=x at *
          generalize zH[k]=y at *
          have HB:Hid _:=HI.o.2;have HC:Hid (∀n:AB wr,Calls prog 114 #[.agg #[.string x.text,.slice ra x.refs.length rc],.agg #[.string y.text,.slice sa y.refs.length sc]] n.w fun e w'=>e=.returned (.bool (decide (x.text=y.text/\x.refs=y.refs)))/\Below n.w.heap.size n.w w'):=fun n=>by
           have yO:=zF.trans (n.h.mono zF.size);refine(Km x.text y.text ra sa rc sc x.refs y.refs n.w ((yL.below (n.h.mono zF.size)).mono yO.size) ((yN.below (n.h.mono zF.size)).mono yO.size) m1 m2).mono ?_;rintro e w' ⟨bb,rfl,yP,yJ⟩;refine⟨?_,yJ⟩;by_cases hP:x.text=y.text/\x.refs=y.refs
           ·rw[yP.2 hP,decide_eq_true hP]
           ·cases bb with
            |true=>exact absurd (yP.1 rfl) hP
            |false=>rw[decide_eq_false hP]
          have q1:=AB.cell zR (by omega);have q2:=AB.cell zP (by omega);have r0:=AB.cell c0 zX;have s0:=AB.cell d0 zV;have r1:=AB.cell c1 zX;have s1:=AB.cell d1 zV;have r2:=AB.cell c2 zX;have s2:=AB.cell d2 zV;have r3:=AB.cell c3 zX;have s3:=AB.cell d3 zV;have zY:=AB.ne wr;have HE:Hid (∀n:AB wr,Xz W n.w):=fun n=>HB.o.trans (n.h.mono HB.o.size);clear x0 x1 hr hq yL yN zF
          by_cases hs:x.sum=y.sum
          ·have yW:(x.sum.toList !=y.sum.toList)=false:=by rw[hs];simp
           have yZ:(x.sum.toList==y.sum.toList)=true:=by rw[hs];simp
           by_cases hb:x.born=y.born
           ·have yJ:(x.born !=y.born)=false:=by simp[hb]
            have yY:(x.born==y.born)=true:=by simp[hb]
            by_cases hP:x.text=y.text/\x.refs=y.refs
            ·rw[decide_eq_true hP] at HC
             have zT:Hid (x=y):=by
              obtain⟨e1,e2⟩:=hP;show x=y;cases x;cases y;simp_all
             clear hP hs hb;go_wp2;refine AE (by kernel_rfl) (by kernel_rfl) ?_
             repeat (go_big_quiet_step (exact AB.calls (HC.o _)))
             refine wpQuiet_nil ?_;intro n;clear q1 q2 r0 r1 r2 r3 s0 s1 s2 s3 zR zP c0 c1 c2 c3 d0 d1 d2 d3;go_wp2;exact⟨⟨k+1,by omega,by go_num,⟨by rw[yC.o,yE.o,HI.o.1,zT.o],HE.o n⟩⟩,by simp[intOf];omega⟩
            ·rw[decide_eq_false hP] at HC
             have yH:Hid _:=hP;clear hP hs hb;go_wp2;refine AE (by kernel_rfl) (by kernel_rfl) ?_
             repeat (go_big_quiet_step (exact AB.calls (HC.o _)))
             refine wpQuiet_nil ?_;intro n;have yD:Hid _:=(HX.o _ (HE.o n)).2.2.2.2;clear q1 q2 r0 r1 r2 r3 s0 s1 s2 s3 zR zP c0 c1 c2 c3 d0 d1 d2 d3;go_wp2;go_ret;exact Ak.no (fun h=>HN.o x y zK.o zM.o (fun e=>yH.o (by rw[e];exact⟨rfl,rfl⟩)) h.2.1) yD.o
           ·have yJ:(x.born !=y.born)=true:=by simp[hb]
            have yY:(x.born==y.born)=false:=by simp[hb]
            have yH:Hid _:=hb;clear hb hs;go_wp2;refine AE (by kernel_rfl) (by kernel_rfl) ?_
            repeat (go_big_quiet_step (exact AB.calls (HC.o _)))
            refine wpQuiet_nil ?_;intro n;have yD:Hid _:=(HX.o _ (HE.o n)).2.2.2.2;clear q1 q2 r0 r1 r2 r3 s0 s1 s2 s3 zR zP c0 c1 c2 c3 d0 d1 d2 d3;go_wp2;go_ret;exact Ak.no (fun h=>HN.o x y zK.o zM.o (fun e=>yH.o (by rw[e])) h.2.1) yD.o
          ·have yW:(x.sum.toList !=y.sum.toList)=true:=by simp[bne,BJ hs]
           have yZ:=BJ hs;have yH:Hid _:=hs;clear hs;go_wp2;refine AE (by kernel_rfl) (by kernel_rfl) ?_
           repeat (go_big_quiet_step (exact AB.calls (HC.o _)))
           refine wpQuiet_nil ?_;intro n;have yD:Hid _:=(HX.o _ (HE.o n)).2.2.2.2;clear q1 q2 r0 r1 r2 r3 s0 s1 s2 s3 zR zP c0 c1 c2 c3 d0 d1 d2 d3;go_wp2;go_ret;exact Ak.no (fun h=>HN.o x y zK.o zM.o (fun e=>yH.o (by rw[e])) h.2.1) yD.o
         ·obtain rfl:k=ks.length:=by omega
          have zE:=HI.o.1;rw[XF (XB),XF (by have:=E4.o;omega)] at zE;have HK:Hid _:=zE;have yI:Hid _:=HI.o.2;clear zE x0 x1 hr hq zF;go_wp2
          go_loopw [6] (fun i wr=>∃k:Nat,k<=ps.length/\i=XJ k/\Hid (ps.take k=zJ.take k/\Xz W wr)) (fun i _=>ps.length -(intOf i).toNat)
          case atStart=>exact⟨0,Nat.zero_le _,rfl,⟨by simp,yI.o⟩⟩
          case round=>
           obtain⟨k,hk,rfl,HI⟩:=hrel;obtain⟨x0,x1,hr,hq,zF⟩:=HX.o wr HI.o.2;have yK:=HI.o.2.size;obtain⟨zR,_⟩:=x0 5 _ rfl;obtain⟨zP,_⟩:=x1 5 _ rfl;by_cases hlt:k<ps.length
           ·have zC:k<zJ.length:=by have:=E5.o;omega
            obtain⟨rb,ro,ha,yG,zS⟩:=hr.p.at hlt;obtain⟨qb,qo,hb,yF,zU⟩:=hq.p.at zC;subst ha hb;obtain⟨c0,c1⟩:=zS k _ (XD hlt);obtain⟨d0,d1⟩:=zU k _ (XD zC);have zX:=XH yG zF.size;have zV:=XH yF zF.size;have yC:Hid _:=XE hlt;have yE:Hid _:=XE zC;have HN:Hid (∀x y,ps[k]?=some x->zJ[k]?=some y->x≠y->ps≠zJ):=fun x y h1 h2 zY e=>by
             subst e;rw[h1] at h2;exact zY (Option.some.inj h2)
            have zK:Hid _:=XD hlt;have zM:Hid _:=XD zC;have yM:(k:Int)<zJ.length:=by omega
            clear zS zU;generalize ps[k]=x at *
            generalize zJ[k]=y at *
            have HB:Hid _:=HI.o.2;have zN:Hid _:=zF;clear x0 x1 hr hq zF;by_cases hxy:x=y
            ·subst hxy
             go_wp2
             go_region
             all_goals go_wp2
             all_goals exact⟨⟨k+1,by omega,by go_num,⟨by rw[yC.o,yE.o,HI.o.1],HB.o.drew⟩⟩,by simp[intOf];omega⟩
            ·have zT:Hid _:=hxy
             by_cases n0:x.name=y.name
             ·have k0:x.name.toList=y.name.toList:=by rw[n0]
              have n1:¬x.sum=y.sum:=fun e=>hxy (by
               cases x;cases y;simp_all)
              have k1:¬x.sum.toList=y.sum.toList:=fun e=>n1 (Fm e);clear hxy n0 n1;go_wp2
              go_region
              all_goals go_wp2
              all_goals go_ret
              all_goals exact Ak.no (fun h=>HN.o x y zK.o zM.o zT.o h.2.2.1) zN.o.drew
             ·have k0:¬x.name.toList=y.name.toList:=fun e=>n0 (Fm e)
              clear n0 hxy;go_wp2
              go_region
              all_goals go_wp2
              all_goals go_ret
              all_goals exact Ak.no (fun h=>HN.o x y zK.o zM.o zT.o h.2.2.1) zN.o.drew
           ·obtain rfl:k=ps.length:=by omega
            have zE:=HI.o.1;rw[XF (XB),XF (by have:=E5.o;omega)] at zE;have HP:Hid _:=zE;have yI:Hid _:=HI.o.2;have zN:Hid _:=zF;clear zE x0 x1 hr hq zF;go_wp2
            go_loopw [7] (fun i wr=>∃k:Nat,k<=ls.length/\i=XJ k/\Hid (ls.take k=zI.take k/\Xz W wr)) (fun i _=>ls.length -(intOf i).toNat)
            case atStart=>exact⟨0,Nat.zero_le _,rfl,⟨by simp,yI.o⟩⟩
            case round=>
             obtain⟨k,hk,rfl,HI⟩:=hrel;obtain⟨x0,x1,hr,hq,zF⟩:=HX.o wr HI.o.2;have yK:=HI.o.2.size;obtain⟨zR,_⟩:=x0 6 _ rfl;obtain⟨zP,_⟩:=x1 6 _ rfl;by_cases hlt:k<ls.length
             ·have zC:k<zI.length:=by have:=E6.o;omega
              obtain⟨rb,ro,ha,yG,zS⟩:=hr.l.at hlt;obtain⟨qb,qo,hb,yF,zU⟩:=hq.l.at zC;subst ha hb;obtain⟨c0,c1,c2⟩:=zS k _ (XD hlt);obtain⟨d0,d1,d2⟩:=zU k _ (XD zC);have zX:=XH yG zF.size;have zV:=XH yF zF.size;have yC:Hid _:=XE hlt;have yE:Hid _:=XE zC;have HN:Hid (∀x y,ls[k]?=some x->zI[k]?=some y->x≠y->ls≠zI):=fun x y h1 h2 zY e=>by
               subst e;rw[h1] at h2;exact zY (Option.some.inj h2)
              have zK:Hid _:=XD hlt;have zM:Hid _:=XD zC;have yM:(k:Int)<zI.length:=by omega
              clear zS zU;generalize ls[k]=x at *
              generalize zI[k]=y at *
              have HB:Hid _:=HI.o.2;have zN:Hid _:=zF;clear x0 x1 hr hq zF;by_cases hxy:x=y
              ·subst hxy
               go_wp2
               go_region
               all_goals go_wp2
               all_goals exact⟨⟨k+1,by omega,by go_num,⟨by rw[yC.o,yE.o,HI.o.1],HB.o.drew⟩⟩,by simp[intOf];omega⟩
              ·have zT:Hid _:=hxy
               by_cases n0:x.num=y.num
               ·have k0:=n0
                by_cases n1:x.sum=y.sum
                ·have k1:x.sum.toList=y.sum.toList:=by rw[n1]
                 have n2:¬x.til=y.til:=fun e=>hxy (by
                  cases x;cases y;simp_all)
                 clear hxy n1;go_wp2
                 go_region
                 all_goals go_wp2
                 all_goals go_ret
                 all_goals exact Ak.no (fun h=>HN.o x y zK.o zM.o zT.o h.2.2.2) zN.o.drew
                ·have k1:¬x.sum.toList=y.sum.toList:=fun e=>n1 (Fm e)
                 clear n1 hxy;go_wp2
                 go_region
                 all_goals go_wp2
                 all_goals go_ret
                 all_goals exact Ak.no (fun h=>HN.o x y zK.o zM.o zT.o h.2.2.2) zN.o.drew
               ·clear hxy
                go_wp2
                go_region
                all_goals go_wp2
                all_goals go_ret
                all_goals exact Ak.no (fun h=>HN.o x y zK.o zM.o zT.o h.2.2.2) zN.o.drew
             ·obtain rfl:k=ls.length:=by omega
              have zE:=HI.o.1;rw[XF (XB),XF (by have:=E6.o;omega)] at zE;have HL:Hid _:=zE;have yI:Hid _:=HI.o.2;have zN:Hid _:=zF;clear zE x0 x1 hr hq zF;go_wp2;go_ret;exact Ak.yes ⟨⟨E0.o,E1.o,E2.o,E3.o⟩,HK.o,HP.o,HL.o⟩ zN.o
       ·have b6:=bne_iff_ne.2 (by omega)
        go_enter func67,ntmps67;go_upto_region 1 with fail;rw[←HW.o];clear HW;go_wp2;go_ret;exact Ak.no (fun h=>e6 (by rw[h.2.2.2])) bW
      ·have b5:=bne_iff_ne.2 (by omega)
       go_enter func67,ntmps67;go_upto_region 1 with fail;rw[←HW.o];clear HW;go_wp2;go_ret;exact Ak.no (fun h=>e5 (by rw[h.2.2.1])) bW
     ·have b4:=bne_iff_ne.2 (by omega)
      go_enter func67,ntmps67;go_upto_region 1 with fail;rw[←HW.o];clear HW;go_wp2;go_ret;exact Ak.no (fun h=>e4 (by rw[h.2.1])) bW
    ·have b3:(births !=zA)=true:=by simp[e3]
     go_enter func67,ntmps67;go_upto_region 1 with fail;rw[←HW.o];clear HW;go_wp2;go_ret;exact Ak.no (fun h=>e3 h.1.2.2.2) bW
   ·have b2:(given !=zB)=true:=by simp[e2]
    go_enter func67,ntmps67;go_upto_region 1 with fail;rw[←HW.o];clear HW;go_wp2;go_ret;exact Ak.no (fun h=>e2 h.1.2.2.1) bW
  ·have b1:(now !=zG)=true:=by simp[e1]
   go_enter func67,ntmps67;go_upto_region 1 with fail;rw[←HW.o];clear HW;go_wp2;go_ret;exact Ak.no (fun h=>e1 h.1.2.1) bW
 ·have b0:(wd !=zO)=true:=by simp[e0]
  go_enter func67,ntmps67;go_upto_region 1 with fail;rw[←HW.o];clear HW;go_wp2;go_ret;exact Ak.no (fun h=>e0 h.1.1) bW
end
end Go.Proofs.YtpekbmegopfhfaaGreatDoor
