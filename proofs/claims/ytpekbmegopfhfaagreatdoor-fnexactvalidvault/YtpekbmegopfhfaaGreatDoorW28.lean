import Derived.Test.YtpekbmegopfhfaaGreatDoorW27
import Derived.Test.YtpekbmegopfhfaaGreatDoorW05
namespace Go.Proofs.YtpekbmegopfhfaaGreatDoor
open Go.ChangeShapes Go.WideShapes Go.ChangeAt Go.RowKit
attribute [local go_sem↓] Go.wp_at_zero Go.wp_at_succ
set_option maxRecDepth 20000 in
set_option maxHeartbeats 8000000 in
theorem l7SameState_any (wd now given births wd' now' given' births':Int) (a p l a' p' l':Option Addr) (ac pc lc ac' pc' lc':Nat) (ks ks':List Kd) (ps ps':List Pd) (ls ls':List Ld) (w:World) (hr:SRows w w.heap.size a p l ks ps ls) (hq:SRows w w.heap.size a' p' l' ks' ps' ls') (hl:ks.length<=100000/\ps.length<=100000/\ls.length<=100000) (hl':ks'.length<=1048576/\ps'.length<=1048576/\ls'.length<=1048576) (h1:∀k∈ks,k.refs.length<=100000) (h2:∀k∈ks',k.refs.length<=1048576):
 Calls Tryz.prog 67 #[.agg #[.int .i64 wd,.int .i64 now,.int .i64 given,.int .i64 births,.slice a ks.length ac,.slice p ps.length pc,.slice l ls.length lc],.agg #[.int .i64 wd',.int .i64 now',.int .i64 given',.int .i64 births',.slice a' ks'.length ac',.slice p' ps'.length pc',.slice l' ls'.length lc']] w fun e w'=>Says ((wd=wd'/\now=now'/\given=given'/\births=births')/\ks=ks'/\ps=ps'/\ls=ls') w w' e:=by
 obtain ⟨W,hW⟩:∃W,W=(w.alloc (.cells #[.int .i64 wd,.int .i64 now,.int .i64 given,.int .i64 births,.slice a ks.length ac,.slice p ps.length pc,.slice l ls.length lc] 28)).alloc (.cells #[.int .i64 wd',.int .i64 now',.int .i64 given',.int .i64 births',.slice a' ks'.length ac',.slice p' ps'.length pc',.slice l' ls'.length lc'] 28):=⟨_,rfl⟩
 have bW:Below w.heap.size w W:=by rw [hW];exact ((Below.refl _ _).alloc (Nat.le_refl _) _).alloc (by simp) _
 have x0:CellsAt W w.heap.size [.int .i64 wd,.int .i64 now,.int .i64 given,.int .i64 births,.slice a ks.length ac,.slice p ps.length pc,.slice l ls.length lc]:=by rw [hW];exact CellsAt.below (CellsAt.new w _ 28) ((Below.refl _ _).alloc (Nat.le_refl _) _)
 have x1:CellsAt W (w.heap.size+1) [.int .i64 wd',.int .i64 now',.int .i64 given',.int .i64 births',.slice a' ks'.length ac',.slice p' ps'.length pc',.slice l' ls'.length lc']:=by
  have h1:=CellsAt.new (w.alloc (.cells #[.int .i64 wd,.int .i64 now,.int .i64 given,.int .i64 births,.slice a ks.length ac,.slice p ps.length pc,.slice l ls.length lc] 28)) [.int .i64 wd',.int .i64 now',.int .i64 given',.int .i64 births',.slice a' ks'.length ac',.slice p' ps'.length pc',.slice l' ls'.length lc'] 28
  rw [World.size_alloc] at h1
  rw [hW]
  exact h1
 have HX:Hid (∀X,Below W.heap.size W X->CellsAt X w.heap.size [.int .i64 wd,.int .i64 now,.int .i64 given,.int .i64 births,.slice a ks.length ac,.slice p ps.length pc,.slice l ls.length lc]/\CellsAt X (w.heap.size+1) [.int .i64 wd',.int .i64 now',.int .i64 given',.int .i64 births',.slice a' ks'.length ac',.slice p' ps'.length pc',.slice l' ls'.length lc']/\SRows X w.heap.size a p l ks ps ls/\SRows X w.heap.size a' p' l' ks' ps' ls'/\Below w.heap.size w X):=fun X hX=>by
  have hb:Below w.heap.size w X:=bW.trans (hX.mono bW.size)
  exact ⟨CellsAt.below x0 hX,CellsAt.below x1 hX,hr.keep hb,hq.keep hb,hb⟩
 have zW:W.heap.size=w.heap.size+2:=by rw [hW];simp
 obtain ⟨ya0,_⟩:=x0 0 _ rfl
 obtain ⟨za0,_⟩:=x1 0 _ rfl
 obtain ⟨ya1,_⟩:=x0 1 _ rfl
 obtain ⟨za1,_⟩:=x1 1 _ rfl
 obtain ⟨ya2,_⟩:=x0 2 _ rfl
 obtain ⟨za2,_⟩:=x1 2 _ rfl
 obtain ⟨ya3,_⟩:=x0 3 _ rfl
 obtain ⟨za3,_⟩:=x1 3 _ rfl
 obtain ⟨ya4,_⟩:=x0 4 _ rfl
 obtain ⟨za4,_⟩:=x1 4 _ rfl
 obtain ⟨ya5,_⟩:=x0 5 _ rfl
 obtain ⟨za5,_⟩:=x1 5 _ rfl
 obtain ⟨ya6,_⟩:=x0 6 _ rfl
 obtain ⟨za6,_⟩:=x1 6 _ rfl
 have HW:Hid _:=hW
 clear hW hr hq x0 x1
 by_cases e0:wd=wd'
 ·have b0:(wd !=wd')=false:=by simp [e0]
  have E0:Hid (wd=wd'):=e0
  clear e0
  by_cases e1:now=now'
  ·have b1:(now !=now')=false:=by simp [e1]
   have E1:Hid (now=now'):=e1
   clear e1
   by_cases e2:given=given'
   ·have b2:(given !=given')=false:=by simp [e2]
    have E2:Hid (given=given'):=e2
    clear e2
    by_cases e3:births=births'
    ·have b3:(births !=births')=false:=by simp [e3]
     have E3:Hid (births=births'):=e3
     clear e3
     by_cases e4:ks.length=ks'.length
     ·have b4:((ks.length:Int) !=(ks'.length:Int))=false:=by simp [e4]
      have E4:Hid (ks.length=ks'.length):=e4
      clear e4
      by_cases e5:ps.length=ps'.length
      ·have b5:((ps.length:Int) !=(ps'.length:Int))=false:=by simp [e5]
       have E5:Hid (ps.length=ps'.length):=e5
       clear e5
       by_cases e6:ls.length=ls'.length
       ·have b6:((ls.length:Int) !=(ls'.length:Int))=false:=by simp [e6]
        have E6:Hid (ls.length=ls'.length):=e6
        clear e6
        go_enter Tryz.func67,Tryz.ntmps67
        go_upto_region 1 with fail
        rw [←HW.out]
        clear HW
        go_wp2
        clear b0 b1 b2 b3 b4 b5 b6
        go_loopw [5] (fun i wr=>∃k:Nat,k<=ks.length/\i=.int .i64 k/\Hid (ks.take k=ks'.take k/\Below W.heap.size W wr)) (fun i _=>ks.length -(intOf i).toNat)
        case atStart=>exact ⟨0,Nat.zero_le _,rfl,⟨by simp,Below.refl _ _⟩⟩
        case round=>
         clear ya0 za0 ya1 za1 ya2 za2 ya3 za3 ya4 za4 ya5 za5 ya6 za6
         obtain ⟨k,hk,rfl,HI⟩:=hrel
         obtain ⟨x0,x1,hr,hq,hbw⟩:=HX.out wr HI.out.2
         have hzr:=HI.out.2.size
         obtain ⟨ya4,_⟩:=x0 4 _ rfl
         obtain ⟨za4,_⟩:=x1 4 _ rfl
         by_cases hlt:k<ks.length
         ·have hlt':k<ks'.length:=by have:=E4.out;omega
          obtain ⟨rb,ro,ha,hrb,hrc⟩:=hr.k.at hlt
          obtain ⟨qb,qo,hb,hqb,hqc⟩:=hq.k.at hlt'
          subst ha hb
          obtain ⟨c0,c1,c2,ra,rc,c3,hrr⟩:=hrc k _ (List.getElem?_eq_getElem hlt)
          obtain ⟨d0,d1,d2,sa,sc,d3,hqq⟩:=hqc k _ (List.getElem?_eq_getElem hlt')
          have hlr:rb<wr.heap.size:=Nat.lt_of_lt_of_le hrb hbw.size
          have hlq:qb<wr.heap.size:=Nat.lt_of_lt_of_le hqb hbw.size
          have HT1:Hid (ks.take (k+1)=ks.take k++[ks[k]]):=List.take_succ_eq_append_getElem hlt
          have HT2:Hid (ks'.take (k+1)=ks'.take k++[ks'[k]]):=List.take_succ_eq_append_getElem hlt'
          have HN:Hid (∀x y,ks[k]?=some x->ks'[k]?=some y->x≠y->ks≠ks'):=fun x y h1 h2 hne e=>by
           subst e
           rw [h1] at h2
           exact hne (Option.some.inj h2)
          have HG1:Hid (ks[k]?=some ks[k]):=List.getElem?_eq_getElem hlt
          have HG2:Hid (ks'[k]?=some ks'[k]):=List.getElem?_eq_getElem hlt'
          have hkt:(k:Int)<ks'.length:=by omega
          have m1:=h1 _ (List.getElem_mem hlt)
          have m2:=h2 _ (List.getElem_mem hlt')
          clear hrc hqc
          generalize ks[k]=x at *
          generalize ks'[k]=y at *
          have HB:Hid (Below W.heap.size W wr):=HI.out.2
          have HC:Hid (∀n:Cls wr,Calls Tryz.prog 114 #[.agg #[.string x.text,.slice ra x.refs.length rc],.agg #[.string y.text,.slice sa y.refs.length sc]] n.w fun e w'=>e=.returned (.bool (decide (x.text=y.text/\x.refs=y.refs)))/\Below n.w.heap.size n.w w'):=fun n=>by
           have hbn:=hbw.trans (n.h.mono hbw.size)
           refine (l7SameThing_any x.text y.text ra sa rc sc x.refs y.refs n.w ((hrr.below (n.h.mono hbw.size)).mono hbn.size) ((hqq.below (n.h.mono hbw.size)).mono hbn.size) m1 m2).mono ?_
           rintro e w' ⟨bb,rfl,hbb,hb'⟩
           refine ⟨?_,hb'⟩
           by_cases hP:x.text=y.text/\x.refs=y.refs
           ·rw [hbb.2 hP,decide_eq_true hP]
           ·cases bb with
            |true=>exact absurd (hbb.1 rfl) hP
            |false=>rw [decide_eq_false hP]
          have q1:=Cls.cell ya4 (by omega)
          have q2:=Cls.cell za4 (by omega)
          have r0:=Cls.cell c0 hlr
          have s0:=Cls.cell d0 hlq
          have r1:=Cls.cell c1 hlr
          have s1:=Cls.cell d1 hlq
          have r2:=Cls.cell c2 hlr
          have s2:=Cls.cell d2 hlq
          have r3:=Cls.cell c3 hlr
          have s3:=Cls.cell d3 hlq
          have hne:=Cls.ne wr
          have HE:Hid (∀n:Cls wr,Below W.heap.size W n.w):=fun n=>HB.out.trans (n.h.mono HB.out.size)
          clear x0 x1 hr hq hrr hqq hbw
          by_cases hs:x.sum=y.sum
          ·have hs':(x.sum.toList !=y.sum.toList)=false:=by rw [hs];simp
           have hs2:(x.sum.toList==y.sum.toList)=true:=by rw [hs];simp
           by_cases hb:x.born=y.born
           ·have hb':(x.born !=y.born)=false:=by simp [hb]
            have hb2:(x.born==y.born)=true:=by simp [hb]
            by_cases hP:x.text=y.text/\x.refs=y.refs
            ·rw [decide_eq_true hP] at HC
             have HXY:Hid (x=y):=by
              obtain ⟨e1,e2⟩:=hP
              show x=y
              cases x
              cases y
              simp_all
             clear hP hs hb
             go_wp2
             refine region_cls_lit (by kernel_rfl) (by kernel_rfl) ?_
             repeat (go_big_quiet_step (exact Cls.calls (HC.out _)))
             refine wpQuiet_nil ?_
             intro n
             clear q1 q2 r0 r1 r2 r3 s0 s1 s2 s3 ya4 za4 c0 c1 c2 c3 d0 d1 d2 d3
             go_wp2
             exact ⟨⟨k+1,by omega,by go_num,⟨by rw [HT1.out,HT2.out,HI.out.1,HXY.out],HE.out n⟩⟩,by simp [intOf];omega⟩
            ·rw [decide_eq_false hP] at HC
             have HNP:Hid (¬(x.text=y.text/\x.refs=y.refs)):=hP
             clear hP hs hb
             go_wp2
             refine region_cls_lit (by kernel_rfl) (by kernel_rfl) ?_
             repeat (go_big_quiet_step (exact Cls.calls (HC.out _)))
             refine wpQuiet_nil ?_
             intro n
             have HBn:Hid (Below w.heap.size w n.w):=(HX.out _ (HE.out n)).2.2.2.2
             clear q1 q2 r0 r1 r2 r3 s0 s1 s2 s3 ya4 za4 c0 c1 c2 c3 d0 d1 d2 d3
             go_wp2
             go_ret
             exact Says.no (fun h=>HN.out x y HG1.out HG2.out (fun e=>HNP.out (by rw [e];exact ⟨rfl,rfl⟩)) h.2.1) HBn.out
           ·have hb':(x.born !=y.born)=true:=by simp [hb]
            have hb2:(x.born==y.born)=false:=by simp [hb]
            have HNP:Hid (¬x.born=y.born):=hb
            clear hb hs
            go_wp2
            refine region_cls_lit (by kernel_rfl) (by kernel_rfl) ?_
            repeat (go_big_quiet_step (exact Cls.calls (HC.out _)))
            refine wpQuiet_nil ?_
            intro n
            have HBn:Hid (Below w.heap.size w n.w):=(HX.out _ (HE.out n)).2.2.2.2
            clear q1 q2 r0 r1 r2 r3 s0 s1 s2 s3 ya4 za4 c0 c1 c2 c3 d0 d1 d2 d3
            go_wp2
            go_ret
            exact Says.no (fun h=>HN.out x y HG1.out HG2.out (fun e=>HNP.out (by rw [e])) h.2.1) HBn.out
          ·have hs':(x.sum.toList !=y.sum.toList)=true:=by simp [bne,beq_ne hs]
           have hs2:(x.sum.toList==y.sum.toList)=false:=beq_ne hs
           have HNP:Hid (¬x.sum=y.sum):=hs
           clear hs
           go_wp2
           refine region_cls_lit (by kernel_rfl) (by kernel_rfl) ?_
           repeat (go_big_quiet_step (exact Cls.calls (HC.out _)))
           refine wpQuiet_nil ?_
           intro n
           have HBn:Hid (Below w.heap.size w n.w):=(HX.out _ (HE.out n)).2.2.2.2
           clear q1 q2 r0 r1 r2 r3 s0 s1 s2 s3 ya4 za4 c0 c1 c2 c3 d0 d1 d2 d3
           go_wp2
           go_ret
           exact Says.no (fun h=>HN.out x y HG1.out HG2.out (fun e=>HNP.out (by rw [e])) h.2.1) HBn.out
         ·obtain rfl:k=ks.length:=by omega
          have hfin:=HI.out.1
          rw [List.take_of_length_le (Nat.le_refl _),List.take_of_length_le (by have:=E4.out;omega)] at hfin
          have HK:Hid (ks=ks'):=hfin
          have HB0:Hid (Below W.heap.size W wr):=HI.out.2
          clear hfin x0 x1 hr hq hbw
          go_wp2
          go_loopw [6] (fun i wr=>∃k:Nat,k<=ps.length/\i=.int .i64 k/\Hid (ps.take k=ps'.take k/\Below W.heap.size W wr)) (fun i _=>ps.length -(intOf i).toNat)
          case atStart=>exact ⟨0,Nat.zero_le _,rfl,⟨by simp,HB0.out⟩⟩
          case round=>
           obtain ⟨k,hk,rfl,HI⟩:=hrel
           obtain ⟨x0,x1,hr,hq,hbw⟩:=HX.out wr HI.out.2
           have hzr:=HI.out.2.size
           obtain ⟨ya4,_⟩:=x0 5 _ rfl
           obtain ⟨za4,_⟩:=x1 5 _ rfl
           by_cases hlt:k<ps.length
           ·have hlt':k<ps'.length:=by have:=E5.out;omega
            obtain ⟨rb,ro,ha,hrb,hrc⟩:=hr.p.at hlt
            obtain ⟨qb,qo,hb,hqb,hqc⟩:=hq.p.at hlt'
            subst ha hb
            obtain ⟨c0,c1⟩:=hrc k _ (List.getElem?_eq_getElem hlt)
            obtain ⟨d0,d1⟩:=hqc k _ (List.getElem?_eq_getElem hlt')
            have hlr:rb<wr.heap.size:=Nat.lt_of_lt_of_le hrb hbw.size
            have hlq:qb<wr.heap.size:=Nat.lt_of_lt_of_le hqb hbw.size
            have HT1:Hid (ps.take (k+1)=ps.take k++[ps[k]]):=List.take_succ_eq_append_getElem hlt
            have HT2:Hid (ps'.take (k+1)=ps'.take k++[ps'[k]]):=List.take_succ_eq_append_getElem hlt'
            have HN:Hid (∀x y,ps[k]?=some x->ps'[k]?=some y->x≠y->ps≠ps'):=fun x y h1 h2 hne e=>by
             subst e
             rw [h1] at h2
             exact hne (Option.some.inj h2)
            have HG1:Hid (ps[k]?=some ps[k]):=List.getElem?_eq_getElem hlt
            have HG2:Hid (ps'[k]?=some ps'[k]):=List.getElem?_eq_getElem hlt'
            have hkt:(k:Int)<ps'.length:=by omega
            clear hrc hqc
            generalize ps[k]=x at *
            generalize ps'[k]=y at *
            have HB:Hid (Below W.heap.size W wr):=HI.out.2
            have HBw:Hid (Below w.heap.size w wr):=hbw
            clear x0 x1 hr hq hbw
            by_cases hxy:x=y
            ·subst hxy
             go_wp2
             go_region
             all_goals go_wp2
             all_goals exact ⟨⟨k+1,by omega,by go_num,⟨by rw [HT1.out,HT2.out,HI.out.1],HB.out.drew⟩⟩,by simp [intOf];omega⟩
            ·have HXY:Hid (x≠y):=hxy
             by_cases n0:x.name=y.name
             ·have k0:x.name.toList=y.name.toList:=by rw [n0]
              have n1:¬x.sum=y.sum:=fun e=>hxy (by
               cases x
               cases y
               simp_all)
              have k1:¬x.sum.toList=y.sum.toList:=fun e=>n1 (toL_inj e)
              clear hxy n0 n1
              go_wp2
              go_region
              all_goals go_wp2
              all_goals go_ret
              all_goals exact Says.no (fun h=>HN.out x y HG1.out HG2.out HXY.out h.2.2.1) HBw.out.drew
             ·have k0:¬x.name.toList=y.name.toList:=fun e=>n0 (toL_inj e)
              clear n0 hxy
              go_wp2
              go_region
              all_goals go_wp2
              all_goals go_ret
              all_goals exact Says.no (fun h=>HN.out x y HG1.out HG2.out HXY.out h.2.2.1) HBw.out.drew
           ·obtain rfl:k=ps.length:=by omega
            have hfin:=HI.out.1
            rw [List.take_of_length_le (Nat.le_refl _),List.take_of_length_le (by have:=E5.out;omega)] at hfin
            have HP:Hid (ps=ps'):=hfin
            have HB0:Hid (Below W.heap.size W wr):=HI.out.2
            have HBw:Hid (Below w.heap.size w wr):=hbw
            clear hfin x0 x1 hr hq hbw
            go_wp2
            go_loopw [7] (fun i wr=>∃k:Nat,k<=ls.length/\i=.int .i64 k/\Hid (ls.take k=ls'.take k/\Below W.heap.size W wr)) (fun i _=>ls.length -(intOf i).toNat)
            case atStart=>exact ⟨0,Nat.zero_le _,rfl,⟨by simp,HB0.out⟩⟩
            case round=>
             obtain ⟨k,hk,rfl,HI⟩:=hrel
             obtain ⟨x0,x1,hr,hq,hbw⟩:=HX.out wr HI.out.2
             have hzr:=HI.out.2.size
             obtain ⟨ya4,_⟩:=x0 6 _ rfl
             obtain ⟨za4,_⟩:=x1 6 _ rfl
             by_cases hlt:k<ls.length
             ·have hlt':k<ls'.length:=by have:=E6.out;omega
              obtain ⟨rb,ro,ha,hrb,hrc⟩:=hr.l.at hlt
              obtain ⟨qb,qo,hb,hqb,hqc⟩:=hq.l.at hlt'
              subst ha hb
              obtain ⟨c0,c1,c2⟩:=hrc k _ (List.getElem?_eq_getElem hlt)
              obtain ⟨d0,d1,d2⟩:=hqc k _ (List.getElem?_eq_getElem hlt')
              have hlr:rb<wr.heap.size:=Nat.lt_of_lt_of_le hrb hbw.size
              have hlq:qb<wr.heap.size:=Nat.lt_of_lt_of_le hqb hbw.size
              have HT1:Hid (ls.take (k+1)=ls.take k++[ls[k]]):=List.take_succ_eq_append_getElem hlt
              have HT2:Hid (ls'.take (k+1)=ls'.take k++[ls'[k]]):=List.take_succ_eq_append_getElem hlt'
              have HN:Hid (∀x y,ls[k]?=some x->ls'[k]?=some y->x≠y->ls≠ls'):=fun x y h1 h2 hne e=>by
               subst e
               rw [h1] at h2
               exact hne (Option.some.inj h2)
              have HG1:Hid (ls[k]?=some ls[k]):=List.getElem?_eq_getElem hlt
              have HG2:Hid (ls'[k]?=some ls'[k]):=List.getElem?_eq_getElem hlt'
              have hkt:(k:Int)<ls'.length:=by omega
              clear hrc hqc
              generalize ls[k]=x at *
              generalize ls'[k]=y at *
              have HB:Hid (Below W.heap.size W wr):=HI.out.2
              have HBw:Hid (Below w.heap.size w wr):=hbw
              clear x0 x1 hr hq hbw
              by_cases hxy:x=y
              ·subst hxy
               go_wp2
               go_region
               all_goals go_wp2
               all_goals exact ⟨⟨k+1,by omega,by go_num,⟨by rw [HT1.out,HT2.out,HI.out.1],HB.out.drew⟩⟩,by simp [intOf];omega⟩
              ·have HXY:Hid (x≠y):=hxy
               by_cases n0:x.num=y.num
               ·have k0:x.num=y.num:=n0
                by_cases n1:x.sum=y.sum
                ·have k1:x.sum.toList=y.sum.toList:=by rw [n1]
                 have n2:¬x.til=y.til:=fun e=>hxy (by
                  cases x
                  cases y
                  simp_all)
                 clear hxy n1
                 go_wp2
                 go_region
                 all_goals go_wp2
                 all_goals go_ret
                 all_goals exact Says.no (fun h=>HN.out x y HG1.out HG2.out HXY.out h.2.2.2) HBw.out.drew
                ·have k1:¬x.sum.toList=y.sum.toList:=fun e=>n1 (toL_inj e)
                 clear n1 hxy
                 go_wp2
                 go_region
                 all_goals go_wp2
                 all_goals go_ret
                 all_goals exact Says.no (fun h=>HN.out x y HG1.out HG2.out HXY.out h.2.2.2) HBw.out.drew
               ·clear hxy
                go_wp2
                go_region
                all_goals go_wp2
                all_goals go_ret
                all_goals exact Says.no (fun h=>HN.out x y HG1.out HG2.out HXY.out h.2.2.2) HBw.out.drew
             ·obtain rfl:k=ls.length:=by omega
              have hfin:=HI.out.1
              rw [List.take_of_length_le (Nat.le_refl _),List.take_of_length_le (by have:=E6.out;omega)] at hfin
              have HL:Hid (ls=ls'):=hfin
              have HB0:Hid (Below W.heap.size W wr):=HI.out.2
              have HBw:Hid (Below w.heap.size w wr):=hbw
              clear hfin x0 x1 hr hq hbw
              go_wp2
              go_ret
              exact Says.yes ⟨⟨E0.out,E1.out,E2.out,E3.out⟩,HK.out,HP.out,HL.out⟩ HBw.out
       ·have b6:((ls.length:Int) !=(ls'.length:Int))=true:=bne_iff_ne.2 (by omega)
        go_enter Tryz.func67,Tryz.ntmps67
        go_upto_region 1 with fail
        rw [←HW.out]
        clear HW
        go_wp2
        go_ret
        exact Says.no (fun h=>e6 (by rw [h.2.2.2])) bW
      ·have b5:((ps.length:Int) !=(ps'.length:Int))=true:=bne_iff_ne.2 (by omega)
       go_enter Tryz.func67,Tryz.ntmps67
       go_upto_region 1 with fail
       rw [←HW.out]
       clear HW
       go_wp2
       go_ret
       exact Says.no (fun h=>e5 (by rw [h.2.2.1])) bW
     ·have b4:((ks.length:Int) !=(ks'.length:Int))=true:=bne_iff_ne.2 (by omega)
      go_enter Tryz.func67,Tryz.ntmps67
      go_upto_region 1 with fail
      rw [←HW.out]
      clear HW
      go_wp2
      go_ret
      exact Says.no (fun h=>e4 (by rw [h.2.1])) bW
    ·have b3:(births !=births')=true:=by simp [e3]
     go_enter Tryz.func67,Tryz.ntmps67
     go_upto_region 1 with fail
     rw [←HW.out]
     clear HW
     go_wp2
     go_ret
     exact Says.no (fun h=>e3 h.1.2.2.2) bW
   ·have b2:(given !=given')=true:=by simp [e2]
    go_enter Tryz.func67,Tryz.ntmps67
    go_upto_region 1 with fail
    rw [←HW.out]
    clear HW
    go_wp2
    go_ret
    exact Says.no (fun h=>e2 h.1.2.2.1) bW
  ·have b1:(now !=now')=true:=by simp [e1]
   go_enter Tryz.func67,Tryz.ntmps67
   go_upto_region 1 with fail
   rw [←HW.out]
   clear HW
   go_wp2
   go_ret
   exact Says.no (fun h=>e1 h.1.2.1) bW
 ·have b0:(wd !=wd')=true:=by simp [e0]
  go_enter Tryz.func67,Tryz.ntmps67
  go_upto_region 1 with fail
  rw [←HW.out]
  clear HW
  go_wp2
  go_ret
  exact Says.no (fun h=>e0 h.1.1) bW
end Go.Proofs.YtpekbmegopfhfaaGreatDoor
