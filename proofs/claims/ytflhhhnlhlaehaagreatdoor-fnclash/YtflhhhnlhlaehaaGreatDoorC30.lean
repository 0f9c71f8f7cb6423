import Derived.Test.YtflhhhnlhlaehaaGreatDoorC29
set_option maxRecDepth 100000
set_option maxHeartbeats 16000000
namespace Go.Proofs.YtflhhhnlhlaehaaGreatDoor
open Go.ChangeShapes Go.WideShapes Go.ChangeAt Go.RowKit _root_.Go.Proofs.Tryz
section
attribute [local go_sem↓] Go.wp_at_zero Go.wp_at_succ
theorem NA (wd now given births zM zF zB zA:Int) (a p l a' p' l':Option Addr) (ac pc lc yA yE yD:Nat) (ks zG:List Kd) (ps zI:List Pd) (ls zH:List Ld) (w:World) (hr:BC w w.heap.size a p l ks ps ls) (hq:BC w w.heap.size a' p' l' zG zI zH) (hl:ks.length<=100000/\ps.length<=100000/\ls.length<=100000) (xC:zG.length<=1048576/\zI.length<=1048576/\zH.length<=1048576) (h1:∀k∈ks,k.refs.length<=100000) (h2:∀k∈zG,k.refs.length<=1048576):
 Calls prog 29 #[.agg #[.int .i64 wd,.int .i64 now,.int .i64 given,.int .i64 births,.slice a ks.length ac,.slice p ps.length pc,.slice l ls.length lc],.agg #[.int .i64 zM,.int .i64 zF,.int .i64 zB,.int .i64 zA,.slice a' zG.length yA,.slice p' zI.length yE,.slice l' zH.length yD]] w fun e w'=>Ao ((wd=zM/\now=zF/\given=zB/\births=zA)/\ks=zG/\ps=zI/\ls=zH) w w' e:=by
 obtain⟨W,hW⟩:∃W,W=(w.alloc (.cells #[.int .i64 wd,.int .i64 now,.int .i64 given,.int .i64 births,.slice a ks.length ac,.slice p ps.length pc,.slice l ls.length lc] 32)).alloc (.cells #[.int .i64 zM,.int .i64 zF,.int .i64 zB,.int .i64 zA,.slice a' zG.length yA,.slice p' zI.length yE,.slice l' zH.length yD] 32):=⟨_,rfl⟩;have bW:=(Ba hW).1;have x0:=(Ba hW).2.2.1
 have x1:Aa W (w.heap.size+1) [.int .i64 zM,.int .i64 zF,.int .i64 zB,.int .i64 zA,.slice a' zG.length yA,.slice p' zI.length yE,.slice l' zH.length yD]:=by
  have h1:=Aa.new (w.alloc (.cells #[.int .i64 wd,.int .i64 now,.int .i64 given,.int .i64 births,.slice a ks.length ac,.slice p ps.length pc,.slice l ls.length lc] 32)) [.int .i64 zM,.int .i64 zF,.int .i64 zB,.int .i64 zA,.slice a' zG.length yA,.slice p' zI.length yE,.slice l' zH.length yD] 32;rw[World.size_alloc] at h1;rw[hW];exact h1
 have HX:Hid (∀X,Uq W X->Aa X w.heap.size [.int .i64 wd,.int .i64 now,.int .i64 given,.int .i64 births,.slice a ks.length ac,.slice p ps.length pc,.slice l ls.length lc]/\Aa X (w.heap.size+1) [.int .i64 zM,.int .i64 zF,.int .i64 zB,.int .i64 zA,.slice a' zG.length yA,.slice p' zI.length yE,.slice l' zH.length yD]/\BC X w.heap.size a p l ks ps ls/\BC X w.heap.size a' p' l' zG zI zH/\Uq w X):=fun X hX=>by
  have hb:=bW.trans (hX.mono bW.size);exact⟨Aa.below x0 hX,Aa.below x1 hX,hr.keep hb,hq.keep hb,hb⟩
 have zW:=(Ba hW).2.1;obtain⟨yQ,_⟩:=x0 0 _ rfl;obtain⟨yW,_⟩:=x1 0 _ rfl;obtain⟨yR,_⟩:=x0 1 _ rfl;obtain⟨yX,_⟩:=x1 1 _ rfl;obtain⟨yS,_⟩:=x0 2 _ rfl;obtain⟨yY,_⟩:=x1 2 _ rfl;obtain⟨yT,_⟩:=x0 3 _ rfl;obtain⟨yZ,_⟩:=x1 3 _ rfl;obtain⟨zN,_⟩:=x0 4 _ rfl;obtain⟨zO,_⟩:=x1 4 _ rfl;obtain⟨yU,_⟩:=x0 5 _ rfl;obtain⟨xA,_⟩:=x1 5 _ rfl;obtain⟨yV,_⟩:=x0 6 _ rfl;obtain⟨xB,_⟩:=x1 6 _ rfl;have HW:Hid _:=hW
 clear hW hr hq x0 x1;by_cases e0:wd=zM
 ·have b0:(wd !=zM)=false:=by simp[e0]
  have E0:Hid _:=e0;clear e0;by_cases e1:now=zF
  ·have b1:(now !=zF)=false:=by simp[e1]
   have E1:Hid _:=e1;clear e1;by_cases e2:given=zB
   ·have b2:(given !=zB)=false:=by simp[e2]
    have E2:Hid _:=e2;clear e2;by_cases e3:births=zA
    ·have b3:(births !=zA)=false:=by simp[e3]
     have E3:Hid _:=e3;clear e3;by_cases e4:ks.length=zG.length
     ·have b4:((ks.length:Int) !=(zG.length:Int))=false:=by simp[e4]
      have E4:Hid _:=e4;clear e4;by_cases e5:ps.length=zI.length
      ·have b5:((ps.length:Int) !=(zI.length:Int))=false:=by simp[e5]
       have E5:Hid _:=e5;clear e5;by_cases e6:ls.length=zH.length
       ·have b6:((ls.length:Int) !=(zH.length:Int))=false:=by simp[e6]
        have E6:Hid _:=e6;clear e6;go_enter func29,ntmps29;go_upto_region 1 with fail;rw[←HW.o];clear HW;go_wp2;clear b0 b1 b2 b3 b4 b5 b6
        go_loopw [5] (fun i wr=>∃k:Nat,k<=ks.length/\i=.int .i64 k/\Hid (ks.take k=zG.take k/\Uq W wr)) (fun i _=>ks.length -(intOf i).toNat)
        case atStart=>exact⟨0,Nat.zero_le _,rfl,⟨by simp,Below.refl _ _⟩⟩
        case round=>
         clear yQ yW yR yX yS yY yT yZ zN zO yU xA yV xB;obtain⟨k,hk,rfl,HI⟩:=hrel;obtain⟨x0,x1,hr,hq,zE⟩:=HX.o wr HI.o.2;have yM:=HI.o.2.size;obtain⟨zN,_⟩:=x0 4 _ rfl;obtain⟨zO,_⟩:=x1 4 _ rfl;by_cases hlt:k<ks.length
         ·have zC:k<zG.length:=by have:=E4.o;omega
          obtain⟨rb,ro,ha,yC,zR⟩:=hr.k.at hlt;obtain⟨qb,qo,hb,yB,zQ⟩:=hq.k.at zC;subst ha hb;obtain⟨c0,c1,c2,ra,rc,c3,yL⟩:=zR k _ (Uu hlt);obtain⟨d0,d1,d2,sa,sc,d3,yK⟩:=zQ k _ (Uu zC);have zT:=Uy yC zE.size;have zS:=Uy yB zE.size;have zY:Hid _:=Uv hlt;have zZ:Hid _:=Uv zC;have HN:Hid (∀x y,ks[k]?=some x->zG[k]?=some y->x≠y->ks≠zG):=fun x y h1 h2 zU e=>by
           subst e;rw[h1] at h2;exact zU (Option.some.inj h2)
          have zJ:Hid _:=Uu hlt;have zK:Hid _:=Uu zC;have yJ:(k:Int)<zG.length:=by omega
          have m1:=h1 _ (List.getElem_mem hlt);have m2:=h2 _ (List.getElem_mem zC);clear zR zQ;generalize ks[k]=x at *
          generalize zG[k]=y at *
          have HB:Hid _:=HI.o.2;have HC:Hid (∀n:AE wr,Calls prog 47 #[.agg #[.string x.text,.slice ra x.refs.length rc],.agg #[.string y.text,.slice sa y.refs.length sc]] n.w fun e w'=>e=.returned (.bool (decide (x.text=y.text/\x.refs=y.refs)))/\Below n.w.heap.size n.w w'):=fun n=>by
           have yI:=zE.trans (n.h.mono zE.size);refine(Nz x.text y.text ra sa rc sc x.refs y.refs n.w ((yL.below (n.h.mono zE.size)).mono yI.size) ((yK.below (n.h.mono zE.size)).mono yI.size) (Uz m1 (by decide)) m2).mono ?_;rintro e w' ⟨bb,rfl,yH,yG⟩;refine⟨?_,yG⟩;by_cases hP:x.text=y.text/\x.refs=y.refs
           ·rw[yH.2 hP,decide_eq_true hP]
           ·cases bb with
            |true=>exact absurd (yH.1 rfl) hP
            |false=>rw[decide_eq_false hP]
          have q1:=AE.cell zN (by omega);have q2:=AE.cell zO (by omega);have r0:=AE.cell c0 zT;have s0:=AE.cell d0 zS;have r1:=AE.cell c1 zT;have s1:=AE.cell d1 zS;have r2:=AE.cell c2 zT;have s2:=AE.cell d2 zS;have r3:=AE.cell c3 zT;have s3:=AE.cell d3 zS;have zU:=AE.ne wr;have HE:Hid (∀n:AE wr,Uq W n.w):=fun n=>HB.o.trans (n.h.mono HB.o.size);clear x0 x1 hr hq yL yK zE
          by_cases hs:x.sum=y.sum
          ·have yO:(x.sum.toList !=y.sum.toList)=false:=by rw[hs];simp
           have yP:(x.sum.toList==y.sum.toList)=true:=by rw[hs];simp
           by_cases hb:x.born=y.born
           ·have yG:(x.born !=y.born)=false:=by simp[hb]
            have yN:(x.born==y.born)=true:=by simp[hb]
            by_cases hP:x.text=y.text/\x.refs=y.refs
            ·rw[decide_eq_true hP] at HC
             have zP:Hid (x=y):=by
              obtain⟨e1,e2⟩:=hP;show x=y;cases x;cases y;simp_all
             clear hP hs hb;go_wp2;refine Bf (by kernel_rfl) (by kernel_rfl) ?_
             repeat (go_big_quiet_step (exact AE.calls (HC.o _)))
             refine wpQuiet_nil ?_;intro n;clear q1 q2 r0 r1 r2 r3 s0 s1 s2 s3 zN zO c0 c1 c2 c3 d0 d1 d2 d3;go_wp2;exact⟨⟨k+1,by omega,by go_num,⟨by rw[zY.o,zZ.o,HI.o.1,zP.o],HE.o n⟩⟩,by simp[intOf];omega⟩
            ·rw[decide_eq_false hP] at HC
             have zX:Hid _:=hP;clear hP hs hb;go_wp2;refine Bf (by kernel_rfl) (by kernel_rfl) ?_
             repeat (go_big_quiet_step (exact AE.calls (HC.o _)))
             refine wpQuiet_nil ?_;intro n;have zV:Hid _:=(HX.o _ (HE.o n)).2.2.2.2;clear q1 q2 r0 r1 r2 r3 s0 s1 s2 s3 zN zO c0 c1 c2 c3 d0 d1 d2 d3;go_wp2;go_ret;exact Ao.no (fun h=>HN.o x y zJ.o zK.o (fun e=>zX.o (by rw[e];exact⟨rfl,rfl⟩)) h.2.1) zV.o
           ·have yG:(x.born !=y.born)=true:=by simp[hb]
            have yN:(x.born==y.born)=false:=by simp[hb]
            have zX:Hid _:=hb;clear hb hs;go_wp2;refine Bf (by kernel_rfl) (by kernel_rfl) ?_
            repeat (go_big_quiet_step (exact AE.calls (HC.o _)))
            refine wpQuiet_nil ?_;intro n;have zV:Hid _:=(HX.o _ (HE.o n)).2.2.2.2;clear q1 q2 r0 r1 r2 r3 s0 s1 s2 s3 zN zO c0 c1 c2 c3 d0 d1 d2 d3;go_wp2;go_ret;exact Ao.no (fun h=>HN.o x y zJ.o zK.o (fun e=>zX.o (by rw[e])) h.2.1) zV.o
          ·have yO:(x.sum.toList !=y.sum.toList)=true:=by simp[bne,Ck hs]
           have yP:=Ck hs;have zX:Hid _:=hs;clear hs;go_wp2;refine Bf (by kernel_rfl) (by kernel_rfl) ?_
           repeat (go_big_quiet_step (exact AE.calls (HC.o _)))
           refine wpQuiet_nil ?_;intro n;have zV:Hid _:=(HX.o _ (HE.o n)).2.2.2.2;clear q1 q2 r0 r1 r2 r3 s0 s1 s2 s3 zN zO c0 c1 c2 c3 d0 d1 d2 d3;go_wp2;go_ret;exact Ao.no (fun h=>HN.o x y zJ.o zK.o (fun e=>zX.o (by rw[e])) h.2.1) zV.o
         ·obtain rfl:k=ks.length:=by omega
          have zD:=HI.o.1;rw[Uw (Us),Uw (by have:=E4.o;omega)] at zD;have HK:Hid _:=zD;have yF:Hid _:=HI.o.2;clear zD x0 x1 hr hq zE;go_wp2
          go_loopw [6] (fun i wr=>∃k:Nat,k<=ps.length/\i=.int .i64 k/\Hid (ps.take k=zI.take k/\Uq W wr)) (fun i _=>ps.length -(intOf i).toNat)
          case atStart=>exact⟨0,Nat.zero_le _,rfl,⟨by simp,yF.o⟩⟩
          case round=>
           obtain⟨k,hk,rfl,HI⟩:=hrel;obtain⟨x0,x1,hr,hq,zE⟩:=HX.o wr HI.o.2;have yM:=HI.o.2.size;obtain⟨zN,_⟩:=x0 5 _ rfl;obtain⟨zO,_⟩:=x1 5 _ rfl;by_cases hlt:k<ps.length
           ·have zC:k<zI.length:=by have:=E5.o;omega
            obtain⟨rb,ro,ha,yC,zR⟩:=hr.p.at hlt;obtain⟨qb,qo,hb,yB,zQ⟩:=hq.p.at zC;subst ha hb;obtain⟨c0,c1⟩:=zR k _ (Uu hlt);obtain⟨d0,d1⟩:=zQ k _ (Uu zC);have zT:=Uy yC zE.size;have zS:=Uy yB zE.size;have zY:Hid _:=Uv hlt;have zZ:Hid _:=Uv zC;have HN:Hid (∀x y,ps[k]?=some x->zI[k]?=some y->x≠y->ps≠zI):=fun x y h1 h2 zU e=>by
             subst e;rw[h1] at h2;exact zU (Option.some.inj h2)
            have zJ:Hid _:=Uu hlt;have zK:Hid _:=Uu zC;have yJ:(k:Int)<zI.length:=by omega
            clear zR zQ;generalize ps[k]=x at *
            generalize zI[k]=y at *
            have HB:Hid _:=HI.o.2;have zL:Hid _:=zE;clear x0 x1 hr hq zE;by_cases hxy:x=y
            ·subst hxy
             go_wp2
             go_region
             all_goals go_wp2
             all_goals exact⟨⟨k+1,by omega,by go_num,⟨by rw[zY.o,zZ.o,HI.o.1],HB.o.drew⟩⟩,by simp[intOf];omega⟩
            ·have zP:Hid _:=hxy
             by_cases n0:x.name=y.name
             ·have k0:x.name.toList=y.name.toList:=by rw[n0]
              have n1:¬x.sum=y.sum:=fun e=>hxy (by
               cases x;cases y;simp_all)
              have k1:¬x.sum.toList=y.sum.toList:=fun e=>n1 (Er e);clear hxy n0 n1;go_wp2
              go_region
              all_goals go_wp2
              all_goals go_ret
              all_goals exact Ao.no (fun h=>HN.o x y zJ.o zK.o zP.o h.2.2.1) zL.o.drew
             ·have k0:¬x.name.toList=y.name.toList:=fun e=>n0 (Er e)
              clear n0 hxy;go_wp2
              go_region
              all_goals go_wp2
              all_goals go_ret
              all_goals exact Ao.no (fun h=>HN.o x y zJ.o zK.o zP.o h.2.2.1) zL.o.drew
           ·obtain rfl:k=ps.length:=by omega
            have zD:=HI.o.1;rw[Uw (Us),Uw (by have:=E5.o;omega)] at zD;have HP:Hid _:=zD;have yF:Hid _:=HI.o.2;have zL:Hid _:=zE;clear zD x0 x1 hr hq zE;go_wp2
            go_loopw [7] (fun i wr=>∃k:Nat,k<=ls.length/\i=.int .i64 k/\Hid (ls.take k=zH.take k/\Uq W wr)) (fun i _=>ls.length -(intOf i).toNat)
            case atStart=>exact⟨0,Nat.zero_le _,rfl,⟨by simp,yF.o⟩⟩
            case round=>
             obtain⟨k,hk,rfl,HI⟩:=hrel;obtain⟨x0,x1,hr,hq,zE⟩:=HX.o wr HI.o.2;have yM:=HI.o.2.size;obtain⟨zN,_⟩:=x0 6 _ rfl;obtain⟨zO,_⟩:=x1 6 _ rfl;by_cases hlt:k<ls.length
             ·have zC:k<zH.length:=by have:=E6.o;omega
              obtain⟨rb,ro,ha,yC,zR⟩:=hr.l.at hlt;obtain⟨qb,qo,hb,yB,zQ⟩:=hq.l.at zC;subst ha hb;obtain⟨c0,c1,c2⟩:=zR k _ (Uu hlt);obtain⟨d0,d1,d2⟩:=zQ k _ (Uu zC);have zT:=Uy yC zE.size;have zS:=Uy yB zE.size;have zY:Hid _:=Uv hlt;have zZ:Hid _:=Uv zC;have HN:Hid (∀x y,ls[k]?=some x->zH[k]?=some y->x≠y->ls≠zH):=fun x y h1 h2 zU e=>by
               subst e;rw[h1] at h2;exact zU (Option.some.inj h2)
              have zJ:Hid _:=Uu hlt;have zK:Hid _:=Uu zC;have yJ:(k:Int)<zH.length:=by omega
              clear zR zQ;generalize ls[k]=x at *
              generalize zH[k]=y at *
              have HB:Hid _:=HI.o.2;have zL:Hid _:=zE;clear x0 x1 hr hq zE;by_cases hxy:x=y
              ·subst hxy
               go_wp2
               go_region
               all_goals go_wp2
               all_goals exact⟨⟨k+1,by omega,by go_num,⟨by rw[zY.o,zZ.o,HI.o.1],HB.o.drew⟩⟩,by simp[intOf];omega⟩
              ·have zP:Hid _:=hxy
               by_cases n0:x.num=y.num
               ·have k0:=n0
                by_cases n1:x.sum=y.sum
                ·have k1:x.sum.toList=y.sum.toList:=by rw[n1]
                 have n2:¬x.til=y.til:=fun e=>hxy (by
                  cases x;cases y;simp_all)
                 clear hxy n1;go_wp2
                 go_region
                 all_goals go_wp2
                 all_goals go_ret
                 all_goals exact Ao.no (fun h=>HN.o x y zJ.o zK.o zP.o h.2.2.2) zL.o.drew
                ·have k1:¬x.sum.toList=y.sum.toList:=fun e=>n1 (Er e)
                 clear n1 hxy;go_wp2
                 go_region
                 all_goals go_wp2
                 all_goals go_ret
                 all_goals exact Ao.no (fun h=>HN.o x y zJ.o zK.o zP.o h.2.2.2) zL.o.drew
               ·clear hxy
                go_wp2
                go_region
                all_goals go_wp2
                all_goals go_ret
                all_goals exact Ao.no (fun h=>HN.o x y zJ.o zK.o zP.o h.2.2.2) zL.o.drew
             ·obtain rfl:k=ls.length:=by omega
              have zD:=HI.o.1;rw[Uw (Us),Uw (by have:=E6.o;omega)] at zD;have HL:Hid _:=zD;have yF:Hid _:=HI.o.2;have zL:Hid _:=zE;clear zD x0 x1 hr hq zE;go_wp2;go_ret;exact Ao.yes ⟨⟨E0.o,E1.o,E2.o,E3.o⟩,HK.o,HP.o,HL.o⟩ zL.o
       ·have b6:=bne_iff_ne.2 (by omega)
        go_enter func29,ntmps29;go_upto_region 1 with fail;rw[←HW.o];clear HW;go_wp2;go_ret;exact Ao.no (fun h=>e6 (by rw[h.2.2.2])) bW
      ·have b5:=bne_iff_ne.2 (by omega)
       go_enter func29,ntmps29;go_upto_region 1 with fail;rw[←HW.o];clear HW;go_wp2;go_ret;exact Ao.no (fun h=>e5 (by rw[h.2.2.1])) bW
     ·have b4:=bne_iff_ne.2 (by omega)
      go_enter func29,ntmps29;go_upto_region 1 with fail;rw[←HW.o];clear HW;go_wp2;go_ret;exact Ao.no (fun h=>e4 (by rw[h.2.1])) bW
    ·have b3:(births !=zA)=true:=by simp[e3]
     go_enter func29,ntmps29;go_upto_region 1 with fail;rw[←HW.o];clear HW;go_wp2;go_ret;exact Ao.no (fun h=>e3 h.1.2.2.2) bW
   ·have b2:(given !=zB)=true:=by simp[e2]
    go_enter func29,ntmps29;go_upto_region 1 with fail;rw[←HW.o];clear HW;go_wp2;go_ret;exact Ao.no (fun h=>e2 h.1.2.2.1) bW
  ·have b1:(now !=zF)=true:=by simp[e1]
   go_enter func29,ntmps29;go_upto_region 1 with fail;rw[←HW.o];clear HW;go_wp2;go_ret;exact Ao.no (fun h=>e1 h.1.2.1) bW
 ·have b0:(wd !=zM)=true:=by simp[e0]
  go_enter func29,ntmps29;go_upto_region 1 with fail;rw[←HW.o];clear HW;go_wp2;go_ret;exact Ao.no (fun h=>e0 h.1.1) bW
end
theorem Ao.is {P:Prop} {w w':World} {e:Ending} (h:Ao P w w' e) (hp:P):e=.returned (.bool true)/\Uq w w':=by
 obtain⟨b,rfl,h1,h2⟩:=h;rw[h1.2 hp];exact⟨rfl,h2⟩
theorem NB (ph top at_ ro:Int) (x y x' y':Option Addr) (xc yc zA zB:Nat) (qs ms:List ByteArray) (w:World) (h1:Ad w w.heap.size x qs) (h2:Ad w w.heap.size y ms) (h3:Ad w w.heap.size x' qs) (h4:Ad w w.heap.size y' ms) (hf:FT qs ms):
 Calls prog 30 #[.agg #[.int .i64 ph,.slice x qs.length xc,.slice y ms.length yc,.int .i64 top,.int .i64 at_,.int .i64 ro],.agg #[.int .i64 ph,.slice x' qs.length zA,.slice y' ms.length zB,.int .i64 top,.int .i64 at_,.int .i64 ro]] w fun e w'=>e=.returned (.bool true)/\Uq w w':=by
 obtain⟨W,hW⟩:∃W,W=(w.alloc (.cells #[.int .i64 ph,.slice x qs.length xc,.slice y ms.length yc,.int .i64 top,.int .i64 at_,.int .i64 ro] 34)).alloc (.cells #[.int .i64 ph,.slice x' qs.length zA,.slice y' ms.length zB,.int .i64 top,.int .i64 at_,.int .i64 ro] 34):=⟨_,rfl⟩;have bW:=(Ba hW).1
 have HX:Hid (∀X,Uq W X->Aa X w.heap.size [.int .i64 ph,.slice x qs.length xc,.slice y ms.length yc,.int .i64 top,.int .i64 at_,.int .i64 ro]/\Aa X (w.heap.size+1) [.int .i64 ph,.slice x' qs.length zA,.slice y' ms.length zB,.int .i64 top,.int .i64 at_,.int .i64 ro]/\Uq w X):=fun X hX=>⟨Aa.below (Ba hW).2.2.1 hX,Aa.below (Ba hW).2.2.2 hX,bW.trans (hX.mono bW.size)⟩
 have H1:Hid (∀X,Uq w X->Calls prog 28 #[.slice x qs.length xc,.slice x' qs.length zA] X fun e X'=>e=.returned (.bool true)/\Uq X X'):=fun X hX=>(ED x x' xc zA qs qs X (h1.below' hX) (h3.below' hX) hf.q hf.q).mono (fun e X' h=>h.is rfl)
 have H2:Hid (∀X,Uq w X->Calls prog 28 #[.slice y ms.length yc,.slice y' ms.length zB] X fun e X'=>e=.returned (.bool true)/\Uq X X'):=fun X hX=>(ED y y' yc zB ms ms X (h2.below' hX) (h4.below' hX) hf.m hf.m).mono (fun e X' h=>h.is rfl);have HW:Hid _:=hW;clear hW h1 h2 h3 h4 hf bW;obtain⟨x0,x1,_⟩:=HX.o W (Below.refl _ _);obtain⟨a0,_⟩:=x0 0 _ rfl;obtain⟨a1,_⟩:=x0 1 _ rfl;obtain⟨a2,_⟩:=x0 2 _ rfl
 obtain⟨a3,_⟩:=x0 3 _ rfl;obtain⟨a4,_⟩:=x0 4 _ rfl;obtain⟨a5,_⟩:=x0 5 _ rfl;obtain⟨b0,_⟩:=x1 0 _ rfl;obtain⟨b1,_⟩:=x1 1 _ rfl;obtain⟨b2,_⟩:=x1 2 _ rfl;obtain⟨b3,_⟩:=x1 3 _ rfl;obtain⟨b4,_⟩:=x1 4 _ rfl;obtain⟨b5,_⟩:=x1 5 _ rfl;clear x0 x1;go_enter func30,ntmps30;go_upto_region 1 with fail;rw[←HW.o];clear HW;go_wp2_with fail;refine(H1.o W (HX.o W (Below.refl _ _)).2.2).mono ?_;rintro e w1 ⟨rfl,zD⟩
 have zC:Hid _:=zD;obtain⟨x0,x1,_⟩:=HX.o w1 zD;clear a0 b0 a1 b1 a2 b2 a3 b3 a4 b4 a5 b5;obtain⟨a2,_⟩:=x0 2 _ rfl;obtain⟨b2,_⟩:=x1 2 _ rfl;clear x0 x1 zD;go_wp2_with fail;refine(H2.o w1 (HX.o w1 zC.o).2.2).mono ?_;rintro e w2 ⟨rfl,zE⟩;have zF:Hid (Uq W w2):=zC.o.trans (zE.mono zC.o.size);clear zE;go_wp2;go_ret;exact⟨rfl,(HX.o w2 zF.o).2.2⟩
theorem NC (v:Vd) (a b:Va) (w:World) (hr:BV w w.heap.size a v) (hq:BV w w.heap.size b v) (hf:DM v) (hk:v.ks.length<=100000/\v.ps.length<=100000/\v.ls.length<=100000) (h1:∀k∈v.ks,k.refs.length<=100000):
 Calls prog 10 #[.agg #[.int .i64 v.wd,.int .i64 v.lim,.slice a.sa v.ss.length a.sc,.slice a.ta v.tt.length a.tc,.int .i64 v.sw,.int .i64 v.now,.int .i64 v.given,.int .i64 v.births,.slice a.ka v.ks.length a.kc,.slice a.pa v.ps.length a.pc,.slice a.la v.ls.length a.lc,.int .i64 v.ph,.slice a.qa v.qs.length a.qc,.slice a.ma v.ms.length a.mc,.int .i64 v.top,.int .i64 v.at_,.int .i64 v.ro],.agg #[.int .i64 v.wd,.int .i64 v.lim,.slice b.sa v.ss.length b.sc,.slice b.ta v.tt.length b.tc,.int .i64 v.sw,.int .i64 v.now,.int .i64 v.given,.int .i64 v.births,.slice b.ka v.ks.length b.kc,.slice b.pa v.ps.length b.pc,.slice b.la v.ls.length b.lc,.int .i64 v.ph,.slice b.qa v.qs.length b.qc,.slice b.ma v.ms.length b.mc,.int .i64 v.top,.int .i64 v.at_,.int .i64 v.ro]] w fun e w'=>e=.returned (.bool true)/\Uq w w':=by
 obtain⟨W,hW⟩:∃W,W=(w.alloc (.cells #[.int .i64 v.wd,.int .i64 v.lim,.slice a.sa v.ss.length a.sc,.slice a.ta v.tt.length a.tc,.int .i64 v.sw,.int .i64 v.now,.int .i64 v.given,.int .i64 v.births,.slice a.ka v.ks.length a.kc,.slice a.pa v.ps.length a.pc,.slice a.la v.ls.length a.lc,.int .i64 v.ph,.slice a.qa v.qs.length a.qc,.slice a.ma v.ms.length a.mc,.int .i64 v.top,.int .i64 v.at_,.int .i64 v.ro] 36)).alloc (.cells #[.int .i64 v.wd,.int .i64 v.lim,.slice b.sa v.ss.length b.sc,.slice b.ta v.tt.length b.tc,.int .i64 v.sw,.int .i64 v.now,.int .i64 v.given,.int .i64 v.births,.slice b.ka v.ks.length b.kc,.slice b.pa v.ps.length b.pc,.slice b.la v.ls.length b.lc,.int .i64 v.ph,.slice b.qa v.qs.length b.qc,.slice b.ma v.ms.length b.mc,.int .i64 v.top,.int .i64 v.at_,.int .i64 v.ro] 36):=⟨_,rfl⟩
 have bW:=(Ba hW).1
 have HX:Hid (∀X,Uq W X->Aa X w.heap.size [.int .i64 v.wd,.int .i64 v.lim,.slice a.sa v.ss.length a.sc,.slice a.ta v.tt.length a.tc,.int .i64 v.sw,.int .i64 v.now,.int .i64 v.given,.int .i64 v.births,.slice a.ka v.ks.length a.kc,.slice a.pa v.ps.length a.pc,.slice a.la v.ls.length a.lc,.int .i64 v.ph,.slice a.qa v.qs.length a.qc,.slice a.ma v.ms.length a.mc,.int .i64 v.top,.int .i64 v.at_,.int .i64 v.ro]/\Aa X (w.heap.size+1) [.int .i64 v.wd,.int .i64 v.lim,.slice b.sa v.ss.length b.sc,.slice b.ta v.tt.length b.tc,.int .i64 v.sw,.int .i64 v.now,.int .i64 v.given,.int .i64 v.births,.slice b.ka v.ks.length b.kc,.slice b.pa v.ps.length b.pc,.slice b.la v.ls.length b.lc,.int .i64 v.ph,.slice b.qa v.qs.length b.qc,.slice b.ma v.ms.length b.mc,.int .i64 v.top,.int .i64 v.at_,.int .i64 v.ro]/\Uq w X):=fun X hX=>⟨Aa.below (Ba hW).2.2.1 hX,Aa.below (Ba hW).2.2.2 hX,bW.trans (hX.mono bW.size)⟩
 have H1:Hid (∀X,Uq w X->Calls prog 28 #[.slice a.sa v.ss.length a.sc,.slice b.sa v.ss.length b.sc] X fun e X'=>e=.returned (.bool true)/\Uq X X'):=fun X hX=>(ED a.sa b.sa a.sc b.sc v.ss v.ss X (hr.below' hX).s (hq.below' hX).s hf.s hf.s).mono (fun e X' h=>h.is rfl)
 have H2:Hid (∀X,Uq w X->Calls prog 28 #[.slice a.ta v.tt.length a.tc,.slice b.ta v.tt.length b.tc] X fun e X'=>e=.returned (.bool true)/\Uq X X'):=fun X hX=>(ED a.ta b.ta a.tc b.tc v.tt v.tt X (hr.below' hX).t (hq.below' hX).t hf.t hf.t).mono (fun e X' h=>h.is rfl)
 have H3:Hid (∀X,Uq w X->Calls prog 29 #[.agg #[.int .i64 v.sw,.int .i64 v.now,.int .i64 v.given,.int .i64 v.births,.slice a.ka v.ks.length a.kc,.slice a.pa v.ps.length a.pc,.slice a.la v.ls.length a.lc],.agg #[.int .i64 v.sw,.int .i64 v.now,.int .i64 v.given,.int .i64 v.births,.slice b.ka v.ks.length b.kc,.slice b.pa v.ps.length b.pc,.slice b.la v.ls.length b.lc]] X fun e X'=>e=.returned (.bool true)/\Uq X X'):=fun X hX=>(NA v.sw v.now v.given v.births v.sw v.now v.given v.births a.ka a.pa a.la b.ka b.pa b.la a.kc a.pc a.lc b.kc b.pc b.lc v.ks v.ks v.ps v.ps v.ls v.ls X (hr.below' hX).st (hq.below' hX).st hk (by omega) h1 (fun k hk=>by have:=h1 k hk;omega)).mono (fun e X' h=>h.is ⟨⟨rfl,rfl,rfl,rfl⟩,rfl,rfl,rfl⟩)
 have H4:Hid (∀X,Uq w X->Calls prog 30 #[.agg #[.int .i64 v.ph,.slice a.qa v.qs.length a.qc,.slice a.ma v.ms.length a.mc,.int .i64 v.top,.int .i64 v.at_,.int .i64 v.ro],.agg #[.int .i64 v.ph,.slice b.qa v.qs.length b.qc,.slice b.ma v.ms.length b.mc,.int .i64 v.top,.int .i64 v.at_,.int .i64 v.ro]] X fun e X'=>e=.returned (.bool true)/\Uq X X'):=fun X hX=>NB v.ph v.top v.at_ v.ro a.qa a.ma b.qa b.ma a.qc a.mc b.qc b.mc v.qs v.ms X (hr.below' hX).q (hr.below' hX).m (hq.below' hX).q (hq.below' hX).m hf.r
 have HW:Hid _:=hW;clear hW hr hq hf hk h1 bW;obtain⟨x0,x1,_⟩:=HX.o W (Below.refl _ _);obtain⟨a0,_⟩:=x0 0 _ rfl;obtain⟨a1,_⟩:=x0 1 _ rfl;obtain⟨a2,_⟩:=x0 2 _ rfl;obtain⟨b0,_⟩:=x1 0 _ rfl;obtain⟨b1,_⟩:=x1 1 _ rfl;obtain⟨b2,_⟩:=x1 2 _ rfl;clear x0 x1;go_enter func10,ntmps10;go_upto_region 1 with fail;rw[←HW.o];clear HW;go_wp2_with fail;refine(H1.o W (HX.o W (Below.refl _ _)).2.2).mono ?_
 rintro e w1 ⟨rfl,zD⟩;have zC:Hid _:=zD;obtain⟨x0,x1,_⟩:=HX.o w1 zD;clear a0 b0 a1 b1 a2 b2;obtain⟨a3,_⟩:=x0 3 _ rfl;obtain⟨b3,_⟩:=x1 3 _ rfl;clear x0 x1 zD;go_wp2_with fail;refine(H2.o w1 (HX.o w1 zC.o).2.2).mono ?_;rintro e w2 ⟨rfl,zE⟩;have zA:Hid (Uq W w2):=zC.o.trans (zE.mono zC.o.size);clear zE a3 b3;go_wp2_with (first
  |refine CS (by kernel_rfl) 32 _ rfl w.heap.size 4 rfl [.int .i64 v.sw,.int .i64 v.now,.int .i64 v.given,.int .i64 v.births,.slice a.ka v.ks.length a.kc,.slice a.pa v.ps.length a.pc,.slice a.la v.ls.length a.lc] _ (Aa.mid [.int .i64 v.wd,.int .i64 v.lim,.slice a.sa v.ss.length a.sc,.slice a.ta v.tt.length a.tc] [.int .i64 v.sw,.int .i64 v.now,.int .i64 v.given,.int .i64 v.births,.slice a.ka v.ks.length a.kc,.slice a.pa v.ps.length a.pc,.slice a.la v.ls.length a.lc] [.int .i64 v.ph,.slice a.qa v.qs.length a.qc,.slice a.ma v.ms.length a.mc,.int .i64 v.top,.int .i64 v.at_,.int .i64 v.ro] (HX.o w2 zA.o).1) underlying32 rfl (by kernel_rfl) ?_
  |refine CS (by kernel_rfl) 32 _ rfl (w.heap.size+1) 4 rfl [.int .i64 v.sw,.int .i64 v.now,.int .i64 v.given,.int .i64 v.births,.slice b.ka v.ks.length b.kc,.slice b.pa v.ps.length b.pc,.slice b.la v.ls.length b.lc] _ (Aa.mid [.int .i64 v.wd,.int .i64 v.lim,.slice b.sa v.ss.length b.sc,.slice b.ta v.tt.length b.tc] [.int .i64 v.sw,.int .i64 v.now,.int .i64 v.given,.int .i64 v.births,.slice b.ka v.ks.length b.kc,.slice b.pa v.ps.length b.pc,.slice b.la v.ls.length b.lc] [.int .i64 v.ph,.slice b.qa v.qs.length b.qc,.slice b.ma v.ms.length b.mc,.int .i64 v.top,.int .i64 v.at_,.int .i64 v.ro] (HX.o w2 zA.o).2.1) underlying32 rfl (by kernel_rfl) ?_)
 refine(H3.o w2 (HX.o w2 zA.o).2.2).mono ?_;rintro e w3 ⟨rfl,zF⟩;have zB:Hid (Uq W w3):=zA.o.trans (zF.mono zA.o.size);clear zF;go_wp2_with (first
  |refine CS (by kernel_rfl) 34 _ rfl w.heap.size 11 rfl [.int .i64 v.ph,.slice a.qa v.qs.length a.qc,.slice a.ma v.ms.length a.mc,.int .i64 v.top,.int .i64 v.at_,.int .i64 v.ro] _ (Aa.mid [.int .i64 v.wd,.int .i64 v.lim,.slice a.sa v.ss.length a.sc,.slice a.ta v.tt.length a.tc,.int .i64 v.sw,.int .i64 v.now,.int .i64 v.given,.int .i64 v.births,.slice a.ka v.ks.length a.kc,.slice a.pa v.ps.length a.pc,.slice a.la v.ls.length a.lc] [.int .i64 v.ph,.slice a.qa v.qs.length a.qc,.slice a.ma v.ms.length a.mc,.int .i64 v.top,.int .i64 v.at_,.int .i64 v.ro] [] (HX.o w3 zB.o).1) underlying34 rfl (by kernel_rfl) ?_
  |refine CS (by kernel_rfl) 34 _ rfl (w.heap.size+1) 11 rfl [.int .i64 v.ph,.slice b.qa v.qs.length b.qc,.slice b.ma v.ms.length b.mc,.int .i64 v.top,.int .i64 v.at_,.int .i64 v.ro] _ (Aa.mid [.int .i64 v.wd,.int .i64 v.lim,.slice b.sa v.ss.length b.sc,.slice b.ta v.tt.length b.tc,.int .i64 v.sw,.int .i64 v.now,.int .i64 v.given,.int .i64 v.births,.slice b.ka v.ks.length b.kc,.slice b.pa v.ps.length b.pc,.slice b.la v.ls.length b.lc] [.int .i64 v.ph,.slice b.qa v.qs.length b.qc,.slice b.ma v.ms.length b.mc,.int .i64 v.top,.int .i64 v.at_,.int .i64 v.ro] [] (HX.o w3 zB.o).2.1) underlying34 rfl (by kernel_rfl) ?_)
 refine(H4.o w3 (HX.o w3 zB.o).2.2).mono ?_;rintro e w4 ⟨rfl,zG⟩;have zH:Hid (Uq W w4):=zB.o.trans (zG.mono zB.o.size);clear zG;go_wp2;go_ret;exact⟨rfl,(HX.o w4 zH.o).2.2⟩
theorem Aa.ltL {X:World} {b n:Nat} {l:List Value} (h:Aa X b l) (hl:l.length=n+1):b<X.heap.size:=by
 cases l with
 |nil=>simp at hl
 |cons a l=>exact h.lt
def Uc (v:Vd) (e:Ed) (Z:Rs->Option Addr->Nat->Option Addr->Nat->Option Addr->Nat->World->Prop) (X:World) (ch:List Value):Prop:=
 (∃c p q,e.no v c p q/\ch=Li c p q)∨∃r ta tc pa pc la lc,e.yes v r/\ch=[.int .i64 0,.int .i64 v.wd,.int .i64 r.now,.int .i64 r.given,.int .i64 r.births,.slice ta r.ks.length tc,.slice pa r.ps.length pc,.slice la r.ls.length lc,.string r.sm,.int .i64 r.le,.string ⟨#[]⟩,.string ⟨#[]⟩]/\Z r ta tc pa pc la lc X
def Ud (v:Vd) (e:Ed) (w:World) (o:Ending) (w':World):Prop:=
 ∃d vs,OH v e d/\o=.returned (.agg (dL d vs).toArray)/\(∀V X',(∀b∈V,b<w.heap.size)->Tn V w' X'->Qx d.v X'.heap.size X' vs)/\Uq w w'
theorem GX {v:Vd} {L:Nat} {X:World} {cs:List Value} (h:Qx v L X cs):cs.length=17/\∀u∈cs,u.oneCell'=true:=by
 obtain⟨a,rfl,_⟩:=h;exact⟨rfl,by simp[Dx,Value.oneCell']⟩
end Go.Proofs.YtflhhhnlhlaehaaGreatDoor
