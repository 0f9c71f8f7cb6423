import Derived.Test.YtpekbmegopfhfaaGreatDoorW35
import Derived.Test.YtpekbmegopfhfaaGreatDoorW36
import Derived.Test.YtpekbmegopfhfaaGreatDoorW33
import Derived.Test.YtpekbmegopfhfaaGreatDoorW12
import Derived.Test.YtpekbmegopfhfaaGreatDoorW32
import Derived.Test.YtpekbmegopfhfaaGreatDoorW05
import Derived.Test.YtpekbmegopfhfaaGreatDoorW19
namespace Go.Proofs.YtpekbmegopfhfaaGreatDoor
open Go.ChangeShapes Go.WideShapes Go.ChangeAt Go.RowKit
theorem own_nilR {w:World} {base:Nat} {ra:Option Addr} {rc:Nat} {ss:List ByteArray} (h:w.ownsRow base 9 1 (.slice ra ss.length rc) ss.length (ss.map Value.string)):SRow w w.heap.size ra ss/\(ra=none->ss.length=0/\rc=0):=by
 rcases h.2 with ⟨hv,h0⟩|⟨g,cap,cur,hv,_,_,hcap,_⟩
 ·injection hv with e1 e2 e3
  subst e1
  exact ⟨.inl (List.eq_nil_of_length_eq_zero h0),fun _=>⟨h0,e3⟩⟩
 ·cases hv
  exact ⟨SRow.own h,fun e=>by cases e⟩
theorem CT.low {w w':World} {base b:Nat} {ta pa la:Option Addr} {pc lc:Nat} {zs:List (Kd×Value)} {ps:List Pd} {ls:List Ld} (h:CT w base b ta pa la pc lc zs ps ls) {V:List Nat} (ht:Tn V w w') (hV:∀q∈V,q<base):CT w' base b ta pa la pc lc zs ps ls:=by
 have ho:∀{e:TypeId} {size:Nat} {v:Value} {n:Nat} {xs:List Value},w.ownsRow base e size v n xs->w'.ownsRow base e size v n xs:=fun h=>own_same h (fun g hg=>ht.block g (own_lt h hg).2 (fun e=>by have h1:=hV g e;have h2:=(own_lt h hg).1;omega))
 refine ⟨h.tb,?_,Nat.lt_of_lt_of_le h.bl ht.size,ho h.po,ho h.lo,Nat.le_trans h.lb ht.size,h.bL,h.pL,h.zL,h.zb,h.zr⟩
 rcases h.zb with e|e
 ·rw [e]
  intro i z hz
  simp at hz
 ·exact h.z.turn ht h.bl (fun hin=>by have:=hV b hin;omega) (fun z hz a n c e1 e2 hin=>by have h1:=hV _ hin;have h2:=h.zr z hz a n c e1 e2;omega)
theorem set7' {w:World} {b:Nat} {z0 z1 z2 z3 z4 z5 z6:Value} (h:CellsAt w b [z0,z1,z2,z3,z4,z5,z6]) (a0 a1 a2 a3 a4 a5 a6:Value):CellsAt (((((((w.setCell ⟨b,0,none⟩ a0).setCell ⟨b,1,none⟩ a1).setCell ⟨b,2,none⟩ a2).setCell ⟨b,3,none⟩ a3).setCell ⟨b,4,none⟩ a4).setCell ⟨b,5,none⟩ a5).setCell ⟨b,6,none⟩ a6) b [a0,a1,a2,a3,a4,a5,a6]:=
 ((((((h.set 0 a0).set 1 a1).set 2 a2).set 3 a3).set 4 a4).set 5 a5).set 6 a6
theorem tn7 (w:World) (R:Nat) (a0 a1 a2 a3 a4 a5 a6:Value):Tn [R] w (((((((w.setCell ⟨R,0,none⟩ a0).setCell ⟨R,1,none⟩ a1).setCell ⟨R,2,none⟩ a2).setCell ⟨R,3,none⟩ a3).setCell ⟨R,4,none⟩ a4).setCell ⟨R,5,none⟩ a5).setCell ⟨R,6,none⟩ a6):=
 ((((((tn1 _ _ _ _).trans (tn1 _ _ _ _)).trans (tn1 _ _ _ _)).trans (tn1 _ _ _ _)).trans (tn1 _ _ _ _)).trans (tn1 _ _ _ _)).trans (tn1 _ _ _ _)
set_option maxRecDepth 100000 in
set_option maxHeartbeats 8000000 in
theorem sReplay_any (wd:Int) (a:Option Addr) (cap:Nat) (xs:List ByteArray) (w:World) (hrow:SRow w w.heap.size a xs) (hl:xs.length<=1048576) (hs:∀s∈xs,s.size<=1048576):
 Calls Tryz.prog 10 #[.int .i64 wd,.slice a xs.length cap] w (RAns wd xs w):=by
 obtain ⟨W,hW⟩:∃W,W=w.alloc (.cells #[.int .i64 0,.int .i64 0,.int .i64 0,.int .i64 0,.int .i64 0,.slice none 0 0,.slice none 0 0,.slice none 0 0,.string ⟨#[]⟩,.int .i64 0,.string ⟨#[]⟩,.string ⟨#[]⟩] 30):=⟨_,rfl⟩
 have bW:Below w.heap.size w W:=by rw [hW];exact (Below.refl _ _).alloc (Nat.le_refl _) _
 have zW:W.heap.size=w.heap.size+1:=by rw [hW];simp
 have xW:CellsAt W w.heap.size z12:=by rw [hW];exact CellsAt.new w z12 30
 have HW:Hid _:=hW
 have HI:=swidth_any wd W
 obtain ⟨⟨y0,q0⟩,⟨y1,q1⟩,⟨y2,q2⟩,⟨y3,q3⟩,⟨y4,q4⟩,⟨y5,q5⟩,⟨y6,q6⟩,⟨y7,q7⟩,⟨y8,q8⟩,⟨y9,q9⟩,⟨y10,q10⟩,y11,q11⟩:=z12at xW
 clear hW
 by_cases hwd:1<=wd/\wd<=8
 ·rw [decide_eq_true hwd] at HI
  by_cases hlen:xs.length<=4000
  ·have hll:decide ((4000:Int)<xs.length)=false:=by simp;omega
   obtain ⟨A,hA⟩:∃A,A=W.alloc (.cells #[.int .i64 wd,.int .i64 0,.int .i64 0,.int .i64 0,.slice none 0 0,.slice none 0 0,.slice none 0 0] 28):=⟨_,rfl⟩
   have bA:Below W.heap.size W A:=by rw [hA];exact (Below.refl _ _).alloc (Nat.le_refl _) _
   have zA:A.heap.size=w.heap.size+2:=by rw [hA];simp;omega
   have sA:CellsAt A (w.heap.size+1) [.int .i64 wd,.int .i64 0,.int .i64 0,.int .i64 0,.slice none 0 0,.slice none 0 0,.slice none 0 0]:=by rw [hA,←zW];exact CellsAt.new W _ _
   have xA:CellsAt A w.heap.size z12:=CellsAt.below (v:=.int .i64 0) xW bA
   have bwA:Below w.heap.size w A:=bW.trans (bA.mono bW.size)
   have hCT:CT A (w.heap.size+2) w.heap.size none none none 0 0 [] [] []:=⟨.inr rfl,fun i z hz=>by simp at hz,by omega,⟨rfl,.inl ⟨rfl,rfl⟩⟩,⟨rfl,.inl ⟨rfl,rfl⟩⟩,by omega,by simp [Value.ownBlock],fun q hq=>by simp [Value.ownBlock] at hq,fun z hz=>by simp at hz,.inl rfl,fun z hz=>by simp at hz⟩
   have HIw:Hid _:=HI
   have HA:Hid _:=hA
   have H0:Hid _:=And.intro sA (And.intro xA (And.intro hCT bwA))
   have HROW:Hid (SRow w w.heap.size a xs):=hrow
   clear HI hA sA xA hCT bA hrow
   go_enter Tryz.func10,Tryz.ntmps10
   go_wp2_with fail
   rw [←HW.out]
   refine Calls.mono HIw.out ?_
   rintro e w1 ⟨rfl,hw1⟩
   replace hw1:=hw1.symm
   subst hw1
   clear HIw
   go_upto_region 4 with fail
   rw [←HA.out]
   clear HA y0 y1 y2 y3 y4 y5 y6 y7 y8 y9 y10 y11 q0 q1 q2 q3 q4 q5 q6 q7 q8 q9 q10 q11
   go_wp2
   go_loopw [6] (fun i wr=>∃(k:Nat) (r:Rs) (b:Nat) (ta pa la:Option Addr) (tc pc lc:Nat) (zs:List (Kd×Value)),k<=xs.length/\i=.int .i64 k/\Hid (CellsAt wr (w.heap.size+1) [.int .i64 wd,.int .i64 r.now,.int .i64 r.given,.int .i64 r.births,.slice ta zs.length tc,.slice pa r.ps.length pc,.slice la r.ls.length lc]/\CellsAt wr w.heap.size z12/\CT wr (w.heap.size+2) b ta pa la pc lc zs r.ps r.ls/\zs.map (·.1)=r.ks/\Run wd r0 (xs.take k) r/\Below w.heap.size w wr)) (fun i _=>xs.length -(intOf i).toNat)
   case atStart=>exact ⟨0,r0,w.heap.size,none,none,none,0,0,0,[],Nat.zero_le _,rfl,⟨H0.out.1,H0.out.2.1,H0.out.2.2.1,rfl,rfl,H0.out.2.2.2⟩⟩
   case round=>
    clear H0
    obtain ⟨k,r,b,ta,pa,la,tc,pc,lc,zs,hk,rfl,HI⟩:=hrel
    obtain ⟨hs1,hx0,hCT,hzk,hrun,hbw⟩:=HI.out
    by_cases hlt:k<xs.length
    ·obtain ⟨rb,roff,ha,hrb,hrc⟩:=((HROW.out.below hbw).mono hbw.size).at hlt
     subst ha
     have HG:Hid (xs[k]?=some xs[k]):=List.getElem?_eq_getElem hlt
     have hsm:=hs _ (List.getElem_mem hlt)
     have c0:=hrc k _ HG.out
     have HTk:Hid (xs.take (k+1)=xs.take k++[xs[k]]):=List.take_succ_eq_append_getElem hlt
     clear hrc
     generalize xs[k]=s at *
     have HR:Hid _:=sReadE_any s wd wr hsm
     clear hs1 hx0 hCT hzk hrun hbw
     go_wp2_with fail
     refine Calls.mono HR.out ?_
     rintro e w2 ⟨v,rfl,ho2,hb2⟩
     obtain ⟨ra,rc,rfl⟩:=own_val ho2
     obtain ⟨w3,hw3⟩:∃X,X=w2.alloc (.cells #[.int .i64 (rdE s wd).k,.string (rdE s wd).sum,.string (rdE s wd).name,.int .i64 (rdE s wd).n,.string (rdE s wd).t,.slice ra (rdE s wd).ss.length rc] 77):=⟨_,rfl⟩
     have b23:Below w2.heap.size w2 w3:=by rw [hw3];exact (Below.refl _ _).alloc (Nat.le_refl _) _
     have b3:Below wr.heap.size wr w3:=hb2.trans (b23.mono hb2.size)
     have e3:CellsAt w3 w2.heap.size [.int .i64 (rdE s wd).k,.string (rdE s wd).sum,.string (rdE s wd).name,.int .i64 (rdE s wd).n,.string (rdE s wd).t,.slice ra (rdE s wd).ss.length rc]:=by rw [hw3];exact CellsAt.new w2 _ _
     have s3:=CellsAt.below HI.out.1 b3
     have x3:=CellsAt.below (v:=.int .i64 0) HI.out.2.1 b3
     have hC3:=HI.out.2.2.1.below b3
     have HBw3:Hid (Below w.heap.size w w3):=HI.out.2.2.2.2.2.trans (b3.mono HI.out.2.2.2.2.2.size)
     have ho3:=own_nilR (own_below ho2 b23)
     have HW3:Hid _:=hw3
     have hkk:(k:Int)<=4000:=by omega
     clear hw3 HR
     cases hok:(rdE s wd).ok with
     |false=>
      obtain ⟨⟨y0,q0⟩,⟨y1,q1⟩,⟨y2,q2⟩,⟨y3,q3⟩,⟨y4,q4⟩,⟨y5,q5⟩,⟨y6,q6⟩,⟨y7,q7⟩,⟨y8,q8⟩,⟨y9,q9⟩,⟨y10,q10⟩,y11,q11⟩:=z12at x3
      clear e3 s3 hC3 ho3 c0 x3
      go_upto_region 8 with fail
      rw [←HW3.out]
      go_wp2
      refine bodyPost_ret (v:=.agg #[.int .i64 7,.int .i64 0,.int .i64 0,.int .i64 0,.int .i64 0,.slice none 0 0,.slice none 0 0,.slice none 0 0,.string ⟨#[]⟩,.int .i64 ((k:Int)+1),.string ⟨#[]⟩,.string ⟨#[]⟩]) (by simp [results,Tryz.results10,go_sem,y0,y1,y2,y3,y4,y5,y6,y7,y8,y9,y10,y11]) rfl ?_
      exact ⟨⟨7,0,0,0,0,((k+1:Nat):Int),⟨#[]⟩,⟨#[]⟩,⟨#[]⟩,[],[],[]⟩,_,_,_,[],.inr ⟨⟨hwd,hlen⟩,.inl ⟨k+1,⟨k,r,s,rfl,HG.out,HI.out.2.2.2.2.1,.inl hok⟩,rfl⟩⟩,rfl,nilS _ _,HBw3.out.trans ((tn12 w3 w.heap.size _ _ _ _ _ _ _ _ _ _ _ _).below HBw3.out.size (by simp))⟩
     |true=>
      have hoe:=(rdE_sound hok).1
      have hro:=HI.out.2.2.2.2.1.ok (r0_ok hwd.1 hwd.2)
      have hzk:=HI.out.2.2.2.1
      have haok:AOk wd r.now r.given r.births (zs.map (·.1)) r.ps r.ls (rdE s wd).k (rdE s wd).n (rdE s wd).t (rdE s wd).ss:=by
       rw [hzk]
       exact ROk.aok hro hoe (by have:=okE_text hoe;unfold maxLen;omega)
      have HAp:Hid _:=l4Apply_opt (w.heap.size+2) wd r.now r.given r.births b ta pa la tc pc lc zs r.ps r.ls (rdE s wd).sum (rdE s wd).name (rdE s wd).t (rdE s wd).n (rdE s wd).ss ra rc w3 (rdE s wd).k hC3 haok (by rw [hzk];exact hro.r30) ho3.1 ho3.2
      obtain ⟨v0,_⟩:=s3 0 _ rfl
      obtain ⟨v1,_⟩:=s3 1 _ rfl
      obtain ⟨v2,_⟩:=s3 2 _ rfl
      obtain ⟨v3,_⟩:=s3 3 _ rfl
      obtain ⟨v4,_⟩:=s3 4 _ rfl
      obtain ⟨v5,_⟩:=s3 5 _ rfl
      obtain ⟨v6,_⟩:=s3 6 _ rfl
      obtain ⟨u0,_⟩:=e3 0 _ rfl
      obtain ⟨u1,_⟩:=e3 1 _ rfl
      obtain ⟨u2,_⟩:=e3 2 _ rfl
      obtain ⟨u3,_⟩:=e3 3 _ rfl
      obtain ⟨u4,_⟩:=e3 4 _ rfl
      obtain ⟨u5,_⟩:=e3 5 _ rfl
      have HS3:Hid _:=s3
      have HX3:Hid (CellsAt w3 w.heap.size z12):=x3
      have HC3:Hid _:=hC3
      clear e3 s3 hC3 ho3 c0 x3 haok
      go_upto_region 8 with fail
      rw [←HW3.out]
      clear HW3
      go_wp2_with fail
      refine Calls.mono HAp.out ?_
      rintro e w4 ⟨ht,hQ⟩
      have hLge:∀q∈(Value.slice la r.ls.length lc).ownBlock.toList,w.heap.size+2<=q:=fun q hq=>(own_lt HC3.out.lo (by simpa using hq)).1
      have b34:Below (w.heap.size+2) w3 w4:=ht.below HC3.out.lb hLge
      have x4:CellsAt w4 w.heap.size z12:=CellsAt.same HX3.out (b34.block _ (by omega))
      have s4:=CellsAt.same HS3.out (b34.block _ (by omega))
      have HB4:Hid (Below w.heap.size w w4):=HBw3.out.trans (b34.mono (by omega))
      clear v0 v1 v2 v3 v4 v5 v6 u0 u1 u2 u3 u4 u5 HAp ht
      rcases hQ with ⟨c,a',b',hno,rfl⟩|⟨r',b1,ta1,tc1,zs1,pa1,pc1,la1,lc1,hy,rfl,hm,hC⟩
      ·rw [hzk] at hno
       have hc0:(c !=0)=true:=by have:=hno.code;simp;omega
       have HNo:Hid _:=hno
       have hre:(refC c a' b').toArray= #[.int .i64 c,.int .i64 0,.int .i64 0,.int .i64 0,.int .i64 0,.slice none 0 0,.slice none 0 0,.slice none 0 0,.string ⟨#[]⟩,.int .i64 0,.string a',.string b']:=rfl
       rw [hre]
       obtain ⟨w5,hw5⟩:∃X,X=w4.alloc (.cells #[.int .i64 c,.int .i64 0,.int .i64 0,.int .i64 0,.int .i64 0,.slice none 0 0,.slice none 0 0,.slice none 0 0,.string ⟨#[]⟩,.int .i64 0,.string a',.string b'] 30):=⟨_,rfl⟩
       have b45:Below w4.heap.size w4 w5:=by rw [hw5];exact (Below.refl _ _).alloc (Nat.le_refl _) _
       have n5:CellsAt w5 w4.heap.size [.int .i64 c,.int .i64 0,.int .i64 0,.int .i64 0,.int .i64 0,.slice none 0 0,.slice none 0 0,.slice none 0 0,.string ⟨#[]⟩,.int .i64 0,.string a',.string b']:=by rw [hw5];exact CellsAt.new w4 _ _
       have HBw5:Hid (Below w.heap.size w w5):=HB4.out.trans (b45.mono HB4.out.size)
       obtain ⟨⟨y0,q0⟩,⟨y1,q1⟩,⟨y2,q2⟩,⟨y3,q3⟩,⟨y4,q4⟩,⟨y5,q5⟩,⟨y6,q6⟩,⟨y7,q7⟩,⟨y8,q8⟩,⟨y9,q9⟩,⟨y10,q10⟩,y11,q11⟩:=z12at (CellsAt.below (v:=.int .i64 0) x4 b45)
       obtain ⟨m0,_⟩:=n5 0 _ rfl
       have HW5:Hid _:=hw5
       clear hw5 hno n5 x4 s4 hre
       go_upto_region 11 with fail
       rw [←HW5.out]
       go_wp2
       refine bodyPost_ret (v:=.agg #[.int .i64 7,.int .i64 0,.int .i64 0,.int .i64 0,.int .i64 0,.slice none 0 0,.slice none 0 0,.slice none 0 0,.string ⟨#[]⟩,.int .i64 ((k:Int)+1),.string ⟨#[]⟩,.string ⟨#[]⟩]) (by simp [results,Tryz.results10,go_sem,y0,y1,y2,y3,y4,y5,y6,y7,y8,y9,y10,y11]) rfl ?_
       exact ⟨⟨7,0,0,0,0,((k+1:Nat):Int),⟨#[]⟩,⟨#[]⟩,⟨#[]⟩,[],[],[]⟩,_,_,_,[],.inr ⟨⟨hwd,hlen⟩,.inl ⟨k+1,⟨k,r,s,rfl,HG.out,HI.out.2.2.2.2.1,.inr ⟨c,a',b',HNo.out⟩⟩,rfl⟩⟩,rfl,nilS _ _,HBw5.out.trans ((tn12 w5 w.heap.size _ _ _ _ _ _ _ _ _ _ _ _).below HBw5.out.size (by simp))⟩
      ·rw [hzk] at hy
       obtain ⟨w5,hw5⟩:∃X,X=w4.alloc (.cells #[.int .i64 0,.int .i64 wd,.int .i64 r'.now,.int .i64 r'.given,.int .i64 r'.births,.slice ta1 r'.ks.length tc1,.slice pa1 r'.ps.length pc1,.slice la1 r'.ls.length lc1,.string r'.sm,.int .i64 r'.le,.string ⟨#[]⟩,.string ⟨#[]⟩] 30):=⟨_,rfl⟩
       have b45:Below w4.heap.size w4 w5:=by rw [hw5];exact (Below.refl _ _).alloc (Nat.le_refl _) _
       have n5:CellsAt w5 w4.heap.size [.int .i64 0,.int .i64 wd,.int .i64 r'.now,.int .i64 r'.given,.int .i64 r'.births,.slice ta1 r'.ks.length tc1,.slice pa1 r'.ps.length pc1,.slice la1 r'.ls.length lc1,.string r'.sm,.int .i64 r'.le,.string ⟨#[]⟩,.string ⟨#[]⟩]:=by rw [hw5];exact CellsAt.new w4 _ _
       have s5:=CellsAt.below s4 b45
       have x5:=CellsAt.below (v:=.int .i64 0) x4 b45
       have hC5:=hC.below b45
       have HB5:Hid (Below w.heap.size w w5):=HB4.out.trans (b45.mono HB4.out.size)
       have hlz:r'.ks.length=zs1.length:=by rw [←hm,List.length_map]
       have H5:Hid _:=And.intro s5 (And.intro x5 (And.intro hC5 (And.intro hm (And.intro hy hlz))))
       obtain ⟨⟨v0,p0⟩,⟨v1,p1⟩,⟨v2,p2⟩,⟨v3,p3⟩,⟨v4,p4⟩,⟨v5,p5⟩,v6,p6⟩:=(⟨s5 0 _ rfl,s5 1 _ rfl,s5 2 _ rfl,s5 3 _ rfl,s5 4 _ rfl,s5 5 _ rfl,s5 6 _ rfl⟩:(_/\_)/\(_/\_)/\(_/\_)/\(_/\_)/\(_/\_)/\(_/\_)/\_/\_)
       obtain ⟨m0,_⟩:=n5 0 _ rfl
       obtain ⟨m1,_⟩:=n5 1 _ rfl
       obtain ⟨m2,_⟩:=n5 2 _ rfl
       obtain ⟨m3,_⟩:=n5 3 _ rfl
       obtain ⟨m4,_⟩:=n5 4 _ rfl
       obtain ⟨m5,_⟩:=n5 5 _ rfl
       obtain ⟨m6,_⟩:=n5 6 _ rfl
       obtain ⟨m7,_⟩:=n5 7 _ rfl
       have HW5:Hid _:=hw5
       have HTk':Hid (Run wd r0 (xs.take (k+1)) r'):=by
        show Run _ _ _ _
        rw [HTk.out]
        exact HI.out.2.2.2.2.1.snoc ⟨hok,hy⟩
       have hzl5:w.heap.size+2<=w5.heap.size:=hC5.lb
       clear hw5 hy n5 x4 s4 s5 x5 hC hC5 hlz hm
       go_upto_region 11 with fail
       rw [←HW5.out]
       clear HW5
       go_wp2
       refine ⟨⟨k+1,r',b1,ta1,pa1,la1,tc1,pc1,lc1,zs1,by omega,by go_num,⟨?_,CellsAt.same H5.out.2.1 ((tn7 w5 (w.heap.size+1) _ _ _ _ _ _ _).block _ (by omega) (by simp)),H5.out.2.2.1.low (tn7 w5 (w.heap.size+1) _ _ _ _ _ _ _) (by simp),H5.out.2.2.2.1,HTk'.out,HB5.out.trans ((tn7 w5 (w.heap.size+1) _ _ _ _ _ _ _).below HB5.out.size (by simp))⟩⟩,by simp [intOf];omega⟩
       rw [←H5.out.2.2.2.2.2]
       exact set7' H5.out.1 _ _ _ _ _ _ _
    ·obtain rfl:k=xs.length:=by omega
     have hrun:=HI.out.2.2.2.2.1
     rw [List.take_of_length_le (Nat.le_refl _)] at hrun
     have hro:=hrun.ok (r0_ok hwd.1 hwd.2)
     have hzk:=HI.out.2.2.2.1
     have hcx:=HI.out.2.2.1
     have h1:=l4Copy_opt wd r.now r.given r.births ta pa la tc pc lc (zs.map (·.1)) r.ps r.ls wr ⟨hcx.krow,hcx.prow,hcx.lrow⟩ (fun B hB=>by
      rcases hcx.tb with e|e
      ·rw [e] at hB
       cases hB
       exact hcx.z.some
      ·rw [e]
       intro i k hk
       simp at hk) (own_cap hcx.po) (own_cap hcx.lo) (by rw [hzk];exact hro.kso.len) hro.np hro.nl (by rw [hzk];exact hro.r30)
     rw [List.length_map,hzk] at h1
     have HC:Hid _:=h1
     have HRn:Hid (Run wd r0 xs r):=hrun
     obtain ⟨v0,_⟩:=HI.out.1 0 _ rfl
     obtain ⟨v1,_⟩:=HI.out.1 1 _ rfl
     obtain ⟨v2,_⟩:=HI.out.1 2 _ rfl
     obtain ⟨v3,_⟩:=HI.out.1 3 _ rfl
     obtain ⟨v4,_⟩:=HI.out.1 4 _ rfl
     obtain ⟨v5,_⟩:=HI.out.1 5 _ rfl
     obtain ⟨v6,_⟩:=HI.out.1 6 _ rfl
     clear h1 hrun hro hzk hcx hs1 hx0 hCT hbw
     go_wp2_with fail
     refine Calls.mono HC.out ?_
     rintro e w4 ⟨T,P',L',rs,rfl,hS,_,hb4⟩
     obtain ⟨ta',tc',rfl⟩:=own_val hS.things
     obtain ⟨pa',pc',rfl⟩:=own_val hS.pins
     obtain ⟨la',lc',rfl⟩:=own_val hS.leases
     have x4:CellsAt w4 w.heap.size z12:=CellsAt.below (v:=.int .i64 0) HI.out.2.1 hb4
     have hzl:w.heap.size<wr.heap.size:=HI.out.2.1.lt
     have HF:Hid _:=And.intro hS hb4
     obtain ⟨⟨y0,q0⟩,⟨y1,q1⟩,⟨y2,q2⟩,⟨y3,q3⟩,⟨y4,q4⟩,⟨y5,q5⟩,⟨y6,q6⟩,⟨y7,q7⟩,⟨y8,q8⟩,⟨y9,q9⟩,⟨y10,q10⟩,y11,q11⟩:=z12at x4
     clear hS hb4 HC x4 v0 v1 v2 v3 v4 v5 v6
     go_wp2
     refine bodyPost_ret (v:=.agg #[.int .i64 0,.int .i64 wd,.int .i64 r.now,.int .i64 r.given,.int .i64 r.births,.slice ta' r.ks.length tc',.slice pa' r.ps.length pc',.slice la' r.ls.length lc',.string ⟨#[]⟩,.int .i64 0,.string ⟨#[]⟩,.string ⟨#[]⟩]) (by simp [results,Tryz.results10,go_sem,y0,y1,y2,y3,y4,y5,y6,y7,y8,y9,y10,y11]) rfl ?_
     have hbw:=HI.out.2.2.2.2.2
     refine ⟨⟨0,wd,r.now,r.given,r.births,0,⟨#[]⟩,⟨#[]⟩,⟨#[]⟩,r.ks,r.ps,r.ls⟩,_,_,_,rs,.inr ⟨⟨hwd,hlen⟩,.inr ⟨r,HRn.out,rfl⟩⟩,rfl,(HF.out.1.turn (tn12 w4 w.heap.size _ _ _ _ _ _ _ _ _ _ _ _) (by simp;exact hzl)).mono hbw.size,?_⟩
     exact (hbw.trans (HF.out.2.mono hbw.size)).trans ((tn12 w4 w.heap.size _ _ _ _ _ _ _ _ _ _ _ _).below (Nat.le_trans hbw.size HF.out.2.size) (by simp))
  ·have hll:decide ((4000:Int)<xs.length)=true:=by simp;omega
   have HIw:Hid _:=HI
   clear HI
   go_enter Tryz.func10,Tryz.ntmps10
   go_wp2_with fail
   rw [←HW.out]
   refine Calls.mono HIw.out ?_
   rintro e w1 ⟨rfl,hw1⟩
   replace hw1:=hw1.symm
   subst hw1
   clear HIw
   go_wp2
   refine bodyPost_ret (v:=.agg #[.int .i64 1,.int .i64 0,.int .i64 0,.int .i64 0,.int .i64 0,.slice none 0 0,.slice none 0 0,.slice none 0 0,.string ⟨#[]⟩,.int .i64 0,.string ⟨#[]⟩,.string ⟨#[]⟩]) (by simp [results,Tryz.results10,go_sem,y0,y1,y2,y3,y4,y5,y6,y7,y8,y9,y10,y11]) rfl ?_
   exact ⟨⟨1,0,0,0,0,0,⟨#[]⟩,⟨#[]⟩,⟨#[]⟩,[],[],[]⟩,_,_,_,[],.inl ⟨fun h=>hlen h.2,rfl⟩,rfl,nilS _ _,bW.trans ((tn12 W w.heap.size _ _ _ _ _ _ _ _ _ _ _ _).below bW.size (by simp))⟩
 ·rw [decide_eq_false hwd] at HI
  have HIw:Hid _:=HI
  clear HI
  go_enter Tryz.func10,Tryz.ntmps10
  go_wp2_with fail
  rw [←HW.out]
  refine Calls.mono HIw.out ?_
  rintro e w1 ⟨rfl,hw1⟩
  replace hw1:=hw1.symm
  subst hw1
  clear HIw
  go_wp2
  refine bodyPost_ret (v:=.agg #[.int .i64 1,.int .i64 0,.int .i64 0,.int .i64 0,.int .i64 0,.slice none 0 0,.slice none 0 0,.slice none 0 0,.string ⟨#[]⟩,.int .i64 0,.string ⟨#[]⟩,.string ⟨#[]⟩]) (by simp [results,Tryz.results10,go_sem,y0,y1,y2,y3,y4,y5,y6,y7,y8,y9,y10,y11]) rfl ?_
  exact ⟨⟨1,0,0,0,0,0,⟨#[]⟩,⟨#[]⟩,⟨#[]⟩,[],[],[]⟩,_,_,_,[],.inl ⟨fun h=>hwd h.1,rfl⟩,rfl,nilS _ _,bW.trans ((tn12 W w.heap.size _ _ _ _ _ _ _ _ _ _ _ _).below bW.size (by simp))⟩
end Go.Proofs.YtpekbmegopfhfaaGreatDoor
namespace Go.Proofs.YtpekbmegopfhfaaGreatDoor
open Go.ChangeShapes Go.WideShapes Go.ChangeAt Go.RowKit
attribute [local go_sem↓] Go.wp_at_zero Go.wp_at_succ
theorem nodup_takes {ms:List ByteArray}:ms.Nodup↔∀(j:Nat) x,ms[j]?=some x->x∉ms.take j:=by
 unfold List.Nodup
 rw [List.pairwise_iff_getElem]
 constructor
 ·intro h j x hj hm
  obtain ⟨hj1,rfl⟩:=List.getElem?_eq_some_iff.1 hj
  obtain ⟨i,hi,e⟩:=List.getElem_of_mem hm
  have hi':i<j:=by simp at hi;omega
  rw [List.getElem_take] at e
  exact h i j (by omega) hj1 hi' e
 ·intro h i j hi hj hij e
  refine h j ms[j] (List.getElem?_eq_getElem hj) ?_
  rw [←e]
  have hi2:i<(ms.take j).length:=by simp;omega
  have:=List.getElem_mem hi2
  rw [List.getElem_take] at this
  exact this
theorem SRow.front {w:World} {B:Nat} {a:Option Addr} {tt:List ByteArray} (h:SRow w B a tt) (K:Nat):SRow w B a (tt.take K):=by
 rcases h with h|⟨q,off,h1,h2,h3⟩
 ·exact .inl (by simp [h])
 ·refine .inr ⟨q,off,h1,h2,fun i s his=>h3 i s ?_⟩
  have hi:=(List.getElem?_eq_some_iff.1 his).1
  simp at hi
  rw [List.getElem?_take_of_lt (by omega)] at his
  exact his
set_option maxRecDepth 20000 in
set_option maxHeartbeats 8000000 in
theorem l6Ok_any (wd now given births ph top at_ ro:Int) (T P L:Value) (a b:Option Addr) (ac bc:Nat) (qs ms:List ByteArray) (w:World) (hq:SRow w w.heap.size a qs) (hm:SRow w w.heap.size b ms) (hf:RFit qs ms) (hcap:ms.length<=bc) (hbi:births<=1000000000):
 Calls Tryz.prog 68 #[.agg #[.int .i64 wd,.int .i64 now,.int .i64 given,.int .i64 births,T,P,L],.agg #[.int .i64 ph,.slice a qs.length ac,.slice b ms.length bc,.int .i64 top,.int .i64 at_,.int .i64 ro]] w fun e w'=>Says (RoundOk wd births ph top at_ ro qs ms) w w' e:=by
 have hfq:=hf.q
 have hfm:=hf.m
 obtain ⟨W,hW⟩:∃W,W=(w.alloc (.cells #[.int .i64 wd,.int .i64 now,.int .i64 given,.int .i64 births,T,P,L] 28)).alloc (.cells #[.int .i64 ph,.slice a qs.length ac,.slice b ms.length bc,.int .i64 top,.int .i64 at_,.int .i64 ro] 42):=⟨_,rfl⟩
 have hbW:Below w.heap.size w W:=by rw [hW];exact ((Below.refl _ _).alloc (Nat.le_refl _) _).alloc (by simp) _
 have hsx:SBox W w.heap.size wd now given births T P L:=by rw [hW];exact (SBox.new w wd now given births T P L 28).below ((Below.refl _ _).alloc (Nat.le_refl _) _)
 have hrx:RBox W (w.heap.size+1) ph (.slice a qs.length ac) (.slice b ms.length bc) top at_ ro:=by
  rw [hW]
  have:=RBox.new (w.alloc (.cells #[.int .i64 wd,.int .i64 now,.int .i64 given,.int .i64 births,T,P,L] 28)) ph top at_ ro (.slice a qs.length ac) (.slice b ms.length bc) 42
  rw [World.size_alloc] at this
  exact this
 have hzW:W.heap.size=w.heap.size+2:=by rw [hW];simp
 have HW:Hid _:=hW
 clear hW
 have HSX:Hid _:=hsx
 have HRX:Hid _:=hrx
 have HQ:Hid _:=hq
 have HM:Hid _:=hm
 clear hsx hrx hq hm
 by_cases p1:ph<0
 ·have d1:decide (ph<0)=true:=by simpa using p1
  go_enter Tryz.func68,Tryz.ntmps68
  go_wp2
  go_ret
  rw [←HW.out]
  exact Says.no (P:=RoundOk wd births ph top at_ ro qs ms) (fun h=>by rcases h.ph with h|h|h<;>(have:=h.1;omega)) hbW
 have d1:decide (ph<0)=false:=by simpa using p1
 by_cases p2:2<ph
 ·have d2:decide ((2:Int)<ph)=true:=by simpa using p2
  go_enter Tryz.func68,Tryz.ntmps68
  go_wp2
  go_ret
  rw [←HW.out]
  exact Says.no (P:=RoundOk wd births ph top at_ ro qs ms) (fun h=>by rcases h.ph with h|h|h<;>(have:=h.1;omega)) hbW
 have d2:decide ((2:Int)<ph)=false:=by simpa using p2
 go_enter Tryz.func68,Tryz.ntmps68
 go_wp2_with fail
 rw [←HW.out]
 refine (range_any ro 0 1000000000 W).mono ?_
 rintro e w1 ⟨rfl,rfl⟩
 obtain ⟨x0,x1,x2,x3,x4,x5,x6⟩:=HRX.out
 by_cases h1:0<=ro/\ro<=1000000000
 ·rw [decide_eq_true h1]
  by_cases h2:qs.length<=23200
  ·have e2:decide ((23200:Int)<(qs.length:Int))=false:=by simp;omega
   by_cases h3:ms.length<=600
   ·have e3:decide ((600:Int)<(ms.length:Int))=false:=by simp;omega
    clear HW
    go_wp2
    go_loopw [5] (fun i wr=>∃k:Nat,k<=qs.length/\i=.int .i64 k/\Hid (∀j x,j<k->qs[j]?=some x->(x.size:Int)=wd)/\Hid (SBox wr w.heap.size wd now given births T P L)/\Hid (RBox wr (w.heap.size+1) ph (.slice a qs.length ac) (.slice b ms.length bc) top at_ ro)/\Below w.heap.size w wr) (fun i _=>qs.length -(intOf i).toNat)
    case atStart=>exact ⟨0,Nat.zero_le _,rfl,fun j x h=>by omega,HSX,HRX,hbW⟩
    case round=>
     clear x0 x1 x2 x3 x4 x5 x6 HSX HRX hbW hzW
     obtain ⟨k,hk,rfl,hall,HSX,HRX,hbW⟩:=hrel
     obtain ⟨x0,x1,x2,x3,x4,x5,x6⟩:=HRX.out
     obtain ⟨y0,_,_,y3,_,_,_,y7⟩:=HSX.out
     by_cases hlt:k<qs.length
     ·obtain ⟨b',off,ha,hb,hc⟩:=(SRow.below HQ.out hbW).at hlt
      subst ha
      have hg:Hid (qs[k]?=some qs[k]):=List.getElem?_eq_getElem hlt
      have c0:=hc k _ hg
      have hb'':b'<wr.heap.size:=Nat.lt_of_lt_of_le hb hbW.size
      clear hc
      generalize qs[k]=x at *
      have q1:=Cls.cell x1 x6
      have q2:=Cls.cell c0 hb''
      have q3:=Cls.cell y0 y7
      have hne:=Cls.ne wr
      by_cases h:(x.size:Int)=wd
      ·have hn:((x.size:Int) !=wd)=false:=by simp [h]
       have HA:Hid (∀j y,j<k+1->qs[j]?=some y->(y.size:Int)=wd):=by
        intro j y hj hy
        rcases Nat.lt_or_ge j k with h'|h'
        ·exact hall j y h' hy
        ·obtain rfl:j=k:=by omega
         rw [hg.out] at hy
         cases hy
         exact h
       go_wp2
       refine region_cls_lit (by kernel_rfl) (by kernel_rfl) ?_
       repeat (go_big_quiet_step (fail))
       refine wpQuiet_nil ?_
       intro n
       have HSn:Hid _:=SBox.keep HSX.out n.h y7
       have HRn:Hid _:=RBox.keep HRX.out n.h x6
       have hbn:Below w.heap.size w n.w:=hbW.trans (n.h.mono hbW.size)
       clear q1 q2 q3 x0 x1 x2 x3 x4 x5 y0 y3 c0
       go_wp2
       exact ⟨⟨k+1,by omega,by go_num,HA,HSn,HRn,hbn⟩,by simp [intOf];omega⟩
      ·have hn:((x.size:Int) !=wd)=true:=by simp [h]
       go_wp2
       refine region_cls_lit (by kernel_rfl) (by kernel_rfl) ?_
       repeat (go_big_quiet_step (fail))
       refine wpQuiet_nil ?_
       intro n
       have hbn:Below w.heap.size w n.w:=hbW.trans (n.h.mono hbW.size)
       clear q1 q2 q3 x0 x1 x2 x3 x4 x5 y0 y3 c0
       go_wp2
       go_ret
       exact Says.no (P:=RoundOk wd births ph top at_ ro qs ms) (fun h'=>h (h'.sums.q x (List.mem_of_getElem? hg.out))) hbn
     ·have HQA:Hid (∀s∈qs,(s.size:Int)=wd):=by
       intro s hs
       obtain ⟨j,hj,rfl⟩:=List.getElem_of_mem hs
       exact hall j _ (by omega) (List.getElem?_eq_getElem hj)
      clear hall
      go_wp2
      go_loopw [6] (fun i wr=>∃k:Nat,k<=ms.length/\i=.int .i64 k/\Hid (∀j x,j<k->ms[j]?=some x->(x.size:Int)=wd/\x∉ms.take j)/\Hid (SBox wr w.heap.size wd now given births T P L)/\Hid (RBox wr (w.heap.size+1) ph (.slice a qs.length ac) (.slice b ms.length bc) top at_ ro)/\Below w.heap.size w wr) (fun i _=>ms.length -(intOf i).toNat)
      case atStart=>exact ⟨0,Nat.zero_le _,rfl,fun j x h=>by omega,HSX,HRX,hbW⟩
      case round=>
       clear x0 x1 x2 x3 x4 x5 x6 y0 y3 y7 HSX HRX hbW
       obtain ⟨k,hk,rfl,hall,HSX,HRX,hbW⟩:=hrel
       obtain ⟨x0,x1,x2,x3,x4,x5,x6⟩:=HRX.out
       obtain ⟨y0,_,_,y3,_,_,_,y7⟩:=HSX.out
       by_cases hlt:k<ms.length
       ·obtain ⟨b',off,ha,hb,hc⟩:=(SRow.below HM.out hbW).at hlt
        subst ha
        have hg:Hid (ms[k]?=some ms[k]):=List.getElem?_eq_getElem hlt
        have c0:=hc k _ hg
        have hb'':b'<wr.heap.size:=Nat.lt_of_lt_of_le hb hbW.size
        clear hc
        generalize ms[k]=x at *
        have q1:=Cls.cell x2 x6
        have q2:=Cls.cell c0 hb''
        have q3:=Cls.cell y0 y7
        have hne:=Cls.ne wr
        have htl:(ms.take k).length=k:=by simp;omega
        have hH:∀n:Cls wr,Calls Tryz.prog 115 #[.slice (some ⟨b',off,none⟩) k bc,.string x] n.w fun e w'=>e=.returned (.bool ((ms.take k).any (fun y=>decide (y=x))))/\Below n.w.heap.size n.w w':=fun n=>by
         have:=has_any (some ⟨b',off,none⟩) bc (ms.take k) x n.w w.heap.size (SRow.front (SRow.below HM.out (hbW.trans (n.h.mono hbW.size))) k) (by omega)
         rw [htl] at this
         exact this.mono (by rintro e w' ⟨rfl,rfl⟩;exact ⟨rfl,Below.refl _ _⟩)
        have HH:Hid _:=hH
        clear hH
        have hkc:k<=bc:=by omega
        by_cases h:(x.size:Int)=wd
        ·have hn:((x.size:Int) !=wd)=false:=by simp [h]
         cases hin:(ms.take k).any (fun y=>decide (y=x)) with
         |false=>
          rw [hin] at HH
          have hnot:x∉ms.take k:=fun hx=>by
           have:(ms.take k).any (fun y=>decide (y=x))=true:=List.any_eq_true.2 ⟨x,hx,by simp⟩
           rw [hin] at this
           cases this
          have HA:Hid (∀j y,j<k+1->ms[j]?=some y->(y.size:Int)=wd/\y∉ms.take j):=by
           intro j y hj hy
           rcases Nat.lt_or_ge j k with h'|h'
           ·exact hall j y h' hy
           ·obtain rfl:j=k:=by omega
            rw [hg.out] at hy
            cases hy
            exact ⟨h,hnot⟩
          clear hnot hall
          go_wp2
          refine region_cls_lit (by kernel_rfl) (by kernel_rfl) ?_
          repeat (go_big_quiet_step (exact Cls.calls (HH.out _)))
          refine wpQuiet_nil ?_
          intro n
          have HSn:Hid _:=SBox.keep HSX.out n.h y7
          have HRn:Hid _:=RBox.keep HRX.out n.h x6
          have hbn:Below w.heap.size w n.w:=hbW.trans (n.h.mono hbW.size)
          clear q1 q2 q3 x0 x1 x2 x3 x4 x5 y0 y3 c0
          go_wp2
          exact ⟨⟨k+1,by omega,by go_num,HA,HSn,HRn,hbn⟩,by simp [intOf];omega⟩
         |true=>
          rw [hin] at HH
          have HN:Hid (x∈ms.take k):=by
           obtain ⟨y,hy,e⟩:=List.any_eq_true.1 hin
           have:y=x:=by simpa using e
           rw [←this]
           exact hy
          clear hall
          go_wp2
          refine region_cls_lit (by kernel_rfl) (by kernel_rfl) ?_
          repeat (go_big_quiet_step (exact Cls.calls (HH.out _)))
          refine wpQuiet_nil ?_
          intro n
          have hbn:Below w.heap.size w n.w:=hbW.trans (n.h.mono hbW.size)
          clear q1 q2 q3 x0 x1 x2 x3 x4 x5 y0 y3 c0
          go_wp2
          go_ret
          exact Says.no (P:=RoundOk wd births ph top at_ ro qs ms) (fun h'=>(nodup_takes.1 h'.sums.nd) k x hg.out HN.out) hbn
        ·have hn:((x.size:Int) !=wd)=true:=by simp [h]
         go_wp2
         refine region_cls_lit (by kernel_rfl) (by kernel_rfl) ?_
         repeat (go_big_quiet_step (fail))
         refine wpQuiet_nil ?_
         intro n
         have hbn:Below w.heap.size w n.w:=hbW.trans (n.h.mono hbW.size)
         clear q1 q2 q3 x0 x1 x2 x3 x4 x5 y0 y3 c0
         go_wp2
         go_ret
         exact Says.no (P:=RoundOk wd births ph top at_ ro qs ms) (fun h'=>h (h'.sums.m x (List.mem_of_getElem? hg.out))) hbn
       ·have HS:Hid (SumsOk wd qs ms):=by
         refine ⟨h2,h3,HQA.out,fun s hs=> ?_,nodup_takes.2 fun j x hx=>(hall j x (by have:=(List.getElem?_eq_some_iff.1 hx).1;omega) hx).2⟩
         obtain ⟨j,hj,rfl⟩:=List.getElem_of_mem hs
         exact (hall j _ (by omega) (List.getElem?_eq_getElem hj)).1
        clear hall HQA
        by_cases p0:ph=0
        ·subst p0
         by_cases e1:qs.length=0
         ·by_cases e2:ms.length=0
          ·by_cases e3:top=0
           ·by_cases e4:at_=0
            ·go_wp2
             go_ret
             exact Says.yes (P:=RoundOk wd births 0 top at_ ro qs ms) ⟨h1.1,h1.2,HS.out,.inl ⟨rfl,List.eq_nil_of_length_eq_zero e1,List.eq_nil_of_length_eq_zero e2,e3,e4⟩⟩ hbW
            ·have e4':(at_==0)=false:=by simpa using e4
             go_wp2
             go_ret
             exact Says.no (P:=RoundOk wd births 0 top at_ ro qs ms) (fun h=>by have:=h.ph;unfold PhOk at this;simp at this;have h9:=this.2.2.2;omega) hbW
           ·have e3':(top==0)=false:=by simpa using e3
            go_wp2
            go_ret
            exact Says.no (P:=RoundOk wd births 0 top at_ ro qs ms) (fun h=>by have:=h.ph;unfold PhOk at this;simp at this;have h9:=this.2.2.1;omega) hbW
          ·have e2':((ms.length:Int)==0)=false:=beq_eq_false_iff_ne.2 (by omega)
           go_wp2
           go_ret
           exact Says.no (P:=RoundOk wd births 0 top at_ ro qs ms) (fun h=>by have:=h.ph;unfold PhOk at this;simp at this;exact e2 (by rw [this.2.1];rfl)) hbW
         ·have e1':((qs.length:Int)==0)=false:=beq_eq_false_iff_ne.2 (by omega)
          go_wp2
          go_ret
          exact Says.no (P:=RoundOk wd births 0 top at_ ro qs ms) (fun h=>by have:=h.ph;unfold PhOk at this;simp at this;exact e1 (by rw [this.1];rfl)) hbW
        ·have p0':(ph==0)=false:=by simpa using p0
         go_wp2_with fail
         refine (range_any top 0 births wr).mono ?_
         rintro e w1 ⟨rfl,rfl⟩
         by_cases e1:0<=top/\top<=births
         ·rw [decide_eq_true e1]
          have hwr:IntKind.i64.wrap (top+1)=top+1:=cnt_wrap (by omega) (by omega)
          go_wp2_with fail
          refine (range_any at_ 1 (top+1) _).mono ?_
          rintro e w1 ⟨rfl,rfl⟩
          by_cases e2:1<=at_/\at_<=top+1
          ·rw [decide_eq_true e2]
           by_cases p3:ph=2
           ·subst p3
            go_wp2
            go_ret
            exact Says.yes (P:=RoundOk wd births 2 top at_ ro qs ms) ⟨h1.1,h1.2,HS.out,.inr (.inr ⟨rfl,e1.1,e1.2,e2.1,e2.2⟩)⟩ hbW
           ·have p3':(ph==2)=false:=by simpa using p3
            obtain rfl:ph=1:=by omega
            by_cases e3:at_=top+1
            ·have e3':(at_==top+1)=true:=by simpa using e3
             go_wp2
             go_ret
             exact Says.yes (P:=RoundOk wd births 1 top at_ ro qs ms) ⟨h1.1,h1.2,HS.out,.inr (.inl ⟨rfl,e1.1,e1.2,e3⟩)⟩ hbW
            ·have e3':(at_==top+1)=false:=by simpa using e3
             go_wp2
             go_ret
             exact Says.no (P:=RoundOk wd births 1 top at_ ro qs ms) (fun h=>by have:=h.ph;unfold PhOk at this;simp at this;exact e3 this.2.2) hbW
          ·rw [decide_eq_false e2]
           go_wp2
           go_ret
           exact Says.no (P:=RoundOk wd births ph top at_ ro qs ms) (fun h=>by rcases h.ph with h|h|h;exact p0 h.1;exact e2 (by have:=h.2.2.2;omega);exact e2 h.2.2.2) hbW
         ·rw [decide_eq_false e1]
          go_wp2
          go_ret
          exact Says.no (P:=RoundOk wd births ph top at_ ro qs ms) (fun h=>by rcases h.ph with h|h|h;exact p0 h.1;exact e1 ⟨h.2.1,h.2.2.1⟩;exact e1 ⟨h.2.1,h.2.2.1⟩) hbW
   ·have e3:decide ((600:Int)<(ms.length:Int))=true:=by simp;omega
    go_wp2
    go_ret
    exact Says.no (P:=RoundOk wd births ph top at_ ro qs ms) (fun h=>h3 h.sums.nm) hbW
  ·have e2:decide ((23200:Int)<(qs.length:Int))=true:=by simp;omega
   go_wp2
   go_ret
   exact Says.no (P:=RoundOk wd births ph top at_ ro qs ms) (fun h=>h2 h.sums.nq) hbW
 ·rw [decide_eq_false h1]
  go_wp2
  go_ret
  exact Says.no (P:=RoundOk wd births ph top at_ ro qs ms) (fun h=>h1 ⟨h.ro1,h.ro2⟩) hbW
end Go.Proofs.YtpekbmegopfhfaaGreatDoor
namespace Go.Proofs.YtpekbmegopfhfaaGreatDoor
open Go.ChangeShapes Go.WideShapes Go.ChangeAt Go.RowKit
theorem SAns.rows {w:World} {base:Nat} {T P L:Value} {rs:List Value} {ks:List Kd} {ps:List Pd} {ls:List Ld} (h:SAns w base T P L rs ks ps ls):∃ta tc pa pc la lc,T=.slice ta ks.length tc/\P=.slice pa ps.length pc/\L=.slice la ls.length lc/\SRows w w.heap.size ta pa la ks ps ls:=by
 obtain ⟨ta,tc,rfl⟩:=own_val h.things
 obtain ⟨pa,pc,rfl⟩:=own_val h.pins
 obtain ⟨la,lc,rfl⟩:=own_val h.leases
 refine ⟨ta,tc,pa,pc,la,lc,rfl,rfl,rfl,⟨?_,PRow.own h.pins,LRow.own h.leases⟩⟩
 rcases h.things.2 with ⟨_,hn⟩|⟨g,cap,cur,e,hb,hg,_⟩
 ·exact .inl (List.length_eq_zero_iff.1 hn)
 ·cases e
  refine .inr ⟨g,0,rfl,(Array.getElem?_eq_some_iff.1 hg).1,fun i k hk=> ?_⟩
  have hi:=(List.getElem?_eq_some_iff.1 hk).1
  have hlen:=h.len
  have hr:rs[i]?=some rs[i]:=List.getElem?_eq_getElem (by omega)
  have hz:(ks.zip rs)[i]?=some (k,rs[i]):=List.getElem?_zip_eq_some.2 ⟨hk,hr⟩
  have hzl:(ks.zip rs).length=ks.length:=by rw [List.length_zip];omega
  have hc:∀j,j<4->w.cell? ⟨g,i *4+j,none⟩=(kC (k,rs[i]))[j]?:=fun j hj=>(h.things.cellAt (i *4+j) (by omega)).trans (row_get kC_len4 hz hj)
  have ho:=h.refs i k _ hk hr
  obtain ⟨ra,rc,hra⟩:=own_val ho
  rw [Nat.zero_add]
  refine ⟨by simpa [kC] using hc 0 (by decide),by simpa [kC] using hc 1 (by decide),by simpa [kC] using hc 2 (by decide),ra,rc,?_,?_⟩
  ·have:=hc 3 (by decide)
   rw [←hra]
   simpa [kC] using this
  ·rw [hra] at ho
   rcases ho.2 with ⟨_,hn⟩|⟨g2,cap2,cur2,e2,_⟩
   ·exact .inl (List.eq_nil_of_length_eq_zero hn)
   ·cases e2
    exact SRow.own ho
end Go.Proofs.YtpekbmegopfhfaaGreatDoor
namespace Go.Proofs.YtpekbmegopfhfaaGreatDoor
open Go.ChangeShapes Go.WideShapes Go.ChangeAt Go.RowKit
theorem c12 {w:World} {b:Nat} {a0 a1 a2 a3 a4 a5 a6 a7 a8 a9 a10 a11:Value} (h:CellsAt w b [a0,a1,a2,a3,a4,a5,a6,a7,a8,a9,a10,a11]):(w.cell? ⟨b,0,none⟩=some a0/\w.frozen? ⟨b,0,none⟩=false)/\(w.cell? ⟨b,1,none⟩=some a1/\w.frozen? ⟨b,1,none⟩=false)/\(w.cell? ⟨b,2,none⟩=some a2/\w.frozen? ⟨b,2,none⟩=false)/\(w.cell? ⟨b,3,none⟩=some a3/\w.frozen? ⟨b,3,none⟩=false)/\(w.cell? ⟨b,4,none⟩=some a4/\w.frozen? ⟨b,4,none⟩=false)/\(w.cell? ⟨b,5,none⟩=some a5/\w.frozen? ⟨b,5,none⟩=false)/\(w.cell? ⟨b,6,none⟩=some a6/\w.frozen? ⟨b,6,none⟩=false)/\(w.cell? ⟨b,7,none⟩=some a7/\w.frozen? ⟨b,7,none⟩=false)/\(w.cell? ⟨b,8,none⟩=some a8/\w.frozen? ⟨b,8,none⟩=false)/\(w.cell? ⟨b,9,none⟩=some a9/\w.frozen? ⟨b,9,none⟩=false)/\(w.cell? ⟨b,10,none⟩=some a10/\w.frozen? ⟨b,10,none⟩=false)/\w.cell? ⟨b,11,none⟩=some a11/\w.frozen? ⟨b,11,none⟩=false:=
 ⟨h 0 _ rfl,h 1 _ rfl,h 2 _ rfl,h 3 _ rfl,h 4 _ rfl,h 5 _ rfl,h 6 _ rfl,h 7 _ rfl,h 8 _ rfl,h 9 _ rfl,h 10 _ rfl,h 11 _ rfl⟩
theorem c6 {w:World} {b:Nat} {a0 a1 a2 a3 a4 a5:Value} (h:CellsAt w b [a0,a1,a2,a3,a4,a5]):(w.cell? ⟨b,0,none⟩=some a0/\w.frozen? ⟨b,0,none⟩=false)/\(w.cell? ⟨b,1,none⟩=some a1/\w.frozen? ⟨b,1,none⟩=false)/\(w.cell? ⟨b,2,none⟩=some a2/\w.frozen? ⟨b,2,none⟩=false)/\(w.cell? ⟨b,3,none⟩=some a3/\w.frozen? ⟨b,3,none⟩=false)/\(w.cell? ⟨b,4,none⟩=some a4/\w.frozen? ⟨b,4,none⟩=false)/\w.cell? ⟨b,5,none⟩=some a5/\w.frozen? ⟨b,5,none⟩=false:=
 ⟨h 0 _ rfl,h 1 _ rfl,h 2 _ rfl,h 3 _ rfl,h 4 _ rfl,h 5 _ rfl⟩
def RdS (n:Nat) (w:World) (ta pa la:Option Addr) (ks:List Kd) (ps:List Pd) (ls:List Ld):Prop:=∀V w',(∀b∈V,b<n)->Tn V w w'->SRows w' w'.heap.size ta pa la ks ps ls
theorem SAns.rdS {w:World} {base:Nat} {ta pa la:Option Addr} {tc pc lc:Nat} {rs:List Value} {ks:List Kd} {ps:List Pd} {ls:List Ld} (h:SAns w base (.slice ta ks.length tc) (.slice pa ps.length pc) (.slice la ls.length lc) rs ks ps ls):RdS base w ta pa la ks ps ls:=fun V w' hV ht=>by
 obtain ⟨_,_,_,_,_,_,e1,e2,e3,hr⟩:=(h.turn ht hV).rows
 cases e1
 cases e2
 cases e3
 exact hr
theorem SAns.get {w:World} {base:Nat} {ta pa la:Option Addr} {tc pc lc:Nat} {rs:List Value} {ks:List Kd} {ps:List Pd} {ls:List Ld} (h:SAns w base (.slice ta ks.length tc) (.slice pa ps.length pc) (.slice la ls.length lc) rs ks ps ls):SRows w w.heap.size ta pa la ks ps ls:=
 h.rdS [] w (by simp) (Tn.of (Below.refl _ _))
structure AnSmall (x:An):Prop where
 ks:x.ks.length<=600
 refs:∀k∈x.ks,k.refs.length<=30
 ps:x.ps.length<=100
 ls:x.ls.length<=200
end Go.Proofs.YtpekbmegopfhfaaGreatDoor
