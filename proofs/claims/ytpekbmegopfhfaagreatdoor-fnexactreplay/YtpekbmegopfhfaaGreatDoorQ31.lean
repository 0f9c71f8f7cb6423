import Derived.Test.YtpekbmegopfhfaaGreatDoorQ25
import Derived.Test.YtpekbmegopfhfaaGreatDoorQ30
import Derived.Test.YtpekbmegopfhfaaGreatDoorQ29
import Derived.Test.YtpekbmegopfhfaaGreatDoorQ19
namespace Go.Proofs.YtpekbmegopfhfaaGreatDoor
open Go.ChangeShapes Go.WideShapes Go.ChangeAt Go.RowKit
theorem own_nilR {w:World} {base:Nat} {ra:Option Addr} {rc:Nat} {ss:List ByteArray} (h:w.ownsRow base 9 1 (.slice ra ss.length rc) ss.length (ss.map Value.string)):SRow w w.heap.size ra ss/\(ra=none->ss.length=0/\rc=0):=by
 rcases h.2 with⟨hv,h0⟩|⟨g,cap,cur,hv,_,_,hcap,_⟩
 ·injection hv with e1 e2 e3
  subst e1;exact⟨.inl (List.eq_nil_of_length_eq_zero h0),fun _=>⟨h0,e3⟩⟩
 ·cases hv
  exact⟨SRow.own h,fun e=>by cases e⟩
theorem CT.low {w w':World} {base b:Nat} {ta pa la:Option Addr} {pc lc:Nat} {zs:List (Kd×Value)} {ps:List Pd} {ls:List Ld} (h:CT w base b ta pa la pc lc zs ps ls) {V:List Nat} (ht:Tn V w w') (hV:∀q∈V,q<base):CT w' base b ta pa la pc lc zs ps ls:=by
 have ho:∀{e:TypeId} {size:Nat} {v:Value} {n:Nat} {xs:List Value},w.ownsRow base e size v n xs->w'.ownsRow base e size v n xs:=fun h=>own_same h (fun g hg=>ht.block g (own_lt h hg).2 (fun e=>by have h1:=hV g e;have h2:=(own_lt h hg).1;omega));refine⟨h.tb,?_,Nat.lt_of_lt_of_le h.bl ht.size,ho h.po,ho h.lo,Nat.le_trans h.lb ht.size,h.bL,h.pL,h.zL,h.zb,h.zr⟩;rcases h.zb with e|e
 ·rw[e]
  intro i z hz;simp at hz
 ·exact h.z.turn ht h.bl (fun hin=>by have:=hV b hin;omega) (fun z hz a n c e1 e2 hin=>by have h1:=hV _ hin;have h2:=h.zr z hz a n c e1 e2;omega)
theorem set7' {w:World} {b:Nat} {z0 z1 z2 z3 z4 z5 z6:Value} (h:CellsAt w b [z0,z1,z2,z3,z4,z5,z6]) (a0 a1 a2 a3 a4 a5 a6:Value):CellsAt (((((((w.setCell ⟨b,0,none⟩ a0).setCell ⟨b,1,none⟩ a1).setCell ⟨b,2,none⟩ a2).setCell ⟨b,3,none⟩ a3).setCell ⟨b,4,none⟩ a4).setCell ⟨b,5,none⟩ a5).setCell ⟨b,6,none⟩ a6) b [a0,a1,a2,a3,a4,a5,a6]:=
 ((((((h.set 0 a0).set 1 a1).set 2 a2).set 3 a3).set 4 a4).set 5 a5).set 6 a6
theorem tn7 (w:World) (R:Nat) (a0 a1 a2 a3 a4 a5 a6:Value):Tn [R] w (((((((w.setCell ⟨R,0,none⟩ a0).setCell ⟨R,1,none⟩ a1).setCell ⟨R,2,none⟩ a2).setCell ⟨R,3,none⟩ a3).setCell ⟨R,4,none⟩ a4).setCell ⟨R,5,none⟩ a5).setCell ⟨R,6,none⟩ a6):=
 ((((((tn1 _ _ _ _).trans (tn1 _ _ _ _)).trans (tn1 _ _ _ _)).trans (tn1 _ _ _ _)).trans (tn1 _ _ _ _)).trans (tn1 _ _ _ _)).trans (tn1 _ _ _ _)
set_option maxRecDepth 100000 in
set_option maxHeartbeats 8000000 in
theorem sReplay_any (wd:Int) (a:Option Addr) (cap:Nat) (xs:List ByteArray) (w:World) (hrow:SRow w w.heap.size a xs) (hl:xs.length<=1048576) (hs:∀s∈xs,s.size<=1048576):
 Calls Tryz.prog 10 #[.int .i64 wd,.slice a xs.length cap] w (RAns wd xs w):=by
 obtain⟨W,hW⟩:∃W,W=w.alloc (.cells #[.int .i64 0,.int .i64 0,.int .i64 0,.int .i64 0,.int .i64 0,.slice none 0 0,.slice none 0 0,.slice none 0 0,.string ⟨#[]⟩,.int .i64 0,.string ⟨#[]⟩,.string ⟨#[]⟩] 30):=⟨_,rfl⟩;have bW:Below w.heap.size w W:=by rw[hW];exact(Below.refl _ _).alloc (Nat.le_refl _) _
 have zW:W.heap.size=w.heap.size+1:=by rw[hW];simp
 have xW:CellsAt W w.heap.size z12:=by rw[hW];exact CellsAt.new w z12 30
 have HW:Hid _:=hW;have HI:=swidth_any wd W;obtain⟨⟨y0,q0⟩,⟨y1,q1⟩,⟨y2,q2⟩,⟨y3,q3⟩,⟨y4,q4⟩,⟨y5,q5⟩,⟨y6,q6⟩,⟨y7,q7⟩,⟨y8,q8⟩,⟨y9,q9⟩,⟨y10,q10⟩,y11,q11⟩:=z12at xW;clear hW;by_cases hwd:1<=wd/\wd<=8
 ·rw[decide_eq_true hwd] at HI
  by_cases hlen:xs.length<=4000
  ·have hll:decide ((4000:Int)<xs.length)=false:=by simp;omega
   obtain⟨A,hA⟩:∃A,A=W.alloc (.cells #[.int .i64 wd,.int .i64 0,.int .i64 0,.int .i64 0,.slice none 0 0,.slice none 0 0,.slice none 0 0] 28):=⟨_,rfl⟩;have bA:Below W.heap.size W A:=by rw[hA];exact(Below.refl _ _).alloc (Nat.le_refl _) _
   have zA:A.heap.size=w.heap.size+2:=by rw[hA];simp;omega
   have sA:CellsAt A (w.heap.size+1) [.int .i64 wd,.int .i64 0,.int .i64 0,.int .i64 0,.slice none 0 0,.slice none 0 0,.slice none 0 0]:=by rw[hA,←zW];exact CellsAt.new W _ _
   have xA:CellsAt A w.heap.size z12:=CellsAt.below (v:=.int .i64 0) xW bA;have bwA:Below w.heap.size w A:=bW.trans (bA.mono bW.size)
   have hCT:CT A (w.heap.size+2) w.heap.size none none none 0 0 [] [] []:=⟨.inr rfl,fun i z hz=>by simp at hz,by omega,⟨rfl,.inl ⟨rfl,rfl⟩⟩,⟨rfl,.inl ⟨rfl,rfl⟩⟩,by omega,by simp[Value.ownBlock],fun q hq=>by simp[Value.ownBlock] at hq,fun z hz=>by simp at hz,.inl rfl,fun z hz=>by simp at hz⟩;have HIw:Hid _:=HI;have HA:Hid _:=hA;have H0:Hid _:=And.intro sA (And.intro xA (And.intro hCT bwA))
   have HROW:Hid (SRow w w.heap.size a xs):=hrow;clear HI hA sA xA hCT bA hrow;go_enter Tryz.func10,Tryz.ntmps10;go_wp2_with fail;rw[←HW.out];refine Calls.mono HIw.out ?_;rintro e w1 ⟨rfl,hw1⟩;replace hw1:=hw1.symm;subst hw1;clear HIw;go_upto_region 4 with fail;rw[←HA.out];clear HA y0 y1 y2 y3 y4 y5 y6 y7 y8 y9 y10 y11 q0 q1 q2 q3 q4 q5 q6 q7 q8 q9 q10 q11;go_wp2
   go_loopw [6] (fun i wr=>∃(k:Nat) (r:Rs) (b:Nat) (ta pa la:Option Addr) (tc pc lc:Nat) (zs:List (Kd×Value)),k<=xs.length/\i=.int .i64 k/\Hid (CellsAt wr (w.heap.size+1) [.int .i64 wd,.int .i64 r.now,.int .i64 r.given,.int .i64 r.births,.slice ta zs.length tc,.slice pa r.ps.length pc,.slice la r.ls.length lc]/\CellsAt wr w.heap.size z12/\CT wr (w.heap.size+2) b ta pa la pc lc zs r.ps r.ls/\zs.map (·.1)=r.ks/\Run wd r0 (xs.take k) r/\Below w.heap.size w wr)) (fun i _=>xs.length -(intOf i).toNat)
   case atStart=>exact⟨0,r0,w.heap.size,none,none,none,0,0,0,[],Nat.zero_le _,rfl,⟨H0.out.1,H0.out.2.1,H0.out.2.2.1,rfl,rfl,H0.out.2.2.2⟩⟩
   case round=>
    clear H0;obtain⟨k,r,b,ta,pa,la,tc,pc,lc,zs,hk,rfl,HI⟩:=hrel;obtain⟨hs1,hx0,hCT,hzk,hrun,hbw⟩:=HI.out;by_cases hlt:k<xs.length
    ·obtain⟨rb,roff,ha,hrb,hrc⟩:=((HROW.out.below hbw).mono hbw.size).at hlt
     subst ha;have HG:Hid (xs[k]?=some xs[k]):=List.getElem?_eq_getElem hlt;have hsm:=hs _ (List.getElem_mem hlt);have c0:=hrc k _ HG.out;have HTk:Hid (xs.take (k+1)=xs.take k++[xs[k]]):=List.take_succ_eq_append_getElem hlt;clear hrc;generalize xs[k]=s at *
     have HR:Hid _:=sReadE_any s wd wr hsm;clear hs1 hx0 hCT hzk hrun hbw;go_wp2_with fail;refine Calls.mono HR.out ?_;rintro e w2 ⟨v,rfl,ho2,hb2⟩;obtain⟨ra,rc,rfl⟩:=own_val ho2;obtain⟨w3,hw3⟩:∃X,X=w2.alloc (.cells #[.int .i64 (rdE s wd).k,.string (rdE s wd).sum,.string (rdE s wd).name,.int .i64 (rdE s wd).n,.string (rdE s wd).t,.slice ra (rdE s wd).ss.length rc] 77):=⟨_,rfl⟩
     have b23:Below w2.heap.size w2 w3:=by rw[hw3];exact(Below.refl _ _).alloc (Nat.le_refl _) _
     have b3:Below wr.heap.size wr w3:=hb2.trans (b23.mono hb2.size);have e3:CellsAt w3 w2.heap.size [.int .i64 (rdE s wd).k,.string (rdE s wd).sum,.string (rdE s wd).name,.int .i64 (rdE s wd).n,.string (rdE s wd).t,.slice ra (rdE s wd).ss.length rc]:=by rw[hw3];exact CellsAt.new w2 _ _
     have s3:=CellsAt.below HI.out.1 b3;have x3:=CellsAt.below (v:=.int .i64 0) HI.out.2.1 b3;have hC3:=HI.out.2.2.1.below b3;have HBw3:Hid (Below w.heap.size w w3):=HI.out.2.2.2.2.2.trans (b3.mono HI.out.2.2.2.2.2.size);have ho3:=own_nilR (own_below ho2 b23);have HW3:Hid _:=hw3;have hkk:(k:Int)<=4000:=by omega
     clear hw3 HR;cases hok:(rdE s wd).ok with
     |false=>
      obtain⟨⟨y0,q0⟩,⟨y1,q1⟩,⟨y2,q2⟩,⟨y3,q3⟩,⟨y4,q4⟩,⟨y5,q5⟩,⟨y6,q6⟩,⟨y7,q7⟩,⟨y8,q8⟩,⟨y9,q9⟩,⟨y10,q10⟩,y11,q11⟩:=z12at x3;clear e3 s3 hC3 ho3 c0 x3;go_upto_region 8 with fail;rw[←HW3.out];go_wp2
      refine bodyPost_ret (v:=.agg #[.int .i64 7,.int .i64 0,.int .i64 0,.int .i64 0,.int .i64 0,.slice none 0 0,.slice none 0 0,.slice none 0 0,.string ⟨#[]⟩,.int .i64 ((k:Int)+1),.string ⟨#[]⟩,.string ⟨#[]⟩]) (by simp[results,Tryz.results10,go_sem,y0,y1,y2,y3,y4,y5,y6,y7,y8,y9,y10,y11]) rfl ?_
      exact⟨⟨7,0,0,0,0,((k+1:Nat):Int),⟨#[]⟩,⟨#[]⟩,⟨#[]⟩,[],[],[]⟩,_,_,_,[],.inr ⟨⟨hwd,hlen⟩,.inl ⟨k+1,⟨k,r,s,rfl,HG.out,HI.out.2.2.2.2.1,.inl hok⟩,rfl⟩⟩,rfl,nilS _ _,HBw3.out.trans ((tn12 w3 w.heap.size _ _ _ _ _ _ _ _ _ _ _ _).below HBw3.out.size (by simp))⟩
     |true=>
      have hoe:=(rdE_sound hok).1;have hro:=HI.out.2.2.2.2.1.ok (r0_ok hwd.1 hwd.2);have hzk:=HI.out.2.2.2.1;have haok:AOk wd r.now r.given r.births (zs.map (·.1)) r.ps r.ls (rdE s wd).k (rdE s wd).n (rdE s wd).t (rdE s wd).ss:=by
       rw[hzk];exact ROk.aok hro hoe (by have:=okE_text hoe;unfold maxLen;omega)
      have HAp:Hid _:=l4Apply_opt (w.heap.size+2) wd r.now r.given r.births b ta pa la tc pc lc zs r.ps r.ls (rdE s wd).sum (rdE s wd).name (rdE s wd).t (rdE s wd).n (rdE s wd).ss ra rc w3 (rdE s wd).k hC3 haok (by rw[hzk];exact hro.r30) ho3.1 ho3.2;obtain⟨v0,_⟩:=s3 0 _ rfl;obtain⟨v1,_⟩:=s3 1 _ rfl;obtain⟨v2,_⟩:=s3 2 _ rfl;obtain⟨v3,_⟩:=s3 3 _ rfl;obtain⟨v4,_⟩:=s3 4 _ rfl
      obtain⟨v5,_⟩:=s3 5 _ rfl;obtain⟨v6,_⟩:=s3 6 _ rfl;obtain⟨u0,_⟩:=e3 0 _ rfl;obtain⟨u1,_⟩:=e3 1 _ rfl;obtain⟨u2,_⟩:=e3 2 _ rfl;obtain⟨u3,_⟩:=e3 3 _ rfl;obtain⟨u4,_⟩:=e3 4 _ rfl;obtain⟨u5,_⟩:=e3 5 _ rfl;have HS3:Hid _:=s3;have HX3:Hid (CellsAt w3 w.heap.size z12):=x3;have HC3:Hid _:=hC3;clear e3 s3 hC3 ho3 c0 x3 haok;go_upto_region 8 with fail;rw[←HW3.out];clear HW3;go_wp2_with fail
      refine Calls.mono HAp.out ?_;rintro e w4 ⟨ht,hQ⟩;have hLge:∀q∈(Value.slice la r.ls.length lc).ownBlock.toList,w.heap.size+2<=q:=fun q hq=>(own_lt HC3.out.lo (by simpa using hq)).1;have b34:Below (w.heap.size+2) w3 w4:=ht.below HC3.out.lb hLge;have x4:CellsAt w4 w.heap.size z12:=CellsAt.same HX3.out (b34.block _ (by omega));have s4:=CellsAt.same HS3.out (b34.block _ (by omega))
      have HB4:Hid (Below w.heap.size w w4):=HBw3.out.trans (b34.mono (by omega));clear v0 v1 v2 v3 v4 v5 v6 u0 u1 u2 u3 u4 u5 HAp ht;rcases hQ with⟨c,a',b',hno,rfl⟩|⟨r',b1,ta1,tc1,zs1,pa1,pc1,la1,lc1,hy,rfl,hm,hC⟩
      ·rw[hzk] at hno
       have hc0:(c !=0)=true:=by have:=hno.code;simp;omega
       have HNo:Hid _:=hno;have hre:(refC c a' b').toArray= #[.int .i64 c,.int .i64 0,.int .i64 0,.int .i64 0,.int .i64 0,.slice none 0 0,.slice none 0 0,.slice none 0 0,.string ⟨#[]⟩,.int .i64 0,.string a',.string b']:=rfl;rw[hre]
       obtain⟨w5,hw5⟩:∃X,X=w4.alloc (.cells #[.int .i64 c,.int .i64 0,.int .i64 0,.int .i64 0,.int .i64 0,.slice none 0 0,.slice none 0 0,.slice none 0 0,.string ⟨#[]⟩,.int .i64 0,.string a',.string b'] 30):=⟨_,rfl⟩;have b45:Below w4.heap.size w4 w5:=by rw[hw5];exact(Below.refl _ _).alloc (Nat.le_refl _) _
       have n5:CellsAt w5 w4.heap.size [.int .i64 c,.int .i64 0,.int .i64 0,.int .i64 0,.int .i64 0,.slice none 0 0,.slice none 0 0,.slice none 0 0,.string ⟨#[]⟩,.int .i64 0,.string a',.string b']:=by rw[hw5];exact CellsAt.new w4 _ _
       have HBw5:Hid (Below w.heap.size w w5):=HB4.out.trans (b45.mono HB4.out.size);obtain⟨⟨y0,q0⟩,⟨y1,q1⟩,⟨y2,q2⟩,⟨y3,q3⟩,⟨y4,q4⟩,⟨y5,q5⟩,⟨y6,q6⟩,⟨y7,q7⟩,⟨y8,q8⟩,⟨y9,q9⟩,⟨y10,q10⟩,y11,q11⟩:=z12at (CellsAt.below (v:=.int .i64 0) x4 b45);obtain⟨m0,_⟩:=n5 0 _ rfl;have HW5:Hid _:=hw5;clear hw5 hno n5 x4 s4 hre;go_upto_region 11 with fail;rw[←HW5.out];go_wp2
       refine bodyPost_ret (v:=.agg #[.int .i64 7,.int .i64 0,.int .i64 0,.int .i64 0,.int .i64 0,.slice none 0 0,.slice none 0 0,.slice none 0 0,.string ⟨#[]⟩,.int .i64 ((k:Int)+1),.string ⟨#[]⟩,.string ⟨#[]⟩]) (by simp[results,Tryz.results10,go_sem,y0,y1,y2,y3,y4,y5,y6,y7,y8,y9,y10,y11]) rfl ?_
       exact⟨⟨7,0,0,0,0,((k+1:Nat):Int),⟨#[]⟩,⟨#[]⟩,⟨#[]⟩,[],[],[]⟩,_,_,_,[],.inr ⟨⟨hwd,hlen⟩,.inl ⟨k+1,⟨k,r,s,rfl,HG.out,HI.out.2.2.2.2.1,.inr ⟨c,a',b',HNo.out⟩⟩,rfl⟩⟩,rfl,nilS _ _,HBw5.out.trans ((tn12 w5 w.heap.size _ _ _ _ _ _ _ _ _ _ _ _).below HBw5.out.size (by simp))⟩
      ·rw[hzk] at hy
       obtain⟨w5,hw5⟩:∃X,X=w4.alloc (.cells #[.int .i64 0,.int .i64 wd,.int .i64 r'.now,.int .i64 r'.given,.int .i64 r'.births,.slice ta1 r'.ks.length tc1,.slice pa1 r'.ps.length pc1,.slice la1 r'.ls.length lc1,.string r'.sm,.int .i64 r'.le,.string ⟨#[]⟩,.string ⟨#[]⟩] 30):=⟨_,rfl⟩;have b45:Below w4.heap.size w4 w5:=by rw[hw5];exact(Below.refl _ _).alloc (Nat.le_refl _) _
       have n5:CellsAt w5 w4.heap.size [.int .i64 0,.int .i64 wd,.int .i64 r'.now,.int .i64 r'.given,.int .i64 r'.births,.slice ta1 r'.ks.length tc1,.slice pa1 r'.ps.length pc1,.slice la1 r'.ls.length lc1,.string r'.sm,.int .i64 r'.le,.string ⟨#[]⟩,.string ⟨#[]⟩]:=by rw[hw5];exact CellsAt.new w4 _ _
       have s5:=CellsAt.below s4 b45;have x5:=CellsAt.below (v:=.int .i64 0) x4 b45;have hC5:=hC.below b45;have HB5:Hid (Below w.heap.size w w5):=HB4.out.trans (b45.mono HB4.out.size);have hlz:r'.ks.length=zs1.length:=by rw[←hm,List.length_map]
       have H5:Hid _:=And.intro s5 (And.intro x5 (And.intro hC5 (And.intro hm (And.intro hy hlz))));obtain⟨⟨v0,p0⟩,⟨v1,p1⟩,⟨v2,p2⟩,⟨v3,p3⟩,⟨v4,p4⟩,⟨v5,p5⟩,v6,p6⟩:=(⟨s5 0 _ rfl,s5 1 _ rfl,s5 2 _ rfl,s5 3 _ rfl,s5 4 _ rfl,s5 5 _ rfl,s5 6 _ rfl⟩:(_/\_)/\(_/\_)/\(_/\_)/\(_/\_)/\(_/\_)/\(_/\_)/\_/\_);obtain⟨m0,_⟩:=n5 0 _ rfl;obtain⟨m1,_⟩:=n5 1 _ rfl;obtain⟨m2,_⟩:=n5 2 _ rfl
       obtain⟨m3,_⟩:=n5 3 _ rfl;obtain⟨m4,_⟩:=n5 4 _ rfl;obtain⟨m5,_⟩:=n5 5 _ rfl;obtain⟨m6,_⟩:=n5 6 _ rfl;obtain⟨m7,_⟩:=n5 7 _ rfl;have HW5:Hid _:=hw5;have HTk':Hid (Run wd r0 (xs.take (k+1)) r'):=by
        show Run _ _ _ _;rw[HTk.out];exact HI.out.2.2.2.2.1.snoc ⟨hok,hy⟩
       have hzl5:w.heap.size+2<=w5.heap.size:=hC5.lb;clear hw5 hy n5 x4 s4 s5 x5 hC hC5 hlz hm;go_upto_region 11 with fail;rw[←HW5.out];clear HW5;go_wp2
       refine⟨⟨k+1,r',b1,ta1,pa1,la1,tc1,pc1,lc1,zs1,by omega,by go_num,⟨?_,CellsAt.same H5.out.2.1 ((tn7 w5 (w.heap.size+1) _ _ _ _ _ _ _).block _ (by omega) (by simp)),H5.out.2.2.1.low (tn7 w5 (w.heap.size+1) _ _ _ _ _ _ _) (by simp),H5.out.2.2.2.1,HTk'.out,HB5.out.trans ((tn7 w5 (w.heap.size+1) _ _ _ _ _ _ _).below HB5.out.size (by simp))⟩⟩,by simp[intOf];omega⟩;rw[←H5.out.2.2.2.2.2]
       exact set7' H5.out.1 _ _ _ _ _ _ _
    ·obtain rfl:k=xs.length:=by omega
     have hrun:=HI.out.2.2.2.2.1;rw[List.take_of_length_le (Nat.le_refl _)] at hrun;have hro:=hrun.ok (r0_ok hwd.1 hwd.2);have hzk:=HI.out.2.2.2.1;have hcx:=HI.out.2.2.1;have h1:=l4Copy_opt wd r.now r.given r.births ta pa la tc pc lc (zs.map (·.1)) r.ps r.ls wr ⟨hcx.krow,hcx.prow,hcx.lrow⟩ (fun B hB=>by
      rcases hcx.tb with e|e
      ·rw[e] at hB
       cases hB;exact hcx.z.some
      ·rw[e]
       intro i k hk;simp at hk) (own_cap hcx.po) (own_cap hcx.lo) (by rw[hzk];exact hro.kso.len) hro.np hro.nl (by rw[hzk];exact hro.r30)
     rw[List.length_map,hzk] at h1;have HC:Hid _:=h1;have HRn:Hid (Run wd r0 xs r):=hrun;obtain⟨v0,_⟩:=HI.out.1 0 _ rfl;obtain⟨v1,_⟩:=HI.out.1 1 _ rfl;obtain⟨v2,_⟩:=HI.out.1 2 _ rfl;obtain⟨v3,_⟩:=HI.out.1 3 _ rfl;obtain⟨v4,_⟩:=HI.out.1 4 _ rfl;obtain⟨v5,_⟩:=HI.out.1 5 _ rfl;obtain⟨v6,_⟩:=HI.out.1 6 _ rfl;clear h1 hrun hro hzk hcx hs1 hx0 hCT hbw;go_wp2_with fail;refine Calls.mono HC.out ?_
     rintro e w4 ⟨T,P',L',rs,rfl,hS,_,hb4⟩;obtain⟨ta',tc',rfl⟩:=own_val hS.things;obtain⟨pa',pc',rfl⟩:=own_val hS.pins;obtain⟨la',lc',rfl⟩:=own_val hS.leases;have x4:CellsAt w4 w.heap.size z12:=CellsAt.below (v:=.int .i64 0) HI.out.2.1 hb4;have hzl:w.heap.size<wr.heap.size:=HI.out.2.1.lt;have HF:Hid _:=And.intro hS hb4
     obtain⟨⟨y0,q0⟩,⟨y1,q1⟩,⟨y2,q2⟩,⟨y3,q3⟩,⟨y4,q4⟩,⟨y5,q5⟩,⟨y6,q6⟩,⟨y7,q7⟩,⟨y8,q8⟩,⟨y9,q9⟩,⟨y10,q10⟩,y11,q11⟩:=z12at x4;clear hS hb4 HC x4 v0 v1 v2 v3 v4 v5 v6;go_wp2
     refine bodyPost_ret (v:=.agg #[.int .i64 0,.int .i64 wd,.int .i64 r.now,.int .i64 r.given,.int .i64 r.births,.slice ta' r.ks.length tc',.slice pa' r.ps.length pc',.slice la' r.ls.length lc',.string ⟨#[]⟩,.int .i64 0,.string ⟨#[]⟩,.string ⟨#[]⟩]) (by simp[results,Tryz.results10,go_sem,y0,y1,y2,y3,y4,y5,y6,y7,y8,y9,y10,y11]) rfl ?_;have hbw:=HI.out.2.2.2.2.2
     refine⟨⟨0,wd,r.now,r.given,r.births,0,⟨#[]⟩,⟨#[]⟩,⟨#[]⟩,r.ks,r.ps,r.ls⟩,_,_,_,rs,.inr ⟨⟨hwd,hlen⟩,.inr ⟨r,HRn.out,rfl⟩⟩,rfl,(HF.out.1.turn (tn12 w4 w.heap.size _ _ _ _ _ _ _ _ _ _ _ _) (by simp;exact hzl)).mono hbw.size,?_⟩;exact(hbw.trans (HF.out.2.mono hbw.size)).trans ((tn12 w4 w.heap.size _ _ _ _ _ _ _ _ _ _ _ _).below (Nat.le_trans hbw.size HF.out.2.size) (by simp))
  ·have hll:decide ((4000:Int)<xs.length)=true:=by simp;omega
   have HIw:Hid _:=HI;clear HI;go_enter Tryz.func10,Tryz.ntmps10;go_wp2_with fail;rw[←HW.out];refine Calls.mono HIw.out ?_;rintro e w1 ⟨rfl,hw1⟩;replace hw1:=hw1.symm;subst hw1;clear HIw;go_wp2
   refine bodyPost_ret (v:=.agg #[.int .i64 1,.int .i64 0,.int .i64 0,.int .i64 0,.int .i64 0,.slice none 0 0,.slice none 0 0,.slice none 0 0,.string ⟨#[]⟩,.int .i64 0,.string ⟨#[]⟩,.string ⟨#[]⟩]) (by simp[results,Tryz.results10,go_sem,y0,y1,y2,y3,y4,y5,y6,y7,y8,y9,y10,y11]) rfl ?_
   exact⟨⟨1,0,0,0,0,0,⟨#[]⟩,⟨#[]⟩,⟨#[]⟩,[],[],[]⟩,_,_,_,[],.inl ⟨fun h=>hlen h.2,rfl⟩,rfl,nilS _ _,bW.trans ((tn12 W w.heap.size _ _ _ _ _ _ _ _ _ _ _ _).below bW.size (by simp))⟩
 ·rw[decide_eq_false hwd] at HI
  have HIw:Hid _:=HI;clear HI;go_enter Tryz.func10,Tryz.ntmps10;go_wp2_with fail;rw[←HW.out];refine Calls.mono HIw.out ?_;rintro e w1 ⟨rfl,hw1⟩;replace hw1:=hw1.symm;subst hw1;clear HIw;go_wp2
  refine bodyPost_ret (v:=.agg #[.int .i64 1,.int .i64 0,.int .i64 0,.int .i64 0,.int .i64 0,.slice none 0 0,.slice none 0 0,.slice none 0 0,.string ⟨#[]⟩,.int .i64 0,.string ⟨#[]⟩,.string ⟨#[]⟩]) (by simp[results,Tryz.results10,go_sem,y0,y1,y2,y3,y4,y5,y6,y7,y8,y9,y10,y11]) rfl ?_
  exact⟨⟨1,0,0,0,0,0,⟨#[]⟩,⟨#[]⟩,⟨#[]⟩,[],[],[]⟩,_,_,_,[],.inl ⟨fun h=>hwd h.1,rfl⟩,rfl,nilS _ _,bW.trans ((tn12 W w.heap.size _ _ _ _ _ _ _ _ _ _ _ _).below bW.size (by simp))⟩
end Go.Proofs.YtpekbmegopfhfaaGreatDoor
namespace Go.Proofs.YtpekbmegopfhfaaGreatDoor
open Go.ChangeShapes Go.WideShapes Go.ChangeAt Go.RowKit
theorem SAns.lts {w:World} {base:Nat} {T P L:Value} {rs:List Value} {ks:List Kd} {ps:List Pd} {ls:List Ld} (h:SAns w base T P L rs ks ps ls):∀g∈blks T P L rs,g<w.heap.size:=by
 intro g hg;unfold blks at hg;simp only[List.mem_append,Option.mem_toList,List.mem_filterMap] at hg;rcases hg with hg|hg|hg|⟨r,hr,hg⟩
 ·exact(own_lt h.things hg).2
 ·exact(own_lt h.pins hg).2
 ·exact(own_lt h.leases hg).2
 ·obtain⟨i,hi⟩:=List.getElem?_of_mem hr
  have hl:=(List.getElem?_eq_some_iff.1 hi).1;rw[h.len] at hl;exact(own_lt (h.refs i _ r (List.getElem?_eq_getElem hl) hi) hg).2
theorem SAns.apart {w w':World} {base:Nat} {T P L:Value} {rs:List Value} {ks:List Kd} {ps:List Pd} {ls:List Ld} (h:SAns w base T P L rs ks ps ls) {V:List Nat} (ht:Tn V w w') (hV:∀b∈V,b∉blks T P L rs):SAns w' base T P L rs ks ps ls:=by
 have hmem:∀g,g∈blks T P L rs->g<w.heap.size->w'.heap[g]?=w.heap[g]?:=fun g hg hl=>ht.block g hl (fun e=>hV g e hg)
 refine⟨h.len,own_same h.things (fun g hg=>hmem g (by unfold blks;simp[hg]) (own_lt h.things hg).2),fun i k r hk hr=>own_same (h.refs i k r hk hr) (fun g hg=>hmem g (by unfold blks;simp only[List.mem_append,List.mem_filterMap];exact .inr (.inr (.inr ⟨r,List.mem_of_getElem? hr,hg⟩))) (own_lt (h.refs i k r hk hr) hg).2),own_same h.pins (fun g hg=>hmem g (by unfold blks;simp[hg]) (own_lt h.pins hg).2),own_same h.leases (fun g hg=>hmem g (by unfold blks;simp[hg]) (own_lt h.leases hg).2),h.nd⟩
theorem SAns.rows {w:World} {base:Nat} {T P L:Value} {rs:List Value} {ks:List Kd} {ps:List Pd} {ls:List Ld} (h:SAns w base T P L rs ks ps ls):∃ta tc pa pc la lc,T=.slice ta ks.length tc/\P=.slice pa ps.length pc/\L=.slice la ls.length lc/\SRows w w.heap.size ta pa la ks ps ls:=by
 obtain⟨ta,tc,rfl⟩:=own_val h.things;obtain⟨pa,pc,rfl⟩:=own_val h.pins;obtain⟨la,lc,rfl⟩:=own_val h.leases;refine⟨ta,tc,pa,pc,la,lc,rfl,rfl,rfl,⟨?_,PRow.own h.pins,LRow.own h.leases⟩⟩;rcases h.things.2 with⟨_,hn⟩|⟨g,cap,cur,e,hb,hg,_⟩
 ·exact .inl (List.length_eq_zero_iff.1 hn)
 ·cases e
  refine .inr ⟨g,0,rfl,(Array.getElem?_eq_some_iff.1 hg).1,fun i k hk=> ?_⟩;have hi:=(List.getElem?_eq_some_iff.1 hk).1;have hlen:=h.len;have hr:rs[i]?=some rs[i]:=List.getElem?_eq_getElem (by omega);have hz:(ks.zip rs)[i]?=some (k,rs[i]):=List.getElem?_zip_eq_some.2 ⟨hk,hr⟩;have hzl:(ks.zip rs).length=ks.length:=by rw[List.length_zip];omega
  have hc:∀j,j<4->w.cell? ⟨g,i *4+j,none⟩=(kC (k,rs[i]))[j]?:=fun j hj=>(h.things.cellAt (i *4+j) (by omega)).trans (row_get kC_len4 hz hj);have ho:=h.refs i k _ hk hr;obtain⟨ra,rc,hra⟩:=own_val ho;rw[Nat.zero_add];refine⟨by simpa [kC] using hc 0 (by decide),by simpa [kC] using hc 1 (by decide),by simpa [kC] using hc 2 (by decide),ra,rc,?_,?_⟩
  ·have:=hc 3 (by decide)
   rw[←hra];simpa [kC] using this
  ·rw[hra] at ho
   rcases ho.2 with⟨_,hn⟩|⟨g2,cap2,cur2,e2,_⟩
   ·exact .inl (List.eq_nil_of_length_eq_zero hn)
   ·cases e2
    exact SRow.own ho
theorem refsN_le {ks:List Kd} (h:∀k∈ks,k.refs.length<=30):refsN ks<=30 *ks.length:=by
 induction ks with
 |nil=>simp[refsN]
 |cons x xs ih=>
  rw[refsN_cons];have h1:=h x (by simp);have h2:=ih (fun k hk=>h k (by simp[hk]));simp only[List.length_cons];omega
theorem SOwn.ksome {w:World} {lo g p l:Nat} {ks:List Kd} {ps:List Pd} {ls:List Ld} (h:SOwn w lo g p l ks ps ls):KSome w ⟨g,0,none⟩ ks:=by
 obtain⟨xs,ho,hk⟩:=h.k;intro i x hx;have hi:=(List.getElem?_eq_some_iff.1 hx).1;obtain⟨_,_,_,q,h3,_⟩:=hk i x hx;refine⟨⟨q,0,none⟩,x.refs.length,?_⟩;rw[←h3,Nat.zero_add];exact ho.cellAt (i *4+3) (by omega)
theorem SAns.same {w w':World} {base:Nat} {T P L:Value} {rs:List Value} {ks:List Kd} {ps:List Pd} {ls:List Ld} (h:SAns w base T P L rs ks ps ls) (hs:∀b,base<=b->b<w.heap.size->w'.heap[b]?=w.heap[b]?):SAns w' base T P L rs ks ps ls:=by
 have ho:∀{e:TypeId} {size:Nat} {v:Value} {n:Nat} {xs:List Value},w.ownsRow base e size v n xs->w'.ownsRow base e size v n xs:=fun h=>own_same h (fun g hg=>hs g (own_lt h hg).1 (own_lt h hg).2);exact⟨h.len,ho h.things,fun i k r hk hr=>ho (h.refs i k r hk hr),ho h.pins,ho h.leases,h.nd⟩
theorem KSome.below {w w':World} {g:Nat} {ks:List Kd} (h:KSome w ⟨g,0,none⟩ ks) (hb:Below w.heap.size w w'):KSome w' ⟨g,0,none⟩ ks:=by
 intro i k hk;obtain⟨ad,rc,h1⟩:=h i k hk;exact⟨ad,rc,(hb.cell (p:=⟨g,0+i *4+3,none⟩) (World.block_lt_of_cell? w _ h1)).trans h1⟩
end Go.Proofs.YtpekbmegopfhfaaGreatDoor
namespace Go.Proofs.YtpekbmegopfhfaaGreatDoor
open Go.ChangeShapes Go.WideShapes Go.ChangeAt Go.RowKit
theorem c12 {w:World} {b:Nat} {a0 a1 a2 a3 a4 a5 a6 a7 a8 a9 a10 a11:Value} (h:CellsAt w b [a0,a1,a2,a3,a4,a5,a6,a7,a8,a9,a10,a11]):(w.cell? ⟨b,0,none⟩=some a0/\w.frozen? ⟨b,0,none⟩=false)/\(w.cell? ⟨b,1,none⟩=some a1/\w.frozen? ⟨b,1,none⟩=false)/\(w.cell? ⟨b,2,none⟩=some a2/\w.frozen? ⟨b,2,none⟩=false)/\(w.cell? ⟨b,3,none⟩=some a3/\w.frozen? ⟨b,3,none⟩=false)/\(w.cell? ⟨b,4,none⟩=some a4/\w.frozen? ⟨b,4,none⟩=false)/\(w.cell? ⟨b,5,none⟩=some a5/\w.frozen? ⟨b,5,none⟩=false)/\(w.cell? ⟨b,6,none⟩=some a6/\w.frozen? ⟨b,6,none⟩=false)/\(w.cell? ⟨b,7,none⟩=some a7/\w.frozen? ⟨b,7,none⟩=false)/\(w.cell? ⟨b,8,none⟩=some a8/\w.frozen? ⟨b,8,none⟩=false)/\(w.cell? ⟨b,9,none⟩=some a9/\w.frozen? ⟨b,9,none⟩=false)/\(w.cell? ⟨b,10,none⟩=some a10/\w.frozen? ⟨b,10,none⟩=false)/\w.cell? ⟨b,11,none⟩=some a11/\w.frozen? ⟨b,11,none⟩=false:=
 ⟨h 0 _ rfl,h 1 _ rfl,h 2 _ rfl,h 3 _ rfl,h 4 _ rfl,h 5 _ rfl,h 6 _ rfl,h 7 _ rfl,h 8 _ rfl,h 9 _ rfl,h 10 _ rfl,h 11 _ rfl⟩
theorem c6 {w:World} {b:Nat} {a0 a1 a2 a3 a4 a5:Value} (h:CellsAt w b [a0,a1,a2,a3,a4,a5]):(w.cell? ⟨b,0,none⟩=some a0/\w.frozen? ⟨b,0,none⟩=false)/\(w.cell? ⟨b,1,none⟩=some a1/\w.frozen? ⟨b,1,none⟩=false)/\(w.cell? ⟨b,2,none⟩=some a2/\w.frozen? ⟨b,2,none⟩=false)/\(w.cell? ⟨b,3,none⟩=some a3/\w.frozen? ⟨b,3,none⟩=false)/\(w.cell? ⟨b,4,none⟩=some a4/\w.frozen? ⟨b,4,none⟩=false)/\w.cell? ⟨b,5,none⟩=some a5/\w.frozen? ⟨b,5,none⟩=false:=
 ⟨h 0 _ rfl,h 1 _ rfl,h 2 _ rfl,h 3 _ rfl,h 4 _ rfl,h 5 _ rfl⟩
def RdS (n:Nat) (w:World) (ta pa la:Option Addr) (ks:List Kd) (ps:List Pd) (ls:List Ld):Prop:=∀V w',(∀b∈V,b<n)->Tn V w w'->SRows w' w'.heap.size ta pa la ks ps ls
theorem SAns.rdS {w:World} {base:Nat} {ta pa la:Option Addr} {tc pc lc:Nat} {rs:List Value} {ks:List Kd} {ps:List Pd} {ls:List Ld} (h:SAns w base (.slice ta ks.length tc) (.slice pa ps.length pc) (.slice la ls.length lc) rs ks ps ls):RdS base w ta pa la ks ps ls:=fun V w' hV ht=>by
 obtain⟨_,_,_,_,_,_,e1,e2,e3,hr⟩:=(h.turn ht hV).rows;cases e1;cases e2;cases e3;exact hr
theorem SAns.get {w:World} {base:Nat} {ta pa la:Option Addr} {tc pc lc:Nat} {rs:List Value} {ks:List Kd} {ps:List Pd} {ls:List Ld} (h:SAns w base (.slice ta ks.length tc) (.slice pa ps.length pc) (.slice la ls.length lc) rs ks ps ls):SRows w w.heap.size ta pa la ks ps ls:=
 h.rdS [] w (by simp) (Tn.of (Below.refl _ _))
structure AnSmall (x:An):Prop where
 ks:x.ks.length<=600
 refs:∀k∈x.ks,k.refs.length<=30
 ps:x.ps.length<=100
 ls:x.ls.length<=200
theorem AnSmall.fit {x:An} (h:AnSmall x):SFit x.ks x.ps x.ls:=
 ⟨by have:=h.ks;omega,fun k hk=>by have:=h.refs k hk;omega,by have:=h.ps;omega,by have:=h.ls;omega⟩
theorem AnSmall.count {x:An} (h:AnSmall x):1+cntS x.ks x.ps x.ls<=100000000:=by
 have h0:=h.ks;have h1:=refsN_le h.refs;have h2:=h.ps;have h3:=h.ls;unfold cntS;omega
end Go.Proofs.YtpekbmegopfhfaaGreatDoor
