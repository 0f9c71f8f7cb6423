import Derived.Test.YtlhhpofjkgmbeaaGreatDoorX30
import Derived.Test.YtlhhpofjkgmbeaaGreatDoorX27
import Derived.Deep.Slices
set_option maxRecDepth 100000
set_option maxHeartbeats 16000000
namespace Go.Proofs.YtlhhpofjkgmbeaaGreatDoor
open Go.ChangeShapes Go.WideShapes Go.ChangeAt Go.RowKit _root_.Go.Proofs.Tryz
structure TV (w wx:Zh) (v:Vd) (a:Va) (b:Nat) (o:An) (ta pa la:Zk) (tc pc lc:Nat):Prop where
 box:Aa wx b [Zg o.code,Zg o.wd,Zg o.now,Zg o.given,Zg o.ae,.slice ta o.ks.length tc,.slice pa o.ps.length pc,.slice la o.ls.length lc,.string o.sm,Zg o.le,.string o.a,.string o.b]
 rows:Bv wx wx.heap.size ta pa la o.ks o.ps o.ls
 rto:Ot v.wd (v.ss++v.tt) o
 gx:Aa wx w.heap.size [Zg v.wd,Zg v.ak,.slice a.sa v.ss.length a.sc,.slice a.ta v.tt.length a.tc,Zg v.sw,Zg v.now,Zg v.given,Zg v.ae,.slice a.ka v.ks.length a.kc,.slice a.pa v.ps.length a.pc,.slice a.la v.ls.length a.lc,Zg v.ph,.slice a.qa v.qs.length a.qc,.slice a.ma v.ms.length a.mc,Zg v.ag,Zg v.at_,Zg v.ro]
 cf:Below w.heap.size w wx
theorem TV.fin{w c d:Zh}{v:Vd}{a:Va}{b:Nat}{o:An}{i h g:Zk}{n m l:Nat}(p:Ot v.wd (v.ss++v.tt) o)(q:∀X,Tn [b] d X->Bv X X.heap.size i h g o.ks o.ps o.ls)(f:Zz w c)(e:Zz c d)(s:Aa c w.heap.size (Yh v a))(u:w.heap.size<c.heap.size)(t:Aa d b z12)(z:c.heap.size<=b):
 TV w ((((((((((((d.setCell (Ze b 0) (Zg o.code)).setCell (Ze b 1) (Zg o.wd)).setCell (Ze b 2) (Zg o.now)).setCell (Ze b 3) (Zg o.given)).setCell (Ze b 4) (Zg o.ae)).setCell (Ze b 5) (.slice i o.ks.length n)).setCell (Ze b 6) (.slice h o.ps.length m)).setCell (Ze b 7) (.slice g o.ls.length l)).setCell (Ze b 8) (.string o.sm)).setCell (Ze b 9) (Zg o.le)).setCell (Ze b 10) (.string o.a)).setCell (Ze b 11) (.string o.b)) v a b o i h g n m l:=by
 have k:=Bh d b (Zg o.code) (Zg o.wd) (Zg o.now) (Zg o.given) (Zg o.ae) (.slice i o.ks.length n) (.slice h o.ps.length m) (.slice g o.ls.length l) (.string o.sm) (Zg o.le) (.string o.a) (.string o.b);have x:=e.size;refine⟨VE t _ _ _ _ _ _ _ _ _ _ _ _,?_,p,?_,?_⟩
 ·exact q _ k
 ·exact Aa.same (Aa.below s e) (k.block _ (by omega) (by simp;omega))
 ·exact(f.trans (e.mono f.size)).trans (k.below (by have:=f.size;omega) (fun j r=>by simp at r;have:=f.size;omega))
theorem Lr(v:Vd)(a:Va)(w:Zh)(hr:BR w w.heap.size a v)(hc:Aae a v)(C:Cr v):
 Calls prog 33 #[.agg (Yi v a)] w fun e w'=>Ar (Ei v) w w' e:=by
 obtain⟨W,hW⟩:∃W,W=w.alloc (.cells (Yi v a) 43):=⟨_,rfl⟩;have R:=(AG hW).1;have zW:=(AG hW).2.1;have xW:=(AG hW).2.2;have HX:Hid (Aa W _ _):=(AG hW).2.2;have HR:=Yx hr;have HW:=Yx hW;have zB:=Yx (Ky v.wd W);have zI:=Yx (Hs v.ak 0 1000000 W);have zO:=Yx (MY a.sa a.ta a.sc a.tc v.ss v.tt W w.heap.size R.size (hr.s.below R) (hr.t.below R) C.s C.t C.ss C.tt)
 obtain⟨S,U,V,Y,y4,y5,y6,y7,y8,y9,I,J,K,M,N,O,Q⟩:=Fy xW;clear hW xW hr;by_cases hwd:1<=v.wd/\v.wd<=8
 ·rw[decide_eq_true hwd]at zB;by_cases hlim:0<=v.ak/\v.ak<=1000000
  ·rw[decide_eq_true hlim]at zI;cases hlog:Dc v.ss v.tt with
   |true=>
    rw[hlog]at zO;have yM:=IG hlog;obtain⟨xs,zR⟩:∃xs,xs=v.ss++v.tt:=⟨_,rfl⟩;have HA:Hid (∀X,Zz W X->Calls prog 66 #[.agg #[.slice a.sa v.ss.length a.sc,.slice a.ta v.tt.length a.tc]] X fun e w'=>∃g q,e=.returned (Za g xs.length q)/\w'.ownsRow X.heap.size 9 1 (Za g xs.length q) xs.length (xs.map Value.string)/\Zz X w'):=fun X hX=>by have hb:=R.trans (hX.mono R.size);rw[zR];exact TU a.sa a.ta a.sc a.tc v.ss v.tt X (HR.o.s.af hb) (HR.o.t.af hb) hc.s hc.t C.s C.t
    have HS:Hid (∀(X:Zh) (g q:Nat),Ad X X.heap.size (some ⟨g,0,none⟩) xs->Calls prog 65 #[Zg v.wd,Za g xs.length q] X fun e w'=>∃(o:An) (m:Zk) (p:Nat) (j:Zk) (l:Nat) (f:Zk) (i:Nat) (rs:Zj),e=.returned (.agg #[Zg o.code,Zg o.wd,Zg o.now,Zg o.given,Zg o.ae,.slice m o.ks.length p,.slice j o.ps.length l,.slice f o.ls.length i,.string o.sm,Zg o.le,.string o.a,.string o.b])/\Ot v.wd xs o/\AO w' X.heap.size (.slice m o.ks.length p) (.slice j o.ps.length l) (.slice f o.ls.length i) rs o.ks o.ps o.ls/\Zz X w'):=fun X g q h=>by
     refine(PE v.wd _ _ xs X h (by rw[zR];omega) (fun s hs=>by rw[zR]at hs;rcases List.mem_append.1 hs with h|h;exact C.ss s h;exact C.tt s h)).mono ?_;rintro e w' ⟨o,T,P,L,rs,t,rfl,hS,hb⟩;obtain⟨m,p,j,l,f,i,rfl,rfl,rfl,_⟩:=hS.rows;exact⟨o,m,p,j,l,f,i,rs,rfl,t,hS,hb⟩
    have yA:=Yx zR;clear zR;have HM:=Yx hc.m;clear hc;go_enter func33,ntmps33;go_wp2_with fail;rw[←HW.o];refine Calls.mono zB.o ?_;rintro e w1 ⟨rfl,c⟩;replace c:=c.symm;subst c;go_wp2_with fail;refine Calls.mono zI.o ?_;rintro e w1 ⟨rfl,c⟩;replace c:=c.symm;subst c;go_wp2_with fail;refine Calls.mono zO.o ?_;rintro e d ⟨rfl,zE⟩;have x2:=Aa.below HX.o zE
    have z2:w.heap.size+1<=d.heap.size:=by have:=zE.size;omega
    have yF:=Yx zE;have zT:=Yx x2;have Z:=Yx (R.trans (zE.mono R.size));clear S U V Y y4 y5 y6 y7 y8 y9 I J K M N O Q zB zI zO zE HW;obtain⟨S,U,V,Y,_⟩:=Fy x2;clear x2;go_upto_region 3 with fail;generalize (.agg (Yi v a):Value)=dv0;go_cut [3] (fun u wx=>∃(b:Nat) (o:An) (m j f:Zk) (p l i:Nat),u=Yz b/\Hid (TV w wx v a b o m j f p l i))
    case first=>
     have zC:Hid (∀X,Zz d X->X.cell? (Ze (w.heap.size) 0)=some (Zg v.wd)/\X.cell? (Ze (w.heap.size) 2)=some (.slice a.sa v.ss.length a.sc)/\X.cell? (Ze (w.heap.size) 3)=some (.slice a.ta v.tt.length a.tc)):=fun X hX=>by obtain⟨u0,u1,u2,u3,_⟩:=Fy (Aa.below zT.o hX);exact⟨u0,u2,u3⟩
     have HL:Hid (∀X,Zz d X->Zz W X):=fun X hX=>yF.o.trans (hX.mono yF.o.size);have D0:Below d.heap.size d d.drew:=(Below.refl _ _).drew;have D1:∀o,Zz d (d.alloc o).drew:=fun o=>(Zy).drew;clear S U V Y
     go_region_held3 (fun X=>X.cell? (Ze (w.heap.size) 0)=some (Zg v.wd)/\X.cell? (Ze (w.heap.size) 2)=some (.slice a.sa v.ss.length a.sc)/\X.cell? (Ze (w.heap.size) 3)=some (.slice a.ta v.tt.length a.tc))
      (first
        |with_reducible exact zC.o _ D0
        |with_reducible exact zC.o _ (D1 _)
        |with_reducible exact zC.o _ A
        |with_reducible exact zC.o _ (A.alloc A.size _)
        |with_reducible exact zC.o _ E
        |with_reducible exact zC.o _ (E.alloc E.size _)
        |with_reducible exact zC.o _ (E.trans ((Bh w4 _ _ _ _ _ _ _ _ _ _ _ _ _).below E.size (by intro x hx;simp at hx;omega))))
      (first
        |(go_at_call 66;guard_target=~Calls prog 66 _ (World.drew (World.alloc d _)) _;refine Calls.mono (HA.o (d.alloc (.cells Yr 82)).drew (HL.o _ (D1 _))) ?_;rintro e z ⟨g,q,rfl,zP,zU⟩;have A:Below d.heap.size d z:=(D1 _).trans (zU.mono (by simp));have zF:=Ad.own zP;clear zP;have zA:Aa z d.heap.size z12:=Aa.below (v:=Zf) (w:=(d.alloc (.cells Yr 82))) (Aa.new d z12 82) (Dv zU))
        |(go_at_call 66;guard_target=~Calls prog 66 _ (World.drew d) _;refine Calls.mono (HA.o d.drew (HL.o _ D0)) ?_;rintro e z ⟨g,q,rfl,zP,zU⟩;have A:Below d.heap.size d z:=D0.trans zU;have zF:=Ad.own zP;clear zP;have nA:=A)
        |(go_at_call 65;have zV:=zA;refine Calls.mono (HS.o z g q zF) ?_;rintro e w4 ⟨o,m,p,j,l,f,i,rs,rfl,t,G,zG⟩;have F:=Yx (Zn t G);clear t G zF;have E:Below d.heap.size d w4:=A.trans (zG.mono A.size);have yC:Aa w4 d.heap.size z12:=Aa.below (v:=Zf) zA zG;have yE:d.heap.size<z.heap.size:=Aa.lt (v:=Zf) zA;have zM:d.heap.size<=d.heap.size:=Zx;obtain⟨⟨t0,q0⟩,⟨t1,q1⟩,⟨t2,q2⟩,⟨t3,q3⟩,⟨t4,q4⟩,⟨t5,q5⟩,⟨t6,q6⟩,⟨t7,q7⟩,⟨t8,q8⟩,⟨t9,q9⟩,⟨t10,q10⟩,t11,q11⟩:=AT yC)
        |(go_at_call 65;guard_target=~Calls prog 65 _ (World.alloc z _) _;refine Calls.mono (HS.o (z.alloc (.cells Yr 82)) g q (zF.af (Zy))) ?_;rintro e w4 ⟨o,m,p,j,l,f,i,rs,rfl,t,G,zG⟩;have F:=Yx (Zn t G);clear t G zF;have E:Below d.heap.size d w4:=(A.alloc A.size _).trans (zG.mono (by have:=A.size;simp;omega));have yD:Aa w4 z.heap.size z12:=Aa.below (v:=Zf) (w:=(z.alloc (.cells Yr 82))) (Aa.new z z12 82) zG;have zM:d.heap.size<=z.heap.size:=A.size;obtain⟨⟨t0,q0⟩,⟨t1,q1⟩,⟨t2,q2⟩,⟨t3,q3⟩,⟨t4,q4⟩,⟨t5,q5⟩,⟨t6,q6⟩,⟨t7,q7⟩,⟨t8,q8⟩,⟨t9,q9⟩,⟨t10,q10⟩,t11,q11⟩:=AT yD)
        |(go_at_call 65;have zV:=nA;refine Calls.mono (HS.o z g q zF) ?_;rintro e w4 ⟨o,m,p,j,l,f,i,rs,rfl,t,G,zG⟩;have F:=Yx (Zn t G);clear t G zF;have E:Below d.heap.size d w4:=A.trans (zG.mono A.size);have nD:=nA))
     all_goals
      go_wp2_with fail;go_meet
     all_goals first
      |(have zV:=yC
        exact⟨d.heap.size,o,m,j,f,p,l,i,rfl,TV.fin (yA.o▸F.o.1) (fun X ht=>AO.get (F.o.2.an ht (by simp;exact yE))) Z.o E zT.o (by omega) yC zM⟩)
      |(have zV:=yD
        exact⟨z.heap.size,o,m,j,f,p,l,i,rfl,TV.fin (yA.o▸F.o.1) (fun X ht=>AO.get (F.o.2.an ht (by simp))) Z.o E zT.o (by omega) yD zM⟩)
      |(have zV:=nD
        exact⟨w4.heap.size,o,m,j,f,p,l,i,rfl,⟨Aa.new w4 [Zg o.code,Zg o.wd,Zg o.now,Zg o.given,Zg o.ae,.slice m o.ks.length p,.slice j o.ps.length l,.slice f o.ls.length i,.string o.sm,Zg o.le,.string o.a,.string o.b] 82,(AO.get F.o.2).af (Zy),yA.o▸F.o.1,Aa.below (Aa.below zT.o E) (Zy),(Z.o.trans (E.mono Z.o.size)).alloc (Zm Z.o.size E.size) _⟩⟩)
    case rest=>
     clear S U V Y HA HS;obtain⟨b,o,m,j,f,p,l,i,rfl,HV⟩:=hcut;rcases HV.o.rto with⟨yN,_⟩|⟨_,⟨n,zJ,ho⟩|⟨r,zJ,ho⟩⟩
     ·exact absurd ⟨hwd,yM⟩ yN
     ·have zX:o.code=7:=by rw[ho]
      obtain⟨m0,_⟩:=HV.o.box 0 _ rfl;rw[zX]at m0;have zH:=Yx HV.o.cf;have zY:Hid (¬Ei v):=fun⟨r,h⟩=>Di.not hwd.1 hwd.2 zJ h.run;clear ho zJ HV;go_wp2;go_ret;exact Ar.no zY.o zH.o
     ·subst ho;have zK:=zJ.ok (FX hwd.1 hwd.2);obtain⟨⟨m0,_⟩,⟨m1,_⟩,⟨m2,_⟩,⟨m3,_⟩,⟨m4,_⟩,⟨m5,_⟩,⟨m6,_⟩,m7,_⟩:=Mx HV.o.box;obtain⟨S,U,V,Y,y4,y5,y6,y7,y8,y9,I,J,K,M,N,O,Q⟩:=Fy HV.o.gx;have zH:=Yx HV.o.cf;have yJ:=HR.o.st.aj zH.o
      have yH:=Yx (Lq v.wd r.now r.given r.ae v.sw v.now v.given v.ae m j f a.ka a.pa a.la p l i a.kc a.pc a.lc r.ks v.ks r.ps v.ps r.ls v.ls wc HV.o.rows (yJ.mono zH.o.size) ⟨by have:=zK.bk.len;omega,by have:=zK.np;omega,by have:=zK.nl;omega⟩ ⟨C.st.k,C.st.p,C.st.l⟩ (fun k hk=>by have:=zK.dq k hk;omega) C.st.r);have zZ:=Yx HV.o.gx;have zS:=Yx zJ;have yL:=Yx zK.ah;clear yJ zK HV
      go_wp2_with fail;refine Calls.mono yH.o ?_;rintro e w5 ⟨bb,rfl,B,yB⟩;have zN:=Yx (zH.o.trans (yB.mono zH.o.size));have x5:=Aa.below zZ.o yB;clear m0 m1 m2 m3 m4 m5 m6 m7 S U V Y y4 y5 y6 y7 y8 y9 I J K M N O Q yH yB zJ;cases bb with
      |false=>
       have zY:Hid (¬Ei v):=fun⟨r',h⟩=>by obtain rfl:=zS.o.cz h.run;have:=B.2 h.same;cases this
       clear B x5 zZ;go_wp2;go_ret;exact Ar.no zY.o zN.o
      |true=>
       have D:=Yx (B.1 rfl);obtain⟨S,U,V,Y,y4,y5,y6,y7,y8,y9,I,J,K,M,N,O,Q⟩:=Fy x5;have yG:=Yx (Vy v.sw v.now v.given v.ae v.ph v.ag v.at_ v.ro (.slice a.ka v.ks.length a.kc) (.slice a.pa v.ps.length a.pc) (.slice a.la v.ls.length a.lc) a.qa a.ma a.qc a.mc v.qs v.ms w5 (HR.o.q.af zN.o) (HR.o.m.af zN.o) C.r HM.o (by have h1:=D.o.1.2.2.2;have h2:=yL.o;omega));clear B x5 zZ;go_wp2_with fail
       refine Calls.mono yG.o ?_;rintro e w6 ⟨bb,rfl,B,yI⟩;have yK:=Yx (zN.o.trans (yI.mono zN.o.size));have HN:Hid (bb=true↔Ei v):=by have h1:=D.o.1.1;rw[←h1]at B;refine⟨fun h=>⟨r,hwd,hlim,hlog,zS.o,D.o,B.1 h⟩,fun⟨r',h⟩=>B.2 h.round⟩
       clear S U V Y y4 y5 y6 y7 y8 y9 I J K M N O Q yG B yI;go_wp2;go_ret;exact⟨bb,rfl,HN.o,yK.o⟩
   |false=>
    rw[hlog]at zO;go_enter func33,ntmps33;go_wp2_with fail;rw[←HW.o];refine Calls.mono zB.o ?_;rintro e w1 ⟨rfl,c⟩;replace c:=c.symm;subst c;go_wp2_with fail;refine Calls.mono zI.o ?_;rintro e w1 ⟨rfl,c⟩;replace c:=c.symm;subst c;go_wp2_with fail;refine Calls.mono zO.o ?_;rintro e d ⟨rfl,zE⟩;have Z:=Yx (R.trans (zE.mono R.size));clear S U V Y y4 y5 y6 y7 y8 y9 I J K M N O Q;go_wp2;go_ret
    exact Ar.no (fun⟨r,h⟩=>by have:=h.log;rw[hlog]at this;cases this) Z.o
  ·rw[decide_eq_false hlim]at zI;go_enter func33,ntmps33;go_wp2_with fail;rw[←HW.o];refine Calls.mono zB.o ?_;rintro e w1 ⟨rfl,c⟩;replace c:=c.symm;subst c;go_wp2_with fail;refine Calls.mono zI.o ?_;rintro e w1 ⟨rfl,c⟩;replace c:=c.symm;subst c;clear S U V Y y4 y5 y6 y7 y8 y9 I J K M N O Q;go_wp2;go_ret;exact Ar.no (fun⟨r,h⟩=>hlim h.ak) R
 ·rw[decide_eq_false hwd]at zB;go_enter func33,ntmps33;go_wp2_with fail;rw[←HW.o];refine Calls.mono zB.o ?_;rintro e w1 ⟨rfl,c⟩;replace c:=c.symm;subst c;clear S U V Y y4 y5 y6 y7 y8 y9 I J K M N O Q;go_wp2;go_ret;exact Ar.no (fun⟨r,h⟩=>hwd h.wd) R
section
attribute [local go_sem↓] Go.wp_at_zero Go.wp_at_succ
end
section
open Classical in
end
theorem PH(wd zI given ae:Int)(a:Zk)(sc:Nat)(P L:Value)(z:List Kd)(s:Zi)(i ag m A:Int)(g h R N:Nat)(b c:Zl)(w:Zh)(zE:BH w w.heap.size a z)(yE:z.length<=1048576)(hq:Ad w w.heap.size (some ⟨g,0,none⟩) b)(hm:Ad w w.heap.size (some ⟨h,0,none⟩) c)(hf:Gj b c)(yV:b.length<=23200):
 Calls prog 40 #[.agg #[Zg wd,Zg zI,Zg given,Zg ae,.slice a z.length sc,P,L],.agg (Yk i (some ⟨g,0,none⟩) b.length R (some ⟨h,0,none⟩) c.length N ag m A),.string s] w fun e w'=>∃x q y n,e=.returned (.agg (Yk i (some ⟨x,0,none⟩) ((shQ i z b c s).length) q (some ⟨y,0,none⟩) c.length n ag m A))/\
  w'.ownsRow w.heap.size 9 1 (Za x (shQ i z b c s).length q) (shQ i z b c s).length ((shQ i z b c s).map Value.string)/\w'.ownsRow w.heap.size 9 1 (Za y c.length n) c.length (c.map Value.string)/\x≠y/\Zz w w':=by
 obtain⟨i0,hi,yG,yH,yI⟩:=info_parts CK;have yT:=hf.q;have yD:=hf.m;obtain⟨W,S⟩:∃W,W=((w.alloc (.cells #[Zg wd,Zg zI,Zg given,Zg ae,.slice a z.length sc,P,L] 40)).alloc (.cells (Yk i (some ⟨g,0,none⟩) b.length R (some ⟨h,0,none⟩) c.length N ag m A) 41)).alloc (.cells Yj 41):=⟨_,rfl⟩;have zG:Below w.heap.size w W:=by rw[S];exact((Zy).alloc (by simp) _).alloc (by simp;omega) _
 have x2:Bt W (w.heap.size+1+1) 0 Zc Zc 0 0 0:=by rw[S];exact⟨by simp[go_sem],by simp[go_sem],by simp[go_sem],by simp[go_sem],by simp[go_sem],by simp[go_sem],by simp⟩
 have x1:Bt W (w.heap.size+1) i (Za g b.length R) (Za h c.length N) ag m A:=by rw[S];exact⟨by simp[go_sem],by simp[go_sem],by simp[go_sem],by simp[go_sem],by simp[go_sem],by simp[go_sem],by simp<;>omega⟩
 have x0:Bg W w.heap.size wd zI given ae (.slice a z.length sc) P L:=by rw[S];exact⟨by simp[go_sem],by simp[go_sem],by simp[go_sem],by simp[go_sem],by simp[go_sem],by simp[go_sem],by simp[go_sem],by simp<;>omega⟩
 have B:∀o,W.frozen? ⟨w.heap.size+1+1,o,none⟩=false:=fun o=>by rw[S];simp[go_sem]
 have yX:W.heap.size=w.heap.size+3:=by rw[S];simp
 have HW:=Yx S;have K:=Yx (Zn hq hm);have HK:=Yx zE;have zJ:=Yx x1;have I:=Yx x2;have d:=Yx zG;clear S hq hm zE x1 x2;obtain⟨T,U,X,Y,Z,a5,a6⟩:=zJ.o;obtain⟨y0,y1,y2,y3,y4,y5,y6,y7⟩:=x0;have yC:Below W.heap.size W W:=Below.refl _ _;go_enter func40,ntmps40;go_upto_region 1 with fail;rw[←HW.o];clear HW;by_cases p0:i=0
 ·have HN:Hid (shQ i z b c s=b):=Jr (.inl p0);subst p0;clear y0 y1 y2 y3 y4 y5 y6 y7;obtain⟨r,rfl⟩:∃r,r=W:=⟨_,rfl⟩;go_wp2_with fail;refine(PA 0 ag m A g h R N b c r (Ad.af K.o.1 d.o) (Ad.af K.o.2 d.o) hf).mono ?_;rintro e C ⟨x,q,y,n,rfl,E,F,J,f⟩
  have l:=Yx (Zn (E.mono (show w.heap.size+3<=r.heap.size by omega)) (Zn (F.mono (show w.heap.size+3<=r.heap.size by omega)) (Zn J (d.o.trans (f.mono d.o.size)))));obtain⟨d0,d1,d2,d3,d4,d5,d6⟩:=Bt.below I.o f;have zN:∀o,C.frozen? ⟨w.heap.size+1+1,o,none⟩=false:=fun o=>(f.frozen (p:=⟨w.heap.size+1+1,o,none⟩) (by simp<;>omega)).trans (B o);clear E F f T U X Y Z a5 B;go_wp2
  refine bodyPost_ret (v:=.agg (Yk 0 (some ⟨x,0,none⟩) b.length q (some ⟨y,0,none⟩) c.length n ag m A)) (by simp[results,results40,go_sem,d0,d1,d2,d3,d4,d5]) rfl ?_;rw[HN.o];refine⟨x,q,y,n,rfl,?_,?_,l.o.2.2.1,?_⟩
  ·refine World.ownsRow.mono ?_ (show w.heap.size<=w.heap.size+3 by omega)
   iterate 6 (refine ownsRow_setCell_below ?_ (by simp) _)
   exact l.o.1
  ·refine World.ownsRow.mono ?_ (show w.heap.size<=w.heap.size+3 by omega)
   iterate 6 (refine ownsRow_setCell_below ?_ (by simp) _)
   exact l.o.2.1
  ·iterate 6 (refine Below.setCell ?_ (by simp<;>omega) _)
   exact l.o.2.2.2
 have yY:(i==0)=false:=by simpa using p0
 go_wp2_with fail;refine(FE wd zI given ae a sc P L z s W w.heap.size (BH.below HK.o zG) zG.size yE).mono ?_;rintro e r ⟨rfl,Q⟩;have zA:=Yx (d.o.trans (Q.mono d.o.size));have zB:=Yx (Bt.below zJ.o Q);have zC:=Yx (Bt.below I.o Q);have zM:∀o,r.frozen? ⟨w.heap.size+1+1,o,none⟩=false:=fun o=>(Q.frozen (p:=⟨w.heap.size+1+1,o,none⟩) (by simp<;>omega)).trans (B o);have yW:=Q.size
 clear T U X Y Z a5 a6 y0 y1 y2 y3 y4 y5 y6 y7 zJ I d B Q yC zG;have d:=Yx zA.o;have I:=Yx zC.o;have B:=zM;clear zA zC zM;obtain⟨T,U,X,Y,Z,a5,a6⟩:=zB.o;rcases FT z s with⟨zH,zW⟩|⟨fi,fu,zH,zV,zU⟩
 ·have HN:Hid (shQ i z b c s=b):=Jr (.inr (.inl zW));rw[zH];clear zW;go_wp2_with fail;refine(PA i ag m A g h R N b c r (Ad.af K.o.1 d.o) (Ad.af K.o.2 d.o) hf).mono ?_;rintro e C ⟨x,q,y,n,rfl,E,F,J,f⟩;have l:=Yx (Zn (E.mono (show w.heap.size+3<=r.heap.size by omega)) (Zn (F.mono (show w.heap.size+3<=r.heap.size by omega)) (Zn J (d.o.trans (f.mono d.o.size)))))
  obtain⟨d0,d1,d2,d3,d4,d5,d6⟩:=Bt.below I.o f;have zN:∀o,C.frozen? ⟨w.heap.size+1+1,o,none⟩=false:=fun o=>(f.frozen (p:=⟨w.heap.size+1+1,o,none⟩) (by simp<;>omega)).trans (B o);clear E F f T U X Y Z a5 B;go_wp2;refine bodyPost_ret (v:=.agg (Yk i (some ⟨x,0,none⟩) b.length q (some ⟨y,0,none⟩) c.length n ag m A)) (by simp[results,results40,go_sem,d0,d1,d2,d3,d4,d5]) rfl ?_;rw[HN.o]
  refine⟨x,q,y,n,rfl,?_,?_,l.o.2.2.1,?_⟩
  ·refine World.ownsRow.mono ?_ (show w.heap.size<=w.heap.size+3 by omega)
   iterate 6 (refine ownsRow_setCell_below ?_ (by simp) _)
   exact l.o.1
  ·refine World.ownsRow.mono ?_ (show w.heap.size<=w.heap.size+3 by omega)
   iterate 6 (refine ownsRow_setCell_below ?_ (by simp) _)
   exact l.o.2.1
  ·iterate 6 (refine Below.setCell ?_ (by simp<;>omega) _)
   exact l.o.2.2.2
 have yA:Ax z s:=⟨fu,Zs zV,zU⟩;rw[zH];have yO:decide ((fi:Int)<0)=false:=by simp
 clear zH zV zU;have HC:=Yx (PU (some ⟨h,0,none⟩) N c s r r.heap.size (Ad.af (w:=w) K.o.2 d.o) yD);go_wp2_with fail;refine Calls.mono HC.o ?_;rintro e w9 ⟨rfl,yB⟩;rw[yB];clear yB HC w9;by_cases hin:s∈c
 ·have HN:Hid (shQ i z b c s=b):=Jr (.inr (.inr (.inl hin)));have G:c.any (fun x=>decide (x=s))=true:=List.any_eq_true.2 ⟨s,hin,by simp⟩;rw[G];clear G hin;go_wp2_with fail;refine(PA i ag m A g h R N b c r (Ad.af K.o.1 d.o) (Ad.af K.o.2 d.o) hf).mono ?_;rintro e C ⟨x,q,y,n,rfl,E,F,J,f⟩
  have l:=Yx (Zn (E.mono (show w.heap.size+3<=r.heap.size by omega)) (Zn (F.mono (show w.heap.size+3<=r.heap.size by omega)) (Zn J (d.o.trans (f.mono d.o.size)))));obtain⟨d0,d1,d2,d3,d4,d5,d6⟩:=Bt.below I.o f;have zN:∀o,C.frozen? ⟨w.heap.size+1+1,o,none⟩=false:=fun o=>(f.frozen (p:=⟨w.heap.size+1+1,o,none⟩) (by simp<;>omega)).trans (B o);clear E F f T U X Y Z a5 B;go_wp2
  refine bodyPost_ret (v:=.agg (Yk i (some ⟨x,0,none⟩) b.length q (some ⟨y,0,none⟩) c.length n ag m A)) (by simp[results,results40,go_sem,d0,d1,d2,d3,d4,d5]) rfl ?_;rw[HN.o];refine⟨x,q,y,n,rfl,?_,?_,l.o.2.2.1,?_⟩
  ·refine World.ownsRow.mono ?_ (show w.heap.size<=w.heap.size+3 by omega)
   iterate 6 (refine ownsRow_setCell_below ?_ (by simp) _)
   exact l.o.1
  ·refine World.ownsRow.mono ?_ (show w.heap.size<=w.heap.size+3 by omega)
   iterate 6 (refine ownsRow_setCell_below ?_ (by simp) _)
   exact l.o.2.1
  ·iterate 6 (refine Below.setCell ?_ (by simp<;>omega) _)
   exact l.o.2.2.2
 have G:c.any (fun x=>decide (x=s))=false:=by rw[List.any_eq_false];intro x hx e;exact hin (by simpa using (of_decide_eq_true e)▸hx)
 rw[G];clear G;by_cases p1:b.length=23200
 ·have HN:Hid (shQ i z b c s=b):=Jr (.inr (.inr (.inr p1)));have yL:decide ((23200:Int)<=(b.length:Int))=true:=by simp;omega
  clear p1;go_wp2_with fail;refine(PA i ag m A g h R N b c r (Ad.af K.o.1 d.o) (Ad.af K.o.2 d.o) hf).mono ?_;rintro e C ⟨x,q,y,n,rfl,E,F,J,f⟩;have l:=Yx (Zn (E.mono (show w.heap.size+3<=r.heap.size by omega)) (Zn (F.mono (show w.heap.size+3<=r.heap.size by omega)) (Zn J (d.o.trans (f.mono d.o.size)))));obtain⟨d0,d1,d2,d3,d4,d5,d6⟩:=Bt.below I.o f
  have zN:∀o,C.frozen? ⟨w.heap.size+1+1,o,none⟩=false:=fun o=>(f.frozen (p:=⟨w.heap.size+1+1,o,none⟩) (by simp<;>omega)).trans (B o);clear E F f T U X Y Z a5 B;go_wp2;refine bodyPost_ret (v:=.agg (Yk i (some ⟨x,0,none⟩) b.length q (some ⟨y,0,none⟩) c.length n ag m A)) (by simp[results,results40,go_sem,d0,d1,d2,d3,d4,d5]) rfl ?_;rw[HN.o];refine⟨x,q,y,n,rfl,?_,?_,l.o.2.2.1,?_⟩
  ·refine World.ownsRow.mono ?_ (show w.heap.size<=w.heap.size+3 by omega)
   iterate 6 (refine ownsRow_setCell_below ?_ (by simp) _)
   exact l.o.1
  ·refine World.ownsRow.mono ?_ (show w.heap.size<=w.heap.size+3 by omega)
   iterate 6 (refine ownsRow_setCell_below ?_ (by simp) _)
   exact l.o.2.1
  ·iterate 6 (refine Below.setCell ?_ (by simp<;>omega) _)
   exact l.o.2.2.2
 have yL:decide ((23200:Int)<=(b.length:Int))=false:=by simp;omega
 have HN:Hid (shQ i z b c s=b++[s]):=WR p0 yA hin p1;clear yA hin;go_wp2_with fail;refine(PA i ag m A g h R N b c r (Ad.af K.o.1 d.o) (Ad.af K.o.2 d.o) hf).mono ?_;rintro e C ⟨x,q,y,n,rfl,E,F,J,f⟩;have lx:=E.lt x rfl;have ly:=F.lt y rfl;have zR:=f.size;obtain⟨D,hV⟩:∃V,V=C.alloc (.cells (Yk i (some ⟨x,0,none⟩) b.length q (some ⟨y,0,none⟩) c.length n ag m A) 41):=⟨_,rfl⟩
 have zF:Below C.heap.size C D:=by rw[hV];exact Zy
 have M:=f.trans (zF.mono zR);have l:Hid (D.ownsRow (w.heap.size+3) 9 1 (Za x b.length q) b.length (b.map Value.string)/\D.ownsRow (w.heap.size+3) 9 1 (Za y c.length n) c.length (c.map Value.string)/\x≠y/\Zz w D):=⟨(CW E zF).mono (by omega),(CW F zF).mono (by omega),J,d.o.trans (M.mono d.o.size)⟩;have H8:Hid (Bt D C.heap.size i (Za x b.length q) (Za y c.length n) ag m A):=by show Bt D C.heap.size i (Za x b.length q) (Za y c.length n) ag m A;rw[hV];exact Bt.new _ _ _ _ _ _ _ _
 have H2:=Yx (Bt.below I.o M);have zS:∀o,D.frozen? ⟨w.heap.size+1+1,o,none⟩=false:=fun o=>(M.frozen (p:=⟨w.heap.size+1+1,o,none⟩) (by simp<;>omega)).trans (B o);have f8:∀o,D.frozen? ⟨C.heap.size,o,none⟩=false:=fun o=>by rw[hV];simp[go_sem]
 have yK:D.heap.size=C.heap.size+1:=by rw[hV];simp
 go_upto_region 4 with fail;rw[←hV];clear hV zF E F f M B zB I d K HK T U X Y Z a5 a6;have B:=zS;clear zS;generalize C.heap.size=b7 at *
 have yR:w.heap.size+3<=b7:=by omega
 have yS:b7<D.heap.size:=by omega
 clear yK;obtain⟨c0,c1,c2,c3,c4,c5,c6⟩:=H8.o;obtain⟨d0,d1,d2,d3,d4,d5,d6⟩:=H2.o;go_wp2_with (first
  |(at_builtin;refine wpList_append_lies _ rfl _ _ 22 rfl (w.heap.size+3) 9 i0 Zd 1 16 underlying22 hi yG yH yI rfl (by decide) _ b.length (b.map Value.string) rfl ?d0 ⟨D.heap.size,0,none⟩ 1 1 [.string s] rfl rfl ?d1 ?d2 (by decide) ?d3 ?d4 ?d5 _ rfl ?_)
  |go_in)
 case d0=>exact l.o.1.alloc _
 case d1=>exact cell_one_new D (.string s) 9
 case d2=>intro u hu;simp at hu;subst hu;rfl
 case d3=>unfold maxLen;omega
 case d4=>omega
 case d5=>simp;omega
 intro k zK w4 zX zO zP yN;have O:Below D.heap.size D (D.alloc (.cells #[.string s] 9)):=Zy;have yJ:=zO.size;simp[Value.ownBlock]at yJ zP;have t:(D.alloc (.cells #[.string s] 9)).grownBy w4 (some x):=by simpa [Value.ownBlock]using zO
 have r7:=(Bt.below H8.o O).grown t (by omega);have r2:=(Bt.below H2.o O).grown t (by omega);have yP:∀o,w4.frozen? ⟨b7,o,none⟩=false:=fun o=>(t.frozen_far ⟨b7,o,none⟩ (by simp<;>omega) (by simp<;>omega)).trans ((O.frozen (p:=⟨b7,o,none⟩) (by simp<;>omega)).trans (f8 o))
 have zM:∀o,w4.frozen? ⟨w.heap.size+1+1,o,none⟩=false:=fun o=>(t.frozen_far ⟨w.heap.size+1+1,o,none⟩ (by simp<;>omega) (by simp<;>omega)).trans ((O.frozen (p:=⟨w.heap.size+1+1,o,none⟩) (by simp<;>omega)).trans (B o));have zZ:w4.ownsRow (w.heap.size+3) 9 1 (Za y c.length n) c.length (c.map Value.string):=(l.o.2.1.alloc _).kept t (.inr (by simp[Value.ownBlock];omega))
 have zT:Below w.heap.size w w4:=(l.o.2.2.2.trans (O.mono l.o.2.2.2.size)).grown t (by simp;omega) (fun j hj=>by cases hj;omega);have yF:k≠y:=by omega
 have yU:¬k=b7:=by omega
 have yQ:¬b7=w.heap.size+1+1:=by omega
 have yM:¬w.heap.size+1+1=b7:=by omega
 have zY:w4.ownsRow (w.heap.size+3) 9 1 (Za k (b.length+1) zK) (b.length+1) ((b++[s]).map Value.string):=by simpa using zX
 have HP:=Yx (Zn zY (Zn zZ (Zn yF zT)));obtain⟨c0,c1,c2,c3,c4,c5,c6⟩:=r7;obtain⟨d0,d1,d2,d3,d4,d5,d6⟩:=r2;clear zX zY zZ zO t zT O f8 B H8 H2 l;go_wp2;refine bodyPost_ret (v:=.agg (Yk i (some ⟨k,0,none⟩) (b.length+1) zK (some ⟨y,0,none⟩) c.length n ag m A)) (by simp[results,results40,go_sem,d0,d1,d2,d3,d4,d5]) rfl ?_;rw[HN.o];refine⟨k,zK,y,n,by simp,?_,?_,HP.o.2.2.1,?_⟩
 ·rw[show(b++[s]).length=b.length+1 by simp];refine World.ownsRow.mono ?_ (show w.heap.size<=w.heap.size+3 by omega)
  iterate 6 (refine ownsRow_setCell_below ?_ (by simp) _)
  refine ownsRow_setCell_other ?_ (by simp[Value.ownBlock];omega) _;exact HP.o.1
 ·refine World.ownsRow.mono ?_ (show w.heap.size<=w.heap.size+3 by omega)
  iterate 6 (refine ownsRow_setCell_below ?_ (by simp) _)
  refine ownsRow_setCell_other ?_ (by simp[Value.ownBlock];omega) _;exact HP.o.2.1
 ·iterate 7 (refine Below.setCell ?_ (by simp<;>omega) _)
  exact HP.o.2.2.2
theorem Ad.cells{w:Zh}{B g:Nat}{c:Zl}(h:Ad w B (some ⟨g,0,none⟩) c):∀j s,c[j]?=some s->w.cell? ((⟨g,0,none⟩:Addr).add j)=some (.string s):=by
 intro j s a;rcases h with h|⟨b,f,d,_,e⟩
 ·subst h;simp at a
 ·cases d;have:=e j s a;rw[Go.WideShapes.add_plain];simpa using this
theorem Ad.take{w:Zh}{B:Nat}{a:Zk}{c:Zl}(h:Ad w B a c)(K:Nat):Ad w B a (c.take K):=by
 rcases h with h|⟨q,d,e,f,g⟩
 ·exact .inl (by simp[h])
 ·refine .inr ⟨q,d,e,f,fun i s b=>g i s ?_⟩;have j:=(Zw b).1;simp at j;rw[List.getElem?_take_of_lt (by omega)]at b;exact b
structure Kc (w V:Zh) (u v:Value):Prop where
 b0:V.cell? (Ze (w.heap.size) 0)=some u
 b1:V.cell? (Ze (w.heap.size) 1)=some v
 r0:V.cell? (Ze (w.heap.size+1) 0)=some Zc
 r1:V.cell? (Ze (w.heap.size+1) 1)=some Zc
 f:∀o,V.frozen? ⟨w.heap.size+1,o,none⟩=false
 cf:Below w.heap.size w V
 le:w.heap.size+2<=V.heap.size
theorem Kc.alloc{w V:Zh}{u v:Value}(h:Kc w V u v)(o:Obj):Kc w (V.alloc o) u v:=by
 have a:=(Below.refl V.heap.size V).alloc (Zx) o;have:=h.le;exact⟨(a.cell (p:=⟨w.heap.size,0,none⟩) (by simp;omega)).trans h.b0,(a.cell (p:=⟨w.heap.size,1,none⟩) (by simp;omega)).trans h.b1,(a.cell (p:=⟨w.heap.size+1,0,none⟩) (by simp;omega)).trans h.r0,(a.cell (p:=⟨w.heap.size+1,1,none⟩) (by simp;omega)).trans h.r1,
  fun o=>(a.frozen (p:=⟨w.heap.size+1,o,none⟩) (by simp;omega)).trans (h.f o),h.cf.alloc h.cf.size o,by simp;omega⟩
theorem Kc.drew{w V:Zh}{u v:Value}(h:Kc w V u v):Kc w V.drew u v:=⟨h.b0,h.b1,h.r0,h.r1,h.f,h.cf.drew,h.le⟩
theorem Kc.grown{w V b:Zh}{u v:Value}{q:Nat}(h:Kc w V u v)(a:V.grownBy b (some q))(d:w.heap.size+2<=q):Kc w b u v:=by
 have:=h.le;have:=a.size;exact⟨a.cell h.b0 (by simp;omega),a.cell h.b1 (by simp;omega),a.cell h.r0 (by simp;omega),a.cell h.r1 (by simp;omega),
  fun o=>(a.frozen_far ⟨w.heap.size+1,o,none⟩ (by simp;omega) (by simp;omega)).trans (h.f o),h.cf.grown a h.cf.size (fun k c=>by cases c;omega),by omega⟩
theorem TW(g h c d:Nat)(j k:Zl)(w:Zh)(hr:Ad w w.heap.size (some ⟨g,0,none⟩) j)(R:Ad w w.heap.size (some ⟨h,0,none⟩) k)(hl:j.length<=1048576)(zH:k.length<=1048576):
 Calls prog 69 #[.agg #[Za g j.length c,Za h k.length d]] w fun e w'=>∃x cx y cy,e=.returned (.agg #[Za x j.length cx,Za y k.length cy])/\
  w'.ownsRow w.heap.size 9 1 (Za x j.length cx) j.length (j.map Value.string)/\w'.ownsRow w.heap.size 9 1 (Za y k.length cy) k.length (k.map Value.string)/\x≠y/\Zz w w':=by
 obtain⟨S,O,B,C,D⟩:=info_parts CK;have zB:Below w.heap.size w ((w.alloc (.cells #[Za g j.length c,Za h k.length d] 35)).alloc (.cells #[Zc,Zc] 35)):=(Zy).alloc (by simp) _;obtain⟨W,hW⟩:∃W,W=(w.alloc (.cells #[Za g j.length c,Za h k.length d] 35)).alloc (.cells #[Zc,Zc] 35):=⟨_,rfl⟩;have P:Kc w W (Za g j.length c) (Za h k.length d):=by rw[hW];exact⟨by simp[go_sem],by simp[go_sem],by simp[go_sem],by simp[go_sem],fun o=>by simp[go_sem],zB,by simp⟩
 have HW:=Yx hW;have z:=Yx P;go_enter func69,ntmps69;go_wp2_with fail;rw[←HW.o];obtain⟨b0,b1,r0,r1,f0,_,zI⟩:=P;obtain⟨a0,a1,_,_,_,_,_⟩:=z.o.alloc (.cells #[] 9);obtain⟨zF,zG,_,_,_,_,_⟩:=(z.o.alloc (.cells #[] 9)).alloc (.cells #[] 9);clear hW zB HW
 have oA:(W.alloc (.cells #[] 9)).drew.ownsRow (w.heap.size+2) 9 1 (Za W.heap.size 0 0) 0 (([]:Zl).map Value.string):=World.ownsRow_lit W #[] 0 (by omega) (by unfold maxLen;omega) rfl
 have I:((W.alloc (.cells #[] 9)).alloc (.cells #[] 9)).drew.ownsRow (w.heap.size+2) 9 1 (Za W.heap.size 0 0) 0 (([]:Zl).map Value.string):=World.ownsRow.alloc (World.ownsRow_lit W #[] 0 (by omega) (by unfold maxLen;omega) rfl) _;have J:((W.alloc (.cells #[] 9)).alloc (.cells #[] 9)).drew.ownsRow (w.heap.size+2) 9 1 (Za (W.heap.size+1) 0 0) 0 (([]:Zl).map Value.string):=by have h1:=World.ownsRow_lit (base:=w.heap.size+2) (e:=9) (size:=1) (W.alloc (.cells #[] 9)) #[] 0 (by simp;omega) (by unfold maxLen;omega) rfl;rw[World.size_alloc]at h1;exact h1
 have zC:=(hr.below (z.o.alloc (.cells #[] 9)).drew.cf).cells;have zE:=(R.below (z.o.alloc (.cells #[] 9)).drew.cf).cells;have G:=(hr.below ((z.o.alloc (.cells #[] 9)).alloc (.cells #[] 9)).drew.cf).cells;have zA:=(R.below ((z.o.alloc (.cells #[] 9)).alloc (.cells #[] 9)).drew.cf).cells
 go_region_law (first
  |(guard_target=if Region.wanted _ _=true then Oper.wp _ _ _ (W.alloc (.cells #[] 9)).drew _ _ else _;refine Cn (W.alloc (.cells #[] 9)).drew rfl (.tmp 3) (.tmp 5) 22 rfl (w.heap.size+2) 9 S Zd 16 underlying22 O B C D rfl (W.heap.size) 0 0 [] rfl oA ⟨g,0,none⟩ j.length c j rfl rfl zC (by unfold maxLen;omega) (by omega) (by first|omega|(simp;omega)) ?_;intro T F L u m n M;simp only[Nat.zero_add,List.nil_append]at u;have K:=m.size;simp at K n;have l:=(z.o.alloc _).drew.grown m (by omega);have c0:=l.b0;have c1:=l.b1;have d0:=(l.alloc (.cells #[] 9)).b0;have d1:=(l.alloc (.cells #[] 9)).b1;have U:=K)
  |(guard_target=if Region.wanted _ _=true then Oper.wp _ _ _ ((W.alloc (.cells #[] 9)).alloc (.cells #[] 9)).drew _ _ else _;refine Cn ((W.alloc (.cells #[] 9)).alloc (.cells #[] 9)).drew rfl (.tmp 3) (.tmp 5) 22 rfl (w.heap.size+2) 9 S Zd 16 underlying22 O B C D rfl (W.heap.size) 0 0 [] rfl I ⟨g,0,none⟩ j.length c j rfl rfl G (by unfold maxLen;omega) (by omega) (by first|omega|(simp;omega)) ?_;intro T F L u m n M;simp only[Nat.zero_add,List.nil_append]at u;have K:=m.size;simp at K n;have l:=((z.o.alloc _).alloc _).drew.grown m (by omega);have c0:=l.b0;have c1:=l.b1;have s:=J.kept m (.inr (by simp[Value.ownBlock]));have V:=K)
  |(guard_target=if Region.wanted _ _=true then Oper.wp _ _ _ ((W.alloc (.cells #[] 9)).alloc (.cells #[] 9)).drew _ _ else _;refine Cn ((W.alloc (.cells #[] 9)).alloc (.cells #[] 9)).drew rfl (.tmp 3) (.tmp 5) 22 rfl (w.heap.size+2) 9 S Zd 16 underlying22 O B C D rfl (W.heap.size+1) 0 0 [] rfl J ⟨g,0,none⟩ j.length c j rfl rfl G (by unfold maxLen;omega) (by omega) (by first|omega|(simp;omega)) ?_;intro T F L u m n M;simp only[Nat.zero_add,List.nil_append]at u;have K:=m.size;simp at K n;have l:=((z.o.alloc _).alloc _).drew.grown m (by omega);have c0:=l.b0;have c1:=l.b1;have s:=I.kept m (.inr (by simp[Value.ownBlock]));have X:=K)
  |(have t:=U;refine Cn (L.alloc (.cells #[] 9)) rfl (.tmp 7) (.tmp 9) 22 rfl (w.heap.size+2) 9 S Zd 16 underlying22 O B C D rfl (L.heap.size) 0 0 [] rfl (World.ownsRow_lit L #[] 0 (by omega) (by unfold maxLen;omega) rfl) ⟨h,0,none⟩ k.length d k rfl rfl (R.below (l.alloc _).cf).cells (by unfold maxLen;omega) (by omega) (by first|omega|(simp;omega)) ?_;intro E r w9 f b i A;simp only[Nat.zero_add,List.nil_append]at f;have Y:=b.size;(try simp at Y i);have Z:=(u.alloc _).kept b (.inr (by simp[Value.ownBlock];omega));have N:=f;have Q:T≠E:=(by omega);have q:=(l.alloc _).grown b (by omega);have y0:=q.r0;have y1:=q.r1;have yf:=q.f)
  |(have t:=V;refine Cn L rfl (.tmp 7) (.tmp 9) 22 rfl (w.heap.size+2) 9 S Zd 16 underlying22 O B C D rfl (W.heap.size+1) 0 0 [] rfl s ⟨h,0,none⟩ k.length d k rfl rfl (R.below l.cf).cells (by unfold maxLen;omega) (by omega) (by first|omega|(simp;omega)) ?_;intro E r w9 f b i A;simp only[Nat.zero_add,List.nil_append]at f;have Y:=b.size;(try simp at Y i);have Z:=u.kept b (.inr (by simp[Value.ownBlock];omega));have N:=f;have Q:T≠E:=(by omega);have q:=l.grown b (by omega);have y0:=q.r0;have y1:=q.r1;have yf:=q.f)
  |(have t:=X;refine Cn L rfl (.tmp 7) (.tmp 9) 22 rfl (w.heap.size+2) 9 S Zd 16 underlying22 O B C D rfl (W.heap.size) 0 0 [] rfl s ⟨h,0,none⟩ k.length d k rfl rfl (R.below l.cf).cells (by unfold maxLen;omega) (by omega) (by first|omega|(simp;omega)) ?_;intro E r w9 f b i A;simp only[Nat.zero_add,List.nil_append]at f;have Y:=b.size;(try simp at Y i);have Z:=u.kept b (.inr (by simp[Value.ownBlock];omega));have N:=f;have Q:T≠E:=(by omega);have q:=l.grown b (by omega);have y0:=q.r0;have y1:=q.r1;have yf:=q.f))
 all_goals
  have HF:=Yx (Zn Z (Zn N (Zn Q q)));clear q;clear Z N Q oA I J zC zE G zA hr R z;go_wp2;refine bodyPost_ret (v:=.agg #[Za T j.length F,Za E k.length r]) (by simp[results,results69,go_sem,y0,y1]) rfl ⟨_,_,_,_,rfl,?_,?_,HF.o.2.2.1,?_⟩
  ·exact(ownsRow_setCell_below (ownsRow_setCell_below HF.o.1 (a:=⟨w.heap.size+1,0,none⟩) (by simp) _) (a:=⟨w.heap.size+1,1,none⟩) (by simp) _).mono (by omega)
  ·exact(ownsRow_setCell_below (ownsRow_setCell_below HF.o.2.1 (a:=⟨w.heap.size+1,0,none⟩) (by simp) _) (a:=⟨w.heap.size+1,1,none⟩) (by simp) _).mono (by omega)
  ·exact(HF.o.2.2.2.cf.setCell (p:=⟨w.heap.size+1,0,none⟩) (by simp) _).setCell (p:=⟨w.heap.size+1,1,none⟩) (by simp) _
theorem CM.gz{v:Vd}{r:Rs}(h:CM v r):FB v.sw v.now v.given v.ae v.ks v.ps v.ls:=by have a:=h.dw;rw[h.same.1.1]at a;exact a
theorem CT.srows{w:Zh}{base b:Nat}{f d a:Zk}{j i:Nat}{g:List (Kd×Value)}{e:List Pd}{c:List Ld}(h:CT w base b f d a j i g e c):Bv w w.heap.size f d a (g.map (·.1)) e c:=⟨h.dm,h.fm,h.fj⟩
def ZSp(r:Rs)(xa:Zk)(_:Nat)(pa:Zk)(pc:Nat)(la:Zk)(lc:Nat)(X:Zh):Prop:=
 ∃base b zs,zs.map (·.1)=r.ks/\CT X base b xa pa la pc lc zs r.ps r.ls
def KSp(v:Vd)(cs:Zj)(V:List Nat)(X:Zh):Prop:=
 ∃base b p l tc pc lc zs,cs=[Zg v.sw,Zg v.now,Zg v.given,Zg v.ae,.slice (some ⟨b,0,none⟩) zs.length tc,.slice (some ⟨p,0,none⟩) v.ps.length pc,.slice (some ⟨l,0,none⟩) v.ls.length lc]/\V=[l]/\zs.map (·.1)=v.ks/\CT X base b (some ⟨b,0,none⟩) (some ⟨p,0,none⟩) (some ⟨l,0,none⟩) pc lc zs v.ps v.ls
theorem DP.sz{b f given ae:Int}{e:List Kd}{p:List Pd}{n:List Ld}{m:Int}{s o:Zi}{g:Int}{text:Zi}{refs:Zl}{r:Rs}(i:1<=b)(h:∀k∈e,(k.sum.size:Int)=b)(c:DP b f given ae e p n m s o g text refs r):∀k∈r.ks,(k.sum.size:Int)=b:=by
 rcases c with⟨rfl,_,l,j,u,v,c,rfl⟩|⟨_,_,d,rfl⟩|⟨_,_,rfl⟩|⟨_,_,l,j,rfl⟩|⟨_,_,rfl⟩|⟨_,x,rfl⟩|⟨_,_,_,rfl⟩
 ·rcases c with⟨_,_,_,_,rfl,rfl⟩|⟨t,q,w,rfl,rfl⟩
  ·exact h
  ·intro k a;rcases List.mem_append.1 (GR.1 a)with a|a
   ·exact h k a
   ·rw[List.mem_singleton]at a;subst a;exact Hp _ _ _ i
 ·exact h
 ·exact h
 ·exact h
 ·exact h
 ·exact h
 ·exact fun k a=>h k (List.filter_sublist.subset a)
theorem YP{g:Int}{b:List Kd}(h:OE g b):∀k∈b,∀s∈k.refs,s≠⟨#[]⟩:=fun k d x f e=>by have a:=BA (h k d);obtain⟨i,c⟩:=List.getElem?_of_mem f;have:=a.size c;rw[e]at this;have j:=a.lo;have l:((⟨#[]⟩:Zi).size:Int)=0:=rfl;omega
theorem WW(v:Vd)(e:Ed)(G:Zk)(rc g k F O R Y k5:Nat)(w:Zh)(h1:BR w w.heap.size (Jw g k F O R Y k5 v) v)(h2:Eg w ⟨F,0,none⟩ v.ks)(N:Cr v)(zE:Ad w w.heap.size G e.rf)(zO:G=none->e.rf.length=0/\rc=0)(hl:e.rf.length<=1048576)(ht:e.tx.size<=maxLen)(hn:e.nm.size<=maxLen)(zJ:e.kd≠1):
 Calls prog 16 #[.agg (Ye v (some ⟨g,0,none⟩) v.ss.length (some ⟨k,0,none⟩) v.tt.length (some ⟨F,0,none⟩) v.ks.length (some ⟨O,0,none⟩) v.ps.length (some ⟨R,0,none⟩) v.ls.length (some ⟨Y,0,none⟩) v.qs.length (some ⟨k5,0,none⟩) v.ms.length),.agg (Yp e.kd e.s e.nm e.num e.tx G e.rf.length rc)] w (Ic v e w):=by
 have K:∀X,Zz w X->BR X X.heap.size (Jw g k F O R Y k5 v) v:=fun X f=>h1.af f;have hS:∀X,Zz w X->Ad X X.heap.size G e.rf:=fun X f=>zE.af f
 refine Aap v e _ _ _ _ _ _ _ _ _ _ _ _ _ _ _ _ _ G rc (KSp v) ZSp w ⟨N.s,N.t⟩ (fun X f=>Lr v (Jw g k F O R Y k5 v) X (K X f) ⟨(fun e=>by cases e),(fun e=>by cases e),Zx⟩ N) ?_ (fun X f=>UJ e.kd e.s e.nm e.num e.tx G rc e.rf v.wd X (hS X f) hl ht hn) ?_ ?_ ?_ ?_ ?_ (fun a X f=>Tj e.kd e.s e.nm e.num e.tx G rc e.rf v.wd X (hS X f) hl ht hn) ?_ ?_ ?_ zJ ?_
 ·rintro⟨r,a⟩ X f;have d:=a.gz;have hd:∀Z,Zz X Z->Zz w Z:=fun Z u=>f.trans (u.mono f.size)
  refine(PF v (Jw g k F O R Y k5 v) X (fun Z u=>TW g k _ _ v.ss v.tt Z (K Z (hd Z u)).s (K Z (hd Z u)).t N.s N.t) (fun Z u=>KW v.sw v.now v.given v.ae F 0 O 0 R 0 _ _ _ v.ks v.ps v.ls Z (K Z (hd Z u)).st (h2.aj h1.st.k (hd Z u)) d.bk.len d.np d.nl d.dq) (fun Z u=>PA v.ph v.ag v.at_ v.ro Y k5 _ _ v.qs v.ms Z (K Z (hd Z u)).q (K Z (hd Z u)).m N.r)).mono ?_;rintro o I ⟨S,U,T,P,L,Q,M,rs,rfl,J,h5,h4⟩
  obtain⟨sb,n1,zY,rfl⟩:=h5 S (by simp);obtain⟨ub,n2,yB,rfl⟩:=h5 U (by simp);obtain⟨qb,n3,zC,rfl⟩:=h5 Q (by simp);obtain⟨mb,n4,zB,rfl⟩:=h5 M (by simp);obtain⟨_,_,e1,_⟩:=J.s.row;obtain⟨_,_,e2,_⟩:=J.u.row;obtain⟨_,_,e3,_⟩:=J.q.row;obtain⟨_,_,e4,_⟩:=J.m.row;cases e1;cases e2;cases e3;cases e4;exact⟨sb,zY,ub,yB,T,P,L,qb,zC,mb,zB,rs,rfl,J,h4⟩
 ·rintro⟨r,a⟩ X f;have d:=a.gz;refine(KW v.sw v.now v.given v.ae F 0 O 0 R 0 _ _ _ v.ks v.ps v.ls X (K X f).st (h2.aj h1.st.k f) d.bk.len d.np d.nl d.dq).mono ?_;rintro o I ⟨T,P,L,rs,rfl,s,hv,q⟩;obtain⟨b,p,l,tc,E,D,C,rfl,rfl,rfl,j,n,zM,zN⟩:=CT.of s hv q.size;exact⟨_,[l],rfl,q,by simp;exact⟨zM,zN⟩,_,b,p,l,tc,E,D,C,rfl,rfl,j,n⟩
 ·rintro cs V X I ⟨base,b,p,l,tc,E,D,C,rfl,rfl,j,n⟩ q;exact⟨base,b,p,l,tc,E,D,C,rfl,rfl,j,n.below q⟩
 ·rintro⟨r,a⟩ t cs V X f ⟨base,b,p,l,tc,E,D,C,rfl,rfl,j,n⟩;have d:=a.dw;have zP:=a.same.1.1;have ha:=d.ia t ht;rw[←j]at ha;rw[←zP];refine(Ka base v.wd v.now v.given v.ae b _ _ _ tc E D C v.ps v.ls e.s e.nm e.tx e.num e.rf G rc X e.kd n ha (fun k hk=>d.dq k (by rw[←j];exact hk)) (hS X f) zO).mono ?_;rintro o I ⟨zA,⟨c,p',q',zF,rfl⟩|⟨m,b1,zZ,yA,yC,zW,zX,zU,zV,B,rfl,zS,zI⟩⟩
  ·rw[j]at zF;exact⟨zA,_,rfl,.inl ⟨c,p',q',zF,rfl⟩⟩
  ·rw[j]at B;exact⟨zA,[_,_,_,_,_,_,_,_,_,_,_,_],rfl,.inr ⟨m,zZ,yA,zW,zX,zU,zV,B,rfl,base,b1,yC,zS,zI⟩⟩
 ·rintro m xa xc pa E la D X ⟨r,a⟩ t B ⟨base,b,C,j,n⟩ cb I q zA;have zR:=YP (a.tok.step t B);exact⟨base,b,C,j,n.gl q (fun z zT=>zR z.1 (by rw[←j];exact List.mem_map.2 ⟨z,zT,rfl⟩)) zA⟩
 ·rintro m xa xc pa E la D X ⟨base,b,C,j,n⟩ I q;exact⟨base,b,C,j,n.below q⟩
 ·rintro⟨r,a⟩ t m xa xc pa E la D X B ⟨base,b,C,j,n⟩;have d:=a.dw.step t B;have zG:=n.srows;rw[j]at zG;refine(Gt v.wd m.now m.given m.ae xa pa la xc E D m.ks m.ps m.ls X zG (fun A s=> ?_) (GB n.po) (GB n.lo) d.bk.len d.np d.nl d.dq).mono ?_
  ·rcases n.tb with h|h
   ·rw[h]at s;cases s;rw[←j];exact n.z.some
   ·rw[←j,h];intro i k hi;simp at hi
  ·rintro o I ⟨T,P,L,rs,rfl,s,_,q⟩;exact⟨T,P,L,rs,rfl,s,q⟩
 ·rintro⟨r,a⟩ t m X T2 P2 L2 yE n2 qb zC mb zB B s hq hm;have d:=a.dw.step t B;obtain⟨za,zc,rfl⟩:=As s.ai;obtain⟨ya,yc,rfl⟩:=As s.pins;obtain⟨ka,kc,rfl⟩:=As s.aq;refine(PH v.wd m.now m.given m.ae za zc _ _ m.ks (e.held m) v.ph v.ag v.at_ v.ro qb mb zC zB v.qs v.ms X s.get.k (by have:=d.bk.len;omega) hq.ft hm.ft N.r a.round.fc.nq).mono ?_;rintro o I ⟨x,cx,y,cy,rfl,o1,o2,_,q⟩
  exact⟨q,_,_,rfl,Ao.own o1,Ao.own o2⟩
 ·rintro⟨r,a⟩ m B he;refine Jr (.inr (.inl fun zH=> ?_));rw[he]at zH;obtain⟨k,hk,zK⟩:=zH;have yD:=a.wd.1;have J:=B.sz a.wd.1 a.dw.bk.sz k hk;rw[zK]at J;have h4:((⟨#[]⟩:Zi).size:Int)=0:=rfl;omega
 ·rintro⟨r,a⟩;refine⟨a.same.1.1,?_⟩;have:=IG a.log;rw[List.length_append]at this;exact this
theorem LM(s:Zi)(n:Int)(w:Zh):
 Calls prog 21 #[.agg #[Zd,Zc,Zd,.string s,Zg n]] w fun o a=>o=.returned (.agg #[Zg 4,.string s,Zd,Zg n,Zd,Zc])/\Zz w a:=by
 go_enter func21,ntmps21;go_wp2;refine bodyPost_ret (v:=.agg #[Zg 4,.string s,Zd,Zg n,Zd,Zc]) (by simp[results,results21,go_sem]) rfl ⟨rfl,?_⟩;exact(Zy).alloc (by simp) _
theorem PI(v:Vd)(A:Zj)(s:Zi)(n:Int)(w:Zh)(K:A.length=17)(h:∀X,Zz w X->Calls prog 20 #[.agg A.toArray,.func (.func 21) #[.agg #[Zd,Zc,Zd,.string s,Zg n]] #[]] X (Hc v ⟨4,s,⟨#[]⟩,n,⟨#[]⟩,[]⟩ X)):
 Calls prog 7 #[.agg A.toArray,.string s,Zg n] w (Hc v ⟨4,s,⟨#[]⟩,n,⟨#[]⟩,[]⟩ w):=by
 have zB:∀(fn:Fn) (first cap:Array Value) (w:Zh),(Instr.makeFunc fn first cap).run prog w=.ok (.func fn first cap) w:=fun _ _ _ _=>rfl;obtain⟨W,e⟩:∃W,W=(w.alloc (.cells A.toArray 43)).alloc (.cells Yc 45):=⟨_,rfl⟩;have z:=(AW e).1;have l:=(AW e).2.1;have q:Hid (Aa W w.heap.size A/\Aa W (w.heap.size+1) CN):=⟨(AW e).2.2.1,(AW (k:=CN) e).2.2.2⟩;have O:Hid (A.length=17):=K;have G:=Yx (h W z)
 have g:=Yx (Zn z l);have J:=Yx e;clear e K h z l;go_enter func7,ntmps7;go_upto_region 1 with fail;rw[←J.o];clear J;go_wp2_with (refine wpList_load_mid rfl 43 _ rfl w.heap.size 0 rfl A _ q.o.1.range underlying43 rfl (by rw[O.o];kernel_rfl) ?_);refine Calls.mono G.o ?_;rintro o F ⟨d,S,U,T,P,L,Q,M,rs,p,rfl,j,C⟩;have a:=Qk j;obtain⟨D,i⟩:∃t,t=JZ d S U T P L Q M:=⟨_,rfl⟩;rw[←i]at a;rw[←i];have I:=Yx i
 clear i;have B:=Aa.below (v:=Zf) q.o.2 C;obtain⟨r,f⟩:∃Y,Y=F.setCells (w.heap.size+1) 0 D.toArray.toList:=⟨_,rfl⟩;have E:Tn [w.heap.size+1] F r:=by rw[f];exact AP _ _ _ _
 have N:Aa r (w.heap.size+1) D:=by rw[f];exact B.ba D (by rw[a.1];rfl)
 have c:Hid (F.there (w.heap.size+1) 0 D.toArray.size/\D.length=22/\∀u∈D,u.oneCell'=true):=by refine⟨?_,a⟩;rw[show D.toArray.size=22 from by rw[List.size_toArray];exact a.1];exact B.there
 have x:=g.o.1.trans (C.mono g.o.1.size);have l:=g.o.2;have m:Hid (Hc v ⟨4,s,⟨#[]⟩,n,⟨#[]⟩,[]⟩ w (.returned (.agg D.toArray)) r):=⟨d,S,U,T,P,L,Q,M,rs,p,by rw[I.o],(j.stays E (fun b Z zA=>by have:=j.lo b zA;simp at Z;omega)).mono (by omega),x.trans (E.below x.size (by simp))⟩;have V:=Yx N;have R:=Yx f;clear f E N B a C x l G g q j p I
 go_wp2_with (refine wpList_store_mid rfl 45 _ _ rfl (w.heap.size+1) 0 D.toArray rfl rfl c.o.1 (by rw[List.size_toArray,c.o.2.1];kernel_rfl) (all_oneCell_toArray c.o.2.2) ?_);rw[←R.o];exact bodyPost_ret (BN results7 _ _ (w.heap.size+1) D _ rfl (Aa.range V.o) underlying45 rfl (by rw[c.o.2.1];kernel_rfl)) rfl m.o
theorem PJ(v:Vd)(A:Zj)(s:Zi)(n:Int)(w:Zh)(L:A.length=17)(h:∀X,Zz w X->Calls prog 16 #[.agg A.toArray,.agg #[Zg 4,.string s,Zd,Zg n,Zd,Zc]] X (Ic v ⟨4,s,⟨#[]⟩,n,⟨#[]⟩,[]⟩ X)):
 Calls prog 5 #[.agg A.toArray,.string s,Zg n] w (Ic v ⟨4,s,⟨#[]⟩,n,⟨#[]⟩,[]⟩ w):=by
 have U:∀(fn:Fn) (first cap:Array Value) (w:Zh),(Instr.makeFunc fn first cap).run prog w=.ok (.func fn first cap) w:=fun _ _ _ _=>rfl;obtain⟨W,e⟩:∃W,W=(w.alloc (.cells A.toArray 43)).alloc (.cells Yc 45):=⟨_,rfl⟩;have B:=(AW e).1;have m:=(AW e).2.1;have r:Hid (Aa W w.heap.size A/\Aa W (w.heap.size+1) CN):=⟨(AW e).2.2.1,(AW (k:=CN) e).2.2.2⟩;have O:Hid (A.length=17):=L;have I:=Yx (h W B)
 have i:=Yx (Zn B m);have K:=Yx e;clear e L h B m;go_enter func5,ntmps5;go_upto_region 1 with fail;rw[←K.o];clear K;go_wp2_with (refine wpList_load_mid rfl 43 _ rfl w.heap.size 0 rfl A _ r.o.1.range underlying43 rfl (by rw[O.o];kernel_rfl) ?_);refine Calls.mono I.o ?_;rintro o l ⟨d,M,q,rfl,E,F⟩;have a:=Ju (d:=d) (WU (E [] l (by simp) (Tn.of (Below.refl _ _))));obtain⟨D,j⟩:∃t,t=dL d M:=⟨_,rfl⟩
 rw[←j]at a;rw[←j];have J:=Yx j;clear j;have C:=Aa.below (v:=Zf) r.o.2 F;obtain⟨x,f⟩:∃Y,Y=l.setCells (w.heap.size+1) 0 D.toArray.toList:=⟨_,rfl⟩;have G:Tn [w.heap.size+1] l x:=by rw[f];exact AP _ _ _ _
 have N:Aa x (w.heap.size+1) D:=by rw[f];exact C.ba D (by rw[a.1];rfl)
 have c:Hid (l.there (w.heap.size+1) 0 D.toArray.size/\D.length=22/\∀u∈D,u.oneCell'=true):=by refine⟨?_,a⟩;rw[show D.toArray.size=22 from by rw[List.size_toArray];exact a.1];exact C.there
 have z:=i.o.1.trans (F.mono i.o.1.size);have m:=i.o.2;have p:Hid (Ic v ⟨4,s,⟨#[]⟩,n,⟨#[]⟩,[]⟩ w (.returned (.agg D.toArray)) x):=⟨d,M,q,by rw[J.o],fun V R T S=>E ((w.heap.size+1)::V) R (fun b g=>by
  rcases List.mem_cons.1 g with h|h
  ·omega
  ·have:=T b h;omega) ((G.mono (by simp)).trans (S.mono (by simp;intro b g;exact .inr g))),z.trans (G.below z.size (by simp))⟩
 have Q:=Yx N;have P:=Yx f;clear f G N C a F z m I i r E q J;go_wp2_with (refine wpList_store_mid rfl 45 _ _ rfl (w.heap.size+1) 0 D.toArray rfl rfl c.o.1 (by rw[List.size_toArray,c.o.2.1];kernel_rfl) (all_oneCell_toArray c.o.2.2) ?_);rw[←P.o];exact bodyPost_ret (BN results5 _ _ (w.heap.size+1) D _ rfl (Aa.range Q.o) underlying45 rfl (by rw[c.o.2.1];kernel_rfl)) rfl p.o
theorem Rv(v:Vd)(g k c d e a b:Nat)(s:Zi)(n:Int)(w:Zh)(j:BR w w.heap.size (Jw g k c d e a b v) v)(i:Cr v)(h:Env w):
 Calls prog 7 #[.agg (Ye v (some ⟨g,0,none⟩) v.ss.length (some ⟨k,0,none⟩) v.tt.length (some ⟨c,0,none⟩) v.ks.length (some ⟨d,0,none⟩) v.ps.length (some ⟨e,0,none⟩) v.ls.length (some ⟨a,0,none⟩) v.qs.length (some ⟨b,0,none⟩) v.ms.length),.string s,Zg n] w (Hc v ⟨4,s,⟨#[]⟩,n,⟨#[]⟩,[]⟩ w):=
 PI v (Yd v (some ⟨g,0,none⟩) v.ss.length (some ⟨k,0,none⟩) v.tt.length (some ⟨c,0,none⟩) v.ks.length (some ⟨d,0,none⟩) v.ps.length (some ⟨e,0,none⟩) v.ls.length (some ⟨a,0,none⟩) v.qs.length (some ⟨b,0,none⟩) v.ms.length) s n w rfl (fun X f=>TR v (Jw g k c d e a b v) ⟨4,s,⟨#[]⟩,n,⟨#[]⟩,[]⟩ 21 _ none 0 X (enters_of func21 (by kernel_rfl) rfl) (j.af f) i (h.below f) (.inl rfl) ⟨a,b,rfl,rfl⟩ (by simp) (Nat.zero_le _) (Nat.zero_le _) (by simp) (fun Y _=>LM s n Y))
theorem TE(v:Vd)(g k a d e b c:Nat)(s:Zi)(n:Int)(w:Zh)(f:BR w w.heap.size (Jw g k a d e b c v) v)(i:Eg w ⟨a,0,none⟩ v.ks)(j:Cr v):
 Calls prog 5 #[.agg (Ye v (some ⟨g,0,none⟩) v.ss.length (some ⟨k,0,none⟩) v.tt.length (some ⟨a,0,none⟩) v.ks.length (some ⟨d,0,none⟩) v.ps.length (some ⟨e,0,none⟩) v.ls.length (some ⟨b,0,none⟩) v.qs.length (some ⟨c,0,none⟩) v.ms.length),.string s,Zg n] w (Ic v ⟨4,s,⟨#[]⟩,n,⟨#[]⟩,[]⟩ w):=
 PJ v (Yd v (some ⟨g,0,none⟩) v.ss.length (some ⟨k,0,none⟩) v.tt.length (some ⟨a,0,none⟩) v.ks.length (some ⟨d,0,none⟩) v.ps.length (some ⟨e,0,none⟩) v.ls.length (some ⟨b,0,none⟩) v.qs.length (some ⟨c,0,none⟩) v.ms.length) s n w rfl (fun X h=>WW v ⟨4,s,⟨#[]⟩,n,⟨#[]⟩,[]⟩ none 0 g k a d e b c X (f.af h) (i.aj f.st.k h) j (.inl rfl) (fun _=>⟨rfl,rfl⟩) (by simp) (Nat.zero_le _) (Nat.zero_le _) (by simp))
namespace ExactBorrow
theorem walk(v:Vd)(a:Va)(s:Zi)(n:Int)(w:Zh)(A:Env w)(r:BR w w.heap.size a v)(B:Vk v):
 Calls prog 3 #[.agg (Yi v a),.string s,Zg n] w fun e C=>e=.returned (.bool true)/\Zz w C:=by
 refine walk_gen (D:=Dd) (fun o=>Cr v/\Hu v ⟨4,s,⟨#[]⟩,n,⟨#[]⟩,[]⟩ o) (VQ v) (Ql v) (fun _ _ _ _ _=>True) YH YI YJ (Cr v) (Yh v a) s n w rfl (fun b=>ZO v b) (fun o d=>ZP o (d.2.fit d.1)) (fun o d=>YK o (d.2.fit d.1)) (fun o E h z=>h.2.cz z.2) (fun X c=>Py v a X (r.af c) B) (fun b X c=>TN v a w X r b c) ?_ ?_
 ·rintro b t X x c ⟨g,k,f,m,p,i,l,rfl,j,q⟩;exact(TE v g k f m p i l s n X j q b).mono (fun o u h=>Ic.law b h)
 ·rintro b t X x c ⟨g,k,f,m,p,i,l,rfl,j,q⟩;exact(Rv v g k f m p i l s n X j b (A.below c)).mono (fun o u h=>Hc.law b h)
end ExactBorrow
section
open Go.ChangeShapes Go.WideShapes Go.ChangeAt Go.RowKit Go.Deep
theorem DS:prog.cellsOf 3=1:=by kernel_rfl
theorem Fk:prog.cellsOf 22=1:=by kernel_rfl
theorem WX:prog.cellsOf 104=2:=by kernel_rfl
theorem ZS:prog.cellsOf 106=4:=by kernel_rfl
theorem Aak:prog.cellsOf 109=2:=by kernel_rfl
theorem YQ:prog.cellsOf 112=3:=by kernel_rfl
theorem YR:prog.cellsOf 29=7:=by kernel_rfl
theorem cKs:prog.cellsOf 25=1:=by kernel_rfl
theorem cPs:prog.cellsOf 26=1:=by kernel_rfl
theorem cLs:prog.cellsOf 27=1:=by kernel_rfl
section
variable {H:Type} {enc:TypeId×Value->H} {W:Zh} {base:Nat} {spare:Nat->Bool} {held:Bool} {fuel:Nat} {y:DataW H×List MemPlace}
theorem Cq{v:Value}(h:DataW.trod enc prog W base spare held fuel 3 [v]=some y):∃n,v=Zg n/\(Lit.int .i64 n).wf=true:=by obtain⟨n,a,_,b⟩:=DataW.trod_int underlying3 h;simp at a;exact⟨n,a,b⟩
theorem PK{v0 d:Value}(h:DataW.trod enc prog W base spare held fuel 104 [v0,d]=some y):
 ∃t a c b,v0=.string t/\t.size<=maxLen/\d=.slice a (List.length b) c/\Ad W W.heap.size a b/\b.length<=maxLen/\∀s∈b,ByteArray.size s<=maxLen:=by
 obtain⟨o,p,n,_,_,i,j⟩:=trod_struct2 underlying104 h;have e:DataW.trod enc prog W base spare held n 9 [v0]=some o:=by simpa [FK]using i
 have f:DataW.trod enc prog W base spare held n 22 [d]=some p:=by simpa [Fk]using j
 obtain⟨t,l,g⟩:=GU e;obtain⟨a,c,b,m,k⟩:=Gf f;exact⟨t,a,c,b,l,g,m,k⟩
theorem YS{α:Type}{l:List α}(h:l.length=2):∃a b,l=[a,b]:=by match l,h with|[a,b],_=>exact⟨a,b,rfl⟩
theorem Vz{α:Type}{l:List α}(h:l.length=3):∃a b c,l=[a,b,c]:=by match l,h with|[a,b,c],_=>exact⟨a,b,c,rfl⟩
theorem Aal{α:Type}{l:List α}(h:l.length=4):∃a b c d,l=[a,b,c,d]:=by match l,h with|[a,b,c,d],_=>exact⟨a,b,c,d,rfl⟩
theorem Aam{α:Type}{l:List α}(h:l.length=7):∃a b c d e f g,l=[a,b,c,d,e,f,g]:=by match l,h with|[a,b,c,d,e,f,g],_=>exact⟨a,b,c,d,e,f,g,rfl⟩
theorem TX{a:Addr}{n:Nat}{f:Zj}(h:W.cells? base (a.add (0 *n)) n=some f)(i:0<n):∃b c,a=⟨b,c,none⟩/\b<W.heap.size:=by
 obtain⟨_,hlen,g⟩:=World.cells?_some h;obtain⟨b,c,spot⟩:=a;have e:=g 0 (by omega);rw[Zv (by omega)]at e;have d:spot=none:=by simpa [Addr.add]using World.cell?_spot e
 subst d;rw[Go.WideShapes.add_plain,Go.WideShapes.add_plain]at e;exact⟨b,c,rfl,World.block_lt_of_cell? W ⟨b,c+0 *n+0,none⟩ e⟩
theorem RS{b a i n:Nat}{c:Zj}(h:W.cells? base ((⟨b,a,none⟩:Addr).add (i *n)) n=some c):c.length=n/\∀j v,c[j]?=some v->W.cell? (Ze b (a+i *n+j))=some v:=by obtain⟨_,hlen,d⟩:=World.cells?_some h;rw[Go.WideShapes.add_plain]at d;refine⟨hlen,fun j v e=> ?_⟩;have:=d j (by have:=(Zw e).1;omega);rw[Go.WideShapes.add_plain]at this;rw[this,e]
theorem Kp{α:Type}[Inhabited α]{t e:TypeId}{n:Nat}{v:Value}(N:prog.underlying t=some (.slice e))(K:prog.cellsOf e=n)(L:0<n)(Q:Nat->Nat->α->Prop)
 (M:∀(fuel:Nat) (y:DataW H×List MemPlace) (r:Zj) (b o:Nat),DataW.trod enc prog W base spare held fuel e r=some y->r.length=n->(∀j v,r[j]?=some v->W.cell? (Ze b (o+j))=some v)->∃x,Q b o x)
 (h:DataW.trod enc prog W base spare held fuel t [v]=some y):
 ∃a f,∃l:List α,v=.slice a l.length f/\l.length<=maxLen/\(l=[]∨∃b c,a=some ⟨b,c,none⟩/\b<W.heap.size/\∀(i:Nat) x,l[i]?=some x->Q b (c+i *n) x):=by
 rcases open_slice N h with⟨d,_⟩|⟨a,len,f,m,S,D,R,d,_,T,U,A,_,s⟩
 ·simp at d;subst d;exact⟨none,0,[],rfl,by simp[maxLen],.inl rfl⟩
 ·simp at d;subst d;have P:len<=m:=by rw[A];split<;>omega
  rw[K]at s;by_cases h0:len=0
  ·subst h0;exact⟨some a,f,[],rfl,by simp[maxLen],.inl rfl⟩
  ·obtain⟨O,z,_⟩:=s 0 (by omega);obtain⟨b,c,rfl,J⟩:=TX z L;obtain⟨F,I⟩:=choose_lt (α:=α) (n:=len) (p:=fun i x=>Q b (c+i *n) x) (fun i g=>by
    obtain⟨w,B,C⟩:=s i (by omega);obtain⟨E,G⟩:=RS B;exact M _ _ w b (c+i *n) C E G)
   refine⟨some ⟨b,c,none⟩,f,(List.range len).map F,by simp,by simp;omega,.inr ⟨b,c,rfl,J,fun i x g=> ?_⟩⟩;rw[List.getElem?_map]at g;cases hri:(List.range len)[i]? with
   |none=>rw[hri]at g;cases g
   |some k=>rw[hri]at g;cases g;obtain⟨q,u⟩:=Zw hri;simp at q u;subst u;exact I i q
def QK(W:Zh)(b o:Nat)(k:Kd):Prop:=Kv W W.heap.size b o k/\k.sum.size<=maxLen/\k.text.size<=maxLen/\k.refs.length<=maxLen/\(∀s∈k.refs,s.size<=maxLen)/\(Lit.int .i64 k.born).wf=true
theorem TY{d:Zj}{b o:Nat}(h:DataW.trod enc prog W base spare held fuel 106 d=some y)(u:d.length=4)(c:∀j v,d[j]?=some v->W.cell? (Ze b (o+j))=some v):∃k,QK W b o k:=by
 obtain⟨n,p,c2,c3,rfl⟩:=Aal u;obtain⟨I,e,_,_,_,hlen,a⟩:=DataW.trod_struct underlying106 h;obtain⟨E,F,G,rfl⟩:=Vz (l:=I) hlen;have q:DataW.trod enc prog W base spare held e 9 [n]=some E:=by simpa [FK]using a 0 _ rfl
 have r:DataW.trod enc prog W base spare held e 3 [p]=some F:=by simpa [DS]using a 1 _ rfl
 have s:DataW.trod enc prog W base spare held e 104 [c2,c3]=some G:=by simpa [WX]using a 2 _ rfl
 obtain⟨i,rfl,x⟩:=GU q;obtain⟨m,rfl,A⟩:=Cq r;obtain⟨t,B,C,D,rfl,z,rfl,w,f,g⟩:=PK s;exact⟨⟨i,m,t,D⟩,⟨c 0 _ rfl,c 1 _ rfl,c 2 _ rfl,B,C,c 3 _ rfl,w⟩,x,z,f,g,A⟩
def QP(W:Zh)(b o:Nat)(p:Pd):Prop:=(W.cell? (Ze b o)=some (.string p.name)/\W.cell? (Ze b (o+1))=some (.string p.sum))/\p.name.size<=maxLen/\p.sum.size<=maxLen
theorem VA{c:Zj}{b o:Nat}(h:DataW.trod enc prog W base spare held fuel 109 c=some y)(n:c.length=2)(d:∀j v,c[j]?=some v->W.cell? (Ze b (o+j))=some v):∃p,QP W b o p:=by
 obtain⟨g,i,rfl⟩:=YS n;obtain⟨w,e,_,_,_,hlen,a⟩:=DataW.trod_struct underlying109 h;obtain⟨t,u,rfl⟩:=YS (l:=w) hlen;have k:DataW.trod enc prog W base spare held e 9 [g]=some t:=by simpa [FK]using a 0 _ rfl
 have m:DataW.trod enc prog W base spare held e 9 [i]=some u:=by simpa [FK]using a 1 _ rfl
 obtain⟨s,rfl,q⟩:=GU k;obtain⟨f,rfl,r⟩:=GU m;exact⟨⟨s,f⟩,⟨d 0 _ rfl,d 1 _ rfl⟩,q,r⟩
def QL(W:Zh)(b o:Nat)(l:Ld):Prop:=(W.cell? (Ze b o)=some (Zg l.num)/\W.cell? (Ze b (o+1))=some (.string l.sum)/\W.cell? (Ze b (o+2))=some (Zg l.bf))/\l.sum.size<=maxLen
theorem RT{c:Zj}{b o:Nat}(h:DataW.trod enc prog W base spare held fuel 112 c=some y)(p:c.length=3)(d:∀j v,c[j]?=some v->W.cell? (Ze b (o+j))=some v):∃l,QL W b o l:=by
 obtain⟨g,i,c2,rfl⟩:=Vz p;obtain⟨x,e,_,_,_,hlen,a⟩:=DataW.trod_struct underlying112 h;obtain⟨t,u,w,rfl⟩:=Vz (l:=x) hlen;have k:DataW.trod enc prog W base spare held e 3 [g]=some t:=by simpa [DS]using a 0 _ rfl
 have m:DataW.trod enc prog W base spare held e 9 [i]=some u:=by simpa [FK]using a 1 _ rfl
 have n:DataW.trod enc prog W base spare held e 3 [c2]=some w:=by simpa [DS]using a 2 _ rfl
 obtain⟨r,rfl,_⟩:=Cq k;obtain⟨f,rfl,q⟩:=GU m;obtain⟨s,rfl,_⟩:=Cq n;exact⟨⟨r,f,s⟩,⟨d 0 _ rfl,d 1 _ rfl,d 2 _ rfl⟩,q⟩
theorem Ey{α:Type}{a:List α}{b c n:Nat}{Q:Nat->Nat->α->Prop}{R:α->Prop}(h:∀(i:Nat) x,a[i]?=some x->Q b (c+i *n) x)(e:∀b o x,Q b o x->R x):∀x∈a,R x:=fun x f=>by obtain⟨i,d⟩:=List.getElem?_of_mem f;exact e _ _ _ (h i x d)
theorem RU{v:Value}(h:DataW.trod enc prog W base spare held fuel 25 [v]=some y):∃a c e,v=.slice a (List.length e) c/\BH W W.heap.size a e/\Ns e/\∀k∈e,(Lit.int .i64 (Kd.born k)).wf=true:=by
 haveI:Inhabited Kd:=⟨⟨ByteArray.empty,0,ByteArray.empty,[]⟩⟩
 obtain⟨a,c,e,rfl,f,p⟩:=Kp underlying25 ZS (by omega) (QK W) (fun _ _ _ _ _ j l m=>TY j l m) h;rcases p with rfl|⟨b,g,rfl,n,d⟩
 ·exact⟨a,c,[],rfl,.inl rfl,⟨f,by simp,by simp,by simp,by simp⟩,by simp⟩
 ·refine⟨_,c,e,rfl,.inr ⟨b,g,rfl,n,fun i k o=>(d i k o).1⟩,⟨f,Ey d (fun _ _ _ q=>q.2.1),Ey d (fun _ _ _ q=>q.2.2.1),Ey d (fun _ _ _ q=>q.2.2.2.1),Ey d (fun _ _ _ q=>q.2.2.2.2.1)⟩,Ey d (fun _ _ _ q=>q.2.2.2.2.2)⟩
theorem TZ{v:Value}(h:DataW.trod enc prog W base spare held fuel 26 [v]=some y):∃a c d,v=.slice a (List.length d) c/\AS W W.heap.size a d/\Nt d:=by
 haveI:Inhabited Pd:=⟨⟨ByteArray.empty,ByteArray.empty⟩⟩
 obtain⟨a,c,d,rfl,f,p⟩:=Kp underlying26 Aak (by omega) (QP W) (fun _ _ _ _ _ j l m=>VA j l m) h;rcases p with rfl|⟨b,g,rfl,n,e⟩
 ·exact⟨a,c,[],rfl,.inl rfl,⟨f,by simp,by simp⟩⟩
 ·exact⟨_,c,d,rfl,.inr ⟨b,g,rfl,n,fun i k o=>(e i k o).1⟩,⟨f,Ey e (fun _ _ _ q=>q.2.1),Ey e (fun _ _ _ q=>q.2.2)⟩⟩
theorem PL{v:Value}(h:DataW.trod enc prog W base spare held fuel 27 [v]=some y):∃a c d,v=.slice a (List.length d) c/\AU W W.heap.size a d/\Nu d:=by
 haveI:Inhabited Ld:=⟨⟨0,ByteArray.empty,0⟩⟩
 obtain⟨a,c,d,rfl,e,p⟩:=Kp underlying27 YQ (by omega) (QL W) (fun _ _ _ _ _ j l m=>RT j l m) h;rcases p with rfl|⟨b,g,rfl,n,f⟩
 ·exact⟨a,c,[],rfl,.inl rfl,⟨e,by simp⟩⟩
 ·exact⟨_,c,d,rfl,.inr ⟨b,g,rfl,n,fun i k o=>(f i k o).1⟩,⟨e,Ey f (fun _ _ _ q=>q.2)⟩⟩
end
end
section
section
open Go.ChangeShapes Go.WideShapes Go.ChangeAt Go.RowKit Go.Deep
variable {H:Type} {enc:TypeId×Value->H} {W:Zh} {base:Nat} {spare:Nat->Bool} {held:Bool}
theorem Aan{α:Type}{l:List α}(h:l.length=6):∃a b c d e f,l=[a,b,c,d,e,f]:=by match l,h with|[a,b,c,d,e,f],_=>exact⟨a,b,c,d,e,f,rfl⟩
end
end
end Go.Proofs.YtlhhpofjkgmbeaaGreatDoor
